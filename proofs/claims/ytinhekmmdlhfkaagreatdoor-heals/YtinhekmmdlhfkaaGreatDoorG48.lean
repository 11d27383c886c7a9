import Derived.Test.YtinhekmmdlhfkaaGreatDoorG42
import Derived.Test.YtinhekmmdlhfkaaGreatDoorG08
import Derived.Test.YtinhekmmdlhfkaaGreatDoorG44
import Derived.Test.YtinhekmmdlhfkaaGreatDoorG47
import Derived.Test.YtinhekmmdlhfkaaGreatDoorG45
import Derived.Shelf.SlicesE.Clone
import Derived.Test.YtinhekmmdlhfkaaGreatDoorProg
namespace Go.Proofs.YtinhekmmdlhfkaaGreatDoor
section
set_option maxHeartbeats 1000000
open Go.RowKit
set_option maxRecDepth 100000
theorem ppublish0 (O:Nat→Prop)(W:World)(at_:Nat→Addr)(hE:Env W)(hSN:Sents W at_)(hOW:∀ k,O k→W.heap.size≤k)(db pb lb:Nat)(d:Dk)(l:Lg)(w:World)(hn:d.fs.length+(todo l.es l.put).length≤900000000)(he:l.es.length≤1000000)(hput:l.put≤l.es.length)(h20:∀ e∈l.es,e.length≤20)(hk:l.key.length≤9223372036854775807)(hW:Below W.heap.size W w)(hp:PlAt w pb lb)(h:DiskAt w O db d)(hL:LogAt w O db lb l)(hlv0:l.live=true)(hok:(pubD (todo l.es l.put) (signF l.es.length (rootT l.es) l.key) d).1=none):
  Calls Tryz.prog 13 #[.pointer (some ⟨pb,0,none⟩)] w fun r w'=>Turn O pT w w' ∧
   ((l.live=false∧r= .returned (.tuple #[.int .i64 0,told 7])∧Below w.heap.size w w') ∨
    (l.live=true∧(pubD (todo l.es l.put) (signF l.es.length (rootT l.es) l.key) d).1=none∧r= .returned (.tuple #[.int .i64 (l.es.length:Int),told 0])∧DiskAt w' (Ext O w w') db (pubD (todo l.es l.put) (signF l.es.length (rootT l.es) l.key) d).2∧LogAt w' (Ext O w w') db lb { l with put:=l.es.length }) ∨
    (l.live=true∧∃ p,(pubD (todo l.es l.put) (signF l.es.length (rootT l.es) l.key) d).1=some p∧r= .returned (.tuple #[.int .i64 0,toldP 8 p])∧DiskAt w' (Ext O w w') db (pubD (todo l.es l.put) (signF l.es.length (rootT l.es) l.key) d).2∧LogAt w' (Ext O w w') db lb { l with live:=false })):=by
 have hc0:∀ o,(w.alloc o).cell? ⟨pb,0,none⟩=some (.pointer (some ⟨lb,0,none⟩)):=fun o=>by
  rw [cell_old _ _ ⟨_,0,none⟩ (heap_some_lt hp)]
  exact(dcell hp 0 _ rfl).1
 have hb0:Below w.heap.size w (w.alloc (.cells #[.int .i64 0,.string ⟨#[]⟩] 29)):=below_alloc _ _
 have hpub:=publish_any O W at_ hE hSN hOW db lb d l (w.alloc (.cells #[.int .i64 0,.string ⟨#[]⟩] 29)) hn he hput h20 hk (hW.trans (hb0.mono hW.size)) (h.stay (O1:=fun _=>False) (T:=[]) (.of_below hb0) (by simp) (by simp)) (hL.stay (O1:=fun _=>False) (T:=[]) (.of_below hb0) (by simp) (by simp) (by simp))
 generalize pubD (todo l.es l.put) (signF l.es.length (rootT l.es) l.key) d=pr at hpub hok ⊢
 have HLV0:=hide hlv0
 have HOK:=hide hok
 clear hlv0 hok
 have HW:=hide hW
 have HO:=hide hOW
 have HS:=hide hSN
 have hT0:Turn O pT w (w.alloc (.cells #[.int .i64 0,.string ⟨#[]⟩] 29)):=(Turn.refl _ _ _).alloc _
 have HR0:Hid (TRow w.heap.size (w.alloc (.cells #[.int .i64 0,.string ⟨#[]⟩] 29))):=heap_alloc_last _ _
 have HT0:=hide hT0
 have HB0:=hide hb0
 clear h hL h20 hW hOW hE hSN hp hn he hput hk hT0 hb0
 go_enter Tryz.func13,Tryz.ntmps13
 go_wp2_with fail
 refine hpub.mono ?_
 clear hpub hc0
 generalize w.alloc (.cells #[.int .i64 0,.string ⟨#[]⟩] 29)=w0 at *
 rintro r w2 ⟨ht2,hres⟩
 have HT2:Hid (Turn O pT w w2):=HT0.out.trans (ht2.mono (fun _ h=> .inl h) (fun _ h=>h))
 have HR2:Hid (TRow w.heap.size w2):=HR0.out.turn ht2 (by decide)
 have HB2:Hid (Below W.heap.size W w2):=HW.out.trans (HT2.out.below HO.out HW.out.size)
 have HX:Hid (∀ k,Ext O w0 w2 k→Ext O w w2 k):=fun k hk=>by
  rcases hk with h | h
  ·exact .inl h
  ·exact .inr ⟨Nat.le_trans HT0.out.size h.1,h.2⟩
 clear ht2
 rcases hres with ⟨hlv,rfl,hb⟩ | ⟨hlv,hno,rfl,hd,hl⟩ | ⟨hlv,p,e,hsm,rfl,hge,hd,hl⟩
 ·rw [HLV0.out] at hlv;simp at hlv
 ·have HD:=hide (hd.mono HX.out)
  have HL:=hide (hl.mono HX.out)
  have HN:=hide (And.intro hlv hno)
  clear hd hl hlv hno
  go_wp2_with fail
  refine(of_nil at_ w2 (sents_below HS.out HB2.out)).mono ?_
  rintro r w3 ⟨rfl,hb3⟩
  have HB3:=hide hb3
  have HR3:=hide (HR2.out.below hb3)
  obtain⟨c0,z0⟩:=dcell HR3.out 0 _ rfl
  obtain⟨c1,z1⟩:=dcell HR3.out 1 _ rfl
  clear hb3
  unfold told
  go_wp2_with fail
  exact bodyPost_ret (v:= .tuple #[.int .i64 (l.es.length:Int),.agg #[.int .i64 0,.string ⟨([]:List UInt8).toArray⟩]]) (results_tmp_cell Tryz.results13 _ _ w.heap.size 29 _ (0,0) _ rfl (told_end HR3.out _ _ rfl) Tryz.underlying29 rfl (by kernel_rfl) _ rfl) rfl ⟨turn_sets2 (HT2.out.then_below HB3.out),.inr (.inl ⟨HN.out.1,HN.out.2,rfl,(HD.out.later HB3.out).sets2 HR3.out,(HL.out.later HB3.out).sets2 HR3.out⟩)⟩
 ·rw [HOK.out] at hsm;simp at hsm
end
section
set_option maxHeartbeats 1000000
open Go.RowKit
set_option maxRecDepth 100000
theorem Still.calm {d:Dk}(h:Still d):Calm d:=⟨h.2.1,h.2.2⟩
theorem Still.bad {d:Dk}(h:Still d):bad d=false:=by
 unfold Go.Proofs.YtinhekmmdlhfkaaGreatDoor.bad enterK
 rw [h.2.1,if_neg (by simp),if_neg (by have:=h.1;omega)]
 rfl
theorem Still.tk {d d':Dk}(h:Still d)(e:tk d'=tk d):Still d':=by
 unfold Go.Proofs.YtinhekmmdlhfkaaGreatDoor.tk at e
 simp only [Prod.mk.injEq] at e
 obtain⟨-,h1,h2,h3⟩:=e
 rw [h1,h.1,h.2.1] at h2
 rw [h1,h.1,h.2.2] at h3
 exact⟨h1.trans h.1,by simpa using h2,by simpa using h3⟩
theorem rpub0 (O:Nat→Prop)(db lb:Nat)(d:Dk)(w:World)(hst:Still d)(hfs:d.fs=[])(h:DiskAt w O db d)(hs:w.cell? ⟨lb,0,none⟩=some (stV db true)):
  Calls Tryz.prog 44 #[.pointer (some ⟨lb,0,none⟩)] w fun r w'=>r= .returned .nilIface∧Turn O dT1 w w'∧DiskAt w' O db (enterD d):=by
 have HG:=hide (lget_any O db lb d cpF w (by rw [hfs];simp) (by rw [hfs];simp) h hs)
 have HBD:=hide hst.bad
 have HFS:=hide hfs
 have q:∀(w:World) (a:Option Addr) (n c n' c':Nat),(binOp .eql 76 (.slice a n c) (.slice none n' c')).run Tryz.prog w= .ok (.bool a.isNone) w:=fun w a n c n' c'=>Lib.run_eql_slice_nil w _ _ a n c n' c' Tryz.underlying76
 clear h hst hfs
 unfold txv cpF at HG
 go_enter Tryz.func44,Tryz.ntmps44
 go_wp2_with fail
 refine HG.out.mono ?_
 rintro r w1 ⟨v,e,rfl,hge,ht1,hd1,hv⟩
 obtain rfl:e= .nilIface:=by
  rcases hge with ⟨-,h⟩ | ⟨h,-⟩
  ·exact h
  ·rw [HBD.out] at h;simp at h
 obtain rfl:v= .slice none 0 0:=by
  rcases hv with ⟨-,x,hx,-⟩ | ⟨-,h⟩
  ·rw [HFS.out] at hx;simp [look] at hx
  ·exact h
 have HT1:=hide ht1
 have HD1:=hide hd1
 clear hge ht1 hd1 hv HG
 go_wp2_with fail
 go_ret
 exact⟨rfl,HT1.out,HD1.out⟩
theorem behind0 (O:Nat→Prop)(W:World)(hE:Env W)(hOW:∀ k,O k→W.heap.size≤k)(db lb:Nat)(d:Dk)(w:World)(hst:Still d)(hfs:d.fs=[])(hW:Below W.heap.size W w)(h:DiskAt w O db d)(cs:Array Value)(hsb:w.heap[lb]?=some (.cells cs 109 (0,0)))(hsc:cs[0]?=some (stV db true))(hsd:cs[2]?=some (.slice none 0 0)):
  Calls Tryz.prog 45 #[.pointer (some ⟨lb,0,none⟩)] w fun r w'=>r= .returned .nilIface∧∃ d',Turn O dT1 w w'∧DiskAt w' O db d'∧d'.fs=d.fs∧tk d'=tk d:=by
 have HWD:=hide (widest_any O W hE hOW db lb d 0 0 w (by rw [hfs];simp) (by rw [hfs];simp) (by omega) (by omega) hst.calm hW h cs hsb hsc)
 have HST:=hide hst
 have HFS:=hide hfs
 have c2:=(dcell hsb 2 _ hsd).1
 clear h hst hfs hW hE hOW hsb hsc hsd
 go_enter Tryz.func45,Tryz.ntmps45
 go_wp2_with fail
 go_loopw [3,4,5,6,7,8,9] (fun _ _ _ _ _ _ _ wr=>wr=w) (fun _ _ _ _ _ _ _ _=>0)
 case atStart=>rfl
 case round =>
  obtain rfl:=hrel
  go_wp2_with fail
  refine HWD.out.mono ?_
  rintro r w1 ⟨d',n,v,e,rfl,ht1,hd1,hf1,hk1,hres⟩
  have hstl:=HST.out.tk hk1
  have hres':e= .nilIface∧((wdF (look d.fs) 0 0=none∧n=0∧v= .slice none 0 0)∨(wdF (look d.fs) 0 0=some n∧∃ x,look d.fs (nameF (-1) ((0:Nat):Int) n)=some x∧Bq w1 v x)):=by
   rcases hres with ⟨hh,-⟩ | h
   ·rw [hstl.2.2] at hh;simp at hh
   ·exact h.2
  clear hres
  obtain⟨rfl,hres⟩:=hres'
  obtain⟨rfl,rfl⟩:n=0∧v= .slice none 0 0:=by
   rcases hres with ⟨-,h⟩ | ⟨hw,-⟩
   ·exact h
   ·rw [HFS.out,show wdF (look []) 0 0=none by decide] at hw;simp at hw
  have HX:=hide (And.intro ht1 (And.intro hd1 (And.intro hf1 hk1)))
  have HUN:=hide (unbOf_any 0 (.slice none 0 0) none w1 (.inr ⟨rfl,rfl⟩))
  clear ht1 hd1 hf1 hk1 hres hstl HWD c2
  go_wp2_with fail
  refine HUN.out.mono ?_
  rintro r w2 ⟨hb2,hres⟩
  obtain rfl:r= .returned (.tuple #[.slice none 0 0,.bool false]):=by
   rcases hres with ⟨es,y,hb,-⟩ | ⟨-,h⟩
   ·simp [bunD] at hb
   ·exact h
  have HB2:=hide hb2
  clear hb2 hres HUN
  go_wp2_with fail
  go_ret
  exact⟨rfl,d',HX.out.1.then_below HB2.out,HX.out.2.1.stay (Turn.of_below (O:=O) (T:=[]) HB2.out) (by simp) (by simp),HX.out.2.2.1,HX.out.2.2.2⟩
end
section
set_option maxHeartbeats 1000000
open Go.RowKit
set_option maxRecDepth 100000
theorem open0 (O:Nat→Prop)(W:World)(hE:Env W)(hOW:∀ k,O k→W.heap.size≤k)(db:Nat)(d:Dk)(key:List UInt8)(w:World)(hst:Still d)(hfs:d.fs=[])(hW:Below W.heap.size W w)(h:DiskAt w O db d):
  Calls Tryz.prog 26 #[.iface 25 (.pointer (some ⟨db,0,none⟩)),.string ⟨key.toArray⟩] w fun r w'=>∃(d':Dk) (lb:Nat),r= .returned (.tuple #[.pointer (some ⟨lb,0,none⟩),.nilIface])∧Turn O dT1 w w'∧DiskAt w' O db d'∧d'.fs=[]∧tk d'=tk d∧w.heap.size≤lb∧LogAt w' (Ext O w w') db lb { key:=key,es:=[],put:=0,live:=true }:=by
 have hb0:Below w.heap.size w (w.alloc (.cells #[.iface 25 (.pointer (some ⟨db,0,none⟩)),.string ⟨key.toArray⟩,.slice none 0 0,.int .i64 0] 109)):=below_alloc _ _
 have hlb:(w.alloc (.cells #[.iface 25 (.pointer (some ⟨db,0,none⟩)),.string ⟨key.toArray⟩,.slice none 0 0,.int .i64 0] 109)).heap[w.heap.size]?=some (.cells #[.iface 25 (.pointer (some ⟨db,0,none⟩)),.string ⟨key.toArray⟩,.slice none 0 0,.int .i64 0] 109 (0,0)):=heap_alloc_last _ _
 have HRP:=hide (rpub0 O db w.heap.size d (w.alloc (.cells #[.iface 25 (.pointer (some ⟨db,0,none⟩)),.string ⟨key.toArray⟩,.slice none 0 0,.int .i64 0] 109)) hst hfs (h.stay (Turn.of_below (O:=O) (T:=[]) hb0) (by simp) (by simp)) (dcell hlb 0 _ rfl).1)
 have HLB:=hide hlb
 have HB0:=hide hb0
 have HST:=hide hst
 have HFS:=hide hfs
 have HW:=hide hW
 have HEE:=hide hE
 have HO:=hide hOW
 clear hb0 hlb h hst hfs hW hE hOW
 go_enter Tryz.func26,Tryz.ntmps26
 go_wp2_with fail
 generalize (w.alloc (.cells #[.iface 25 (.pointer (some ⟨db,0,none⟩)),.string ⟨key.toArray⟩,.slice none 0 0,.int .i64 0] 109))=w0 at *
 refine HRP.out.mono ?_
 rintro r w1 ⟨rfl,ht1,hd1⟩
 have HT1:Hid (Turn O dT1 w w1):=(Turn.of_below HB0.out).trans (ht1.mono (fun _ h=> .inl h) (fun _ h=>h))
 have HLB1:=hide (ht1.keep HLB.out (by decide))
 have HBE:=hide (behind0 O W HEE.out HO.out db w.heap.size (enterD d) w1 HST.out.enter ((enterD_fs d).trans HFS.out) (HW.out.trans (HT1.out.below HO.out HW.out.size)) hd1 _ HLB1.out rfl rfl)
 clear ht1 hd1 HRP
 go_wp2_with fail
 refine HBE.out.mono ?_
 rintro r w2 ⟨rfl,d',ht2,hd2,hf2,hk2⟩
 have HT2:Hid (Turn O dT1 w w2):=HT1.out.trans (ht2.mono (fun _ h=> .inl h) (fun _ h=>h))
 have HD2:=hide hd2
 have HF2:Hid (d'.fs=[]∧tk d'=tk d):=⟨hf2.trans ((enterD_fs d).trans HFS.out),hk2.trans (enterD_tk d)⟩
 have HLB2:=hide (ht2.keep HLB1.out (by decide))
 clear ht2 hd2 hf2 hk2 HBE
 go_wp2_with fail
 go_ret2
 exact⟨d',w.heap.size,rfl,HT2.out,HD2.out,HF2.out.1,HF2.out.2,Nat.le_refl _,.slice none 0 0,.inr ⟨Nat.le_refl _,heap_some_lt HLB2.out⟩,HLB2.out,OBs.nil _ _,fun g e=>by simp [Value.ownBlock] at e⟩
theorem popen0 (O:Nat→Prop)(W:World)(at_:Nat→Addr)(hE:Env W)(hSN:Sents W at_)(hOW:∀ k,O k→W.heap.size≤k)(db:Nat)(d:Dk)(key:List UInt8)(w:World)(hst:Still d)(hfs:d.fs=[])(hW:Below W.heap.size W w)(h:DiskAt w O db d):
  Calls Tryz.prog 8 #[.pointer (some ⟨db,0,none⟩),.string ⟨key.toArray⟩] w fun r w'=>∃(d':Dk) (pb lb:Nat),r= .returned (.tuple #[.pointer (some ⟨pb,0,none⟩),.agg #[.int .i64 0,.string ⟨#[]⟩]])∧Turn O dT1 w w'∧DiskAt w' (Ext O w w') db d'∧d'.fs=[]∧tk d'=tk d∧w.heap.size≤pb∧PlAt w' pb lb∧LogAt w' (Ext O w w') db lb { key:=key,es:=[],put:=0,live:=true }:=by
 have hb0:Below w.heap.size w (w.alloc (.cells #[.int .i64 0,.string ⟨#[]⟩] 29)):=below_alloc _ _
 have hopen:=open0 O W hE hOW db d key (w.alloc (.cells #[.int .i64 0,.string ⟨#[]⟩] 29)) hst hfs (hW.trans (hb0.mono hW.size)) (h.stay (O1:=fun _=>False) (T:=[]) (.of_below hb0) (by simp) (by simp))
 have HW:=hide hW
 have HO:=hide hOW
 have HS:=hide hSN
 have HB0:=hide hb0
 have HR0:Hid (TRow w.heap.size (w.alloc (.cells #[.int .i64 0,.string ⟨#[]⟩] 29))):=heap_alloc_last _ _
 clear h hW hOW hE hSN hb0 hst hfs
 go_enter Tryz.func8,Tryz.ntmps8
 go_wp2_with fail
 refine hopen.mono ?_
 clear hopen
 generalize w.alloc (.cells #[.int .i64 0,.string ⟨#[]⟩] 29)=w0 at *
 rintro r w2 ⟨d',lb,rfl,ht2,hd2,hf2,hk2,hlb,hlg⟩
 have HT2:Hid (Turn O dT1 w w2):=(Turn.of_below HB0.out).trans (ht2.mono (fun _ h=> .inl h) (fun _ h=>h))
 have HR2:Hid (TRow w.heap.size w2):=HR0.out.turn ht2 (by decide)
 have HB2:Hid (Below W.heap.size W w2):=HW.out.trans (HT2.out.below HO.out HW.out.size)
 have HX:Hid (∀ k,Ext O w0 w2 k→Ext O w w2 k):=fun k hk=>by
  rcases hk with h | h
  ·exact .inl h
  ·exact .inr ⟨Nat.le_trans HB0.out.size h.1,h.2⟩
 have HD2:Hid (DiskAt w2 (Ext O w w2) db d'):=hd2.mono (fun _ h=> .inl h)
 have HF2:=hide (And.intro hf2 hk2)
 have hsz2:=hide HT2.out.size
 have HLG:=hide (hlg.mono HX.out)
 clear ht2 hd2 hf2 hk2 hlb hlg
 go_wp2_with fail
 have HBA:Hid (Below w2.heap.size w2 (w2.alloc (.cells #[.pointer (some ⟨lb,0,none⟩)] 75))):=below_alloc _ _
 have HPA:Hid (PlAt (w2.alloc (.cells #[.pointer (some ⟨lb,0,none⟩)] 75)) w2.heap.size lb):=heap_alloc_last _ _
 generalize w2.alloc (.cells #[.pointer (some ⟨lb,0,none⟩)] 75)=wa at *
 have HRA:=hide (HR2.out.below HBA.out)
 refine(of_nil at_ wa (sents_below HS.out (HB2.out.trans (HBA.out.mono HB2.out.size)))).mono ?_
 rintro r w3 ⟨rfl,hb3⟩
 have HB3:Hid (Below w2.heap.size w2 w3):=HBA.out.trans (hb3.mono HBA.out.size)
 have HR3:=hide (HRA.out.below hb3)
 have HP3:Hid (PlAt w3 w2.heap.size lb):=(hb3.block _ (heap_some_lt HPA.out)).trans HPA.out
 obtain⟨c0,z0⟩:=dcell HR3.out 0 _ rfl
 obtain⟨c1,z1⟩:=dcell HR3.out 1 _ rfl
 clear hb3
 unfold told
 go_wp2_with fail
 have hne:w2.heap.size≠w.heap.size:=by have:=heap_some_lt HR2.out;omega
 refine bodyPost_ret (v:= .tuple #[.pointer (some ⟨w2.heap.size,0,none⟩),.agg #[.int .i64 0,.string ⟨([]:List UInt8).toArray⟩]]) (results_tmp_cell Tryz.results8 _ _ w.heap.size 29 _ (0,0) _ rfl (told_end HR3.out _ _ rfl) Tryz.underlying29 rfl (by kernel_rfl) _ rfl) rfl ⟨d',w2.heap.size,lb,rfl,turn_sets2 (HT2.out.then_below HB3.out),(HD2.out.later HB3.out).sets2 HR3.out,HF2.out.1,HF2.out.2,hsz2.out,?_,(HLG.out.later HB3.out).sets2 HR3.out⟩
 unfold PlAt
 rw [heap_setCell_other _ _ _ _ (by exact hne),heap_setCell_other _ _ _ _ (by exact hne)]
 exact HP3.out
end
section
set_option maxHeartbeats 4000000
open Go.RowKit
set_option maxRecDepth 100000
def Iss (w:World)(v:Value)(az:List Int):Prop :=
 ∃ a cap,v= .slice a az.length cap∧az.length≤cap∧(az=[]∨∃ b off,a=some ⟨b,off,none⟩∧∀ i (h:i < az.length),w.cell? ⟨b,off+i,none⟩=some (.int .i64 az[i]))
theorem Iss.below {w w':World}{v:Value}{az:List Int}(h:Iss w v az)(hb:Below w.heap.size w w'):Iss w' v az:=by
 obtain⟨a,cap,e,hc,h | ⟨b,off,ea,hx⟩⟩:=h
 ·exact⟨a,cap,e,hc,.inl h⟩
 ·exact⟨a,cap,e,hc,.inr ⟨b,off,ea,fun i hi=>by rw [hb.cell (p:=⟨b,_,none⟩) (cell_lt (hx i hi))];exact hx i hi⟩⟩
structure KPub (B:Nat)(w0 w:World)(db pb lb n:Nat)(key:List UInt8)(d:Dk)(s:List Nat)(es:List (List UInt8))(put:Nat):Prop where
 le:B≤w0.heap.size
 bel:Below B w0 w
 disk:DiskAt w (fun k=>B≤k) db d
 pl:PlAt w pb lb
 log:LogAt w (fun k=>B≤k) db lb { key:=key,es:=es,put:=put,live:=true }
 ks:KS n key d s es put
theorem KPub.below {B:Nat}{w0 w w':World}{db pb lb n:Nat}{key:List UInt8}{d:Dk}{s:List Nat}{es:List (List UInt8)}{put:Nat}(h:KPub B w0 w db pb lb n key d s es put)(hb:Below w.heap.size w w'):KPub B w0 w' db pb lb n key d s es put:=by
 have ht:Turn (fun _=>False) [] w w':= .of_below hb
 exact⟨h.le,h.bel.trans (hb.mono (Nat.le_trans h.le h.bel.size)),h.disk.stay ht (by simp) (by simp),ht.keep h.pl (by simp),h.log.stay ht (by simp) (by simp) (by simp),h.ks⟩
theorem kp_append (W:World)(at_:Nat→Addr)(hSN:Sents W at_){B:Nat}{w0 w:World}{db pb lb n:Nat}{key:List UInt8}{d:Dk}{s:List Nat}{es:List (List UInt8)}{put:Nat}(h:KPub B w0 w db pb lb n key d s es put)(hWB:W.heap.size≤B)(hW:Below W.heap.size W w0)(hn:n≤4200)(t:List UInt8)(ht:t.length≤20):
  Calls Tryz.prog 10 #[.pointer (some ⟨pb,0,none⟩),.string ⟨t.toArray⟩] w fun r w'=>r= .returned (.tuple #[.int .i64 (es.length:Int),told 0])∧Turn (fun k=>B≤k) lT w w'∧KPub B w0 w' db pb lb (n+1) key d (es.length / 4::s) (es++[t]) put:=by
 have hf:=h.ks.few hn
 refine(pappend_any (fun k=>B≤k) W at_ hSN (fun k hk=>Nat.le_trans hWB hk) db pb lb _ t w (hW.trans (h.bel.mono hWB)) (by show es.length≤_;omega) (by omega) h.pl h.log).mono ?_
 rintro r w' ⟨hT,hres⟩
 rcases hres with ⟨h20,-⟩ | ⟨-,hl,-⟩ | ⟨-,-,rfl,hlog⟩
 ·omega
 ·simp at hl
 ·refine⟨rfl,hT,h.le,h.bel.trans (hT.below (fun _ hk=>hk) (Nat.le_trans h.le h.bel.size)),h.disk.stay hT (by decide) (by decide),hT.keep h.pl (by decide),hlog.mono (fun k hk=>?_),ks_append h.ks t ht⟩
  rcases hk with hk | hk
  ·exact hk
  ·have:=h.bel.size
   exact Nat.le_trans (Nat.le_trans h.le this) hk.1
theorem kp_publish (W:World)(at_:Nat→Addr)(hE:Env W)(hSN:Sents W at_){B:Nat}{w0 w:World}{db pb lb n:Nat}{key:List UInt8}{d:Dk}{s:List Nat}{es:List (List UInt8)}{put:Nat}(h:KPub B w0 w db pb lb n key d s es put)(hWB:W.heap.size≤B)(hW:Below W.heap.size W w0)(hn:n≤4100):
  Calls Tryz.prog 13 #[.pointer (some ⟨pb,0,none⟩)] w fun r w'=>r= .returned (.tuple #[.int .i64 (es.length:Int),told 0])∧Turn (fun k=>B≤k) pT w w'∧∃ d',KPub B w0 w' db pb lb (n+1) key d' s es es.length:=by
 have hf:=h.ks.few (by omega)
 obtain⟨h0,hks⟩:=ks_publish h.ks hn
 refine(ppublish0 (fun k=>B≤k) W at_ hE hSN (fun k hk=>Nat.le_trans hWB hk) db pb lb d _ w (by have:=h.ks.count (by omega);show d.fs.length+(todo es put).length≤_;omega) (by show es.length≤_;omega) h.ks.ent.le h.ks.ent.short (by have:key.length≤_:=h.ks.num.key;show key.length≤_;omega) (hW.trans (h.bel.mono hWB)) h.pl h.disk h.log rfl h0).mono ?_
 rintro r w' ⟨hT,hres⟩
 have hx:∀ k,Ext (fun k=>B≤k) w w' k→B≤k:=fun k hk=>by
  rcases hk with hk | hk
  ·exact hk
  ·have:=h.bel.size
   exact Nat.le_trans (Nat.le_trans h.le this) hk.1
 rcases hres with ⟨hl,-⟩ | ⟨-,-,rfl,hd,hlog⟩ | ⟨-,p,hp,-⟩
 ·simp at hl
 ·exact⟨rfl,hT,_,h.le,h.bel.trans (hT.below (fun _ hk=>hk) (Nat.le_trans h.le h.bel.size)),hd.mono hx,hT.keep h.pl (by decide),hlog.mono hx,hks⟩
 ·have e:(pubD (todo es put) (signF es.length (rootT es) key) d).1=some p:=hp
  rw [h0] at e
  simp at e
theorem published_any (W:World)(at_:Nat→Addr)(hE:Env W)(hSN:Sents W at_)(lv av:Value)(ls:List (List UInt8))(az:List Int)(key:List UInt8)(w:World)(hW:Below W.heap.size W w)(hl:ls.length≤100)(h20:∀ l∈ls,l.length≤20)(hk:key.length≤9223372036854775807)(hal:az.length≤9223372036854775807)(hab:∀ a∈az,-9223372036854775808≤a∧a≤9223372036854775807)(hT:Tss w lv ls)(hI:Iss w av az):
  Calls Tryz.prog 7 #[lv,av,.string ⟨key.toArray⟩] w fun r w'=>∃(db pb lb n:Nat) (d:Dk) (s:List Nat),r= .returned (dptr db)∧w.heap.size≤db∧n≤300∧KPub w.heap.size w w' db pb lb n key d s ls ls.length:=by
 obtain⟨la,lc,rfl,hlc,hT'⟩:=hT
 obtain⟨aa,ac,rfl,hac,hI'⟩:=hI
 have HT:Hid (ls.length=0∨∃ b off,la=some ⟨b,off,none⟩∧∀ i (h:i < ls.length),w.cell? ⟨b,off+i,none⟩=some (txv ls[i])):=by
  rcases hT' with h | h
  ·exact .inl (by simp [h])
  ·exact .inr h
 have HI:Hid (az.length=0∨∃ b off,aa=some ⟨b,off,none⟩∧∀ i (h:i < az.length),w.cell? ⟨b,off+i,none⟩=some (.int .i64 az[i])):=by
  rcases hI' with h | h
  ·exact .inl (by simp [h])
  ·exact .inr h
 have HEE:=hide hE
 have HSN:=hide hSN
 have HW:=hide hW
 have H20:=hide h20
 have HAB:=hide hab
 have HK:=hide hk
 clear hT' hI' hlc hac hE hSN hW h20 hab hk
 go_enter Tryz.func7,Tryz.ntmps7
 go_wp2_with fail
 refine(new_any (.slice none 0 0) [] w (by simp) ⟨none,0,rfl,Nat.le_refl _,.inl rfl⟩).mono ?_
 rintro r w1 ⟨rfl,hb1,hd1⟩
 have HB1:=hide hb1
 have HD1:=hide hd1
 have HP:=hide (popen0 (fun k=>w.heap.size≤k) W at_ HEE.out HSN.out (fun k hk=>Nat.le_trans HW.out.size hk) w.heap.size { dk0 with fs:=newF [] [] } key w1 ⟨rfl,rfl,rfl⟩ rfl (HW.out.trans (hb1.mono HW.out.size)) hd1)
 clear hb1 hd1
 unfold dptr
 go_wp2_with fail
 refine HP.out.mono ?_
 rintro r w2 ⟨d2,pb,lb,rfl,ht2,hd2,hf2,hk2,hpb,hpl,hlg⟩
 have hx2:∀ k,Ext (fun k=>w.heap.size≤k) w1 w2 k→w.heap.size≤k:=fun k hk=>by
  rcases hk with hk | hk
  ·exact hk
  ·exact Nat.le_trans HB1.out.size hk.1
 have HKP:Hid (KPub w.heap.size w w2 w.heap.size pb lb 0 key d2 [] [] 0):=⟨Nat.le_refl _,HB1.out.trans (ht2.below (fun _ h=>h) HB1.out.size),hd2.mono hx2,hpl,hlg.mono hx2,ks_new key (by have:=HK.out;omega) d2 (Still.tk (d:={ dk0 with fs:=newF [] [] }) ⟨rfl,rfl,rfl⟩ hk2) hf2 (tk_turned (e:={ dk0 with fs:=newF [] [] }) hk2)⟩
 have HS2:Hid (w.heap.size≤w2.heap.size):=Nat.le_trans HB1.out.size ht2.size
 clear ht2 hd2 hf2 hk2 hpb hpl hlg hx2 HP HD1
 have HTB:Hid ((w2.alloc (.cells #[.int .i64 0,.string ⟨#[]⟩] 29)).heap[w2.heap.size]?=some (.cells #[.int .i64 0,.string ⟨#[]⟩] 29 (0,0))):=heap_alloc_last _ _
 have HKP0:=hide (HKP.out.below (below_alloc w2 (.cells #[.int .i64 0,.string ⟨#[]⟩] 29)))
 clear HKP
 go_wp2_with fail
 generalize w2.alloc (.cells #[.int .i64 0,.string ⟨#[]⟩] 29)=w3 at *
 generalize w2.heap.size=tb at *
 go_loopw [10] (fun i wr=>∃(k n put:Nat) (d:Dk) (s:List Nat),k≤ls.length∧n≤2*k∧i= .int .i64 k∧KPub w.heap.size w wr w.heap.size pb lb n key d s (ls.take k) put∧wr.heap[tb]?=some (.cells #[.int .i64 0,.string ⟨#[]⟩] 29 (0,0))) (fun i _=>ls.length - (intOf i).toNat)
 case atStart=>exact⟨0,0,0,d2,[],Nat.zero_le _,Nat.zero_le _,rfl,by rw [List.take_zero];exact HKP0.out,HTB.out⟩
 case round =>
  obtain⟨k,n,put,d,s,hk,hn,rfl,hkp,htb⟩:=hrel
  have HKP:=hide hkp
  have HTR:=hide htb
  clear hkp htb
  by_cases hlt:k < ls.length
  ·rcases HT.out with h0 | ⟨b,off,rfl,hcell⟩
   ·omega
   have hx:=hcell k hlt
   rw [← HKP.out.bel.cell (cell_lt (p:=⟨b,off+k,none⟩) hx)] at hx
   have HLEN:=H20.out ls[k] (List.getElem_mem hlt)
   have htk:ls.take (k+1)=ls.take k++[ls[k]]:=List.take_succ_eq_append_getElem hlt
   have hkl:(ls.take k).length=k:=by simp;omega
   have HTK:=hide htk
   have HKL:=hide hkl
   have HAP:=hide (kp_append W at_ HSN.out HKP.out HW.out.size HW.out (by omega) ls[k] HLEN)
   clear hcell htk hkl
   generalize ls[k]=s0 at *
   generalize ls.take k=es at *
   rw [HKL.out] at HAP
   unfold txv at hx
   go_wp2_with fail
   refine HAP.out.mono ?_
   rintro r w4 ⟨rfl,ht4,hkp4⟩
   have HKP4:=hide hkp4
   have HTR4:=hide (ht4.keep HTR.out (by decide))
   clear ht4 hkp4 HAP HKP HTR hx
   unfold told
   have HTB5:Hid (∀ o,(w4.alloc o).heap[tb]?=some (.cells #[.int .i64 0,.string ⟨#[]⟩] 29 (0,0))):=fun o=>heap_alloc_old HTR4.out
   have HKP5:=hide (fun o=>HKP4.out.below (below_alloc w4 o))
   by_cases ha:0 < az.length
   ·rcases HI.out with h0 | ⟨b2,off2,rfl,hcell⟩
    ·omega
    have hj:k % az.length < az.length:=Nat.mod_lt _ ha
    have hxa:∀ o,(w4.alloc o).cell? ⟨b2,off2+k % az.length,none⟩=some (.int .i64 az[k % az.length]):=fun o=>by
     have:=hcell (k % az.length) hj
     rw [← (HKP5.out o).bel.cell (cell_lt (p:=⟨b2,off2+k % az.length,none⟩) this)] at this
     exact this
    have HPK:=hide (fun X=>kpick_any az[k % az.length] 3 X (HAB.out _ (List.getElem_mem hj)).1 (HAB.out _ (List.getElem_mem hj)).2 (by omega) (by omega))
    have hmod:(k:Int).tmod (az.length:Int)=((k % az.length:Nat):Int):=rfl
    clear hcell
    generalize az[k % az.length]=av at *
    go_wp2_with fail
    refine(HPK.out _).mono ?_
    rintro r w5 ⟨⟨m,hm,rfl⟩,rfl⟩
    have HPB:=hide (kp_publish W at_ HEE.out HSN.out (HKP5.out (.cells #[.int .i64 0,.string ⟨#[]⟩] 29)) HW.out.size HW.out (by omega))
    have hel:(es++[s0]).length=k+1:=by rw [List.length_append,HKL.out];rfl
    rw [hel] at HPB
    have HT5:=hide (HTB5.out (.cells #[.int .i64 0,.string ⟨#[]⟩] 29))
    have HK5:=hide (HKP5.out (.cells #[.int .i64 0,.string ⟨#[]⟩] 29))
    clear hxa HPK hmod HTB5 HKP5 hel
    by_cases hm0:m=0
    ·subst hm0
     generalize w4.alloc (.cells #[.int .i64 0,.string ⟨#[]⟩] 29)=w5 at *
     go_wp2_with fail
     refine HPB.out.mono ?_
     rintro r w6 ⟨rfl,ht6,d6,hkp6⟩
     have HT6:=hide (ht6.keep HT5.out (by decide))
     have HK6:=hide (fun o=>hkp6.below (below_alloc w6 o))
     clear ht6 hkp6 HPB HT5 HK5
     unfold told
     go_wp2_with fail
     refine⟨⟨k+1,n+2,_,d6,k / 4::s,by omega,by omega,by go_num,by rw [HTK.out];exact HK6.out _,heap_alloc_old HT6.out⟩,by simp [intOf];omega⟩
    ·clear HPB
     generalize w4.alloc (.cells #[.int .i64 0,.string ⟨#[]⟩] 29)=w5 at *
     go_wp2_with fail
     refine⟨⟨k+1,n+1,put,d,k / 4::s,by omega,by omega,by go_num,by rw [HTK.out];exact HK5.out,HT5.out⟩,by simp [intOf];omega⟩
   ·clear HI
    go_wp2_with fail
    refine⟨⟨k+1,n+1,put,d,k / 4::s,by omega,by omega,by go_num,by rw [HTK.out];exact HKP5.out _,HTB5.out _⟩,by simp [intOf];omega⟩
  ·obtain rfl:k=ls.length:=by omega
   rw [List.take_length] at HKP
   have HPB:=hide (kp_publish W at_ HEE.out HSN.out HKP.out HW.out.size HW.out (by omega))
   clear HKP
   go_wp2_with fail
   refine HPB.out.mono ?_
   rintro r w6 ⟨rfl,ht6,d6,hkp6⟩
   have hT6:=ht6.keep HTR.out (by decide)
   obtain⟨t0,f0⟩:=dcell hT6 0 _ rfl
   obtain⟨t1,f1⟩:=dcell hT6 1 _ rfl
   have hts:Turn (fun k=>k=tb) [29] w6 ((w6.setCell ⟨tb,0,none⟩ (.int .i64 0)).setCell ⟨tb,1,none⟩ (.string ⟨#[]⟩)):=((Turn.refl (fun k=>k=tb) [29] w6).set (.inl rfl) hT6 (by simp) _).set (.inl rfl) (dset hT6 0 _) (by simp) _
   have hk9:KPub w.heap.size w ((w6.setCell ⟨tb,0,none⟩ (.int .i64 0)).setCell ⟨tb,1,none⟩ (.string ⟨#[]⟩)) w.heap.size pb lb (n+1) key d6 s ls ls.length:=⟨hkp6.le,hkp6.bel.trans (hts.below (fun k hk=>by rw [hk];exact HS2.out) (Nat.le_trans hkp6.le hkp6.bel.size)),hkp6.disk.stay hts (by decide) (by decide),hts.keep hkp6.pl (by decide),hkp6.log.stay hts (by decide) (by decide) (by decide),hkp6.ks⟩
   have HK9:=hide hk9
   obtain⟨fv,-,hdb,-⟩:=id hk9.disk
   obtain⟨-,-,-,-,-,-,-,⟨t7,-⟩⟩:=dall hdb
   rw [hk9.ks.num.turned] at t7
   clear ht6 hT6 hkp6 HPB HTR hts hk9 hdb
   unfold told
   go_wp2_with fail
   go_ret
   exact⟨w.heap.size,pb,lb,n+1,d6,s,rfl,Nat.le_refl _,by omega,HK9.out⟩
end
end Go.Proofs.YtinhekmmdlhfkaaGreatDoor
namespace Go.Proofs
open Go.Shelf
def Tryz.cloneLie_ren:Go.Shelf.Ren:=⟨fun | 41=>36 | n=>n,fun | 22=>55 | 23=>65 | 4=>4 | n=>n,fun | n=>n⟩
theorem Tryz.cloneLie:Go.Proofs.SlLaysE0.n41 Tryz.prog Tryz.cloneLie_ren:={
 mixed:=by kernel_rfl
 f41:=⟨Tryz.f36.name,by decide,Tryz.func36.trans (congrArg some (by kernel_rfl))⟩
 t4:=Tryz.underlying4
 a4:=Tryz.isAgg4
 z4:=Tryz.sizeOf4
 v4:=Tryz.zeroValue4
 t22:=Tryz.underlying55
 a22:=Tryz.isAgg55
 z22:=Tryz.sizeOf55
 v22:=Tryz.zeroValue55 }
end Go.Proofs
namespace Go.Proofs.YtinhekmmdlhfkaaGreatDoor
end Go.Proofs.YtinhekmmdlhfkaaGreatDoor
