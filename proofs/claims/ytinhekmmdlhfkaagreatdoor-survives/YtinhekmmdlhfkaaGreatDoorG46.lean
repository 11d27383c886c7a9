import Derived.Test.YtinhekmmdlhfkaaGreatDoorG44
import Derived.Test.YtinhekmmdlhfkaaGreatDoorG45
import Derived.Test.YtinhekmmdlhfkaaGreatDoorG04
import Derived.Test.YtinhekmmdlhfkaaGreatDoorG05
import Derived.Test.YtinhekmmdlhfkaaGreatDoorG16
import Derived.Test.YtinhekmmdlhfkaaGreatDoorG07
import Derived.Test.YtinhekmmdlhfkaaGreatDoorG17
import Derived.Shelf.SlSortCmp.WholeK
import Derived.Test.YtinhekmmdlhfkaaGreatDoorProg
import Derived.Shelf.SlSortCmp.NoneTotal
import Derived.Shelf.SlicesE.Clone
import Derived.Lib.OwnBridge
import Derived.Test.YtinhekmmdlhfkaaGreatDoorG42
namespace Go.Proofs.YtinhekmmdlhfkaaGreatDoor
section
theorem zzi {fs:Fs}{es:List (List UInt8)}(hF:vw fs es)(hl:es.length≤1000000){l:Int}{j w:Nat}(hg:isL l)(hw1:1≤w)(hw4:w≤4)(hj:j≤1000000){x:List UInt8}(h:zx fs (yr l (j:Int) (w:Int))=some x):x=zad es l j w∧4*j+w≤zz l es.length:=by
 rcases hF _ _ h with e | ⟨n,hn,hm⟩
 ·exact absurd e zgc
 ·obtain⟨l',j',h1,h2,h3⟩:=jh.1 hm
  unfold jx at h3
  simp only [Prod.mk.injEq] at h3
  have hlen:(es.take n).length=n:=by simp;omega
  rw [hlen] at h2 h3
  have c2:=zc2 l' n
  have hb:¬ jz l (j:Int) (w:Int):=by unfold jz;unfold isL at hg;omega
  obtain⟨rfl,ej,ew⟩:=zhr hb (zdg h1 h2) (by omega) (by omega) h3.1
  have ej':j=j':=by omega
  subst ej'
  have ew':w=wid (zz l n) j:=by omega
  have hc:4*j+wid (zz l n) j≤zz l n:=by unfold wid;omega
  refine⟨by rw [h3.2,ew',zat es n l j _ hc hn],?_⟩
  have:=zhl l hn
  omega
section
variable {fs : Fs} {es : List (List UInt8)} {L : List Ly}
end
end
section
set_option maxHeartbeats 1000000
open Go.RowKit
set_option maxRecDepth 100000
def Fss (w:World)(v:Value)(fs:Fs):Prop :=
 ∃ a cap,v= .slice a fs.length cap∧fs.length≤cap∧(fs=[]∨∃ b off,a=some ⟨b,off,none⟩∧∀ i (h:i < fs.length),w.cell? ⟨b,off+i*2,none⟩=some (txv fs[i].1)∧w.cell? ⟨b,off+i*2+1,none⟩=some (txv fs[i].2))
def zd0 (fs:Fs):Fs→Fs
 | []=>fs
 | f::r=>zd0 (if (ixF fs f.1).isNone then fs++[f] else fs) r
def dk0:Dk:={ fs:=[],calls:=0,failAt:=0,dead:=false,once:=false,half:=false,hit:=false,turned:=false }
theorem zo7 (f:List UInt8×List UInt8):∀(l acc:Fs),zd0 acc (l++[f])=if (ixF (zd0 acc l) f.1).isNone then zd0 acc l++[f] else zd0 acc l
 | [],acc=>rfl
 | x::r,acc=>by
  show zd0 _ (r++[f])=_
  rw [zo7 f r]
  rfl
theorem zq7:∀(l acc:Fs),(zd0 acc l).length≤acc.length+l.length
 | [],acc=>by simp [zd0]
 | x::r,acc=>by
  have:=zq7 r (if (ixF acc x.1).isNone then acc++[x] else acc)
  simp only [zd0,List.length_cons]
  split at this<;>simp_all<;>omega
theorem zze {α:Type}(l:List α)(k:Nat)(h:k < l.length):l.take (k+1)=l.take k++[l[k]]:=by
 rw [List.take_add_one]
 simp [h]
theorem z5z (v:Value)(fs:Fs)(w:World)(hn:fs.length≤1000000)(h:Fss w v fs):
  Calls Tryz.prog 25 #[v] w fun r w'=>r= .returned (vv w.heap.size)∧Below w.heap.size w w'∧zm w' (fun k=>w.heap.size≤k) w.heap.size { dk0 with fs:=zd0 [] fs }:=by
 obtain⟨a,cap,rfl,hcap,hrow⟩:=h
 have H:=za hrow
 clear hrow
 go_enter Tryz.func25,Tryz.ntmps25
 go_wp2_with fail
 have HD0:Hid (zm (w.alloc (.cells #[.slice none 0 0,.int .i64 0,.int .i64 0,.bool false,.bool false,.bool false,.bool false,.bool false] 41)) (fun k=>w.heap.size≤k) w.heap.size { dk0 with fs:=zd0 [] (fs.take 0) }) :=
  ⟨.slice none 0 0,Nat.le_refl _,heap_alloc_last _ _,⟨rfl,.inl ⟨rfl,rfl⟩⟩,fun g e=>by simp [Value.ownBlock] at e⟩
 go_loopw [10] (fun i wr=>∃ k:Nat,k≤fs.length∧i= .int .i64 k∧Below w.heap.size w wr∧zm wr (fun k=>w.heap.size≤k) w.heap.size { dk0 with fs:=zd0 [] (fs.take k) }) (fun i _=>fs.length - (intOf i).toNat)
 case atStart=>exact⟨0,Nat.zero_le _,rfl,ze _ _,HD0.o⟩
 case round =>
  obtain⟨k,hk,rfl,hbe,hdk⟩:=hrel
  have HB:=za hbe
  have HD:=za hdk
  clear hbe hdk HD0
  by_cases hlt:k < fs.length
  ·obtain⟨b,off,rfl,hcs⟩:∃ b off,a=some ⟨b,off,none⟩∧∀ i (h:i < fs.length),w.cell? ⟨b,off+i*2,none⟩=some (txv fs[i].1)∧w.cell? ⟨b,off+i*2+1,none⟩=some (txv fs[i].2):=by
    rcases H.o with h | h
    ·rw [h] at hlt;simp at hlt
    ·exact h
   obtain⟨y0,y1⟩:=hcs k hlt
   have HST:Hid (zd0 [] (fs.take (k+1))=if (ixF (zd0 [] (fs.take k)) fs[k].1).isNone then zd0 [] (fs.take k)++[fs[k]] else zd0 [] (fs.take k)):=by
    show _=_
    rw [zze fs k hlt,zo7]
   have hnl:=zq7 (fs.take k) []
   rw [List.length_take,Nat.min_eq_left hk] at hnl
   simp only [List.length_nil,Nat.zero_add] at hnl
   obtain⟨⟨p,x⟩,hpx⟩:∃ f,fs[k]=f:=⟨_,rfl⟩
   rw [hpx] at y0 y1 HST
   generalize zd0 [] (fs.take k)=acc at *
   have r0:wr.cell? ⟨b,off+k*2,none⟩=some (.string ⟨p.toArray⟩):=by rw [HB.o.cell (p:=⟨b,_,none⟩) (zj y0)];exact y0
   have r1:wr.cell? ⟨b,off+k*2+1,none⟩=some (.string ⟨x.toArray⟩):=by rw [HB.o.cell (p:=⟨b,_,none⟩) (zj y1)];exact y1
   clear y0 y1 hcs hpx
   go_wp2_with fail
   have HBF:Hid (Below w.heap.size w (wr.alloc (.cells #[.string ⟨p.toArray⟩,.string ⟨x.toArray⟩] 63))):=HB.o.trans ((ze _ _).mono HB.o.size)
   have HDF:Hid (zm (wr.alloc (.cells #[.string ⟨p.toArray⟩,.string ⟨x.toArray⟩] 63)) (fun k=>w.heap.size≤k) w.heap.size { dk0 with fs:=acc }):=HD.o.stay (O1:=fun _=>False) (T:=[]) (.of_below (ze _ _)) (by simp) (by simp)
   have HFB:Hid ((wr.alloc (.cells #[.string ⟨p.toArray⟩,.string ⟨x.toArray⟩] 63)).heap[wr.heap.size]?=some (.cells #[.string ⟨p.toArray⟩,.string ⟨x.toArray⟩] 63 (0,0))):=heap_alloc_last _ _
   generalize wr.alloc (.cells #[.string ⟨p.toArray⟩,.string ⟨x.toArray⟩] 63)=wf at *
   refine(zgn (fun k=>w.heap.size≤k) w.heap.size { dk0 with fs:=acc } p wf (by show acc.length≤_;omega) HDF.o).mono ?_
   rintro e w1 ⟨rfl,hb1⟩
   have HB1:Hid (Below w.heap.size w w1):=HBF.o.trans (hb1.mono HBF.o.size)
   have HD1:=za (HDF.o.stay (O1:=fun _=>False) (T:=[]) (.of_below hb1) (by simp) (by simp))
   have hfb:w1.heap[wr.heap.size]?=some (.cells #[.string ⟨p.toArray⟩,.string ⟨x.toArray⟩] 63 (0,0)):=by rw [hb1.block _ (zb HFB.o)];exact HFB.o
   obtain⟨q0,-⟩:=zg hfb 0 _ rfl
   obtain⟨q1,-⟩:=zg hfb 1 _ rfl
   clear hb1 hfb r0 r1
   cases e:ixF acc p with
   | some j =>
    have he:ixI acc p=j:=by unfold ixI;rw [e]
    have HST':Hid (zd0 [] (fs.take (k+1))=acc):=by
     show _=_
     rw [HST.o,e]
     rfl
    rw [show ixI ({ dk0 with fs:=acc }:Dk).fs p=j from he]
    clear q0 q1 e he
    go_wp2_with fail
    go_round
    case rel=>exact⟨k+1,hlt,by go_num,HB1.o,by rw [HST'.o];exact HD1.o⟩
    case measure=>simp [intOf];omega
   | none =>
    have he:ixI acc p=-1:=by unfold ixI;rw [e]
    have HST':Hid (zd0 [] (fs.take (k+1))=acc++[(p,x)]):=by
     show _=_
     rw [HST.o,e]
     rfl
    rw [show ixI ({ dk0 with fs:=acc }:Dk).fs p=-1 from he]
    obtain⟨i,hi,hi'⟩:=Option.map_eq_some_iff.1 zrh
    obtain⟨hz0,hz1,hz2⟩:i.zero=some (.agg #[.string ⟨#[]⟩,.string ⟨#[]⟩])∧i.size=2∧i.bytes=32:=by simpa using hi'
    clear hi'
    have HI:=za hi
    have HZ:=za (And.intro hz0 (And.intro hz1 hz2))
    clear hi hz0 hz1 hz2
    obtain⟨fv,hO,hb,hf,hg⟩:=HD1.o
    obtain⟨c0,f0⟩:=(zd1 hb).1
    have HG:=za hg
    have HB':=za hb
    have HF:=za hf
    have HE:=za e
    have HF1:Hid (∀ o,(w1.alloc o).drew.ownsRow 0 63 2 fv acc.length (jm acc)):=fun o=>World.ownsRow.alloc (w:=w1) hf o
    have HBB:Hid (∀ o,(w1.alloc o).drew.heap[w.heap.size]?=some (.cells (zcg fv { dk0 with fs:=acc }) 41 (0,0))):=fun o=>zc (w:=w1) hb
    have c0':∀ o,(w1.alloc o).cell? ⟨w.heap.size,0,none⟩=some fv:=fun o=>by rw [zk _ _ ⟨w.heap.size,0,none⟩ (zb hb)];exact c0
    have HNE:Hid (∀ g,fv.ownBlock=some g→w.heap.size≠g):=fun g hg e=>by
     rcases hf.2 with ⟨rfl,-⟩ | ⟨g',cap,cur,rfl,-,hgg,-⟩
     ·simp [Value.ownBlock] at hg
     ·simp only [Value.ownBlock,Option.some.injEq] at hg
      subst hg
      rw [e,hgg] at hb
      simp at hb
    clear hg hb hf e he HD HD1 HDF
    go_wp2_with fail
    go_region_law (refine step_append_lies _ (by rfl) _ _ _ (by rfl) 0 63 i (.agg #[.string ⟨#[]⟩,.string ⟨#[]⟩]) 2 32 Tryz.underlying39 HI.o HZ.o.1 HZ.o.2.1 HZ.o.2.2 rfl (by omega) fv acc.length (jm acc) (by rfl) (HF1.o _) ⟨w1.heap.size,0,none⟩ 1 1 [.string ⟨p.toArray⟩,.string ⟨x.toArray⟩] (by rfl) rfl (World.news_of_block (heap_alloc_last _ _)) (by simp [Value.oneCell']) (by omega) (by unfold maxLen;omega) (by omega) (by omega) (w1.heap.size+1) (by simp) ?_;intro g cap' w3 hown hgrow hat hltg;have hb3:w3.heap[w.heap.size]?=some (.cells (zcg fv { dk0 with fs:=acc }) 41 (0,0)):=(by rw [hgrow.block w.heap.size (zb (HBB.o _)) (fun e=>HNE.o w.heap.size e.symm rfl)];exact HBB.o _);obtain⟨c3,f3⟩:=(zd1 hb3).1;have HOW:=za hown;have HGR:=za hgrow;have HAT:=za hat;have HB3:=za hb3;clear hown hgrow hat hb3)
    all_goals
     have hend:=zwh (O:=fun k=>w.heap.size≤k) (b:=w.heap.size) (d:={ dk0 with fs:=acc }) (p:=p) (x:=x) (w:=w1) (zf.refl _ _ _) (Nat.le_refl _) HG.o HF.o HE.o HOW.o HGR.o HAT.o HB3.o
     have hset:zac acc p x=acc++[(p,x)]:=by unfold zac;rw [HE.o]
     have HBZ:=za (HB1.o.trans (hend.2.1.below (fun _ h=>h) HB1.o.size))
     have HDZ:=za (hend.2.2.mono (O':=fun k=>w.heap.size≤k) (fun k hk=>by
      rcases hk with h | h
      ·exact h
      ·exact Nat.le_trans HB1.o.size h.1))
     clear hend
     go_wp2_with fail
     go_round
     case rel =>
      refine⟨k+1,hlt,by go_num,HBZ.o,?_⟩
      have h9:=HDZ.o
      rw [HST'.o]
      simp only [hset] at h9
      exact h9
     case measure=>simp [intOf];omega
  ·obtain rfl:k=fs.length:=by omega
   have HDE:=HD.o
   rw [List.take_length] at HDE
   go_wp2_with fail
   go_ret
   exact⟨rfl,HB.o,HDE⟩
end
section
open Go.RowKit
set_option maxRecDepth 100000
theorem Fss.below {w w':World}{v:Value}{fs:Fs}(h:Fss w v fs)(hb:Below w.heap.size w w'):Fss w' v fs:=by
 obtain⟨a,cap,e,hc,h | ⟨b,off,ea,hx⟩⟩:=h
 ·exact⟨a,cap,e,hc,.inl h⟩
 ·refine⟨a,cap,e,hc,.inr ⟨b,off,ea,fun i hi=>?_⟩⟩
  obtain⟨x0,x1⟩:=hx i hi
  exact⟨by rw [hb.cell (p:=⟨b,_,none⟩) (zj x0)];exact x0,by rw [hb.cell (p:=⟨b,_,none⟩) (zj x1)];exact x1⟩
end
section
open Go.RowKit
set_option maxRecDepth 100000
end
section
open Go.RowKit
set_option maxRecDepth 100000
end
section
open Go.RowKit
set_option maxRecDepth 100000
def Tss (w:World)(v:Value)(ls:List (List UInt8)):Prop :=
 ∃ a cap,v= .slice a ls.length cap∧ls.length≤cap∧(ls=[]∨∃ b off,a=some ⟨b,off,none⟩∧∀ i (h:i < ls.length),w.cell? ⟨b,off+i,none⟩=some (txv ls[i]))
theorem Tss.of {w:World}{v:Value}{ls:List (List UInt8)}(h:Sss w v (ls.map tb)):Tss w v ls:=by
 obtain⟨a,cap,e,hc,hx⟩:=h
 rw [List.length_map] at e hc
 refine⟨a,cap,e,hc,?_⟩
 rcases hx with h | ⟨b,off,ea,hx⟩
 ·exact .inl (by simpa using h)
 ·refine .inr ⟨b,off,ea,fun i hi=>?_⟩
  have:=hx i (by simpa using hi)
  rw [List.getElem_map] at this
  exact this
theorem Tss.below {w w':World}{v:Value}{ls:List (List UInt8)}(h:Tss w v ls)(hb:Below w.heap.size w w'):Tss w' v ls:=by
 obtain⟨a,cap,e,hc,h | ⟨b,off,ea,hx⟩⟩:=h
 ·exact⟨a,cap,e,hc,.inl h⟩
 ·exact⟨a,cap,e,hc,.inr ⟨b,off,ea,fun i hi=>by rw [hb.cell (p:=⟨b,_,none⟩) (zj (hx i hi))];exact hx i hi⟩⟩
theorem Tss.nil (w:World):Tss w (.slice none 0 0) []:=⟨none,0,rfl,Nat.le_refl _,.inl rfl⟩
theorem Tss.at {w:World}{a:Option Addr}{n cap:Nat}{ls:List (List UInt8)}(h:Tss w (.slice a n cap) ls):n=ls.length∧ls.length≤cap∧(0 < ls.length→∃ b off,a=some ⟨b,off,none⟩∧∀ i (h:i < ls.length),w.cell? ⟨b,off+i,none⟩=some (txv ls[i])):=by
 obtain⟨a',cap',e,hc,hx⟩:=h
 simp only [Value.slice.injEq] at e
 obtain⟨rfl,rfl,rfl⟩:=e
 refine⟨rfl,hc,fun h0=>?_⟩
 rcases hx with h | h
 ·rw [h] at h0;simp at h0
 ·exact h
end
section
open Go.RowKit
set_option maxRecDepth 100000
theorem Fss.at {w:World}{a:Option Addr}{n cap:Nat}{fs:Fs}(h:Fss w (.slice a n cap) fs):n=fs.length∧fs.length≤cap∧(0 < fs.length→∃ b off,a=some ⟨b,off,none⟩∧∀ i (h:i < fs.length),w.cell? ⟨b,off+i*2,none⟩=some (txv fs[i].1)∧w.cell? ⟨b,off+i*2+1,none⟩=some (txv fs[i].2)):=by
 obtain⟨a',cap',e,hc,hx⟩:=h
 simp only [Value.slice.injEq] at e
 obtain⟨rfl,rfl,rfl⟩:=e
 refine⟨rfl,hc,fun h0=>?_⟩
 rcases hx with h | h
 ·rw [h] at h0;simp at h0
 ·exact h
end
end Go.Proofs.YtinhekmmdlhfkaaGreatDoor
namespace Go.Proofs
open Go.Shelf
def Tryz.sortFile_ren:Go.Shelf.Ren:=⟨fun | 6=>41 | 15=>66 | 14=>65 | 28=>114 | 29=>115 | 20=>106 | 21=>107 | 22=>108 | 23=>109 | 24=>110 | 25=>111 | 26=>112 | 27=>113 | 46=>156 | 47=>157 | 48=>158 | 49=>159 | 50=>160 | 57=>190 | n=>n,fun | 22=>39 | 24=>63 | 25=>103 | 3=>3 | 39=>155 | 0=>0 | 53=>136 | 55=>199 | 4=>4 | 46=>220 | 45=>219 | 50=>224 | 5=>5 | 9=>9 | 66=>280 | 70=>284 | 76=>306 | 77=>307 | n=>n,fun | n=>n⟩
theorem Tryz.sortFile:Go.Proofs.SlLaysF0.n6 Tryz.prog Tryz.sortFile_ren:={
 mixed:=by kernel_rfl
 f6:=⟨Tryz.f41.name,by decide,Tryz.func41.trans (congrArg some (by kernel_rfl))⟩
 f14:=⟨Tryz.f65.name,by decide,Tryz.func65.trans (congrArg some (by kernel_rfl))⟩
 f15:=Tryz.func66.trans (congrArg some (by kernel_rfl))
 f20:=⟨Tryz.f106.name,by decide,Tryz.func106.trans (congrArg some (by kernel_rfl))⟩
 f21:=⟨Tryz.f107.name,by decide,Tryz.func107.trans (congrArg some (by kernel_rfl))⟩
 f22:=⟨Tryz.f108.name,by decide,Tryz.func108.trans (congrArg some (by kernel_rfl))⟩
 f23:=⟨Tryz.f109.name,by decide,Tryz.func109.trans (congrArg some (by kernel_rfl))⟩
 f24:=⟨Tryz.f110.name,by decide,Tryz.func110.trans (congrArg some (by kernel_rfl))⟩
 f25:=⟨Tryz.f111.name,by decide,Tryz.func111.trans (congrArg some (by kernel_rfl))⟩
 f26:=⟨Tryz.f112.name,by decide,Tryz.func112.trans (congrArg some (by kernel_rfl))⟩
 f27:=⟨Tryz.f113.name,by decide,Tryz.func113.trans (congrArg some (by kernel_rfl))⟩
 f28:=Tryz.func114.trans (congrArg some (by kernel_rfl))
 f29:=Tryz.func115.trans (congrArg some (by kernel_rfl))
 f46:=⟨Tryz.f156.name,by decide,Tryz.func156.trans (congrArg some (by kernel_rfl))⟩
 f47:=Tryz.func157.trans (congrArg some (by kernel_rfl))
 f48:=Tryz.func158.trans (congrArg some (by kernel_rfl))
 f49:=⟨Tryz.f159.name,by decide,Tryz.func159.trans (congrArg some (by kernel_rfl))⟩
 f50:=⟨Tryz.f160.name,by decide,Tryz.func160.trans (congrArg some (by kernel_rfl))⟩
 f57:=⟨Tryz.f190.name,by decide,Tryz.func190.trans (congrArg some (by kernel_rfl))⟩
 t0:=Tryz.underlying0
 a0:=Tryz.isAgg0
 z0:=Tryz.sizeOf0
 v0:=Tryz.zeroValue0
 t3:=Tryz.underlying3
 a3:=Tryz.isAgg3
 z3:=Tryz.sizeOf3
 v3:=Tryz.zeroValue3
 t4:=Tryz.underlying4
 a4:=Tryz.isAgg4
 z4:=Tryz.sizeOf4
 v4:=Tryz.zeroValue4
 t5:=Tryz.underlying5
 a5:=Tryz.isAgg5
 z5:=Tryz.sizeOf5
 v5:=Tryz.zeroValue5
 t9:=Tryz.underlying9
 a9:=Tryz.isAgg9
 z9:=Tryz.sizeOf9
 v9:=Tryz.zeroValue9
 t22:=Tryz.underlying39
 a22:=Tryz.isAgg39
 z22:=Tryz.sizeOf39
 v22:=Tryz.zeroValue39
 t25:=Tryz.underlying103
 a25:=Tryz.isAgg103
 z25:=Tryz.sizeOf103
 v25:=Tryz.zeroValue103
 t39:=Tryz.underlying155
 a39:=Tryz.isAgg155
 z39:=Tryz.sizeOf155
 v39:=Tryz.zeroValue155
 t45:=Tryz.underlying219
 a45:=Tryz.isAgg219
 z45:=Tryz.sizeOf219
 v45:=Tryz.zeroValue219
 t46:=Tryz.underlying220
 a46:=Tryz.isAgg220
 z46:=Tryz.sizeOf220
 v46:=Tryz.zeroValue220
 t50:=Tryz.underlying224
 a50:=Tryz.isAgg224
 z50:=Tryz.sizeOf224
 v50:=Tryz.zeroValue224
 t53:=Tryz.underlying136
 a53:=Tryz.isAgg136
 z53:=Tryz.sizeOf136
 v53:=Tryz.zeroValue136
 t55:=Tryz.underlying199
 a55:=Tryz.isAgg199
 z55:=Tryz.sizeOf199
 v55:=Tryz.zeroValue199
 t66:=Tryz.underlying280
 a66:=Tryz.isAgg280
 z66:=Tryz.sizeOf280
 v66:=Tryz.zeroValue280
 t70:=Tryz.underlying284
 a70:=Tryz.isAgg284
 z70:=Tryz.sizeOf284
 v70:=Tryz.zeroValue284
 t76:=Tryz.underlying306
 a76:=Tryz.isAgg306
 z76:=Tryz.sizeOf306
 v76:=Tryz.zeroValue306
 t77:=Tryz.underlying307
 a77:=Tryz.isAgg307
 z77:=Tryz.sizeOf307
 v77:=Tryz.zeroValue307 }
end Go.Proofs
namespace Go.Proofs.YtinhekmmdlhfkaaGreatDoor
section
open Go.RowKit
set_option maxRecDepth 100000
end
end Go.Proofs.YtinhekmmdlhfkaaGreatDoor
namespace Go.Proofs
open Go.Shelf
def Tryz.cloneFile_ren:Go.Shelf.Ren:=⟨fun | 41=>40 | n=>n,fun | 22=>39 | 23=>63 | 4=>4 | n=>n,fun | n=>n⟩
theorem Tryz.cloneFile:Go.Proofs.SlLaysE0.n41 Tryz.prog Tryz.cloneFile_ren:={
 mixed:=by kernel_rfl
 f41:=⟨Tryz.f40.name,by decide,Tryz.func40.trans (congrArg some (by kernel_rfl))⟩
 t4:=Tryz.underlying4
 a4:=Tryz.isAgg4
 z4:=Tryz.sizeOf4
 v4:=Tryz.zeroValue4
 t22:=Tryz.underlying39
 a22:=Tryz.isAgg39
 z22:=Tryz.sizeOf39
 v22:=Tryz.zeroValue39 }
end Go.Proofs
namespace Go.Proofs.YtinhekmmdlhfkaaGreatDoor
section
open Go.RowKit Go.Lib Go.Sort
set_option maxRecDepth 100000
end
section
open Go.RowKit
set_option maxRecDepth 100000
end
section
open Go.RowKit
set_option maxRecDepth 100000
end
section
open Go.RowKit
set_option maxRecDepth 100000
structure Wd where
 key:List UInt8
 published:Int
 failed:Bool
 foreign:Bool
end
section
set_option maxHeartbeats 1000000
open Go.RowKit
set_option maxRecDepth 100000
theorem zzy (O:Nat→Prop)(W:World)(at_:Nat→Addr)(hE:Env W)(hSN:qm W at_)(hET:ETy W)(hOW:∀ k,O k→W.heap.size≤k)(db:Nat)(d:Dk)(key:List UInt8)(w:World)(hn:d.fs.length≤1000000000)(hl:∀ f∈d.fs,f.2.length≤1048576)(hk:key.length≤9223372036854775807)(hc:zau d)(hW:Below W.heap.size W w)(h:zm w O db d)
  (s:List Nat) (hs:zht (zx d.fs) s) (hsl:s.length≤100000) :
  Calls Tryz.prog 8 #[vv db,txv key] w fun r w'=>∃(d':Dk),zf O rT w w'∧zm w' (Ext O w w') db d'∧d'.fs=d.fs∧tk d'=tk d ∧
   ((d'.hit=true∧∃ p,r= .returned (.tuple #[.pointer none,zf6 8 p]))∨(zau d'∧∃(err:Int) (p:List UInt8) (es:List (List UInt8)) (m:Nat),zf7 (zx d.fs) key err p es m ∧
    ((err=0∧∃ pb lb,r= .returned (.tuple #[.pointer (some ⟨pb,0,none⟩),told 0])∧w.heap.size≤pb∧w.heap.size≤lb∧zhs w' pb lb∧xk w' (Ext O w w') db lb { key:=key,es:=es,put:=0,live:=true }) ∨
     (err≠0∧r= .returned (.tuple #[.pointer none,zf6 err p]))))):=by
 have hb0:Below w.heap.size w (w.alloc (.cells #[.int .i64 0,.string ⟨#[]⟩] 29)):=ze _ _
 have hopen:=z11 O W at_ hE hSN hOW db d key (w.alloc (.cells #[.int .i64 0,.string ⟨#[]⟩] 29)) hn hl hk hc (hW.trans (hb0.mono hW.size)) (h.stay (O1:=fun _=>False) (T:=[]) (.of_below hb0) (by simp) (by simp)) s hs hsl
 have HW:=za hW
 have HO:=za hOW
 have HS:=za hSN
 have HT:=za hET
 have hT0:zf O rT w (w.alloc (.cells #[.int .i64 0,.string ⟨#[]⟩] 29)):=(zf.refl _ _ _).alloc _
 have HR0:Hid (zcj w.heap.size (w.alloc (.cells #[.int .i64 0,.string ⟨#[]⟩] 29))):=heap_alloc_last _ _
 have HT0:=za hT0
 clear h hl hW hOW hE hSN hET hn hk hT0 hb0 hc hs hsl
 have htx:txv key= .string ⟨key.toArray⟩:=rfl
 have hdp:vv db= .pointer (some ⟨db,0,none⟩):=rfl
 rw [htx,hdp] at hopen
 rw [htx,hdp]
 clear htx hdp
 go_enter Tryz.func8,Tryz.ntmps8
 go_wp2_with fail
 refine hopen.mono ?_
 clear hopen
 generalize w.alloc (.cells #[.int .i64 0,.string ⟨#[]⟩] 29)=w0 at *
 rintro r w2 ⟨d',ht2,hd2,hf2,hu2,hres⟩
 have HT2:Hid (zf O rT w w2):=HT0.o.trans (ht2.mono (fun _ h=> .inl h) (fun _ h=>h))
 have HR2:Hid (zcj w.heap.size w2):=HR0.o.turn ht2 (by decide)
 have HB2:Hid (Below W.heap.size W w2):=HW.o.trans (HT2.o.below HO.o HW.o.size)
 have HX:Hid (∀ k,Ext O w0 w2 k→Ext O w w2 k):=fun k hk=>by
  rcases hk with h | h
  ·exact .inl h
  ·exact .inr ⟨Nat.le_trans HT0.o.size h.1,h.2⟩
 have HD2:=za (hd2.mono HX.o)
 have HF2:=za (And.intro hf2 hu2)
 have hsz2:=za HT2.o.size
 clear ht2 hd2 hf2 hu2
 rcases hres with ⟨hh,p,e,rfl,hge⟩ | ⟨hc2,err,p,es,m,hop,⟨rfl,lb,rfl,hlb,hlg⟩ | ⟨rfl,rfl⟩ | ⟨rfl,rfl⟩ | ⟨rfl,g,rfl,hpg⟩⟩
 ·obtain⟨g,rfl⟩:∃ g,e= .iface 113 (.pointer (some ⟨g,0,none⟩)):=by
   rcases jf hge with ⟨h,-⟩ | ⟨-,h⟩
   ·simp at h
   ·exact h
  have HPE:Hid (zvv w2 g p):=by
   rcases hge with ⟨h,-⟩ | ⟨-,g',e',-,h⟩
   ·simp at h
   ·unfold xm at e'
    simp only [Value.iface.injEq,Value.pointer.injEq,Option.some.injEq,Addr.mk.injEq,true_and,and_true] at e'
    rw [e']
    exact h
  have HH:=za hh
  clear hge hh
  go_wp2_with fail
  refine(z4q at_ g p w2 (yz HS.o HB2.o) (HT.o.below HB2.o) HPE.o).mono ?_
  rintro r w3 ⟨rfl,hb3⟩
  have HB3:=za hb3
  have HR3:=za (HR2.o.below hb3)
  obtain⟨c0,z0⟩:=zg HR3.o 0 _ rfl
  obtain⟨c1,z1⟩:=zg HR3.o 1 _ rfl
  clear hb3
  unfold zf6
  go_wp2_with fail
  exact bodyPost_ret (v:= .tuple #[.pointer none,.agg #[.int .i64 8,.string ⟨p.toArray⟩]]) (yy Tryz.results8 _ _ w.heap.size 29 _ (0,0) _ rfl (jr HR3.o _ _ rfl) Tryz.underlying29 rfl (by kernel_rfl) _ rfl) rfl ⟨d',jv (HT2.o.then_below HB3.o),(HD2.o.later HB3.o).sets2 HR3.o,HF2.o.1,HF2.o.2,.inl ⟨HH.o,p,rfl⟩⟩
 ·have HC2:=za hc2
  have HOP:=za hop
  have HLG:=za (hlg.mono HX.o)
  have hlb':w.heap.size≤lb:=Nat.le_trans HT0.o.size hlb
  have HLB:=za hlb'
  clear hc2 hop hlg hlb hlb'
  go_wp2_with fail
  have HBA:Hid (Below w2.heap.size w2 (w2.alloc (.cells #[.pointer (some ⟨lb,0,none⟩)] 75))):=ze _ _
  have HPA:Hid (zhs (w2.alloc (.cells #[.pointer (some ⟨lb,0,none⟩)] 75)) w2.heap.size lb):=heap_alloc_last _ _
  generalize w2.alloc (.cells #[.pointer (some ⟨lb,0,none⟩)] 75)=wa at *
  have HRA:=za (HR2.o.below HBA.o)
  refine(zjy at_ wa (yz HS.o (HB2.o.trans (HBA.o.mono HB2.o.size)))).mono ?_
  rintro r w3 ⟨rfl,hb3⟩
  have HB3:Hid (Below w2.heap.size w2 w3):=HBA.o.trans (hb3.mono HBA.o.size)
  have HR3:=za (HRA.o.below hb3)
  have HP3:Hid (zhs w3 w2.heap.size lb):=by
   show zhs _ _ _
   unfold zhs
   rw [hb3.block _ (zb HPA.o)]
   exact HPA.o
  obtain⟨c0,z0⟩:=zg HR3.o 0 _ rfl
  obtain⟨c1,z1⟩:=zg HR3.o 1 _ rfl
  have hne:w.heap.size≠w2.heap.size:=Nat.ne_of_lt (zb HR2.o)
  have HNE:=za hne
  clear hb3 hne
  unfold told
  go_wp2_with fail
  refine bodyPost_ret (v:= .tuple #[.pointer (some ⟨w2.heap.size,0,none⟩),.agg #[.int .i64 0,.string ⟨([]:List UInt8).toArray⟩]]) (yy Tryz.results8 _ _ w.heap.size 29 _ (0,0) _ rfl (jr HR3.o _ _ rfl) Tryz.underlying29 rfl (by kernel_rfl) _ rfl) rfl ⟨d',jv (HT2.o.then_below HB3.o),(HD2.o.later HB3.o).sets2 HR3.o,HF2.o.1,HF2.o.2,.inr ⟨HC2.o,0,p,es,m,HOP.o,.inl ⟨rfl,w2.heap.size,lb,rfl,hsz2.out,HLB.o,?_,(HLG.o.later HB3.o).sets2 HR3.o⟩⟩⟩
  unfold zhs
  rw [heap_setCell_other _ _ _ _ (by show w2.heap.size≠w.heap.size;exact Ne.symm HNE.o),heap_setCell_other _ _ _ _ (by show w2.heap.size≠w.heap.size;exact Ne.symm HNE.o)]
  exact HP3.o
 ·have HC2:=za hc2
  have hp0:p=[]:=by
   rcases hop with ⟨-,-,hp,-⟩ | ⟨n,R,-,⟨k,d0,-,-,-,h,-⟩ | ⟨d0,-,⟨-,-,hp,-⟩ | ⟨-,-,h,-⟩⟩⟩
   ·exact hp
   ·omega
   ·exact hp
   ·omega
  subst hp0
  have HOP:=za hop
  clear hc2 hop
  unfold jo
  go_wp2_with fail
  refine(zr9 at_ w2 (yz HS.o HB2.o)).mono ?_
  rintro r w3 ⟨rfl,hb3⟩
  have HB3:=za hb3
  have HR3:=za (HR2.o.below hb3)
  obtain⟨c0,z0⟩:=zg HR3.o 0 _ rfl
  obtain⟨c1,z1⟩:=zg HR3.o 1 _ rfl
  clear hb3
  unfold told
  go_wp2_with fail
  exact bodyPost_ret (v:= .tuple #[.pointer none,.agg #[.int .i64 3,.string ⟨([]:List UInt8).toArray⟩]]) (yy Tryz.results8 _ _ w.heap.size 29 _ (0,0) _ rfl (jr HR3.o _ _ rfl) Tryz.underlying29 rfl (by kernel_rfl) _ rfl) rfl ⟨d',jv (HT2.o.then_below HB3.o),(HD2.o.later HB3.o).sets2 HR3.o,HF2.o.1,HF2.o.2,.inr ⟨HC2.o,3,[],es,m,HOP.o,.inr ⟨by decide,rfl⟩⟩⟩
 ·have HC2:=za hc2
  have hp0:p=[]:=by
   rcases hop with ⟨-,-,hp,-⟩ | ⟨n,R,-,⟨k,d0,-,-,-,h,-⟩ | ⟨d0,-,⟨-,-,hp,-⟩ | ⟨-,-,h,-⟩⟩⟩
   ·exact hp
   ·omega
   ·exact hp
   ·omega
  subst hp0
  have HOP:=za hop
  clear hc2 hop
  unfold jo
  go_wp2_with fail
  refine(zs1 at_ w2 (yz HS.o HB2.o)).mono ?_
  rintro r w3 ⟨rfl,hb3⟩
  have HB3:=za hb3
  have HR3:=za (HR2.o.below hb3)
  obtain⟨c0,z0⟩:=zg HR3.o 0 _ rfl
  obtain⟨c1,z1⟩:=zg HR3.o 1 _ rfl
  clear hb3
  unfold told
  go_wp2_with fail
  exact bodyPost_ret (v:= .tuple #[.pointer none,.agg #[.int .i64 5,.string ⟨([]:List UInt8).toArray⟩]]) (yy Tryz.results8 _ _ w.heap.size 29 _ (0,0) _ rfl (jr HR3.o _ _ rfl) Tryz.underlying29 rfl (by kernel_rfl) _ rfl) rfl ⟨d',jv (HT2.o.then_below HB3.o),(HD2.o.later HB3.o).sets2 HR3.o,HF2.o.1,HF2.o.2,.inr ⟨HC2.o,5,[],es,m,HOP.o,.inr ⟨by decide,rfl⟩⟩⟩
 ·have HC2:=za hc2
  have HOP:=za hop
  have HPG:=za hpg
  clear hc2 hop hpg
  unfold xm
  go_wp2_with fail
  refine(zwe at_ g p w2 (yz HS.o HB2.o) HPG.o).mono ?_
  rintro r w3 ⟨rfl,hb3⟩
  have HB3:=za hb3
  have HR3:=za (HR2.o.below hb3)
  obtain⟨c0,z0⟩:=zg HR3.o 0 _ rfl
  obtain⟨c1,z1⟩:=zg HR3.o 1 _ rfl
  clear hb3
  unfold zf6
  go_wp2_with fail
  exact bodyPost_ret (v:= .tuple #[.pointer none,.agg #[.int .i64 6,.string ⟨p.toArray⟩]]) (yy Tryz.results8 _ _ w.heap.size 29 _ (0,0) _ rfl (jr HR3.o _ _ rfl) Tryz.underlying29 rfl (by kernel_rfl) _ rfl) rfl ⟨d',jv (HT2.o.then_below HB3.o),(HD2.o.later HB3.o).sets2 HR3.o,HF2.o.1,HF2.o.2,.inr ⟨HC2.o,6,p,es,m,HOP.o,.inr ⟨by decide,rfl⟩⟩⟩
end
end Go.Proofs.YtinhekmmdlhfkaaGreatDoor
