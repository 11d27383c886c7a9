import Derived.Shelf.SlSortCmp.WholeK
import Derived.Test.YtinhekmmdlhfkaaGreatDoorProg
import Derived.Test.YtinhekmmdlhfkaaGreatDoorG45
import Derived.Shelf.SlSortCmp.NoneTotal
import Derived.Shelf.SlicesE.Clone
import Derived.Lib.OwnBridge
import Derived.Test.YtinhekmmdlhfkaaGreatDoorG42
import Derived.Test.YtinhekmmdlhfkaaGreatDoorG18
namespace Go.Proofs.YtinhekmmdlhfkaaGreatDoor
end Go.Proofs.YtinhekmmdlhfkaaGreatDoor
namespace Go.Proofs
open Go.Shelf
def Tryz.sortFile_ren:Go.Shelf.Ren:=⟨fun | 6=>41 | 15=>66 | 14=>65 | 28=>114 | 29=>115 | 20=>106 | 21=>107 | 22=>108 | 23=>109 | 24=>110 | 25=>111 | 26=>112 | 27=>113 | 46=>156 | 47=>157 | 48=>158 | 49=>159 | 50=>160 | 57=>190 | n=>n,fun | 22=>39 | 24=>63 | 25=>103 | 3=>3 | 39=>155 | 0=>0 | 53=>136 | 55=>199 | 4=>4 | 46=>220 | 45=>219 | 50=>224 | 5=>5 | 9=>9 | 66=>280 | 70=>284 | 76=>306 | 77=>307 | n=>n,fun | n=>n⟩
theorem Tryz.sortFile:Go.Proofs.SlLaysF0.n6 Tryz.prog Tryz.sortFile_ren:={
 mixed:=by kernel_rfl
 f6:=⟨Tryz.f41.name,by decide,Tryz.func41.trans (congrArg some (by kernel_rfl))⟩
 f14:=⟨Tryz.f65.name,by decide,Tryz.func65.trans (congrArg some (by kernel_rfl))⟩
 f15:=Tryz.func66.trans (congrArg some (by kernel_rfl))
 f20:=⟨Tryz.f106.name,by decide,Tryz.func106.trans (congrArg some (by kernel_rfl))⟩
 f21:=⟨Tryz.f107.name,by decide,Tryz.func107.trans (congrArg some (by kernel_rfl))⟩
 f22:=⟨Tryz.f108.name,by decide,Tryz.func108.trans (congrArg some (by kernel_rfl))⟩
 f23:=⟨Tryz.f109.name,by decide,Tryz.func109.trans (congrArg some (by kernel_rfl))⟩
 f24:=⟨Tryz.f110.name,by decide,Tryz.func110.trans (congrArg some (by kernel_rfl))⟩
 f25:=⟨Tryz.f111.name,by decide,Tryz.func111.trans (congrArg some (by kernel_rfl))⟩
 f26:=⟨Tryz.f112.name,by decide,Tryz.func112.trans (congrArg some (by kernel_rfl))⟩
 f27:=⟨Tryz.f113.name,by decide,Tryz.func113.trans (congrArg some (by kernel_rfl))⟩
 f28:=Tryz.func114.trans (congrArg some (by kernel_rfl))
 f29:=Tryz.func115.trans (congrArg some (by kernel_rfl))
 f46:=⟨Tryz.f156.name,by decide,Tryz.func156.trans (congrArg some (by kernel_rfl))⟩
 f47:=Tryz.func157.trans (congrArg some (by kernel_rfl))
 f48:=Tryz.func158.trans (congrArg some (by kernel_rfl))
 f49:=⟨Tryz.f159.name,by decide,Tryz.func159.trans (congrArg some (by kernel_rfl))⟩
 f50:=⟨Tryz.f160.name,by decide,Tryz.func160.trans (congrArg some (by kernel_rfl))⟩
 f57:=⟨Tryz.f190.name,by decide,Tryz.func190.trans (congrArg some (by kernel_rfl))⟩
 t0:=Tryz.underlying0
 a0:=Tryz.isAgg0
 z0:=Tryz.sizeOf0
 v0:=Tryz.zeroValue0
 t3:=Tryz.underlying3
 a3:=Tryz.isAgg3
 z3:=Tryz.sizeOf3
 v3:=Tryz.zeroValue3
 t4:=Tryz.underlying4
 a4:=Tryz.isAgg4
 z4:=Tryz.sizeOf4
 v4:=Tryz.zeroValue4
 t5:=Tryz.underlying5
 a5:=Tryz.isAgg5
 z5:=Tryz.sizeOf5
 v5:=Tryz.zeroValue5
 t9:=Tryz.underlying9
 a9:=Tryz.isAgg9
 z9:=Tryz.sizeOf9
 v9:=Tryz.zeroValue9
 t22:=Tryz.underlying39
 a22:=Tryz.isAgg39
 z22:=Tryz.sizeOf39
 v22:=Tryz.zeroValue39
 t25:=Tryz.underlying103
 a25:=Tryz.isAgg103
 z25:=Tryz.sizeOf103
 v25:=Tryz.zeroValue103
 t39:=Tryz.underlying155
 a39:=Tryz.isAgg155
 z39:=Tryz.sizeOf155
 v39:=Tryz.zeroValue155
 t45:=Tryz.underlying219
 a45:=Tryz.isAgg219
 z45:=Tryz.sizeOf219
 v45:=Tryz.zeroValue219
 t46:=Tryz.underlying220
 a46:=Tryz.isAgg220
 z46:=Tryz.sizeOf220
 v46:=Tryz.zeroValue220
 t50:=Tryz.underlying224
 a50:=Tryz.isAgg224
 z50:=Tryz.sizeOf224
 v50:=Tryz.zeroValue224
 t53:=Tryz.underlying136
 a53:=Tryz.isAgg136
 z53:=Tryz.sizeOf136
 v53:=Tryz.zeroValue136
 t55:=Tryz.underlying199
 a55:=Tryz.isAgg199
 z55:=Tryz.sizeOf199
 v55:=Tryz.zeroValue199
 t66:=Tryz.underlying280
 a66:=Tryz.isAgg280
 z66:=Tryz.sizeOf280
 v66:=Tryz.zeroValue280
 t70:=Tryz.underlying284
 a70:=Tryz.isAgg284
 z70:=Tryz.sizeOf284
 v70:=Tryz.zeroValue284
 t76:=Tryz.underlying306
 a76:=Tryz.isAgg306
 z76:=Tryz.sizeOf306
 v76:=Tryz.zeroValue306
 t77:=Tryz.underlying307
 a77:=Tryz.isAgg307
 z77:=Tryz.sizeOf307
 v77:=Tryz.zeroValue307 }
end Go.Proofs
namespace Go.Proofs.YtinhekmmdlhfkaaGreatDoor
section
set_option maxHeartbeats 1000000
open Go.RowKit
set_option maxRecDepth 100000
def cfF (x y:List UInt8×List UInt8):Int:=if x.1 < y.1 then -1 else if y.1 < x.1 then 1 else 0
def encF (x:List UInt8×List UInt8):List Value:=[txv x.1,txv x.2]
theorem cfF_lt (x y:List UInt8×List UInt8):ltOf cfF x y=decide (x.1 < y.1):=by
 unfold ltOf cfF
 by_cases h:x.1 < y.1
 ·simp [h]
 ·by_cases h':y.1 < x.1<;>simp [h,h']
theorem cfF_swo:Go.Sort.SWO (ltOf cfF) where
 irrefl x:=by rw [cfF_lt];simp
 trans x y z h1 h2:=by
  rw [cfF_lt] at *
  simp only [decide_eq_true_eq] at *
  exact List.lt_trans h1 h2
 ntrans x y z h1 h2:=by
  rw [cfF_lt] at *
  simp only [decide_eq_false_iff_not,List.not_lt] at *
  exact List.le_trans h2 h1
theorem two_grow (w:World)(a b:Obj):(w.alloc a).alloc b=Go.Sort.grow (w.drewN 0) #[a,b]:=by
 show World.alloc (World.alloc w a) b=_
 unfold Go.Sort.grow World.alloc
 simp
 exact⟨by apply Array.ext';simp,rfl,rfl,rfl⟩
theorem cmp_any (x y:List UInt8×List UInt8)(w:World):
  Calls Tryz.prog 42 #[.agg #[txv x.1,txv x.2],.agg #[txv y.1,txv y.2]] w fun e w'=>e= .returned (.int .i64 (cfF x y))∧∃ q os',w'=Go.Sort.grow (w.drewN q) os':=by
 obtain⟨p,a⟩:=x
 obtain⟨q,b⟩:=y
 have hlt:Op.bytesLess p q=decide (p < q):=bytesLess_eq p q
 unfold txv
 simp only
 go_enter Tryz.func42,Tryz.ntmps42
 go_wp2_with fail
 ·go_ret
  rename_i h
  exact⟨congrArg (fun z=>Ending.returned (.int .i64 z)) (by unfold cfF;simp [h]),0,_,two_grow w _ _⟩
 ·go_ret
  rename_i h h'
  refine⟨congrArg (fun z=>Ending.returned (.int .i64 z)) ?_,0,_,two_grow w _ _⟩
  have hne:p≠q:=by simpa using h'
  have hgt:q < p:=by
   rcases List.le_iff_lt_or_eq.1 (List.not_lt.1 h) with h1 | h1
   ·exact h1
   ·exact absurd h1.symm hne
  unfold cfF
  simp [h,hgt]
 ·go_ret
  rename_i h h'
  refine⟨congrArg (fun z=>Ending.returned (.int .i64 z)) ?_,0,_,two_grow w _ _⟩
  have hne:p=q:=by simpa using h'
  subst hne
  unfold cfF
  simp only
  rw [if_neg h,if_neg h]
end
end Go.Proofs.YtinhekmmdlhfkaaGreatDoor
namespace Go.Proofs
open Go.Shelf
def Tryz.cloneFile_ren:Go.Shelf.Ren:=⟨fun | 41=>40 | n=>n,fun | 22=>39 | 23=>63 | 4=>4 | n=>n,fun | n=>n⟩
theorem Tryz.cloneFile:Go.Proofs.SlLaysE0.n41 Tryz.prog Tryz.cloneFile_ren:={
 mixed:=by kernel_rfl
 f41:=⟨Tryz.f40.name,by decide,Tryz.func40.trans (congrArg some (by kernel_rfl))⟩
 t4:=Tryz.underlying4
 a4:=Tryz.isAgg4
 z4:=Tryz.sizeOf4
 v4:=Tryz.zeroValue4
 t22:=Tryz.underlying39
 a22:=Tryz.isAgg39
 z22:=Tryz.sizeOf39
 v22:=Tryz.zeroValue39 }
end Go.Proofs
namespace Go.Proofs.YtinhekmmdlhfkaaGreatDoor
section
set_option maxHeartbeats 400000
open Go.RowKit Go.Lib Go.Sort
set_option maxRecDepth 100000
theorem fcells_one (fs:Fs):∀ u∈fcells fs,u.oneCell'=true:=by
 intro u hu
 unfold fcells at hu
 obtain⟨f,-,h⟩:=List.mem_flatMap.1 hu
 simp only [List.mem_cons,List.not_mem_nil,or_false] at h
 rcases h with rfl | rfl<;>rfl
theorem cloneF_any (fv:Value)(fs:Fs)(w:World)(hn:fs.length≤1000000000)(hf:w.ownsRow 0 63 2 fv fs.length (fcells fs)):
  Calls Tryz.prog 40 #[fv] w fun e w'=>∃ v',e= .returned v'∧Below w.heap.size w w'∧w'.ownsRow w.heap.size 63 2 v' fs.length (fcells fs):=by
 rcases hf.2 with ⟨rfl,h0⟩ | ⟨g,cap,cur,rfl,-,hgg,hn',hm,hs,ht⟩
 ·refine(AnyE.slices_Clone_nil Tryz.cloneFile 0 0 w).mono ?_
  rintro e w' ⟨rfl,rfl⟩
  exact⟨_,rfl,Below.refl _ _,hf.1,.inl ⟨rfl,h0⟩⟩
 ·obtain⟨i,hi,hi'⟩:=Option.map_eq_some_iff.1 infoFile
  obtain⟨hz0,hz1,hz2⟩:i.zero=some (.agg #[.string ⟨#[]⟩,.string ⟨#[]⟩])∧i.size=2∧i.bytes=32:=by simpa using hi'
  refine(AnyE.slices_Clone Tryz.cloneFile i (.agg #[.string ⟨#[]⟩,.string ⟨#[]⟩]) 2 32 hi hz0 hz1 hz2 rfl (by omega) Tryz.sizeOf63 g 0 fs.length cap (fcells fs) w hf.1 (by unfold maxLen;omega) (by omega) ?_ (fcells_one fs)).mono ?_
  ·intro j u hj
   rw [Nat.zero_add,cell_of_row _ _ _ _ _ _ hgg,← Array.getElem?_toList]
   rw [← ht] at hj
   rw [List.getElem?_take] at hj
   split at hj
   ·exact hj
   ·simp at hj
  ·rintro e w' ⟨v',rfl,ho,-,hb⟩
   exact⟨v',rfl,hb,ho⟩
theorem below_grow {B:Nat}{a w:World}(h:Below B a w)(hB:B≤a.heap.size)(os:Array Obj):Below B a (Go.Sort.grow w os) :=
 ⟨h.os,h.tape,h.output,by simp only [Go.Sort.grow,Array.size_append];have:=h.size;omega,fun k hk=>by
  rw [← h.block k hk]
  have:=h.size
  simp only [Go.Sort.grow]
  exact Array.getElem?_append_left (by omega)⟩
theorem fflat_at (fs:Fs)(j:Nat)(h:j < fs.length*2):(fcells fs)[j]?=some (flatK encF 2 fs.toArray)[j]! := by
 rw [get_flatK _ _ _ _ (by simpa using h)]
 have h2:j / 2 < fs.length:=by omega
 obtain⟨e0,e1⟩:=fcells_at fs (j / 2) h2
 have hg:fs.toArray[j / 2]! = fs[j / 2]:=by
  rw [getElem!_pos _ _ (by simpa using h2)]
  simp
 rw [hg]
 rcases Nat.mod_two_eq_zero_or_one j with hm | hm
 ·rw [hm]
  have hj:j / 2*2=j:=by omega
  rw [hj] at e0
  rw [e0]
  rfl
 ·rw [hm]
  have hj:j / 2*2+1=j:=by omega
  rw [hj] at e1
  rw [e1]
  rfl
theorem sortF_any (v:Value)(fs:Fs)(w0 w:World)(hn:fs.length≤1000000000)(hw:Below w0.heap.size w0 w)(ho:w.ownsRow w0.heap.size 63 2 v fs.length (fcells fs)):
  Calls Tryz.prog 41 #[v,.func (.func 42) #[] #[]] w fun e w'=>e= .returned (.tuple #[])∧∃ fs':Fs,fs'.Perm fs∧Fss w' v fs'∧Below w0.heap.size w0 w':=by
 rcases ho.2 with ⟨rfl,h0⟩ | ⟨g,cap,cur,rfl,hB,hgg,hn',hm,hs,ht⟩
 ·obtain rfl:fs=[]:=List.eq_nil_of_length_eq_zero h0
  refine(AnyF.slices_SortFunc_none Tryz.sortFile none 0 _ w).mono ?_
  rintro e w' ⟨rfl,rfl⟩
  exact⟨rfl,[],List.Perm.refl _,⟨none,0,rfl,Nat.le_refl _,.inl rfl⟩,hw⟩
 ·have eg:∀ args w,(callFunc 42 args).run Tryz.prog w= .ok (.enter 42 args) w:=enters_of Tryz.func42 (by kernel_rfl) rfl
  have hH:HoldsK encF 2 w g 0 fs.toArray:=by
   intro j hj
   rw [size_flatK] at hj
   have hj':j < fs.length*2:=by simpa using hj
   rw [Nat.zero_add]
   refine⟨?_,by simp [World.frozen?,hgg]⟩
   have e:=fflat_at fs j hj'
   rw [← ht,List.getElem?_take,if_pos (by omega),Array.getElem?_toList] at e
   rw [cell_of_row _ _ _ _ _ _ hgg]
   exact e
  have hcmp:CmpLays Tryz.prog 42 #[] encF 2 cfF g 0 fs.toArray.size w:=by
   intro m os dk hdk x y
   exact cmp_any x y _
  have hsz:fs.toArray.size=fs.length:=by simp
  have hcall:=AnyQ.slices_SortFunc Tryz.sortFile 2 Tryz.isAgg63 Tryz.sizeOf63 encF (fun _=>rfl) (fun x v hv=>by
   simp only [encF,List.mem_cons,List.not_mem_nil,or_false] at hv
   rcases hv with rfl | rfl<;>rfl) cfF cfF_swo 42 #[] g 0 cap fs.toArray w eg hcmp hH (heap_some_lt hgg) (by rw [hsz];omega)
  rw [hsz] at hcall
  refine hcall.mono ?_
  rintro e w' ⟨rfl,d',n,os,hp,-,rfl⟩
  have hd:d'.size=fs.length:=by rw [hp.1,hsz]
  have hperm:d'.toList.Perm fs:=by
   have h:=hp.2.2
   rw [Array.extract_eq_self_of_le (by omega),Array.extract_eq_self_of_le (by omega)] at h
   simpa using h
  have hlen:d'.toList.length=fs.length:=by simp [hd]
  have hHH:=holdsK_sortWorldK_c encF 2 w g 0 fs.toArray d' n os hH (heap_some_lt hgg) (by rw [hd,hsz])
  refine⟨rfl,d'.toList,hperm,⟨some ⟨g,0,none⟩,cap,by rw [hlen],by rw [hlen];exact hn',.inr ⟨g,0,rfl,fun i hi=>?_⟩⟩,below_grow (below_putRow hw hB) (Nat.le_refl _) _⟩
  rw [hlen] at hi
  have k0:=(hHH (i*2) (by rw [size_flatK];omega)).1
  have k1:=(hHH (i*2+1) (by rw [size_flatK];omega)).1
  rw [get_flatK _ _ _ _ (by omega)] at k0 k1
  rw [show i*2 / 2=i by omega,show i*2 % 2=0 by omega] at k0
  rw [show(i*2+1) / 2=i by omega,show(i*2+1) % 2=1 by omega] at k1
  rw [getElem!_pos d' i (by omega)] at k0 k1
  exact⟨k0,k1⟩
theorem files_any (O:Nat→Prop)(b:Nat)(d:Dk)(w:World)(hn:d.fs.length≤1000000000)(h:DiskAt w O b d):
  Calls Tryz.prog 24 #[dptr b] w fun r w'=>∃ v,∃ fs':Fs,r= .returned v∧fs'.Perm d.fs∧Fss w' v fs'∧Below w.heap.size w w':=by
 obtain⟨fv,hO,hb,hf,hg⟩:=h
 obtain⟨c0,f0⟩:=(dall hb).1
 have HF:=hide hf
 have hfi:=files_in hf
 clear hb hf hg hO f0
 obtain⟨a,cap,rfl,-⟩:=hfi
 have hmf:∀(fn:Fn) (first cap:Array Value) (w:World),(Instr.makeFunc fn first cap).run Tryz.prog w= .ok (.func fn first cap) w:=fun _ _ _ _=>rfl
 unfold dptr
 go_enter Tryz.func24,Tryz.ntmps24
 go_wp2_with fail
 refine(cloneF_any _ d.fs w hn HF.out).mono ?_
 rintro r w1 ⟨v',rfl,hb1,ho⟩
 have HB1:=hide hb1
 have HO:=hide ho
 have hfi:=files_in ho
 clear hb1 ho c0
 obtain⟨a',cap',rfl,-⟩:=hfi
 go_wp2_with fail
 refine(sortF_any _ d.fs w w1 hn HB1.out HO.out).mono ?_
 rintro r w2 ⟨rfl,fs',hp,hfs,hb2⟩
 have HP:=hide (And.intro hp (And.intro hfs hb2))
 clear hp hfs hb2
 go_wp2_with fail
 go_ret
 exact⟨_,fs',rfl,HP.out.1,HP.out.2.1,HP.out.2.2⟩
end
section
open Go.RowKit
set_option maxRecDepth 100000
end
section
open Go.RowKit
set_option maxRecDepth 100000
end
section
open Go.RowKit
set_option maxRecDepth 100000
structure Wd where
 key:List UInt8
 published:Int
 failed:Bool
 foreign:Bool
end
section
open Go.RowKit
set_option maxRecDepth 100000
end
section
set_option maxHeartbeats 1000000
open Go.RowKit
set_option maxRecDepth 100000
def LFree (w:World)(lb g:Nat):Prop:=∃(ev:Value) (n:Nat) (xs:List Value),w.cell? ⟨lb,2,none⟩=some ev∧w.ownsRow 0 76 1 ev n xs∧∀ x∈xs,x.ownBlock≠some g
theorem owns_same {w:World}{B B':Nat}{e:TypeId}{v:Value}{n n':Nat}{xs xs':List Value}(h:w.ownsRow B e 1 v n xs)(h':w.ownsRow B' e 1 v n' xs'):xs=xs':=by
 obtain⟨l1,h⟩:=h
 obtain⟨l2,h'⟩:=h'
 rcases h with ⟨rfl,rfl⟩ | ⟨g,cap,cur,rfl,-,hg,-,-,-,ht⟩
 ·rcases h' with ⟨-,rfl⟩ | ⟨g',cap',cur',e',-⟩
  ·rw [List.eq_nil_of_length_eq_zero (l:=xs) (by omega),List.eq_nil_of_length_eq_zero (l:=xs') (by omega)]
  ·simp at e'
 ·rcases h' with ⟨e',-⟩ | ⟨g',cap',cur',e',-,hg',-,-,-,ht'⟩
  ·simp at e'
  ·simp only [Value.slice.injEq,Option.some.injEq,Addr.mk.injEq,and_true] at e'
   obtain⟨rfl,rfl,rfl⟩:=e'
   rw [hg] at hg'
   simp only [Option.some.injEq,Obj.cells.injEq,and_true] at hg'
   rw [← ht,← ht',hg']
theorem LFree.fresh {w:World}{O:Nat→Prop}{db lb:Nat}{l:Lg}(h:LogAt w O db lb l)(g:Nat)(hg:w.heap.size≤g):LFree w lb g:=by
 obtain⟨ev,-,hb,⟨xs,ho,hx⟩,-⟩:=h
 refine⟨ev,l.es.length,xs,(dcell hb 2 _ rfl).1,ho,fun x hm e=>?_⟩
 obtain⟨j,hj,rfl⟩:=List.getElem_of_mem hm
 have hjl:j < l.es.length:=by rw [ho.1] at hj;omega
 obtain⟨y,e',hy⟩:=hx j hjl
 rw [List.getElem?_eq_getElem hj] at e'
 simp only [Option.some.injEq] at e'
 obtain⟨g',cap,hf,-,hl,-⟩:=hy.form
 rw [e',hf] at e
 simp only [Value.ownBlock,Option.some.injEq] at e
 omega
theorem LFree.below {w w':World}{lb g:Nat}(h:LFree w lb g)(hb:Below w.heap.size w w'):LFree w' lb g:=by
 obtain⟨ev,n,xs,hc,ho,hx⟩:=h
 exact⟨ev,n,xs,by rw [hb.cell (p:=⟨lb,2,none⟩) (cell_lt hc)];exact hc,ownsRow_below ho hb,hx⟩
theorem LogAt.clear {w w':World}{O:Nat→Prop}{db lb g:Nat}{l:Lg}{C:Array Value}{f:Nat×Nat}(h:LogAt w O db lb l)(hf:LFree w lb g)(hg:w.heap[g]?=some (.cells C 5 f))(hk:∀ k,k≠g→w'.heap[k]?=w.heap[k]?):LogAt w' O db lb l:=by
 obtain⟨ev,a,hb,⟨xs,ho,hx⟩,hgo⟩:=h
 obtain⟨ev2,n2,xs2,hc2,ho2,hx2⟩:=hf
 rw [(dcell hb 2 ev rfl).1] at hc2
 simp only [Option.some.injEq] at hc2
 subst hc2
 obtain rfl:=owns_same ho ho2
 have hne:∀(k:Nat) (c:Array Value) (t:TypeId) (x:Nat×Nat),w.heap[k]?=some (Obj.cells c t x)→t≠5→w'.heap[k]?=some (Obj.cells c t x):=fun k c t x e ht=>by
  rw [hk k (fun e'=>?_)]
  ·exact e
  ·subst e'
   rw [hg] at e
   simp only [Option.some.injEq,Obj.cells.injEq] at e
   exact ht e.2.1.symm
 refine⟨ev,a,hne _ _ _ _ hb (by decide),⟨xs,⟨ho.1,?_⟩,fun j hj=>?_⟩,hgo⟩
 ·rcases ho.2 with h | ⟨g',cap,cur,e1,e2,e3,r⟩
  ·exact .inl h
  ·exact .inr ⟨g',cap,cur,e1,e2,hne _ _ _ _ e3 (by decide),r⟩
 ·obtain⟨x,e,hob⟩:=hx j hj
  refine⟨x,e,⟨hob.1.1,?_⟩,hob.2⟩
  have hm:=hx2 x (List.mem_of_getElem? e)
  rcases hob.1.2 with h | ⟨g',cap,cur,e1,e2,e3,r⟩
  ·exact .inl h
  ·refine .inr ⟨g',cap,cur,e1,e2,?_,r⟩
   rw [hk g' (fun e'=>?_)]
   ·exact e3
   ·rw [e1,e'] at hm
    exact hm rfl
theorem lb_stays {w w3:World}{lb db n:Nat}{a:Option Addr}{cap:Nat}{l:Lg}{xs:List Value}(ho:w.ownsRow 0 76 1 (.slice a n cap) n xs)(hb:w.heap[lb]?=some (.cells (lcells db (.slice a n cap) l) 109 (0,0)))(hgr:w.grownBy w3 (Value.slice a n cap).ownBlock):w3.heap[lb]?=some (.cells (lcells db (.slice a n cap) l) 109 (0,0)):=by
 rw [hgr.block lb (heap_some_lt hb) (fun e=>?_)]
 ·exact hb
 ·rcases ho.2 with ⟨h,-⟩ | ⟨g,cp,cur,h,-,hg,-⟩
  ·simp at h;rw [h.1] at e;simp [Value.ownBlock] at e
  ·simp at h
   rw [h.1] at e
   simp only [Value.ownBlock,Option.some.injEq] at e
   subst e
   rw [hg] at hb
   simp at hb
theorem append_any (O:Nat→Prop)(W:World)(at_:Nat→Addr)(hSN:Sents W at_)(db lb:Nat)(l:Lg)(v:Value)(x:List UInt8)(w:World)(hW:Below W.heap.size W w)(he:l.es.length≤1000000)(h:LogAt w O db lb l)(hx:Bq w v x)(hxl:x.length≤9223372036854775807):
  Calls Tryz.prog 29 #[.pointer (some ⟨lb,0,none⟩),v] w fun r w'=>Turn O lT w w' ∧
   ((20 < x.length∧r= .returned (.tuple #[.int .i64 0,errS at_ 0])∧Below w.heap.size w w')∨(x.length≤20∧l.live=false∧r= .returned (.tuple #[.int .i64 0,errS at_ 6])∧Below w.heap.size w w') ∨
    (x.length≤20∧l.live=true∧r= .returned (.tuple #[.int .i64 (l.es.length:Int),.nilIface])∧LogAt w' (Ext O w w') db lb { l with es:=l.es++[x] }∧∀ g,g < w.heap.size→LFree w lb g→LFree w' lb g)):=by
 have HS:=hide (sents_below hSN hW)
 have HLG:=hide h
 have HX:=hide hx
 obtain⟨g,cap,C,fr,rfl,hcap,hg,hc⟩:=hx
 have HCC:=hide (And.intro hg hc)
 clear hSN hW h hg hc
 by_cases h20:20 < x.length
 ·have h0:=HS.out.entry
  go_enter Tryz.func29,Tryz.ntmps29
  go_wp2_with fail
  go_region
  all_goals go_wp2_with fail
  all_goals go_ret2
  all_goals exact⟨(Turn.refl _ _ _).drew,.inl ⟨h20,rfl,(Below.refl _ _).drew⟩⟩
 ·have h20':¬(20:Int) < (x.length:Int):=by omega
  cases hlv:l.live with
  | false =>
   have h6:=HS.out.failed
   go_enter Tryz.func29,Tryz.ntmps29
   go_wp2_with fail
   refine(failed_any O db lb l w HLG.out).mono ?_
   rintro r w1 ⟨rfl,rfl⟩
   rw [hlv]
   go_wp2_with fail
   go_region
   all_goals go_wp2_with fail
   all_goals go_ret2
   all_goals exact⟨(Turn.refl _ _ _).drew,.inr (.inl ⟨by omega,by first | rfl | trivial,rfl,(Below.refl _ _).drew⟩)⟩
  | true =>
   obtain⟨a,ecap,hb,hes,hgg,hO⟩:=lok HLG.out
   obtain⟨-,-,⟨c2,f2⟩,-⟩:=lall hb
   go_enter Tryz.func29,Tryz.ntmps29
   go_wp2_with fail
   refine(failed_any O db lb l w HLG.out).mono ?_
   rintro r w1 ⟨rfl,rfl⟩
   rw [hlv]
   have HLV:=hide hlv
   clear hlv
   obtain⟨i,hi,hi'⟩:=Option.map_eq_some_iff.1 infoBytes
   obtain⟨hz0,hz1,hz2⟩:i.zero=some (.slice none 0 0)∧i.size=1∧i.bytes=24:=by simpa using hi'
   clear hi'
   have HI:=hide hi
   have HZ:=hide (And.intro hz0 (And.intro hz1 hz2))
   clear hi hz0 hz1 hz2
   have HB:=hide hb
   have HES:=hide hes
   have HG:=hide hgg
   have HOL:=hide hO
   have hlt:=heap_some_lt hb
   obtain⟨xs,hoe,hxe⟩:=hes
   have HOE:=hide hoe
   have HXE:=hide hxe
   have HCL:Hid (∀ j u,(x.map bv)[j]?=some u→w1.drew.cell? ((⟨g,0,none⟩:Addr).add j)=some u):=fun j u hj=>by
    have hjl:j < x.length:=by simpa using (List.getElem?_eq_some_iff.1 hj).1
    rw [Addr.add_mid,Nat.zero_add]
    show w1.cell? ⟨g,j,none⟩=_
    rw [cell_of_row _ _ _ _ _ _ HCC.out.1,HCC.out.2 j hjl]
    simpa [hjl] using hj
   clear hb hgg hO hoe hxe
   go_wp2_with fail
   go_region_law (first
    | (go_simp;go_at_call 49;(refine(clone_any ⟨g,0,none⟩ x.length cap x w1.drew rfl (by omega) (by exact HCL.out)).mono ?_;rintro r w2 ⟨y,rfl,hob,hb2⟩;obtain⟨gy,cy,ny,rfl⟩:=ob_shape hob;have hbb:Below w1.heap.size w1 w2:=(Below.refl _ w1).drew.trans hb2;have m2:w2.cell? ⟨lb,2,none⟩=some (.slice a l.es.length ecap):=(by rw [hbb.cell (p:=⟨lb,2,none⟩) hlt];exact c2);have m2':∀ o,(w2.alloc o).cell? ⟨lb,2,none⟩=some (.slice a l.es.length ecap):=(fun o=>by rw [cell_old _ _ ⟨_,2,none⟩ (cell_lt m2)];exact m2);have HOB:=hide hob;have HBB:=hide hbb;have HO2:Hid (∀ o,(w2.alloc o).ownsRow 0 76 1 (.slice a l.es.length ecap) l.es.length xs):=(fun o=>ownsRow_below (ownsRow_below HOE.out hbb) (below_alloc w2 o));have HLB:Hid (∀ o w3,(w2.alloc o).grownBy w3 (Value.slice a l.es.length ecap).ownBlock→w3.heap[lb]?=some (.cells (lcells db (.slice a l.es.length ecap) l) 109 (0,0))):=(fun o w3 hgr=>lb_stays (HO2.out o) (heap_alloc_old (by rw [hbb.block _ hlt];exact HB.out)) hgr);clear hob hb2 hbb))
    | (refine step_append_lies _ (by rfl) _ _ _ (by rfl) 0 76 i (.slice none 0 0) 1 24 Tryz.underlying107 HI.out HZ.out.1 HZ.out.2.1 HZ.out.2.2 rfl (by omega) (.slice a l.es.length ecap) l.es.length xs (by rfl) (HO2.out _) ⟨w2.heap.size,0,none⟩ 1 1 [.slice (some ⟨gy,0,none⟩) ny cy] (by rfl) rfl (World.news_of_block (heap_alloc_last _ _)) (by simp [Value.oneCell']) (by omega) (by unfold maxLen;omega) (by omega) (by omega) (w2.heap.size+1) (by simp) ?_;intro g3 cap3 w3 hown hgrow hat hltg;have hb3:=HLB.out _ w3 hgrow;obtain⟨-,-,⟨k3,z3⟩,-⟩:=lall hb3;have HOW:=hide hown;have HGR:=hide hgrow;have HAT:=hide hat;have HB3:=hide hb3;clear hown hgrow hat hb3))
   all_goals
    have k6:=(dcell (dset HB3.out 2 (.slice (some ⟨g3,0,none⟩) (l.es.length+1) cap3)) 2 _ rfl).1
    go_wp2_with fail
    go_ret2
    have hbo:=HBB.out
    have hT2:Turn O lT w1 (w2.alloc (.cells #[.slice (some ⟨gy,0,none⟩) ny cy] 76)):=(Turn.of_below hbo).alloc _
    have hTe:Turn O [] w1 (w2.alloc (.cells #[.slice (some ⟨gy,0,none⟩) ny cy] 76)):=(Turn.of_below hbo).alloc _
    have hszz:w1.heap.size≤(w2.alloc (.cells #[.slice (some ⟨gy,0,none⟩) ny cy] 76)).heap.size:=hT2.size
    have hfin:=log_append (l:=l) (es:=l.es) (b:=[x]) (ys:=[.slice (some ⟨gy,0,none⟩) ny cy]) (hv:=0) (B:=w1.drew.heap.size) hT2 (.inl HOL.out) (fun g' hg'=> .inl (HG.out g' hg')) (HO2.out _)
     (fun j hj=>by
      obtain⟨z,e,hz⟩:=HXE.out j hj
      exact⟨z,e,ownsRow_turn hz.1 hTe (by decide),hz.2⟩)
     (fun j hj=>by
      obtain rfl:j=0:=by simpa using hj
      exact⟨_,rfl,HOB.out.below (below_alloc _ _)⟩)
     (Nat.zero_le _) rfl HOW.out ⟨HGR.out.os,HGR.out.tape,HGR.out.output,HGR.out.size,HGR.out.block⟩ (by have h:=HAT.out;simpa using h) HB3.out
    refine⟨hfin.1,.inr (.inr ⟨by omega,by first | rfl | trivial,congrArg (fun z=>Ending.returned (.tuple #[.int .i64 z,.nilIface])) (by simp),by have h9:=hfin.2.1;rw [HLV.out] at h9;exact h9,fun gf hgf hfr=>?_⟩)⟩
    obtain⟨ev2,n2,xs2,hc2,ho2,hx2⟩:=hfr
    rw [(dcell HB.out 2 _ rfl).1] at hc2
    simp only [Option.some.injEq] at hc2
    subst hc2
    obtain rfl:=owns_same HOE.out ho2
    refine⟨_,_,_,(dcell (dset HB3.out 2 (.slice (some ⟨g3,0,none⟩) (l.es.length+1) cap3)) 2 _ rfl).1,ownsRow_turn HOW.out ((Turn.refl (fun _=>True) [109] w3).set (.inl trivial) HB3.out (by simp) _) (by decide),fun z hz=>?_⟩
    rcases List.mem_append.1 hz with hz | hz
    ·exact hx2 z hz
    ·obtain rfl:z=_:=by simpa using hz
     obtain⟨gy',cy',hfm,hby,-,-⟩:=HOB.out.form
     simp only [Value.slice.injEq,Option.some.injEq,Addr.mk.injEq,and_true] at hfm
     have hby':w1.heap.size≤gy':=hby
     intro e9
     simp only [Value.ownBlock,Option.some.injEq] at e9
     omega
end
end Go.Proofs.YtinhekmmdlhfkaaGreatDoor
