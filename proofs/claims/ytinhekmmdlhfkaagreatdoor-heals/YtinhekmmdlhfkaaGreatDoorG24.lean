import Derived.Test.YtinhekmmdlhfkaaGreatDoorG23
import Derived.Test.YtinhekmmdlhfkaaGreatDoorG01
import Derived.Test.YtinhekmmdlhfkaaGreatDoorG21
import Derived.Test.YtinhekmmdlhfkaaGreatDoorG13
namespace Go.Proofs.YtinhekmmdlhfkaaGreatDoor
section
def HasAll (fs:Fs)(es:List (List UInt8))(size:Nat):Prop:=∀ f∈want (es.take size),look fs f.1=some f.2
theorem netF_plain (fs:Fs)(n:Nt)(h:n.lies=[])(p:List UInt8):netF fs n p=(match look fs p with
 | some d=>((d,true),{ n with fetches:=n.fetches+1 })
 | none=>(([],false),{ n with fetches:=n.fetches+1 })):=by
 unfold netF
 have:lieIx n p=none:=by unfold lieIx;rw [h];rfl
 simp only [this]
 cases look fs p<;>rfl
theorem netF_cnt (fs:Fs)(n:Nt)(p:List UInt8):(netF fs n p).2.fetches=n.fetches+1:=by
 unfold netF
 split
 ·rfl
 ·split<;>rfl
theorem tells_plain (fs:Fs):Tells (netF fs) (fun n=>n.lies=[]) (look fs):=by
 refine⟨fun n p h=>?_,fun n p h=>?_⟩
 ·rw [netF_plain fs n h]
  cases look fs p<;>rfl
 ·rw [netF_plain fs n h]
  cases look fs p<;>exact h
theorem tru_plain {fs:Fs}{es:List (List UInt8)}{size:Nat}(h20:∀ e∈es,e.length≤20)(hle:size≤es.length)(hlt:size < 4 ^ 21)(h:HasAll fs es size):Tru (netF fs) (fun n=>n.lies=[]) (look fs) es size:=by
 have h63:size < 2 ^ 63:=Nat.lt_of_lt_of_le hlt (by decide)
 refine⟨tells_plain fs,h20,hle,h63,fun l j w hl hj e=>?_⟩
 have hlen:(es.take size).length=size:=by simp;omega
 have hL:l≤20:=by
  rcases Int.lt_or_le 20 l with h' | h'
  ·exfalso
   have h1:4 ^ 21≤4 ^ l.toNat:=Nat.pow_le_pow_right (by omega) (by omega)
   have h2:cntL l size=0:=by unfold cntL;exact Nat.div_eq_of_lt (by omega)
   omega
  ·exact h'
 have hw:wid (cntL l size) (j / 4)=w:=by
  unfold placeN at e
  simp only [Prod.mk.injEq,true_and] at e
  unfold wid
  omega
 have hc:4*(j / 4)+w≤cntL l size:=by unfold wid at hw;omega
 have hmem:fileF (es.take size) l (cntL l size) (j / 4)∈want (es.take size):=by
  rw [mem_want,hlen]
  exact⟨l,j / 4,⟨hl,hL⟩,by omega,rfl⟩
 have:=h _ hmem
 unfold fileF at this
 simp only at this
 rw [hw,fileD_first es size l (j / 4) w hc hle] at this
 rw [e]
 exact this
def FromOf (fs:Fs)(es:List (List UInt8)):Prop:=∀ q x,look fs q=some x→q=cpF∨∃ n,n≤es.length∧(q,x)∈want (es.take n)
theorem FromOf.more {fs:Fs}{es:List (List UInt8)}(h:FromOf fs es)(more:List (List UInt8)):FromOf fs (es++more):=by
 intro q x hq
 rcases h q x hq with h | ⟨n,h1,h2⟩
 ·exact .inl h
 ·exact .inr ⟨n,by simp;omega,by rw [List.take_append_of_le_length h1];exact h2⟩
theorem FromOf.went {fs fs':Fs}{es:List (List UInt8)}{c:List UInt8}(h:FromOf fs es)(hw:Went (want es) c fs fs'):FromOf fs' es:=by
 intro q x hq
 rcases hw q with h1 | ⟨h1,h2⟩ | h1
 ·rw [h1] at hq;exact h q x hq
 ·obtain⟨y,hy,e⟩:=h2
  rw [hq] at e
  simp only [Option.some.injEq] at e
  exact .inr ⟨es.length,Nat.le_refl _,by rw [List.take_length,e];exact hy⟩
 ·exact .inl h1.1
theorem FromOf.noClash {fs:Fs}{es:List (List UInt8)}(h:FromOf fs es)(hl:es.length≤1000000):NoClash fs (want es):=by
 intro q x hx
 cases hq:look fs q with
 | none=>exact .inl rfl
 | some y =>
  right
  rcases h q y hq with rfl | ⟨n,hn,hy⟩
  ·exact absurd hx ((want_fine hl).2 x)
  ·obtain⟨l,j,h1,h2,h3⟩:=mem_want.1 hx
   obtain⟨l',j',h1',h2',h3'⟩:=mem_want.1 hy
   unfold fileF at h3 h3'
   simp only [Prod.mk.injEq] at h3 h3'
   have hlen:(es.take n).length=n:=by simp;omega
   rw [hlen] at h2' h3'
   have c1:=cntL_le l es.length
   have c2:=cntL_le l' n
   obtain⟨rfl,ej,ew⟩:=nameF_inj (good_file h1 h2) (good_file h1' h2') (by omega) (by omega) (h3.1.symm.trans h3'.1)
   have ej':j=j':=by omega
   subst ej'
   have ew':wid (cntL l es.length) j=wid (cntL l n) j:=by omega
   rw [h3.2,h3'.2,ew',fileD_first es n l j _ (by unfold wid;omega) hn]
end
section
set_option maxHeartbeats 4000000
open Go.RowKit
set_option maxRecDepth 100000
attribute [local go_sem ↓] loadM_fold storeM_fold loadP_fold storeP_fold buildP_fold buildF_fold loadH_fold storeH_fold
structure NSt (d:Dk)(n:Nt):Prop where
 nf:d.fs.length≤1000000000
 fl:∀ f∈d.fs,f.2.length≤1000000000
 ly:∀ l∈n.lies,l.data.length≤1000000000
 ll:n.lies.length≤1000000000
 fe:0≤n.fetches
 td:∀ t∈n.told,0≤t∧t≤n.fetches
theorem NSt.ok {d:Dk}{n:Nt}(h:NSt d n)(hf:n.fetches < 4611686018427387904):NOk d n :=
 ⟨h.nf,h.fl,h.ly,h.ll,⟨h.fe,hf⟩,fun t ht=>⟨(h.td t ht).1,by have:=(h.td t ht).2;omega⟩⟩
theorem NSt.step {d:Dk}{n:Nt}(h:NSt d n)(p:List UInt8):NSt d (netF d.fs n p).2:=by
 have hfe:=h.fe
 unfold netF
 split
 ·rename_i k hk
  refine⟨h.nf,h.fl,h.ly,h.ll,by show 0≤n.fetches+1;omega,fun t ht=>?_⟩
  simp only at ht ⊢
  rcases List.mem_or_eq_of_mem_set ht with ht | rfl
  ·have:=h.td t ht;omega
  ·have hg:0≤n.told.getD k 0∧n.told.getD k 0≤n.fetches:=by
    by_cases hk2:k < n.told.length
    ·rw [List.getD_eq_getElem?_getD,List.getElem?_eq_getElem hk2]
     exact h.td _ (List.getElem_mem hk2)
    ·rw [List.getD_eq_getElem?_getD,List.getElem?_eq_none (by omega)]
     exact⟨Int.le_refl _,hfe⟩
   omega
 ·split
  ·exact⟨h.nf,h.fl,h.ly,h.ll,by show 0≤n.fetches+1;omega,fun t ht=>by have:=h.td t ht;show 0≤t∧t≤n.fetches+1;omega⟩
  ·exact⟨h.nf,h.fl,h.ly,h.ll,by show 0≤n.fetches+1;omega,fun t ht=>by have:=h.td t ht;show 0≤t∧t≤n.fetches+1;omega⟩
theorem NSt.place {d:Dk}{n:Nt}(h:NSt d n)(p:Pl):NSt d (placeM (netF d.fs) n p).2:=h.step _
theorem NSt.file {d:Dk}{n:Nt}(h:NSt d n)(p:Pl):NSt d (fileM (netF d.fs) n p).2:=by
 cases hp:(placeM (netF d.fs) n p).1 with
 | some f=>rw [fileM_some hp];exact h.place p
 | none =>
  by_cases h4:p.2.2=4
  ·rw [fileM_none4 hp h4];exact h.place p
  ·rw [fileM_none hp h4];exact(h.place p).place _
theorem place_cnt (fs:Fs)(n:Nt)(p:Pl):(placeM (netF fs) n p).2.fetches=n.fetches+1:=netF_cnt fs n _
theorem file_cnt (fs:Fs)(n:Nt)(p:Pl):n.fetches+1≤(fileM (netF fs) n p).2.fetches∧(fileM (netF fs) n p).2.fetches≤n.fetches+2:=by
 have a1:=place_cnt fs n p
 cases hp:(placeM (netF fs) n p).1 with
 | some f=>rw [fileM_some hp];simp only;omega
 | none =>
  by_cases h4:p.2.2=4
  ·rw [fileM_none4 hp h4];simp only;omega
  ·rw [fileM_none hp h4]
   have a2:=place_cnt fs (placeM (netF fs) n p).2 (p.1,p.2.1,4)
   simp only
   omega
theorem slice_file (b k:Nat)(h0:0 < k)(h4:k < 4)(w:World):(Instr.sliceAt 130 (.pointer (some ⟨b,0,none⟩)) (some (.int .i64 k)) none none).run Tryz.prog w= .ok (.slice (some ⟨b,k*11,none⟩) (4 - k) (4 - k)) w:=by
 match k,h0,h4 with
 | 1,_,_=>simp [go_sem,Tryz.underlying130]
 | 2,_,_=>simp [go_sem,Tryz.underlying130]
 | 3,_,_=>simp [go_sem,Tryz.underlying130]
theorem clip_ok {xs:List Px}(h:FOk xs){k:Nat}(hk:k≤4):FOk (xs.take k++List.replicate (4 - k) .no):=by
 refine⟨by simp [h.1];omega,fun x hx=>?_⟩
 rcases List.mem_append.1 hx with hx | hx
 ·exact h.2 x (List.mem_of_mem_take hx)
 ·exact rep_ok _ x hx
abbrev TCli:Nat:=142
theorem ffile_any (W0:World)(at_:Nat→Addr)(O:Nat→Prop)(nb db cb:Nat)(n:Nt)(d:Dk)(l ix:Int)(k:Nat)(hk0:0 < k)(hk:k≤4)(hix:ix≤9223372036854775807)(w:World)(hW:Below W0.heap.size W0 w)(hE:Env W0)(hS:Sents W0 at_)
  (hO:∀ b,O b→W0.heap.size≤b) (hok:NSt d n) (hfin:(fileM (netF d.fs) n (l,ix,(k:Int))).2.fetches < 4611686018427387904) (hD:DiskAt w O db d) (hN:NetAt w O nb db n) (C:Array Value) (hc:w.heap[cb]?=some (.cells C TCli (0,0))) (hC:C[2]?=some (netV nb)) :
  Calls Tryz.prog 151 #[ptrV cb,plV (l,ix,k)] w fun r w'=>Turn O nT w w'∧NetAt w' O nb db (fileM (netF d.fs) n (l,ix,k)).2∧GotF at_ w.heap.size (nameF l ix k) w' (fileM (netF d.fs) n (l,ix,k)).1 r:=by
 have hfi:=(file_cnt d.fs n (l,ix,(k:Int))).1
 have H0:Hid (Below w.heap.size w ((w.alloc (.cells #[.int .i64 l,.int .i64 ix,.int .i64 k] 126)).alloc (.cells noVA TFile))∧((w.alloc (.cells #[.int .i64 l,.int .i64 ix,.int .i64 k] 126)).alloc (.cells noVA TFile)).heap[w.heap.size]?=some (.cells #[.int .i64 l,.int .i64 ix,.int .i64 k] 126 (0,0))∧FileAt ((w.alloc (.cells #[.int .i64 l,.int .i64 ix,.int .i64 k] 126)).alloc (.cells noVA TFile)) (w.heap.size+1) Fx.no):=by
  refine⟨below_alloc2 _ _ _,heap_alloc_old (heap_alloc_last _ _),?_⟩
  have:=heap_alloc_last (w.alloc (.cells #[.int .i64 l,.int .i64 ix,.int .i64 k] 126)) (.cells noVA TFile)
  rw [show(w.alloc (.cells #[.int .i64 l,.int .i64 ix,.int .i64 k] 126)).heap.size=w.heap.size+1 by simp] at this
  exact this
 have HW:=hide hW
 have HE:=hide hE
 have HS:=hide hS
 have HO:=hide hO
 have HOK:=hide hok
 have HFIN:=hide hfin
 have HD:=hide hD
 have HN:=hide hN
 have HC:=hide hc
 have HC2:=hide hC
 have hlt:n.fetches < 4611686018427387904:=by omega
 have HLT:=hide hlt
 clear hW hE hS hO hok hD hN hc hC hfin hfi hlt
 unfold plV
 simp only
 unfold ptrV
 go_enter Tryz.func151,Tryz.ntmps151
 go_wp2_with fail
 generalize (w.alloc (.cells #[.int .i64 l,.int .i64 ix,.int .i64 k] 126)).alloc (.cells noVA TFile)=W1 at *
 have hW1:Below W0.heap.size W0 W1:=HW.out.trans (H0.out.1.mono HW.out.size)
 have hT1:Turn O nT w W1:= .of_below H0.out.1
 have HC1:Hid (W1.heap[cb]?=some (.cells C TCli (0,0))):=hT1.keep HC.out (by decide)
 have HF:=hide (fplace_any W0 at_ O nb db cb n d l ix k hk0 hk hix W1 hW1 HE.out HS.out HO.out (HOK.out.ok HLT.out) (HD.out.stay hT1 (by decide) (by decide)) (HN.out.below H0.out.1) (by obtain⟨x,-⟩:=dcell HC1.out 2 _ HC2.out;exact x))
 have HT1:=hide hT1
 have HB1:=hide H0.out.1
 have HP1:=hide H0.out.2
 have HPC:=hide (place_cnt d.fs n (l,ix,(k:Int)))
 have HSP:=hide (HOK.out.place (l,ix,(k:Int)))
 have HW1:=hide hW1
 have HM1:Hid (∀ f,(placeM (netF d.fs) n (l,ix,(k:Int))).1=some f→fileM (netF d.fs) n (l,ix,(k:Int))=(some f,(placeM (netF d.fs) n (l,ix,(k:Int))).2)):=fun f h=>fileM_some h
 have HM2:Hid ((placeM (netF d.fs) n (l,ix,(k:Int))).1=none→k=4→fileM (netF d.fs) n (l,ix,(k:Int))=(none,(placeM (netF d.fs) n (l,ix,(k:Int))).2)):=fun h h4=>fileM_none4 h (by show(k:Int)=4;omega)
 have HM3:Hid ((placeM (netF d.fs) n (l,ix,(k:Int))).1=none→k≠4→fileM (netF d.fs) n (l,ix,(k:Int))=(((placeM (netF d.fs) (placeM (netF d.fs) n (l,ix,(k:Int))).2 (l,ix,4)).1).map (clipF k),(placeM (netF d.fs) (placeM (netF d.fs) n (l,ix,(k:Int))).2 (l,ix,4)).2)):=fun h h4=>fileM_none h (by show(k:Int)≠4;omega)
 unfold plV ptrV at HF
 simp only at HF
 generalize hPN:nameF l ix k=pn at *
 generalize hFM:fileM (netF d.fs) n (l,ix,(k:Int))=FM at *
 have HFM:=hide hFM
 have HPN:=hide hPN
 generalize hPM:placeM (netF d.fs) n (l,ix,(k:Int))=PM at *
 obtain⟨o1,n1⟩:=PM
 simp only at *
 clear hPM hPN hFM H0 hW1 hT1
 go_wp2_with fail
 refine HF.out.mono ?_
 rintro r w2 ⟨ht2,hN2,hg2⟩
 have hT2:Turn O nT w w2:=HT1.out.trans (ht2.mono (fun _ h=> .inl h) (fun _ h=>h))
 have HT2:=hide hT2
 have hp2:w2.heap[w.heap.size]?=some (.cells #[.int .i64 l,.int .i64 ix,.int .i64 k] 126 (0,0)):=ht2.keep HP1.out.1 (by decide)
 have hf2:FileAt w2 (w.heap.size+1) Fx.no:=ht2.keep HP1.out.2 (by decide)
 have HP2:=hide hp2
 have HF2:=hide hf2
 have HN2:=hide hN2
 have HW2:Hid (Below W0.heap.size W0 w2):=HW1.out.trans (ht2.below HO.out HW1.out.size)
 have HC2':Hid (w2.heap[cb]?=some (.cells C TCli (0,0))):=ht2.keep HC1.out (by decide)
 have HZ:Hid (w.heap.size≤W1.heap.size):=HB1.out.size
 have hw2:w.heap.size+1 < w2.heap.size:=heap_some_lt hf2
 clear ht2 hN2 hT2 HF
 have HG:Hid (∀ xs,FOk xs→(storeM (.pointer (some ⟨w2.heap.size,0,none⟩)) (.agg (fcs xs).toArray)).run Tryz.prog (w2.alloc (.cells noVA TFile))= .ok () ((w2.alloc (.cells noVA TFile)).setCells w2.heap.size 0 (fcs xs))∧FileAt ((w2.alloc (.cells noVA TFile)).setCells w2.heap.size 0 (fcs xs)) w2.heap.size xs∧Below w2.heap.size w2 ((w2.alloc (.cells noVA TFile)).setCells w2.heap.size 0 (fcs xs))):=by
  intro xs hx
  have hf4:FileAt (w2.alloc (.cells noVA TFile)) w2.heap.size Fx.no:=heap_alloc_last _ _
  exact⟨storeM_of (file_there hf4 Fx.no_ok) hx.len (fcs_one hx.2),file_whole hf4 Fx.no_ok hx,below_setCells (below_alloc _ _) (Nat.le_refl _) _ _⟩
 rcases hg2 with ⟨xs,f,rfl,hxk,hxi,rfl⟩ | ⟨rfl,g,hgs,hgb,rfl⟩
 ·have hm:=HM1.out f rfl
  subst hm
  simp only
  obtain⟨hst1,hf5,hb5⟩:=HG.out xs hxk
  have HF5:=hide hf5
  have HB5:=hide hb5
  have HXK:=hide hxk
  have HXI:=hide hxi
  clear hf5 hb5 hxk hxi HM1 HM2 HM3 HG
  have hgt:((w2.alloc (.cells noVA TFile)).setCells w2.heap.size 0 (fcs xs)).cell? ⟨6,0,none⟩=some (.iface 326 (.pointer (some (at_ 5)))):=by
   have hb0:=HW2.out.trans (HB5.out.mono HW2.out.size)
   exact(HS.out.below hb0).tile
  go_wp2_with fail
  generalize (w2.alloc (.cells noVA TFile)).setCells w2.heap.size 0 (fcs xs)=W5 at *
  have hp5:W5.heap[w.heap.size]?=some (.cells #[.int .i64 l,.int .i64 ix,.int .i64 k] 126 (0,0)):=(HB5.out.block _ (heap_some_lt HP2.out)).trans HP2.out
  have hf5:FileAt W5 (w.heap.size+1) Fx.no:=(HB5.out.block _ (heap_some_lt HF2.out)).trans HF2.out
  have hld:=loadM_of (range_row HF5.out) HXK.out.len
  have hst2:=storeM_of (file_there hf5 Fx.no_ok) HXK.out.len (fcs_one HXK.out.2)
  have HW6:=hide (file_whole hf5 Fx.no_ok HXK.out)
  have HT5:=hide (HT2.out.then_below HB5.out)
  have HT6:=hide (HT5.out.setCellsNew (Nat.le_succ w.heap.size) (fcs xs) 0)
  have HTN:=hide ((Turn.refl (fun b=>b=w.heap.size+1) [TFile] _).setCells (.inl rfl) hf5 (by simp) (fcs xs) 0)
  have HN5:=hide (HN2.out.below HB5.out)
  have HX5:=hide (HXI.out.below HB5.out)
  clear hf5 hp5
  refine(is_nil (at_ 5) W5).mono ?_
  rintro r w6 ⟨rfl,rfl⟩
  go_wp2_with fail
  refine bodyPost_ret (v:= .tuple #[.agg (fcs xs).toArray,.nilIface]) (results_cell_tmp Tryz.results151 _ _ (w.heap.size+1) TFile _ (0,0) _ rfl HW6.out Tryz.underlying130 rfl (by rw [infoFil,List.size_toArray,HXK.out.len]) _ rfl) rfl ⟨HT6.out,by rw [HFM.out];exact HN5.out.turn HTN.out (by decide) (by decide) (by decide),by rw [HFM.out,HPN.out];exact .inl ⟨xs,f,rfl,HXK.out,HX5.out.turn HTN.out (by decide),rfl⟩⟩
 ·obtain⟨hst1,hf5,hb5⟩:=HG.out Fx.no Fx.no_ok
  have HF5:=hide hf5
  have HB5:=hide hb5
  have HGB:=hide hgb
  have HGS:=hide hgs
  clear hf5 hb5 HG hgb hgs HM1
  have hgt:((w2.alloc (.cells noVA TFile)).setCells w2.heap.size 0 (fcs Fx.no)).cell? ⟨6,0,none⟩=some (.iface 326 (.pointer (some (at_ 5)))):=by
   have hb0:=HW2.out.trans (HB5.out.mono HW2.out.size)
   exact(HS.out.below hb0).tile
  go_wp2_with fail
  generalize (w2.alloc (.cells noVA TFile)).setCells w2.heap.size 0 (fcs Fx.no)=W5 at *
  have HG5:Hid (W5.heap[g]?=some (.cells #[txv pn,errS at_ 5] 115 (0,0))):=(HB5.out.block _ (heap_some_lt HGB.out)).trans HGB.out
  have hp5:W5.heap[w.heap.size]?=some (.cells #[.int .i64 l,.int .i64 ix,.int .i64 k] 126 (0,0)):=(HB5.out.block _ (heap_some_lt HP2.out)).trans HP2.out
  have HFR:Hid (FileAt W5 (w.heap.size+1) Fx.no):=(HB5.out.block _ (heap_some_lt HF2.out)).trans HF2.out
  have HT5:=hide (HT2.out.then_below HB5.out)
  have HN5:=hide (HN2.out.below HB5.out)
  have HC5:Hid (W5.heap[cb]?=some (.cells C TCli (0,0))):=(HB5.out.block _ (heap_some_lt HC2'.out)).trans HC2'.out
  have HW5:Hid (Below W0.heap.size W0 W5):=HW2.out.trans (HB5.out.mono HW2.out.size)
  have HD5:Hid (DiskAt W5 O db d):=HD.out.stay HT5.out (by decide) (by decide)
  have p0:W5.cell? ⟨w.heap.size,0,none⟩=some (.int .i64 l):=(dcell hp5 0 _ rfl).1
  have p1:W5.cell? ⟨w.heap.size,1,none⟩=some (.int .i64 ix):=(dcell hp5 1 _ rfl).1
  have p2:W5.cell? ⟨w.heap.size,2,none⟩=some (.int .i64 k):=(dcell hp5 2 _ rfl).1
  have HP5:=hide hp5
  clear hp5
  by_cases h4:k=4
  ·have hm:=HM2.out trivial h4
   subst hm
   have p2':W5.cell? ⟨w.heap.size,2,none⟩=some (.int .i64 4):=by rw [p2,h4];rfl
   clear p2
   have hld:=loadM_of (range_row HF5.out) Fx.no_ok.len
   have hst2:=storeM_of (file_there HFR.out Fx.no_ok) Fx.no_ok.len (fcs_one Fx.no_ok.2)
   have HW6:=hide (file_whole HFR.out Fx.no_ok Fx.no_ok)
   have HT6:=hide (HT5.out.setCellsNew (Nat.le_succ w.heap.size) (fcs Fx.no) 0)
   have HTN:=hide ((Turn.refl (fun b=>b=w.heap.size+1) [TFile] _).setCells (.inl rfl) HFR.out (by simp) (fcs Fx.no) 0)
   refine(is_path g (at_ 5) W5 (by exact(dcell HG5.out 1 _ rfl).1)).mono ?_
   rintro r w6 ⟨rfl,rfl⟩
   go_wp2_with fail
   refine bodyPost_ret (v:= .tuple #[.agg (fcs Fx.no).toArray,pathE g]) (results_cell_tmp Tryz.results151 _ _ (w.heap.size+1) TFile _ (0,0) _ rfl HW6.out Tryz.underlying130 rfl (by rw [infoFil,List.size_toArray,Fx.no_ok.len]) _ rfl) rfl ⟨HT6.out,by rw [HFM.out];exact HN5.out.turn HTN.out (by decide) (by decide) (by decide),by rw [HFM.out,HPN.out];exact .inr ⟨rfl,g,Nat.le_trans HZ.out HGS.out,HTN.out.keep HG5.out (by decide),rfl⟩⟩
  ·have hm:=HM3.out trivial h4
   subst hm
   have h4d:((k:Int)==4)=false:=by simpa using (by omega:¬(k:Int)=4)
   have HFI:=hide HFIN.out
   have HF:=hide (fplace_any W0 at_ O nb db cb n1 d l ix 4 (by omega) (by omega) hix W5 HW5.out HE.out HS.out HO.out (HSP.out.ok (by have:=HFIN.out;have:=place_cnt d.fs n1 (l,ix,(4:Int));simp only at *;omega)) HD5.out HN5.out (by obtain⟨x,-⟩:=dcell HC5.out 2 _ HC2.out;exact x))
   have HK3:Hid (0 < k∧k < 4):=⟨hk0,by omega⟩
   clear HFIN HM2 HM3 hk0 hk h4
   unfold plV ptrV at HF
   simp only at HF
   rw [show((4:Nat):Int)=4 from rfl] at HF
   generalize hPM2:placeM (netF d.fs) n1 (l,ix,(4:Int))=PM2 at *
   clear hPM2
   obtain⟨o2,n2⟩:=PM2
   simp only at *
   refine(is_path g (at_ 5) W5 (by exact(dcell HG5.out 1 _ rfl).1)).mono ?_
   rintro r w6 ⟨rfl,rfl⟩
   go_wp2_with fail
   refine HF.out.mono ?_
   rintro r w7 ⟨ht7,hN7,hg7⟩
   have HT7:=hide (HT5.out.trans (ht7.mono (fun _ h=> .inl h) (fun _ h=>h)))
   have HG7:Hid (w7.heap[g]?=some (.cells #[txv pn,errS at_ 5] 115 (0,0))):=ht7.keep HG5.out (by decide)
   have HP7:Hid (w7.heap[w.heap.size]?=some (.cells #[.int .i64 l,.int .i64 ix,.int .i64 k] 126 (0,0))):=ht7.keep HP5.out (by decide)
   have HFR7:Hid (FileAt w7 (w.heap.size+1) Fx.no):=ht7.keep HFR.out (by decide)
   have HN7:=hide hN7
   clear ht7 hN7 p0 p1 p2 hgt HF
   have HG:Hid (∀ xs,FOk xs→(storeM (.pointer (some ⟨w7.heap.size,0,none⟩)) (.agg (fcs xs).toArray)).run Tryz.prog (w7.alloc (.cells noVA TFile))= .ok () ((w7.alloc (.cells noVA TFile)).setCells w7.heap.size 0 (fcs xs))∧FileAt ((w7.alloc (.cells noVA TFile)).setCells w7.heap.size 0 (fcs xs)) w7.heap.size xs∧Below w7.heap.size w7 ((w7.alloc (.cells noVA TFile)).setCells w7.heap.size 0 (fcs xs))):=by
    intro xs hx
    have hf4:FileAt (w7.alloc (.cells noVA TFile)) w7.heap.size Fx.no:=heap_alloc_last _ _
    exact⟨storeM_of (file_there hf4 Fx.no_ok) hx.len (fcs_one hx.2),file_whole hf4 Fx.no_ok hx,below_setCells (below_alloc _ _) (Nat.le_refl _) _ _⟩
   rcases hg7 with ⟨xs,f,rfl,hxk,hxi,rfl⟩ | ⟨rfl,g2,hgs,hgb,rfl⟩
   ·obtain⟨hst8,hf8,hb8⟩:=HG.out xs hxk
    have HF8:=hide hf8
    have HB8:=hide hb8
    have HXK:=hide hxk
    have HXI:=hide hxi
    have p2:((w7.alloc (.cells noVA TFile)).setCells w7.heap.size 0 (fcs xs)).cell? ⟨w.heap.size,2,none⟩=some (.int .i64 k):=(dcell ((hb8.block _ (heap_some_lt HP7.out)).trans HP7.out) 2 _ rfl).1
    have hw7:w.heap.size+1 < w7.heap.size:=heap_some_lt HFR7.out
    have hsl:=slice_file w7.heap.size k HK3.out.1 HK3.out.2 ((w7.alloc (.cells noVA TFile)).setCells w7.heap.size 0 (fcs xs))
    have hcl:=fun ty=>clear_any HXK.out HK3.out.1 HK3.out.2 HF8.out (4 - k) ty
    have hc1:=fun ty=>(hcl ty).1
    have HF9:=hide (hcl 0).2
    have hk9:=clip_ok hxk (Nat.le_of_lt HK3.out.2)
    have HK9:=hide hk9
    have hld:=loadM_of (range_row HF9.out) hk9.len
    have HB9:Hid (Below w7.heap.size w7 (((w7.alloc (.cells noVA TFile)).setCells w7.heap.size 0 (fcs xs)).setCells w7.heap.size (k*11) (fcs (List.replicate (4 - k) .no)))):=below_setCells HB8.out (Nat.le_refl _) _ _
    have hfr:FileAt (((w7.alloc (.cells noVA TFile)).setCells w7.heap.size 0 (fcs xs)).setCells w7.heap.size (k*11) (fcs (List.replicate (4 - k) .no))) (w.heap.size+1) Fx.no:=(HB9.out.block _ hw7).trans HFR7.out
    have hst9:=storeM_of (file_there hfr Fx.no_ok) hk9.len (fcs_one hk9.2)
    have HW9:=hide (file_whole hfr Fx.no_ok hk9)
    have HTN:=hide ((Turn.refl (fun b=>b=w.heap.size+1) [TFile] _).setCells (.inl rfl) hfr (by simp) (fcs (xs.take k++List.replicate (4 - k) .no)) 0)
    have HT9:=hide ((HT7.out.then_below HB9.out).setCellsNew (Nat.le_succ w.heap.size) (fcs (xs.take k++List.replicate (4 - k) .no)) 0)
    have HN9:=hide (HN7.out.below HB9.out)
    have HX9:=hide (clip_is (HXI.out.below HB9.out) (Nat.le_of_lt HK3.out.2))
    clear hf8 hb8 hxk hxi HG hcl hk9 hfr
    go_wp2_with fail
    refine bodyPost_ret (v:= .tuple #[.agg (fcs (xs.take k++List.replicate (4 - k) .no)).toArray,.nilIface]) (results_cell_tmp Tryz.results151 _ _ (w.heap.size+1) TFile _ (0,0) _ rfl HW9.out Tryz.underlying130 rfl (by rw [infoFil,List.size_toArray,HK9.out.len]) _ rfl) rfl ⟨HT9.out,by rw [HFM.out];exact HN9.out.turn HTN.out (by decide) (by decide) (by decide),by rw [HFM.out,HPN.out];exact .inl ⟨_,_,rfl,HK9.out,HX9.out.turn HTN.out (by decide),rfl⟩⟩
   ·obtain⟨hst8,hf8,hb8⟩:=HG.out Fx.no Fx.no_ok
    have HB8:=hide hb8
    have hw7:w.heap.size+1 < w7.heap.size:=heap_some_lt HFR7.out
    have hfr:FileAt ((w7.alloc (.cells noVA TFile)).setCells w7.heap.size 0 (fcs Fx.no)) (w.heap.size+1) Fx.no:=(hb8.block _ hw7).trans HFR7.out
    have hst9:=storeM_of (file_there hfr Fx.no_ok) Fx.no_ok.len (fcs_one Fx.no_ok.2)
    have HW9:=hide (file_whole hfr Fx.no_ok Fx.no_ok)
    have HTN:=hide ((Turn.refl (fun b=>b=w.heap.size+1) [TFile] _).setCells (.inl rfl) hfr (by simp) (fcs Fx.no) 0)
    have HT9:=hide ((HT7.out.then_below HB8.out).setCellsNew (Nat.le_succ w.heap.size) (fcs Fx.no) 0)
    have HN9:=hide (HN7.out.below HB8.out)
    have HG9:Hid (((w7.alloc (.cells noVA TFile)).setCells w7.heap.size 0 (fcs Fx.no)).heap[g]?=some (.cells #[txv pn,errS at_ 5] 115 (0,0))):=(hb8.block _ (heap_some_lt HG7.out)).trans HG7.out
    have hbf:=fun w0=>buildF_no w0
    rw [noV_fcs] at hbf
    clear hf8 hb8 HG hgs hgb hfr
    unfold pathE
    go_wp2_with fail
    refine bodyPost_ret (v:= .tuple #[.agg (fcs Fx.no).toArray,pathE g]) (results_cell_tmp Tryz.results151 _ _ (w.heap.size+1) TFile _ (0,0) _ rfl HW9.out Tryz.underlying130 rfl (by rw [infoFil,List.size_toArray,Fx.no_ok.len]) _ rfl) rfl ⟨HT9.out,by rw [HFM.out];exact HN9.out.turn HTN.out (by decide) (by decide) (by decide),by rw [HFM.out,HPN.out];exact .inr ⟨rfl,g,Nat.le_trans HZ.out HGS.out,HTN.out.keep HG9.out (by decide),rfl⟩⟩
end
section
set_option maxHeartbeats 4000000
open Go.RowKit
set_option maxRecDepth 100000
theorem forgetN_raw (O:Nat→Prop)(mb hb eb:Nat)(room:Int)(l:Ks)(o n:Option Addr)(w:World)(hO:O mb∧O hb∧O eb)(hmem:w.heap[mb]?=some (.cells #[.int .i64 room,.map (some hb),ptrV eb] MeN (0,0)))
  (hend:w.heap[eb]?=some (.cells #[.int .i64 0,.int .i64 0,.int .i64 0,.pointer none,.pointer o,.pointer n] LkN (0,0))) (hmap:MapIs w hb l) :
  Calls Tryz.prog 88 #[ptrV mb] w fun r w'=>r= .returned (.tuple #[])∧Turn O [LkN] w w'∧MemN w' O mb room []∧w'.heap.size=w.heap.size:=by
 obtain⟨w1,hrun,hmap1,hgrow⟩:=hmap.clear Tryz.underlying191 0
 have hsz:w1.heap.size=w.heap.size:=by
  obtain⟨es,c,hm⟩:=hmap.isMap
  have e:=hrun
  simp [Builtin.clear_,run_underlying Tryz.underlying191,MapKept.run_getObj_map hm,MapKept.run_setObj_map _ hm,Result.andThen] at e
  rw [← e];simp
 have hmem1:=(hgrow.block mb (heap_some_lt hmem) (hmap.not hmem)).trans hmem
 have hend1:=(hgrow.block eb (heap_some_lt hend) (hmap.not hend)).trans hend
 have m1:w.cell? ⟨mb,1,none⟩=some (.map (some hb)):=(dcell hmem 1 _ rfl).1
 have m2:w1.cell? ⟨mb,2,none⟩=some (.pointer (some ⟨eb,0,none⟩)):=(dcell hmem1 2 _ rfl).1
 have e4:w1.cell? ⟨eb,4,none⟩=some (.pointer o):=(dcell hend1 4 _ rfl).1
 have g4:w1.frozen? ⟨eb,4,none⟩=false:=(dcell hend1 4 _ rfl).2
 have e5:w1.cell? ⟨eb,5,none⟩=some (.pointer n):=(dcell hend1 5 _ rfl).1
 have g5:w1.frozen? ⟨eb,5,none⟩=false:=(dcell hend1 5 _ rfl).2
 have z0:¬ eb=mb:=fun e=>by
  have h1:some (Obj.cells _ _ _)=some (Obj.cells _ _ _):=hend1.symm.trans (by rw [e];exact hmem1)
  simp only [Option.some.injEq,Obj.cells.injEq] at h1
  exact absurd h1.2.1 (by decide)
 have z1:¬ mb=eb:=fun e=>z0 e.symm
 have HO:=hide hO
 have HM1:=hide hmap1
 have HT1:Hid (Turn O [LkN] w w1):=(Turn.refl O [LkN] w).map (.inl hO.2.1) hmap hgrow
 have HE1:=hide (And.intro hmem1 hend1)
 have HSZ:=hide hsz
 unfold ptrV
 clear hO hmap hmem hend hmap1 hgrow hmem1 hend1 hsz
 go_enter Tryz.func88,Tryz.ntmps88
 go_wp2_with fail
 go_region_held3 (fun w'=>w'.cell? ⟨mb,2,none⟩=some (.pointer (some ⟨eb,0,none⟩))) (go_keep) (fail)
 rename_i hheld
 clear hheld
 go_wp2_with fail
 go_end0
 have hb4:=dset HE1.out.2 4 (.pointer (some ⟨eb,0,none⟩))
 have hb5:=dset hb4 5 (.pointer (some ⟨eb,0,none⟩))
 refine⟨rfl,((HT1.out.set (.inl HO.out.2.2) HE1.out.2 (by simp) _).set (.inl HO.out.2.2) hb4 (by simp) _).drew,⟨hb,eb,fun _=>eb,fun _=>eb,⟨HO.out.1,HO.out.2.1,HO.out.2.2,fun x hx=>by simp at hx⟩,?_,⟨hb5,fun x hx=>by simp at hx,circ_none eb⟩,?_,fun x hx=>by simp at hx⟩,?_⟩
 ·show((w1.setCell _ _).setCell _ _).heap[mb]?=_
  rw [heap_setCell_other _ _ _ _ z1,heap_setCell_other _ _ _ _ z1];exact HE1.out.1
 ·refine HM1.out.same ?_
  show((w1.setCell _ _).setCell _ _).heap[hb]?=_
  have zh:hb≠eb:=fun e=>HM1.out.not HE1.out.2 (by rw [e])
  rw [heap_setCell_other _ _ _ _ zh,heap_setCell_other _ _ _ _ zh]
 ·simp [World.setCell,World.drew,HSZ.out]
theorem newN_any (room:Int)(w:World):
  Calls Tryz.prog 53 #[.int .i64 room] w fun r w'=>∃ mb,r= .returned (ptrV mb)∧Below w.heap.size w w'∧MemN w' (fun k=>w.heap.size≤k∧k < w'.heap.size) mb room []:=by
 have hmm:=@run_makeMap Tryz.prog
 go_enter Tryz.func53,Tryz.ntmps53
 go_wp2_with fail
 have s1:(w.alloc (.map #[] 0)).heap.size=w.heap.size+1:=by simp
 have h1:=heap_alloc_last w (.map #[] 0)
 have h2:=heap_alloc_last (w.alloc (.map #[] 0)) (.cells #[.int .i64 0,.int .i64 0,.int .i64 0,.pointer none,.pointer none,.pointer none] LkN)
 rw [s1] at h2
 have s2:((w.alloc (.map #[] 0)).alloc (.cells #[.int .i64 0,.int .i64 0,.int .i64 0,.pointer none,.pointer none,.pointer none] LkN)).heap.size=w.heap.size+1+1:=by simp
 have h3:=heap_alloc_last ((w.alloc (.map #[] 0)).alloc (.cells #[.int .i64 0,.int .i64 0,.int .i64 0,.pointer none,.pointer none,.pointer none] LkN)) (.cells #[.int .i64 room,.map (some w.heap.size),.pointer (some ⟨w.heap.size+1,0,none⟩)] MeN)
 rw [s2] at h3
 have hb:Below w.heap.size w (((w.alloc (.map #[] 0)).alloc (.cells #[.int .i64 0,.int .i64 0,.int .i64 0,.pointer none,.pointer none,.pointer none] LkN)).alloc (.cells #[.int .i64 room,.map (some w.heap.size),.pointer (some ⟨w.heap.size+1,0,none⟩)] MeN)):=below_alloc3 _ _ _ _
 refine(forgetN_raw (fun k=>w.heap.size≤k) (w.heap.size+1+1) w.heap.size (w.heap.size+1) room [] none none _ ⟨by omega,by omega,by omega⟩ h3 (heap_alloc_old h2) (mapIs_empty (c:=0) (heap_alloc_old (heap_alloc_old h1)))).mono ?_
 rintro r w1 ⟨rfl,ht,hm,hsz⟩
 have HB:Hid (Below w.heap.size w w1):=hb.trans (ht.below (fun _ h=>h) hb.size)
 have HM:Hid (MemN w1 (fun k=>w.heap.size≤k∧k < w1.heap.size) (w.heap.size+1+1) room []):=by
  obtain⟨hb',eb,nx,pv,h⟩:=hm
  exact⟨hb',eb,nx,pv,⟨⟨h.own.1,heap_some_lt h.mem⟩,⟨h.own.2.1,h.map.lt⟩,⟨h.own.2.2.1,heap_some_lt h.ring.ends⟩,fun x hx=>by simp at hx⟩,h.mem,h.ring,h.map,h.ok⟩
 clear ht hm hb h1 h2 h3 s1 s2 hsz
 go_wp2_with fail
 go_ret
 exact⟨_,rfl,HB.out,HM.out⟩
end
end Go.Proofs.YtinhekmmdlhfkaaGreatDoor
