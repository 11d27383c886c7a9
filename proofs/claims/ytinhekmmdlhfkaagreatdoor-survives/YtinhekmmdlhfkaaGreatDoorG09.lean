import Derived.Test.YtinhekmmdlhfkaaGreatDoorG01
import Derived.Test.YtinhekmmdlhfkaaGreatDoorG04
import Derived.Test.YtinhekmmdlhfkaaGreatDoorG08
namespace Go.Proofs.YtinhekmmdlhfkaaGreatDoor
section
set_option maxHeartbeats 4000000
open Go.RowKit
set_option maxRecDepth 100000
def zqx (w:World)(v:Value)(ls:List Ly):Prop:=∃ a cap,v= .slice a ls.length cap∧(ls.length=0∨∃ g,a=some ⟨g,0,none⟩∧∃ cur,w.heap[g]?=some (.cells cur 65 (0,0))∧∀ j (h:j < ls.length),cur[j*4]?=some (txv ls[j].path)∧cur[j*4+1]?=some (txv ls[j].data)∧cur[j*4+2]?=some (.bool ls[j].fails)∧cur[j*4+3]?=some (.int .i64 ls[j].times))
def zqb (w:World)(O:Nat→Prop)(v:Value)(ts:List Int):Prop:=∃ a cap,v= .slice a ts.length cap∧(ts.length=0∨∃ g,a=some ⟨g,0,none⟩∧O g∧w.heap[g]?=some (.cells (ts.map (Value.int .i64)).toArray 3 (0,0)))
def j5 (w:World)(O:Nat→Prop)(nb db:Nat)(n:Nt):Prop :=
 ∃ lv tv,O nb∧w.heap[nb]?=some (.cells #[vv db,lv,tv,.int .i64 n.fetches] 85 (0,0))∧zqx w lv n.lies∧zqb w O tv n.told∧n.told.length=n.lies.length
abbrev nT:List Nat:=[85,3]
theorem zqx.turn {w w':World}{O:Nat→Prop}{T:List Nat}{v:Value}{ls:List Ly}(h:zqx w v ls)(ht:zf O T w w')(hT:65∉T):zqx w' v ls:=by
 obtain⟨a,cap,e,h | ⟨g,ea,cur,hg,r⟩⟩:=h
 ·exact⟨a,cap,e,.inl h⟩
 ·exact⟨a,cap,e,.inr ⟨g,ea,cur,ht.keep hg hT,r⟩⟩
theorem zqb.turn {w w':World}{O O1:Nat→Prop}{T:List Nat}{v:Value}{ts:List Int}(h:zqb w O v ts)(ht:zf O1 T w w')(hT:3∉T):zqb w' O v ts:=by
 obtain⟨a,cap,e,h | ⟨g,ea,hO,hg⟩⟩:=h
 ·exact⟨a,cap,e,.inl h⟩
 ·exact⟨a,cap,e,.inr ⟨g,ea,hO,ht.keep hg hT⟩⟩
theorem j5.turn {w w':World}{O O1:Nat→Prop}{T:List Nat}{nb db:Nat}{n:Nt}(h:j5 w O nb db n)(ht:zf O1 T w w')(h1:85∉T)(h2:65∉T)(h3:3∉T):j5 w' O nb db n:=by
 obtain⟨lv,tv,hO,hb,hl,ht',he⟩:=h
 exact⟨lv,tv,hO,ht.keep hb h1,hl.turn ht h2,ht'.turn ht h3,he⟩
theorem j5.below {w w':World}{O:Nat→Prop}{nb db:Nat}{n:Nt}(h:j5 w O nb db n)(hb:Below w.heap.size w w'):j5 w' O nb db n:=h.turn (O1:=fun _=>False) (T:=[]) (.of_below hb) (by simp) (by simp) (by simp)
theorem zv6 (O:Nat→Prop)(nb db:Nat)(n:Nt)(d:Dk)(p:List UInt8)(w:World)(hn:d.fs.length≤1000000000)(hl:∀ f∈d.fs,f.2.length≤1000000000)
  (hy:∀ l∈n.lies,l.data.length≤1000000000) (hyl:n.lies.length≤1000000000) (hf:0≤n.fetches∧n.fetches < 4611686018427387904) (htd:∀ t∈n.told,0≤t∧t < 4611686018427387904)
  (hD:zm w O db d) (hN:j5 w O nb db n) :
  Calls Tryz.prog 238 #[.pointer (some ⟨nb,0,none⟩),txv p] w fun r w'=>∃ v e x,r= .returned (.tuple #[v,e])∧zf O nT w w'∧j5 w' O nb db (zq d.fs n p).2∧zfd w' v x∧x.getD []=(zq d.fs n p).1.1 ∧
   (((zq d.fs n p).1.2=true∧e= .nilIface)∨((zq d.fs n p).1.2=false∧∃ g,e=zar g)):=by
 obtain⟨lv,tv,hO,hb,hL,hT,hlen⟩:=hN
 obtain⟨la,lcap,rfl,hLc⟩:=hL
 obtain⟨ta,tcap,rfl,hTc⟩:=hT
 have c0:w.cell? ⟨nb,0,none⟩=some (vv db):=(zg hb 0 _ rfl).1
 have c1:w.cell? ⟨nb,1,none⟩=some (.slice la n.lies.length lcap):=(zg hb 1 _ rfl).1
 have c2:w.cell? ⟨nb,2,none⟩=some (.slice ta n.told.length tcap):=(zg hb 2 _ rfl).1
 have c3:w.cell? ⟨nb,3,none⟩=some (.int .i64 n.fetches):=(zg hb 3 _ rfl).1
 have f3:w.frozen? ⟨nb,3,none⟩=false:=(zg hb 3 _ rfl).2
 rw [hlen] at c2
 have HB:=za hb
 have HLC:=za hLc
 have HTC:=za hTc
 have HD:=za hD
 have HL:=za hl
 have HY:=za hy
 have HTD:=za htd
 have HLN:=za hlen
 obtain⟨hf0,hf1⟩:=hf
 have W1:Hid (zf O nT w (w.setCell ⟨nb,3,none⟩ (.int .i64 (n.fetches+1)))∧(w.setCell ⟨nb,3,none⟩ (.int .i64 (n.fetches+1))).heap[nb]?=some (.cells #[vv db,.slice la n.lies.length lcap,.slice ta n.told.length tcap,.int .i64 (n.fetches+1)] 85 (0,0))):=by
  refine⟨(zf.refl O nT w).set (.inl hO) hb (by simp) _,?_⟩
  rw [qj hb]
  rfl
 clear hb hLc hTc hD hl hy htd hlen
 unfold txv
 unfold vv at c0
 go_enter Tryz.func238,Tryz.ntmps238
 go_wp2_with fail
 have HNB:=za HB.o
 have HD1:Hid (zm (w.setCell ⟨nb,3,none⟩ (.int .i64 (n.fetches+1))) O db d):=HD.o.stay (O1:=O) (T:=nT) W1.out.1 (by decide) (by decide)
 have HLC1:Hid (∀ k (hk:k < n.lies.length),∃ g,la=some ⟨g,0,none⟩∧∃ cur,(w.setCell ⟨nb,3,none⟩ (.int .i64 (n.fetches+1))).heap[g]?=some (.cells cur 65 (0,0))∧cur[k*4]?=some (txv n.lies[k].path)∧cur[k*4+1]?=some (txv n.lies[k].data)∧cur[k*4+2]?=some (.bool n.lies[k].fails)∧cur[k*4+3]?=some (.int .i64 n.lies[k].times)):=by
  intro k hk
  rcases HLC.o with h0 | ⟨g,ea,cur,hg,hx⟩
  ·omega
  ·exact⟨g,ea,cur,W1.out.1.keep hg (by decide),hx k hk⟩
 have HTC1:Hid (∀ k,k < n.lies.length→∃ g,ta=some ⟨g,0,none⟩∧O g∧g≠nb∧(w.setCell ⟨nb,3,none⟩ (.int .i64 (n.fetches+1))).heap[g]?=some (.cells (n.told.map (Value.int .i64)).toArray 3 (0,0))):=by
  intro k hk
  rcases HTC.o with h0 | ⟨g,ea,hOg,hg⟩
  ·have:=HLN.o;omega
  ·have hne:g≠nb:=by
    rintro rfl
    rw [HB.o] at hg
    simp at hg
   exact⟨g,ea,hOg,hne,by rw [heap_setCell_other _ _ _ _ hne];exact hg⟩
 have d1:(w.setCell ⟨nb,3,none⟩ (.int .i64 (n.fetches+1))).cell? ⟨nb,0,none⟩=some (.pointer (some ⟨db,0,none⟩)):=(zg W1.out.2 0 _ rfl).1
 have d2:(w.setCell ⟨nb,3,none⟩ (.int .i64 (n.fetches+1))).cell? ⟨nb,2,none⟩=some (.slice ta n.told.length tcap):=(zg W1.out.2 2 _ rfl).1
 have d3:(w.setCell ⟨nb,3,none⟩ (.int .i64 (n.fetches+1))).cell? ⟨nb,3,none⟩=some (.int .i64 (n.fetches+1)):=(zg W1.out.2 3 _ rfl).1
 rw [HLN.o] at d2
 clear c0 c1 c2 c3 f3 HB HLC HTC HD
 have hnl:nb < w.heap.size:=zb HNB.o
 have hnl1:nb < (w.setCell ⟨nb,3,none⟩ (.int .i64 (n.fetches+1))).heap.size:=Nat.lt_of_lt_of_le hnl W1.out.1.size
 generalize w.setCell ⟨nb,3,none⟩ (.int .i64 (n.fetches+1))=w1 at *
 go_loopw [21] (fun i wr=>∃ k:Nat,k≤n.lies.length∧i= .int .i64 k∧Below w1.heap.size w1 wr∧∀ j,j < k→zbm n p j=false) (fun i _=>n.lies.length - (intOf i).toNat)
 case atStart=>exact⟨0,Nat.zero_le _,rfl,Below.refl _ _,fun j hj=>absurd hj (Nat.not_lt_zero _)⟩
 case round =>
  obtain⟨k,hk,rfl,hbe,hno⟩:=hrel
  have HBe:=za hbe
  have HNo:=za hno
  by_cases hlt:k < n.lies.length
  ·obtain⟨g,rfl,cur,hg,x0,x1,x2,x3⟩:=HLC1.o k hlt
   obtain⟨tg,rfl,hOt,htn,htg⟩:=HTC1.o k hlt
   have hg':wr.heap[g]?=some (.cells cur 65 (0,0)):=by rw [hbe.block g (zb hg)];exact hg
   have htl:tg < wr.heap.size:=Nat.lt_of_lt_of_le (zb htg) hbe.size
   have htg':wr.heap[tg]?=some (.cells (n.told.map (Value.int .i64)).toArray 3 (0,0)):=by rw [hbe.block tg (zb htg)];exact htg
   have y0:wr.cell? ⟨g,k*4,none⟩=some (txv n.lies[k].path):=by rw [cell_of_row _ _ _ _ _ _ hg'];exact x0
   have y1:wr.cell? ⟨g,k*4+1,none⟩=some (txv n.lies[k].data):=by rw [cell_of_row _ _ _ _ _ _ hg'];exact x1
   have y2:wr.cell? ⟨g,k*4+2,none⟩=some (.bool n.lies[k].fails):=by rw [cell_of_row _ _ _ _ _ _ hg'];exact x2
   have y3:wr.cell? ⟨g,k*4+3,none⟩=some (.int .i64 n.lies[k].times):=by rw [cell_of_row _ _ _ _ _ _ hg'];exact x3
   have hktd:k < n.told.length:=by rw [HLN.o];exact hlt
   have e1:wr.cell? ⟨nb,0,none⟩=some (.pointer (some ⟨db,0,none⟩)):=by rw [hbe.cell (p:=⟨nb,0,none⟩) hnl1];exact d1
   have e2:wr.cell? ⟨nb,2,none⟩=some (.slice (some ⟨tg,0,none⟩) n.lies.length tcap):=by rw [hbe.cell (p:=⟨nb,2,none⟩) hnl1];exact d2
   have e3:wr.cell? ⟨nb,3,none⟩=some (.int .i64 (n.fetches+1)):=by rw [hbe.cell (p:=⟨nb,3,none⟩) hnl1];exact d3
   have et:wr.cell? ⟨tg,k,none⟩=some (.int .i64 n.told[k]):=(zg htg' k _ (by simp [hktd])).1
   have ft:wr.frozen? ⟨tg,k,none⟩=false:=(zg htg' k (.int .i64 n.told[k]) (by simp [hktd])).2
   have hLA:zbm n p k=(decide (n.lies[k].path=p)&&!(decide (0 < n.lies[k].times)&&decide (n.lies[k].times≤n.told[k]))):=by
    unfold zbm
    rw [show n.lies.getD k .none=n.lies[k] by rw [List.getD_eq_getElem?_getD,List.getElem?_eq_getElem hlt];rfl,show n.told.getD k 0=n.told[k] by rw [List.getD_eq_getElem?_getD,List.getElem?_eq_getElem hktd];rfl]
   have HLA:=za hLA
   have i0:(0:Int)≤(k:Int):=by omega
   have i1:(k:Int) < n.lies.length:=by omega
   have hnlr:nb < wr.heap.size:=Nat.lt_of_lt_of_le hnl1 hbe.size
   clear hg x0 x1 x2 x3 hg' htg htg' hLA hno hbe d1 d2 d3
   unfold txv at y0 y1
   generalize hlv:n.lies[k]=l at *
   generalize htv:n.told[k]=t at *
   have HLV:=za hlv
   have HTV:=za htv
   clear hlv htv
   obtain⟨path,data,fails,times⟩:=l
   simp only at *
   have HNX:Hid (∀ wn,Below wr.heap.size wr wn→zbm n p k=false→Below w1.heap.size w1 wn∧∀ j,j < k+1→zbm n p j=false):=fun wn hb h=>⟨HBe.o.trans (hb.mono HBe.o.size),fun j hj=>by
    rcases Nat.lt_or_ge j k with hjk | hjk
    ·exact HNo.o j hjk
    ·obtain rfl:j=k:=by omega
     exact h⟩
   have HFIN:Hid (∀ W2,Below wr.heap.size wr W2→W2.heap[tg]?=some (.cells (n.told.map (Value.int .i64)).toArray 3 (0,0))∧zf O nT w (W2.setCell ⟨tg,k,none⟩ (.int .i64 (t+1)))∧j5 (W2.setCell ⟨tg,k,none⟩ (.int .i64 (t+1))) O nb db { n with told:=n.told.set k (t+1),fetches:=n.fetches+1 }):=by
    intro W2 hb2
    have hb12:Below w1.heap.size w1 W2:=HBe.o.trans (hb2.mono HBe.o.size)
    obtain⟨tg',eg,hOt',htn',htg1⟩:=HTC1.o k hlt
    obtain rfl:tg'=tg:=by simpa using eg.symm
    have htg2:W2.heap[tg']?=some (.cells (n.told.map (Value.int .i64)).toArray 3 (0,0)):=by rw [hb12.block tg' (zb htg1)];exact htg1
    have ht2:zf O nT w W2:=W1.out.1.then_below hb12
    refine⟨htg2,ht2.set (.inl hOt') htg2 (by simp) _,.slice (some ⟨g,0,none⟩) n.lies.length lcap,.slice (some ⟨tg',0,none⟩) n.told.length tcap,hO,?_,?_,?_,by simp [HLN.o]⟩
    ·rw [heap_setCell_other _ _ _ _ (Ne.symm htn'),hb12.block nb hnl1];exact W1.out.2
    ·refine⟨_,_,rfl,.inr ?_⟩
     obtain⟨g1,eg1,cur1,hg1,-⟩:=HLC1.o k hlt
     refine⟨g1,eg1,cur1,?_,fun j hj=>?_⟩
     ·have hne:g1≠tg':=by
       rintro rfl
       rw [htg1] at hg1
       simp at hg1
      rw [heap_setCell_other _ _ _ _ hne,hb12.block g1 (zb hg1)];exact hg1
     ·obtain⟨g2,eg2,cur2,hg2,hx⟩:=HLC1.o j hj
      obtain rfl:g2=g1:=by rw [eg1] at eg2;simpa using eg2.symm
      rw [hg1] at hg2
      have:cur1=cur2:=by simpa using hg2
      rw [this];exact hx
    ·refine⟨some ⟨tg',0,none⟩,tcap,by simp,.inr ⟨tg',rfl,hOt',?_⟩⟩
     rw [qj htg2]
     simp [List.map_set]
   have HNF:Hid (zbm n p k=true→zq d.fs n p=((data,!fails),{ n with told:=n.told.set k (t+1),fetches:=n.fetches+1 })):=fun h=>by
    unfold zq
    rw [z3f hlt h HNo.o]
    simp only
    rw [show n.lies.getD k .none=n.lies[k] by rw [List.getD_eq_getElem?_getD,List.getElem?_eq_getElem hlt];rfl,show n.told.getD k 0=n.told[k] by rw [List.getD_eq_getElem?_getD,List.getElem?_eq_getElem hktd];rfl,HLV.o,HTV.o]
   have ht2:=HTD.o t (by rw [← HTV.o];exact List.getElem_mem hktd)
   obtain⟨ht20,ht21⟩:=ht2
   have hdl:data.length≤1000000000:=HY.o ⟨path,data,fails,times⟩ (by rw [← HLV.o];exact List.getElem_mem hlt)
   have e2':∀ o,(wr.alloc o).cell? ⟨nb,2,none⟩=some (.slice (some ⟨tg,0,none⟩) n.lies.length tcap):=fun o=>by rw [zk _ _ ⟨_,2,none⟩ hnlr];exact e2
   have et':∀ o,(wr.alloc o).cell? ⟨tg,k,none⟩=some (.int .i64 t):=fun o=>by rw [zk _ _ ⟨_,k,none⟩ htl];exact et
   by_cases hp:path=p
   ·subst hp
    have hpb:(path==path)=true:=by simp
    have hpb2:(path != path)=false:=by simp
    by_cases ht0:0 < times
    ·have ht0b:decide (times > 0)=true:=by simpa using ht0
     by_cases ht1:times≤t
     ·have ht1b:decide (t ≥ times)=true:=by simpa using ht1
      have HF:Hid (zbm n path k=false):=by show _=_;rw [HLA.o];simp [ht0,ht1]
      clear ht0 ht1
      go_wp2_with fail
      go_region
      all_goals go_wp2_with fail
      all_goals go_roundw
      case rel =>
       exact⟨k+1,by omega,by go_num,(HNX.o _ ((ze _ _).drew) HF.o).1,(HNX.o wr (Below.refl _ _) HF.o).2⟩
      all_goals (simp [intOf];omega)
     ·have ht1b:decide (t ≥ times)=false:=by simpa using ht1
      have HF:Hid (zbm n path k=true):=by show _=_;rw [HLA.o];simp;omega
      have HQ:=za (HNF.o HF.o)
      have z1:((wr.alloc (.cells #[.string ⟨path.toArray⟩,.string ⟨data.toArray⟩,.bool fails,.int .i64 times] 65)).drew).cell? ⟨wr.heap.size,1,none⟩=some (.string ⟨data.toArray⟩):=(zg (heap_alloc_last wr _) 1 _ rfl).1
      have z2:((wr.alloc (.cells #[.string ⟨path.toArray⟩,.string ⟨data.toArray⟩,.bool fails,.int .i64 times] 65)).drew).cell? ⟨wr.heap.size,2,none⟩=some (.bool fails):=(zg (heap_alloc_last wr _) 2 _ rfl).1
      have z3:((wr.alloc (.cells #[.string ⟨path.toArray⟩,.string ⟨data.toArray⟩,.bool fails,.int .i64 times] 65)).drew).cell? ⟨nb,2,none⟩=some (.slice (some ⟨tg,0,none⟩) n.lies.length tcap):=e2' _
      have z4:((wr.alloc (.cells #[.string ⟨path.toArray⟩,.string ⟨data.toArray⟩,.bool fails,.int .i64 times] 65)).drew).cell? ⟨tg,k,none⟩=some (.int .i64 t):=et' _
      have z5:((wr.alloc (.cells #[.string ⟨path.toArray⟩,.string ⟨data.toArray⟩,.bool fails,.int .i64 times] 65)).drew).cell? ⟨nb,3,none⟩=some (.int .i64 (n.fetches+1)):=(zk _ _ ⟨_,3,none⟩ hnlr).trans e3
      have HFI:=za (HFIN.o _ (ze wr (.cells #[.string ⟨path.toArray⟩,.string ⟨data.toArray⟩,.bool fails,.int .i64 times] 65)).drew)
      have z6:((wr.alloc (.cells #[.string ⟨path.toArray⟩,.string ⟨data.toArray⟩,.bool fails,.int .i64 times] 65)).drew).frozen? ⟨tg,k,none⟩=false:=(zg HFI.o.1 k (.int .i64 t) (by simp [hktd,HTV.o])).2
      have n1:wr.heap.size≠tg:=by omega
      have n3:nb≠tg:=fun h=>htn h.symm
      have hcv:=fun w0=>run_bytes_of_string (P:=Tryz.prog) w0 9 76 5 ⟨data.toArray⟩ Tryz.underlying9 Tryz.underlying76 Tryz.underlying5
      have hw2:wr.heap.size < ((wr.alloc (.cells #[.string ⟨path.toArray⟩,.string ⟨data.toArray⟩,.bool fails,.int .i64 times] 65)).drew).heap.size:=by show _ < (wr.heap.push _).size;simp
      clear HNX HNF HFIN HLA HNo HLV HTV
      go_wp2_with fail
      go_region
      generalize (wr.alloc (.cells #[.string ⟨path.toArray⟩,.string ⟨data.toArray⟩,.bool fails,.int .i64 times] 65)).drew=W2 at *
      have u1:(W2.setCell ⟨tg,k,none⟩ (.int .i64 (t+1))).cell? ⟨wr.heap.size,1,none⟩=some (.string ⟨data.toArray⟩):=by rw [World.cell?_of_block (w:=W2) (heap_setCell_other _ _ _ _ n1)];exact z1
      have u2:(W2.setCell ⟨tg,k,none⟩ (.int .i64 (t+1))).cell? ⟨wr.heap.size,2,none⟩=some (.bool fails):=by rw [World.cell?_of_block (w:=W2) (heap_setCell_other _ _ _ _ n1)];exact z2
      have u3:(W2.setCell ⟨tg,k,none⟩ (.int .i64 (t+1))).cell? ⟨nb,3,none⟩=some (.int .i64 (n.fetches+1)):=by rw [World.cell?_of_block (w:=W2) (heap_setCell_other _ _ _ _ n3)];exact z5
      have hs3:(W2.setCell ⟨tg,k,none⟩ (.int .i64 (t+1))).heap.size=W2.heap.size:=by simp [World.setCell]
      have u1':∀ o,((W2.setCell ⟨tg,k,none⟩ (.int .i64 (t+1))).alloc o).cell? ⟨wr.heap.size,1,none⟩=some (.string ⟨data.toArray⟩):=fun o=>by rw [zk _ _ ⟨_,1,none⟩ (by rw [hs3];exact hw2)];exact u1
      have u3':∀ o,((W2.setCell ⟨tg,k,none⟩ (.int .i64 (t+1))).alloc o).cell? ⟨nb,3,none⟩=some (.int .i64 (n.fetches+1)):=fun o=>by rw [zk _ _ ⟨_,3,none⟩ (by rw [hs3];exact Nat.lt_trans hnlr hw2)];exact u3
      have HS3:=za hs3
      clear hs3
      cases fails with
      | true =>
       go_wp2_with fail
       go_region
       all_goals go_wp2
       all_goals go_ret2
       all_goals refine⟨_,_,some data,rfl,?_,?_,?_,by rw [HQ.o];rfl,.inr ⟨by rw [HQ.o];rfl,_,rfl⟩⟩
       ·first | exact((HFI.o.2.1.alloc _).alloc _).drew | exact((HFI.o.2.1.alloc _).alloc _).drew.drew
       ·rw [HQ.o];exact HFI.o.2.2.below (by first | exact(zw _ _ _).drew | exact(zw _ _ _).drew.drew)
       ·refine .inl ⟨data,rfl,?_⟩
        have hq:=(zco (W2.setCell ⟨tg,k,none⟩ (.int .i64 (t+1))) data (grownCap (W2.setCell ⟨tg,k,none⟩ (.int .i64 (t+1))).drew data.length 0 5) (grownCap_ge _ _ _ _)).below (ze _ (.cells #[.int .i64 (n.fetches+1)] 353))
        rw [HS3.o] at hq
        exact hq
       ·first | exact((HFI.o.2.1.alloc _).alloc _).drew | exact((HFI.o.2.1.alloc _).alloc _).drew.drew
       ·rw [HQ.o];exact HFI.o.2.2.below (by first | exact(zw _ _ _).drew | exact(zw _ _ _).drew.drew)
       ·refine .inl ⟨data,rfl,?_⟩
        have hq:=zco ((W2.setCell ⟨tg,k,none⟩ (.int .i64 (t+1))).alloc (.cells #[.int .i64 (n.fetches+1)] 353)) data (grownCap ((W2.setCell ⟨tg,k,none⟩ (.int .i64 (t+1))).alloc (.cells #[.int .i64 (n.fetches+1)] 353)).drew data.length 0 5) (grownCap_ge _ _ _ _)
        rw [show((W2.setCell ⟨tg,k,none⟩ (.int .i64 (t+1))).alloc (.cells #[.int .i64 (n.fetches+1)] 353)).heap.size=W2.heap.size+1 by simp [HS3.o]] at hq
        exact hq
      | false =>
       go_wp2_with fail
       go_ret2
       have hq:=zco (W2.setCell ⟨tg,k,none⟩ (.int .i64 (t+1))) data (grownCap (W2.setCell ⟨tg,k,none⟩ (.int .i64 (t+1))) data.length 0 5) (grownCap_ge _ _ _ _)
       rw [HS3.o] at hq
       exact⟨_,_,some data,rfl,(HFI.o.2.1.alloc _).drew,by rw [HQ.o];exact HFI.o.2.2.below (ze _ _).drew,.inl ⟨data,rfl,hq⟩,by rw [HQ.o];rfl,.inl ⟨by rw [HQ.o];rfl,rfl⟩⟩
    ·have ht0b:decide (times > 0)=false:=by simpa using ht0
     have HF:Hid (zbm n path k=true):=by show _=_;rw [HLA.o];simp;omega
     have HQ:=za (HNF.o HF.o)
     have z1:((wr.alloc (.cells #[.string ⟨path.toArray⟩,.string ⟨data.toArray⟩,.bool fails,.int .i64 times] 65)).drew).cell? ⟨wr.heap.size,1,none⟩=some (.string ⟨data.toArray⟩):=(zg (heap_alloc_last wr _) 1 _ rfl).1
     have z2:((wr.alloc (.cells #[.string ⟨path.toArray⟩,.string ⟨data.toArray⟩,.bool fails,.int .i64 times] 65)).drew).cell? ⟨wr.heap.size,2,none⟩=some (.bool fails):=(zg (heap_alloc_last wr _) 2 _ rfl).1
     have z3:((wr.alloc (.cells #[.string ⟨path.toArray⟩,.string ⟨data.toArray⟩,.bool fails,.int .i64 times] 65)).drew).cell? ⟨nb,2,none⟩=some (.slice (some ⟨tg,0,none⟩) n.lies.length tcap):=e2' _
     have z4:((wr.alloc (.cells #[.string ⟨path.toArray⟩,.string ⟨data.toArray⟩,.bool fails,.int .i64 times] 65)).drew).cell? ⟨tg,k,none⟩=some (.int .i64 t):=et' _
     have z5:((wr.alloc (.cells #[.string ⟨path.toArray⟩,.string ⟨data.toArray⟩,.bool fails,.int .i64 times] 65)).drew).cell? ⟨nb,3,none⟩=some (.int .i64 (n.fetches+1)):=(zk _ _ ⟨_,3,none⟩ hnlr).trans e3
     have HFI:=za (HFIN.o _ (ze wr (.cells #[.string ⟨path.toArray⟩,.string ⟨data.toArray⟩,.bool fails,.int .i64 times] 65)).drew)
     have z6:((wr.alloc (.cells #[.string ⟨path.toArray⟩,.string ⟨data.toArray⟩,.bool fails,.int .i64 times] 65)).drew).frozen? ⟨tg,k,none⟩=false:=(zg HFI.o.1 k (.int .i64 t) (by simp [hktd,HTV.o])).2
     have n1:wr.heap.size≠tg:=by omega
     have n3:nb≠tg:=fun h=>htn h.symm
     have hcv:=fun w0=>run_bytes_of_string (P:=Tryz.prog) w0 9 76 5 ⟨data.toArray⟩ Tryz.underlying9 Tryz.underlying76 Tryz.underlying5
     have hw2:wr.heap.size < ((wr.alloc (.cells #[.string ⟨path.toArray⟩,.string ⟨data.toArray⟩,.bool fails,.int .i64 times] 65)).drew).heap.size:=by show _ < (wr.heap.push _).size;simp
     clear HNX HNF HFIN HLA HNo HLV HTV
     go_wp2_with fail
     go_region
     generalize (wr.alloc (.cells #[.string ⟨path.toArray⟩,.string ⟨data.toArray⟩,.bool fails,.int .i64 times] 65)).drew=W2 at *
     have u1:(W2.setCell ⟨tg,k,none⟩ (.int .i64 (t+1))).cell? ⟨wr.heap.size,1,none⟩=some (.string ⟨data.toArray⟩):=by rw [World.cell?_of_block (w:=W2) (heap_setCell_other _ _ _ _ n1)];exact z1
     have u2:(W2.setCell ⟨tg,k,none⟩ (.int .i64 (t+1))).cell? ⟨wr.heap.size,2,none⟩=some (.bool fails):=by rw [World.cell?_of_block (w:=W2) (heap_setCell_other _ _ _ _ n1)];exact z2
     have u3:(W2.setCell ⟨tg,k,none⟩ (.int .i64 (t+1))).cell? ⟨nb,3,none⟩=some (.int .i64 (n.fetches+1)):=by rw [World.cell?_of_block (w:=W2) (heap_setCell_other _ _ _ _ n3)];exact z5
     have hs3:(W2.setCell ⟨tg,k,none⟩ (.int .i64 (t+1))).heap.size=W2.heap.size:=by simp [World.setCell]
     have u1':∀ o,((W2.setCell ⟨tg,k,none⟩ (.int .i64 (t+1))).alloc o).cell? ⟨wr.heap.size,1,none⟩=some (.string ⟨data.toArray⟩):=fun o=>by rw [zk _ _ ⟨_,1,none⟩ (by rw [hs3];exact hw2)];exact u1
     have u3':∀ o,((W2.setCell ⟨tg,k,none⟩ (.int .i64 (t+1))).alloc o).cell? ⟨nb,3,none⟩=some (.int .i64 (n.fetches+1)):=fun o=>by rw [zk _ _ ⟨_,3,none⟩ (by rw [hs3];exact Nat.lt_trans hnlr hw2)];exact u3
     have HS3:=za hs3
     clear hs3
     cases fails with
     | true =>
      go_wp2_with fail
      go_region
      all_goals go_wp2
      all_goals go_ret2
      all_goals refine⟨_,_,some data,rfl,?_,?_,?_,by rw [HQ.o];rfl,.inr ⟨by rw [HQ.o];rfl,_,rfl⟩⟩
      ·first | exact((HFI.o.2.1.alloc _).alloc _).drew | exact((HFI.o.2.1.alloc _).alloc _).drew.drew
      ·rw [HQ.o];exact HFI.o.2.2.below (by first | exact(zw _ _ _).drew | exact(zw _ _ _).drew.drew)
      ·refine .inl ⟨data,rfl,?_⟩
       have hq:=(zco (W2.setCell ⟨tg,k,none⟩ (.int .i64 (t+1))) data (grownCap (W2.setCell ⟨tg,k,none⟩ (.int .i64 (t+1))).drew data.length 0 5) (grownCap_ge _ _ _ _)).below (ze _ (.cells #[.int .i64 (n.fetches+1)] 353))
       rw [HS3.o] at hq
       exact hq
      ·first | exact((HFI.o.2.1.alloc _).alloc _).drew | exact((HFI.o.2.1.alloc _).alloc _).drew.drew
      ·rw [HQ.o];exact HFI.o.2.2.below (by first | exact(zw _ _ _).drew | exact(zw _ _ _).drew.drew)
      ·refine .inl ⟨data,rfl,?_⟩
       have hq:=zco ((W2.setCell ⟨tg,k,none⟩ (.int .i64 (t+1))).alloc (.cells #[.int .i64 (n.fetches+1)] 353)) data (grownCap ((W2.setCell ⟨tg,k,none⟩ (.int .i64 (t+1))).alloc (.cells #[.int .i64 (n.fetches+1)] 353)).drew data.length 0 5) (grownCap_ge _ _ _ _)
       rw [show((W2.setCell ⟨tg,k,none⟩ (.int .i64 (t+1))).alloc (.cells #[.int .i64 (n.fetches+1)] 353)).heap.size=W2.heap.size+1 by simp [HS3.o]] at hq
       exact hq
     | false =>
      go_wp2_with fail
      go_ret2
      have hq:=zco (W2.setCell ⟨tg,k,none⟩ (.int .i64 (t+1))) data (grownCap (W2.setCell ⟨tg,k,none⟩ (.int .i64 (t+1))) data.length 0 5) (grownCap_ge _ _ _ _)
      rw [HS3.o] at hq
      exact⟨_,_,some data,rfl,(HFI.o.2.1.alloc _).drew,by rw [HQ.o];exact HFI.o.2.2.below (ze _ _).drew,.inl ⟨data,rfl,hq⟩,by rw [HQ.o];rfl,.inl ⟨by rw [HQ.o];rfl,rfl⟩⟩
   ·have hpb:(path==p)=false:=by simp [hp]
    have hpb2:(path != p)=true:=by simp [hp]
    have HF:Hid (zbm n p k=false):=by show _=_;rw [HLA.o];simp [hp]
    clear hp
    go_wp2_with fail
    go_region
    all_goals go_wp2_with fail
    all_goals go_roundw
    case rel =>
     exact⟨k+1,by omega,by go_num,(HNX.o _ ((ze _ _).drew) HF.o).1,(HNX.o wr (Below.refl _ _) HF.o).2⟩
    all_goals (simp [intOf];omega)
  ·have hk':k=n.lies.length:=by omega
   have HNL:Hid (zfs n p=none):=zuu (fun j hj=>HNo.o j (by omega))
   have HDr:=za (HD1.o.stay (O1:=fun _=>False) (T:=[]) (.of_below hbe) (by simp) (by simp))
   have HT0:Hid (zf O nT w wr):=W1.out.1.then_below hbe
   have HN0:Hid (j5 wr O nb db { n with fetches:=n.fetches+1 }):=by
    refine⟨.slice la n.lies.length lcap,.slice ta n.told.length tcap,hO,(hbe.block nb hnl1).trans W1.out.2,?_,?_,HLN.o⟩
    ·refine⟨la,lcap,rfl,?_⟩
     rcases Nat.eq_zero_or_pos n.lies.length with h0 | h0
     ·exact .inl h0
     ·obtain⟨g1,eg1,cur1,hg1,-⟩:=HLC1.o 0 h0
      refine .inr ⟨g1,eg1,cur1,(hbe.block g1 (zb hg1)).trans hg1,fun j hj=>?_⟩
      obtain⟨g2,eg2,cur2,hg2,hx⟩:=HLC1.o j hj
      obtain rfl:g2=g1:=by rw [eg1] at eg2;simpa using eg2.symm
      rw [hg1] at hg2
      have:cur1=cur2:=by simpa using hg2
      rw [this];exact hx
    ·refine⟨ta,tcap,rfl,?_⟩
     rcases Nat.eq_zero_or_pos n.lies.length with h0 | h0
     ·exact .inl (HLN.o.trans h0)
     ·obtain⟨tg,eg,hOt,-,htg⟩:=HTC1.o 0 h0
      exact .inr ⟨tg,eg,hOt,(hbe.block tg (zb htg)).trans htg⟩
   have e1:wr.cell? ⟨nb,0,none⟩=some (.pointer (some ⟨db,0,none⟩)):=by rw [hbe.cell (p:=⟨nb,0,none⟩) hnl1];exact d1
   have e3:wr.cell? ⟨nb,3,none⟩=some (.int .i64 (n.fetches+1)):=by rw [hbe.cell (p:=⟨nb,3,none⟩) hnl1];exact d3
   have hnlr:nb < wr.heap.size:=Nat.lt_of_lt_of_le hnl1 hbe.size
   clear d1 d2 d3 hbe hno HBe HNo HLC1 HTC1 HD1 W1
   subst hk'
   go_wp2_with fail
   refine(zgn O db d p wr hn HDr.o).mono ?_
   rintro e w2 ⟨rfl,hb2⟩
   have HT2:Hid (zf O nT w w2):=HT0.o.then_below hb2
   have HN2:=za (HN0.o.below hb2)
   have HD2:=za (HDr.o.stay (O1:=fun _=>False) (T:=[]) (.of_below hb2) (by simp) (by simp))
   have v1:w2.cell? ⟨nb,0,none⟩=some (.pointer (some ⟨db,0,none⟩)):=by rw [hb2.cell (p:=⟨nb,0,none⟩) hnlr];exact e1
   have v3:w2.cell? ⟨nb,3,none⟩=some (.int .i64 (n.fetches+1)):=by rw [hb2.cell (p:=⟨nb,3,none⟩) hnlr];exact e3
   clear e1 e3 hb2 HDr HT0 HN0
   cases e:ixF d.fs p with
   | some i =>
    have he:ixI d.fs p=i:=by unfold ixI;rw [e]
    rw [he]
    obtain⟨hi,hip,hlk,-⟩:=zbg e
    obtain⟨fv,hOd,hb,hff,hgg'⟩:=HD2.o
    obtain⟨⟨c0,f0⟩,-⟩:=zd1 hb
    rcases zir hff with ⟨a,cap,rfl,h0 | ⟨g,rfl,cur,hgg,hcap,hcs,hx⟩⟩
    ·omega
    have y1:w2.cell? ⟨g,i*2+1,none⟩=some (.string ⟨d.fs[i].2.toArray⟩):=by
     rw [cell_of_row _ _ _ _ _ _ hgg]
     exact(hx i hi).2
    have hyl:=HL.o _ (List.getElem_mem hi)
    have HNF:Hid (zq d.fs n p=((d.fs[i].2,true),{ n with fetches:=n.fetches+1 })):=by
     show _=_
     unfold zq
     rw [HNL.o]
     simp only [hlk]
    clear hx hgg hb hff hgg' e he hip hcs hlk
    generalize d.fs[i].2=y at *
    have hcv:=fun w0=>run_bytes_of_string (P:=Tryz.prog) w0 9 76 5 ⟨y.toArray⟩ Tryz.underlying9 Tryz.underlying76 Tryz.underlying5
    go_wp2_with fail
    go_ret2
    have hq:=zco w2 y (grownCap w2 y.length 0 5) (grownCap_ge _ _ _ _)
    exact⟨_,_,some y,rfl,(HT2.o.alloc _).drew,by rw [HNF.o];exact HN2.o.below (ze _ _).drew,.inl ⟨y,rfl,hq⟩,by rw [HNF.o];rfl,.inl ⟨by rw [HNF.o],rfl⟩⟩
   | none =>
    have he:ixI d.fs p=-1:=by unfold ixI;rw [e]
    rw [he]
    have HNF:Hid (zq d.fs n p=(([],false),{ n with fetches:=n.fetches+1 })):=by
     show _=_
     unfold zq
     rw [HNL.o]
     simp only [(zb3 e).1]
    clear e he
    go_wp2_with fail
    go_region
    all_goals go_wp2
    all_goals go_ret2
    all_goals exact⟨_,_,none,rfl,(HT2.o.alloc _).drew,by rw [HNF.o];exact HN2.o.below (ze _ _).drew,.inr ⟨rfl,rfl⟩,by rw [HNF.o];rfl,.inr ⟨by rw [HNF.o],_,rfl⟩⟩
end
end Go.Proofs.YtinhekmmdlhfkaaGreatDoor
