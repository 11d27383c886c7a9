import Derived.Test.YtinhekmmdlhfkaaGreatDoorG46
import Derived.Test.YtinhekmmdlhfkaaGreatDoorG36
import Derived.Test.YtinhekmmdlhfkaaGreatDoorG05
import Derived.Shelf.SlSortCmp.WholeK
import Derived.Test.YtinhekmmdlhfkaaGreatDoorProg
import Derived.Shelf.SlSortCmp.NoneTotal
import Derived.Shelf.SlicesE.Clone
import Derived.Lib.OwnBridge
import Derived.Test.YtinhekmmdlhfkaaGreatDoorG43
import Derived.Test.YtinhekmmdlhfkaaGreatDoorG18
namespace Go.Proofs.YtinhekmmdlhfkaaGreatDoor
section
set_option maxHeartbeats 2000000
open Go.RowKit
set_option maxRecDepth 100000
theorem e8_id {l:List UInt8}(h:l.length=8):e8 l=l:=by
 unfold e8
 rw [List.take_of_length_le (by omega)]
 simp [h]
theorem e8s_id {ps:List (List UInt8)}(h:∀ p∈ps,p.length=8):((ps.map tb).map fun s=>e8 s.data.toList)=ps:=by
 rw [List.map_map]
 conv=>rhs;rw [← List.map_id ps]
 refine List.map_congr_left fun p hp=>?_
 show e8 p=p
 exact e8_id (h p hp)
theorem sss_txt {w:World}{B:Nat}{v:Value}{ps:List (List UInt8)}(h:w.ownsRow B 9 1 v ps.length (ps.map txt)):Sss w v (ps.map tb):=by
 refine Sss.of_owns (B:=B) ?_
 rw [List.length_map,List.map_map]
 exact h
structure KD (W w w':World)(O N:Nat→Prop)(pb nb db:Nat)(d:Dk)(c':Cl)(n n':Nt)(t:Nat):Prop where
 ki:KI c' t
 ob:∀ k,O k→k < w.heap.size
 lies:n'.lies=n.lies
 few:n.fetches≤n'.fetches∧n'.fetches≤n.fetches+20000
 turn:Turn (fun k=>O k∨N k) kcT w w'
 sh:Sh W w' O nb db d n'
 kc:KC W w' O pb nb c' (Ext N w w')
theorem KD.below {W w w1 w2:World}{O N:Nat→Prop}{pb nb db:Nat}{d:Dk}{c':Cl}{n n':Nt}{t:Nat}(h:KD W w w1 O N pb nb db d c' n n' t)(hb:Below w1.heap.size w1 w2)(hW:W.heap.size≤w.heap.size):KD W w w2 O N pb nb db d c' n n' t:=by
 refine⟨h.ki,h.ob,h.lies,h.few,h.turn.then_below hb,h.sh.below hb,?_⟩
 have g:=h.kc.below hb
 obtain⟨cb,pm,nm,A,OP,h2,h3,h9⟩:=g.rest
 refine⟨⟨cb,pm,nm,A,OP,h2,h3,fun k hk=>Ext.more hb.size k (h9 k hk)⟩,fun k hk=>?_⟩
 rcases hk with hk | hk
 ·exact g.own k (.inl hk)
 ·exact⟨Nat.le_trans hW hk.1,hk.2,fun e=>by have:=h.ob k e;omega⟩
theorem KD.trusted {W w w1 w2:World}{O N:Nat→Prop}{pb nb db:Nat}{d:Dk}{c':Cl}{n n':Nt}{t:Nat}(h:KD W w w1 O N pb nb db d c' n n' t)(ht:Turn (Ext N w w1) [TCli] w1 w2)(hk:KC W w2 O pb nb c' (Ext N w w1))(hW:W.heap.size≤w.heap.size):KD W w w2 O N pb nb db d c' n n' t:=by
 have hx:∀ k,Ext N w w1 k→W.heap.size≤k:=fun k hk'=>(h.kc.own k hk').1
 refine⟨h.ki,h.ob,h.lies,h.few,h.turn.trans (ht.mono (fun k hk'=>?_) (by decide)),h.sh.past ht hx (by decide) (by decide) (by decide) (by decide) (by decide),?_⟩
 ·rcases hk' with e | e
  ·exact .inl (.inr e)
  ·exact .inr e
 ·obtain⟨cb,pm,nm,A,OP,h2,h3,h9⟩:=hk.rest
  refine⟨⟨cb,pm,nm,A,OP,h2,h3,fun k hk'=>Ext.more ht.size k (h9 k hk')⟩,fun k hk'=>?_⟩
  rcases hk' with hk' | hk'
  ·exact hk.own k (.inl hk')
  ·exact⟨Nat.le_trans hW hk'.1,hk'.2,fun e=>by have:=h.ob k e;omega⟩
theorem updates_any {W w:World}(at_:Nat→Addr)(hE:Env W)(hS:Sents W at_)(hTb:Tabs W){O N:Nat→Prop}{pb nb db:Nat}{d:Dk}{c:Cl}{n:Nt}{t:Nat}(h:KC W w O pb nb c N)(hs:Sh W w O nb db d n)(hki:KI c t)(ht:t≤1000000)(hf:n.fetches+40000 < 4611686018427387904)(hkl:c.key.length≤1048576)(hl:∀ f∈d.fs,f.2.length≤1048576)(hy:∀ l∈n.lies,l.data.length≤1048576):
  Calls Tryz.prog 22 #[ptrV pb,.int .i64 c.size,txv c.root] w fun r w'=>r= .returned (.bool true)∧∃ c' n',c'.key=c.key∧KD W w w' O N pb nb db d c' n n' (t+1):=by
 have HU:=hide (kc_update at_ hE hS hTb h hs hki ht hf hkl hl hy)
 have HOB:Hid (∀ k,O k→k < w.heap.size):=fun k hk=>(hs.own k hk).2
 have HW:Hid (W.heap.size≤w.heap.size):=hs.base.size
 have hsz:=hki.sz
 have HR8:=hide hki.r8
 clear hE hS hTb h hs hki ht hf hkl hl hy
 unfold ptrV txv at *
 go_enter Tryz.func22,Tryz.ntmps22
 go_wp2_with fail
 refine HU.out.mono ?_
 rintro r w1 ⟨q,o,c',n',x,-,-,hki',⟨hk1,-⟩,⟨hl1,hf1⟩,he,hok,rfl,hx,hlen,h8,g1,g2,g3⟩
 have HKD:Hid (KD W w w1 O N pb nb db d c' n n' (t+1)):=⟨hki',HOB.out,hl1,hf1,g1,g2,g3⟩
 have HKEY:=hide hk1
 have hsz':=hki'.sz
 have HR8':=hide hki'.r8
 have HERR:=hide he
 have HOK:=hide hok
 have HX:=hide hx
 have H8:=hide h8
 have HBT:Hid (∀ o,Below w1.heap.size w1 (w1.alloc o)):=fun o=>below_alloc _ _
 obtain⟨xa,xc,rfl⟩:=own_slice hx
 clear hki' hk1 hl1 hf1 he hok hx h8 g1 g2 g3 HU
 unfold toldT
 have HTB:Hid (∀ a b,(w1.alloc (.cells #[a,b] 29)).heap[w1.heap.size]?=some (.cells #[a,b] 29 (0,0))):=fun a b=>heap_alloc_last _ _
 have HKD1:=hide (fun o=>HKD.out.below (HBT.out o) HW.out)
 have HX1:=hide (fun o=>ownsRow_below HX.out (HBT.out o))
 have HTR:=hide (fun o=>kc_trusted (HKD1.out o).kc)
 clear HX HKD HBT
 unfold ptrV txv at HTR
 cases o with
 | inl e =>
  obtain⟨e1,e2,e3,e4⟩:=HERR.out e rfl
  have hn:(outU (Sum.inl e:Sum Er (List (List UInt8)))).2.1=e.n:=rfl
  have h0:(outU (Sum.inl e:Sum Er (List (List UInt8)))).1.length=0:=rfl
  rw [hn,h0]
  clear HERR HOK hn h0
  go_wp2_with fail
  refine(HTR.out _).mono ?_
  rintro r w2 ⟨rfl,ht2,hk2⟩
  have HKD2:=hide ((HKD1.out _).trusted ht2 hk2 HW.out)
  obtain⟨t0,-⟩:=dcell (ht2.keep (HTB.out _ _) (by decide)) 0 _ rfl
  rw [e1,e2]
  clear ht2 hk2 HTR HKD1
  go_wp2_with fail
  go_ret
  exact⟨by first | rfl | simp,c',n',HKEY.out,HKD2.out⟩
 | inr ps =>
  obtain⟨e1,e2,e3,e4⟩:=HOK.out ps rfl
  have hn:(outU (Sum.inr ps:Sum Er (List (List UInt8)))).2.1=0:=rfl
  have h0:(outU (Sum.inr ps:Sum Er (List (List UInt8)))).1.length=ps.length:=rfl
  have HX2:Hid (∀ o,(w1.alloc o).ownsRow w.heap.size 9 1 (.slice xa ps.length xc) ps.length (ps.map txt)):=HX1.out
  have HPL:Hid (ps.length≤65):=hlen
  have HP8:Hid (∀ p∈ps,p.length=8):=H8.out
  rw [hn,h0]
  clear HERR HOK HX1 hn h0 hlen H8
  go_wp2_with fail
  refine(HTR.out _).mono ?_
  rintro r w2 ⟨rfl,ht2,hk2⟩
  have HKD2:=hide ((HKD1.out _).trusted ht2 hk2 HW.out)
  obtain⟨t0,-⟩:=dcell (ht2.keep (HTB.out _ _) (by decide)) 0 _ rfl
  have HX3:=hide (ownsRow_turn (HX2.out _) ht2 (by decide))
  clear ht2 hk2 HTR HKD1 HX2
  by_cases hz:c.size=0
  ·obtain rfl:=e2 (.inl hz)
   rw [hz] at *
   clear e1 e2 e3 e4
   go_wp2_with fail
   go_ret
   exact⟨by first | rfl | simp,c',n',HKEY.out,HKD2.out⟩
  ·by_cases hsame:c'.size=c.size
   ·obtain rfl:=e2 (.inr hsame)
    have e5:=e3 hsame
    rw [hsame,e5]
    clear e1 e2 e3 e4
    go_wp2_with fail
    go_ret
    exact⟨by first | rfl | simp,c',n',HKEY.out,HKD2.out⟩
   ·have hlt:c.size < c'.size:=by omega
    have hz1:¬(c.size:Int)=0:=by omega
    have hz2:¬(c'.size:Int)=(c.size:Int):=by omega
    have hz3:(c.size:Int) < (c'.size:Int):=by omega
    have hq1:((c.size:Int)==0)=false:=beq_eq_false_iff_ne.2 hz1
    have hq2:((c'.size:Int)==(c.size:Int))=false:=beq_eq_false_iff_ne.2 hz2
    have hcon:=e4 (by omega) hlt
    have HC:=hide (plainCon_any 1001 ⟨c.root.toArray⟩ ⟨c'.root.toArray⟩ (c.size:Int) (c'.size:Int) (by omega) (.slice xa ps.length xc) (ps.map tb) w2 (by rw [List.length_map];have:=HPL.out;omega) (by rw [List.length_map];have:=HPL.out;omega) (sss_txt HX3.out))
    have hb:conB 1001 (c.size:Int) (c'.size:Int) (e8 c.root) (e8 c'.root) ((ps.map tb).map fun s=>e8 s.data.toList)=true:=by
     rw [e8_id HR8.out,e8_id HR8'.out,e8s_id HP8.out]
     exact hcon
    have HB:=hide hb
    clear e1 e2 e3 e4 hcon hb
    go_wp2_with fail
    refine HC.out.mono ?_
    rintro r w3 ⟨hr,hb3⟩
    have hr':r= .returned (.bool true):=by rw [hr];exact congrArg (fun b=>Ending.returned (.bool b)) HB.out
    subst hr'
    have HKD3:=hide (HKD2.out.below hb3 HW.out)
    clear hr hb3 HKD2 HC
    go_wp2_with fail
    go_ret
    exact⟨by first | rfl | simp,c',n',HKEY.out,HKD3.out⟩
theorem KD.of {W w w':World}{O N:Nat→Prop}{pb nb db:Nat}{d:Dk}{c:Cl}{n:Nt}{t:Nat}(hki:KI c t)(hs:Sh W w O nb db d n)(g1:Turn (fun k=>O k∨N k) kcT w w')(g2:Sh W w' O nb db d n)(g3:KC W w' O pb nb c (Ext N w w')):KD W w w' O N pb nb db d c n n (t+1) :=
 ⟨hki.later (Nat.le_succ t),fun k hk=>(hs.own k hk).2,rfl,⟨Int.le_refl _,by omega⟩,g1,g2,g3⟩
theorem reads_any {W w:World}(at_:Nat→Addr)(hE:Env W)(hS:Sents W at_)(hTb:Tabs W){O N:Nat→Prop}{pb nb db:Nat}{d:Dk}{c:Cl}{n:Nt}{t:Nat}(h:KC W w O pb nb c N)(hs:Sh W w O nb db d n)(hki:KI c t)(ht:t≤1000000)(hf:n.fetches+40000 < 4611686018427387904)(i:Int)(hi:0≤i)(hi2:i≤9223372036854775807):
  Calls Tryz.prog 23 #[ptrV pb,.int .i64 c.size,txv c.root,.int .i64 i] w fun r w'=>r= .returned (.bool true)∧∃ c' n',c'.key=c.key∧KD W w w' O N pb nb db d c' n n' (t+1):=by
 have HU:Hid (Calls Tryz.prog 20 #[ptrV pb,.int .i64 i] w fun r w'=>∃ o c' n' nn x,c'.key=c.key∧c'.size=c.size∧c'.root=c.root∧KD W w w' O N pb nb db d c' n n' (t+1)∧(∀ e ps,o= .inr (e,ps)→e.length≤20∧i < (c.size:Int)∧incC (leafH e) i.toNat c.size ps c.root=true)∧(∀ e,o= .inl e→2≤e.n∧e.n≤6∧nn=true) ∧
   r= .returned (.tuple #[txv (outR o).1,.bool nn,x,toldT (outR o).2.2])∧(nn=true→(outR o).1=[])∧w'.ownsRow w.heap.size 9 1 x (outR o).2.1.length ((outR o).2.1.map txt)∧(outR o).2.1.length≤65∧(∀ p∈(outR o).2.1,p.length=8)):=by
  by_cases hlt:i < (c.size:Int)
  ·obtain⟨j,rfl⟩:=Int.eq_ofNat_of_zero_le hi
   refine(kc_read at_ hE hS hTb h hs hki ht hf j (by omega)).mono ?_
   rintro r w' ⟨o,c',n',nn,x,-,k1,⟨k2,k3,k4,k5⟩,⟨k6,k7⟩,k8,k9,k10,k11,k12,k13,k14,k15,g1,g2,g3⟩
   exact⟨o,c',n',nn,x,k2,k3,k4,⟨k1,fun k hk=>(hs.own k hk).2,k6,k7,g1,g2,g3⟩,fun e ps he=>⟨(k8 e ps he).1,hlt,(k8 e ps he).2⟩,fun e he=>⟨by have:=(k9 e he).1;omega,(k9 e he).2,k12 e he⟩,k10,k11,k13,k14,k15⟩
  ·refine(kc_read_out at_ hS h hs hf i (.inr (by omega))).mono ?_
   rintro r w' ⟨x,rfl,hx,g1,g2,g3⟩
   exact⟨.inl .range,c,n,true,x,rfl,rfl,rfl,KD.of hki hs g1 g2 g3,fun e ps he=>(by cases he),fun e he=>(by cases he;exact⟨by show(2:Int)≤2;omega,by show(2:Int)≤6;omega,rfl⟩),rfl,fun _=>rfl,hx,by simp [outR],by simp [outR]⟩
 have HW:Hid (W.heap.size≤w.heap.size):=hs.base.size
 have hsz:=hki.sz
 have HR8:=hide hki.r8
 clear hE hS hTb h hs hki ht hf
 unfold ptrV txv at *
 go_enter Tryz.func23,Tryz.ntmps23
 go_wp2_with fail
 refine HU.out.mono ?_
 rintro r w1 ⟨o,c',n',nn,x,hk1,hk2,hk3,hkd,hok,he,rfl,hnn,hx,hlen,h8⟩
 have HKD:=hide hkd
 have HKEY:=hide hk1
 have HERR:=hide he
 have HOK:=hide hok
 have HX:=hide hx
 have H8:=hide h8
 have HNN:=hide hnn
 have HBT:Hid (∀ o,Below w1.heap.size w1 (w1.alloc o)):=fun o=>below_alloc _ _
 obtain⟨xa,xc,rfl⟩:=own_slice hx
 clear hkd hk1 he hok hx h8 HU hnn
 unfold toldT
 have HTB:Hid (∀ a b,(w1.alloc (.cells #[a,b] 29)).heap[w1.heap.size]?=some (.cells #[a,b] 29 (0,0))):=fun a b=>heap_alloc_last _ _
 have HKD1:=hide (fun o=>HKD.out.below (HBT.out o) HW.out)
 have HX1:=hide (fun o=>ownsRow_below HX.out (HBT.out o))
 have HTR:=hide (fun o=>kc_trusted (HKD1.out o).kc)
 clear HX HKD HBT
 unfold ptrV txv at HTR
 rw [hk2,hk3] at HTR
 cases o with
 | inl e =>
  obtain⟨e3,e4,rfl⟩:=HERR.out e rfl
  have hn:(outR (Sum.inl e:Sum Er (List UInt8×List (List UInt8)))).2.2.1=e.n:=rfl
  have h0:(outR (Sum.inl e:Sum Er (List UInt8×List (List UInt8)))).2.1.length=0:=rfl
  have h1:(outR (Sum.inl e:Sum Er (List UInt8×List (List UInt8)))).1=[]:=rfl
  rw [hn,h0,h1]
  clear HERR HOK hn h0 h1
  go_wp2_with fail
  refine(HTR.out _).mono ?_
  rintro r w2 ⟨rfl,ht2,hk2'⟩
  have HKD2:=hide ((HKD1.out _).trusted ht2 hk2' HW.out)
  obtain⟨t0,-⟩:=dcell (ht2.keep (HTB.out _ _) (by decide)) 0 _ rfl
  clear ht2 hk2' HTR HKD1
  go_wp2_with fail
  go_ret
  exact⟨by first | rfl | simp,c',n',HKEY.out,HKD2.out⟩
 | inr y =>
  obtain⟨e,ps⟩:=y
  obtain⟨e1,e2,e3⟩:=HOK.out e ps rfl
  have hn:(outR (Sum.inr (e,ps):Sum Er (List UInt8×List (List UInt8)))).2.2.1=0:=rfl
  have h0:(outR (Sum.inr (e,ps):Sum Er (List UInt8×List (List UInt8)))).2.1.length=ps.length:=rfl
  have h1:(outR (Sum.inr (e,ps):Sum Er (List UInt8×List (List UInt8)))).1=e:=rfl
  have HX2:Hid (∀ o,(w1.alloc o).ownsRow w.heap.size 9 1 (.slice xa ps.length xc) ps.length (ps.map txt)):=HX1.out
  have HPL:Hid (ps.length≤65):=hlen
  have HP8:Hid (∀ p∈ps,p.length=8):=H8.out
  have HN':Hid (nn=true→e=[]):=HNN.out
  rw [hn,h0,h1]
  clear HERR HOK HX1 hn h0 h1 hlen H8 HNN
  go_wp2_with fail
  refine(HTR.out _).mono ?_
  rintro r w2 ⟨rfl,ht2,hk2'⟩
  have HKD2:=hide ((HKD1.out _).trusted ht2 hk2' HW.out)
  obtain⟨t0,-⟩:=dcell (ht2.keep (HTB.out _ _) (by decide)) 0 _ rfl
  have HX3:=hide (ownsRow_turn (HX2.out _) ht2 (by decide))
  have HLF:=hide (plainLeaf_any ⟨e.toArray⟩ w2 (by show e.toArray.size≤_;simp;unfold maxLen;omega))
  clear ht2 hk2' HTR HKD1 HX2
  go_wp2_with fail
  refine HLF.out.mono ?_
  rintro r w3 ⟨rfl,hb3⟩
  have HKD3:=hide (HKD2.out.below hb3 HW.out)
  have HC:=hide (plainInc_any 1001 ⟨(leafH e).toArray⟩ ⟨c.root.toArray⟩ i (c.size:Int) (by omega) (.slice xa ps.length xc) (ps.map tb) w3 (by rw [List.length_map];have:=HPL.out;omega) (by rw [List.length_map];have:=HPL.out;omega) (sss_txt (ownsRow_below HX3.out hb3)))
  have hb:incB 1001 (e8 (leafH e)) i (c.size:Int) ((ps.map tb).map fun s=>e8 s.data.toList) (e8 c.root)=true:=by
   rw [e8_id HR8.out,e8_id (leafH_length _),e8s_id HP8.out]
   obtain⟨j,rfl⟩:=Int.eq_ofNat_of_zero_le hi
   exact e3
  have HB:=hide hb
  clear hb hb3 HLF HKD2 HX3 e3
  unfold txt
  go_wp2_with fail
  refine HC.out.mono ?_
  rintro r w4 ⟨hr,hb4⟩
  have hr':r= .returned (.bool true):=by rw [hr];exact congrArg (fun b=>Ending.returned (.bool b)) HB.out
  subst hr'
  have HKD4:=hide (HKD3.out.below hb4 HW.out)
  clear hr hb4 HKD3 HC
  cases nn with
  | true =>
   obtain rfl:=HN'.out rfl
   go_wp2_with fail
   go_ret
   exact⟨by first | rfl | simp,c',n',HKEY.out,HKD4.out⟩
  | false =>
   go_wp2_with fail
   go_ret
   exact⟨by first | rfl | simp,c',n',HKEY.out,HKD4.out⟩
end
end Go.Proofs.YtinhekmmdlhfkaaGreatDoor
namespace Go.Proofs
open Go.Shelf
def Tryz.sortFile_ren:Go.Shelf.Ren:=⟨fun | 6=>41 | 15=>66 | 14=>65 | 28=>114 | 29=>115 | 20=>106 | 21=>107 | 22=>108 | 23=>109 | 24=>110 | 25=>111 | 26=>112 | 27=>113 | 46=>156 | 47=>157 | 48=>158 | 49=>159 | 50=>160 | 57=>190 | n=>n,fun | 22=>39 | 24=>63 | 25=>103 | 3=>3 | 39=>155 | 0=>0 | 53=>136 | 55=>199 | 4=>4 | 46=>220 | 45=>219 | 50=>224 | 5=>5 | 9=>9 | 66=>280 | 70=>284 | 76=>306 | 77=>307 | n=>n,fun | n=>n⟩
theorem Tryz.sortFile:Go.Proofs.SlLaysF0.n6 Tryz.prog Tryz.sortFile_ren:={
 mixed:=by kernel_rfl
 f6:=⟨Tryz.f41.name,by decide,Tryz.func41.trans (congrArg some (by kernel_rfl))⟩
 f14:=⟨Tryz.f65.name,by decide,Tryz.func65.trans (congrArg some (by kernel_rfl))⟩
 f15:=Tryz.func66.trans (congrArg some (by kernel_rfl))
 f20:=⟨Tryz.f106.name,by decide,Tryz.func106.trans (congrArg some (by kernel_rfl))⟩
 f21:=⟨Tryz.f107.name,by decide,Tryz.func107.trans (congrArg some (by kernel_rfl))⟩
 f22:=⟨Tryz.f108.name,by decide,Tryz.func108.trans (congrArg some (by kernel_rfl))⟩
 f23:=⟨Tryz.f109.name,by decide,Tryz.func109.trans (congrArg some (by kernel_rfl))⟩
 f24:=⟨Tryz.f110.name,by decide,Tryz.func110.trans (congrArg some (by kernel_rfl))⟩
 f25:=⟨Tryz.f111.name,by decide,Tryz.func111.trans (congrArg some (by kernel_rfl))⟩
 f26:=⟨Tryz.f112.name,by decide,Tryz.func112.trans (congrArg some (by kernel_rfl))⟩
 f27:=⟨Tryz.f113.name,by decide,Tryz.func113.trans (congrArg some (by kernel_rfl))⟩
 f28:=Tryz.func114.trans (congrArg some (by kernel_rfl))
 f29:=Tryz.func115.trans (congrArg some (by kernel_rfl))
 f46:=⟨Tryz.f156.name,by decide,Tryz.func156.trans (congrArg some (by kernel_rfl))⟩
 f47:=Tryz.func157.trans (congrArg some (by kernel_rfl))
 f48:=Tryz.func158.trans (congrArg some (by kernel_rfl))
 f49:=⟨Tryz.f159.name,by decide,Tryz.func159.trans (congrArg some (by kernel_rfl))⟩
 f50:=⟨Tryz.f160.name,by decide,Tryz.func160.trans (congrArg some (by kernel_rfl))⟩
 f57:=⟨Tryz.f190.name,by decide,Tryz.func190.trans (congrArg some (by kernel_rfl))⟩
 t0:=Tryz.underlying0
 a0:=Tryz.isAgg0
 z0:=Tryz.sizeOf0
 v0:=Tryz.zeroValue0
 t3:=Tryz.underlying3
 a3:=Tryz.isAgg3
 z3:=Tryz.sizeOf3
 v3:=Tryz.zeroValue3
 t4:=Tryz.underlying4
 a4:=Tryz.isAgg4
 z4:=Tryz.sizeOf4
 v4:=Tryz.zeroValue4
 t5:=Tryz.underlying5
 a5:=Tryz.isAgg5
 z5:=Tryz.sizeOf5
 v5:=Tryz.zeroValue5
 t9:=Tryz.underlying9
 a9:=Tryz.isAgg9
 z9:=Tryz.sizeOf9
 v9:=Tryz.zeroValue9
 t22:=Tryz.underlying39
 a22:=Tryz.isAgg39
 z22:=Tryz.sizeOf39
 v22:=Tryz.zeroValue39
 t25:=Tryz.underlying103
 a25:=Tryz.isAgg103
 z25:=Tryz.sizeOf103
 v25:=Tryz.zeroValue103
 t39:=Tryz.underlying155
 a39:=Tryz.isAgg155
 z39:=Tryz.sizeOf155
 v39:=Tryz.zeroValue155
 t45:=Tryz.underlying219
 a45:=Tryz.isAgg219
 z45:=Tryz.sizeOf219
 v45:=Tryz.zeroValue219
 t46:=Tryz.underlying220
 a46:=Tryz.isAgg220
 z46:=Tryz.sizeOf220
 v46:=Tryz.zeroValue220
 t50:=Tryz.underlying224
 a50:=Tryz.isAgg224
 z50:=Tryz.sizeOf224
 v50:=Tryz.zeroValue224
 t53:=Tryz.underlying136
 a53:=Tryz.isAgg136
 z53:=Tryz.sizeOf136
 v53:=Tryz.zeroValue136
 t55:=Tryz.underlying199
 a55:=Tryz.isAgg199
 z55:=Tryz.sizeOf199
 v55:=Tryz.zeroValue199
 t66:=Tryz.underlying280
 a66:=Tryz.isAgg280
 z66:=Tryz.sizeOf280
 v66:=Tryz.zeroValue280
 t70:=Tryz.underlying284
 a70:=Tryz.isAgg284
 z70:=Tryz.sizeOf284
 v70:=Tryz.zeroValue284
 t76:=Tryz.underlying306
 a76:=Tryz.isAgg306
 z76:=Tryz.sizeOf306
 v76:=Tryz.zeroValue306
 t77:=Tryz.underlying307
 a77:=Tryz.isAgg307
 z77:=Tryz.sizeOf307
 v77:=Tryz.zeroValue307 }
end Go.Proofs
namespace Go.Proofs.YtinhekmmdlhfkaaGreatDoor
section
open Go.RowKit
set_option maxRecDepth 100000
end
end Go.Proofs.YtinhekmmdlhfkaaGreatDoor
namespace Go.Proofs
open Go.Shelf
def Tryz.cloneFile_ren:Go.Shelf.Ren:=⟨fun | 41=>40 | n=>n,fun | 22=>39 | 23=>63 | 4=>4 | n=>n,fun | n=>n⟩
theorem Tryz.cloneFile:Go.Proofs.SlLaysE0.n41 Tryz.prog Tryz.cloneFile_ren:={
 mixed:=by kernel_rfl
 f41:=⟨Tryz.f40.name,by decide,Tryz.func40.trans (congrArg some (by kernel_rfl))⟩
 t4:=Tryz.underlying4
 a4:=Tryz.isAgg4
 z4:=Tryz.sizeOf4
 v4:=Tryz.zeroValue4
 t22:=Tryz.underlying39
 a22:=Tryz.isAgg39
 z22:=Tryz.sizeOf39
 v22:=Tryz.zeroValue39 }
end Go.Proofs
namespace Go.Proofs.YtinhekmmdlhfkaaGreatDoor
section
open Go.RowKit Go.Lib Go.Sort
set_option maxRecDepth 100000
end
section
open Go.RowKit
set_option maxRecDepth 100000
end
section
open Go.RowKit
set_option maxRecDepth 100000
end
section
open Go.RowKit
set_option maxRecDepth 100000
structure Wd where
 key:List UInt8
 published:Int
 failed:Bool
 foreign:Bool
end
section
open Go.RowKit
set_option maxRecDepth 100000
end
section
set_option maxHeartbeats 1000000
open Go.RowKit
set_option maxRecDepth 100000
def LFree (w:World)(lb g:Nat):Prop:=∃(ev:Value) (n:Nat) (xs:List Value),w.cell? ⟨lb,2,none⟩=some ev∧w.ownsRow 0 76 1 ev n xs∧∀ x∈xs,x.ownBlock≠some g
theorem owns_same {w:World}{B B':Nat}{e:TypeId}{v:Value}{n n':Nat}{xs xs':List Value}(h:w.ownsRow B e 1 v n xs)(h':w.ownsRow B' e 1 v n' xs'):xs=xs':=by
 obtain⟨l1,h⟩:=h
 obtain⟨l2,h'⟩:=h'
 rcases h with ⟨rfl,rfl⟩ | ⟨g,cap,cur,rfl,-,hg,-,-,-,ht⟩
 ·rcases h' with ⟨-,rfl⟩ | ⟨g',cap',cur',e',-⟩
  ·rw [List.eq_nil_of_length_eq_zero (l:=xs) (by omega),List.eq_nil_of_length_eq_zero (l:=xs') (by omega)]
  ·simp at e'
 ·rcases h' with ⟨e',-⟩ | ⟨g',cap',cur',e',-,hg',-,-,-,ht'⟩
  ·simp at e'
  ·simp only [Value.slice.injEq,Option.some.injEq,Addr.mk.injEq,and_true] at e'
   obtain⟨rfl,rfl,rfl⟩:=e'
   rw [hg] at hg'
   simp only [Option.some.injEq,Obj.cells.injEq,and_true] at hg'
   rw [← ht,← ht',hg']
theorem LFree.fresh {w:World}{O:Nat→Prop}{db lb:Nat}{l:Lg}(h:LogAt w O db lb l)(g:Nat)(hg:w.heap.size≤g):LFree w lb g:=by
 obtain⟨ev,-,hb,⟨xs,ho,hx⟩,-⟩:=h
 refine⟨ev,l.es.length,xs,(dcell hb 2 _ rfl).1,ho,fun x hm e=>?_⟩
 obtain⟨j,hj,rfl⟩:=List.getElem_of_mem hm
 have hjl:j < l.es.length:=by rw [ho.1] at hj;omega
 obtain⟨y,e',hy⟩:=hx j hjl
 rw [List.getElem?_eq_getElem hj] at e'
 simp only [Option.some.injEq] at e'
 obtain⟨g',cap,hf,-,hl,-⟩:=hy.form
 rw [e',hf] at e
 simp only [Value.ownBlock,Option.some.injEq] at e
 omega
theorem LFree.below {w w':World}{lb g:Nat}(h:LFree w lb g)(hb:Below w.heap.size w w'):LFree w' lb g:=by
 obtain⟨ev,n,xs,hc,ho,hx⟩:=h
 exact⟨ev,n,xs,by rw [hb.cell (p:=⟨lb,2,none⟩) (cell_lt hc)];exact hc,ownsRow_below ho hb,hx⟩
theorem LogAt.clear {w w':World}{O:Nat→Prop}{db lb g:Nat}{l:Lg}{C:Array Value}{f:Nat×Nat}(h:LogAt w O db lb l)(hf:LFree w lb g)(hg:w.heap[g]?=some (.cells C 5 f))(hk:∀ k,k≠g→w'.heap[k]?=w.heap[k]?):LogAt w' O db lb l:=by
 obtain⟨ev,a,hb,⟨xs,ho,hx⟩,hgo⟩:=h
 obtain⟨ev2,n2,xs2,hc2,ho2,hx2⟩:=hf
 rw [(dcell hb 2 ev rfl).1] at hc2
 simp only [Option.some.injEq] at hc2
 subst hc2
 obtain rfl:=owns_same ho ho2
 have hne:∀(k:Nat) (c:Array Value) (t:TypeId) (x:Nat×Nat),w.heap[k]?=some (Obj.cells c t x)→t≠5→w'.heap[k]?=some (Obj.cells c t x):=fun k c t x e ht=>by
  rw [hk k (fun e'=>?_)]
  ·exact e
  ·subst e'
   rw [hg] at e
   simp only [Option.some.injEq,Obj.cells.injEq] at e
   exact ht e.2.1.symm
 refine⟨ev,a,hne _ _ _ _ hb (by decide),⟨xs,⟨ho.1,?_⟩,fun j hj=>?_⟩,hgo⟩
 ·rcases ho.2 with h | ⟨g',cap,cur,e1,e2,e3,r⟩
  ·exact .inl h
  ·exact .inr ⟨g',cap,cur,e1,e2,hne _ _ _ _ e3 (by decide),r⟩
 ·obtain⟨x,e,hob⟩:=hx j hj
  refine⟨x,e,⟨hob.1.1,?_⟩,hob.2⟩
  have hm:=hx2 x (List.mem_of_getElem? e)
  rcases hob.1.2 with h | ⟨g',cap,cur,e1,e2,e3,r⟩
  ·exact .inl h
  ·refine .inr ⟨g',cap,cur,e1,e2,?_,r⟩
   rw [hk g' (fun e'=>?_)]
   ·exact e3
   ·rw [e1,e'] at hm
    exact hm rfl
theorem lb_stays {w w3:World}{lb db n:Nat}{a:Option Addr}{cap:Nat}{l:Lg}{xs:List Value}(ho:w.ownsRow 0 76 1 (.slice a n cap) n xs)(hb:w.heap[lb]?=some (.cells (lcells db (.slice a n cap) l) 109 (0,0)))(hgr:w.grownBy w3 (Value.slice a n cap).ownBlock):w3.heap[lb]?=some (.cells (lcells db (.slice a n cap) l) 109 (0,0)):=by
 rw [hgr.block lb (heap_some_lt hb) (fun e=>?_)]
 ·exact hb
 ·rcases ho.2 with ⟨h,-⟩ | ⟨g,cp,cur,h,-,hg,-⟩
  ·simp at h;rw [h.1] at e;simp [Value.ownBlock] at e
  ·simp at h
   rw [h.1] at e
   simp only [Value.ownBlock,Option.some.injEq] at e
   subst e
   rw [hg] at hb
   simp at hb
theorem append_any (O:Nat→Prop)(W:World)(at_:Nat→Addr)(hSN:Sents W at_)(db lb:Nat)(l:Lg)(v:Value)(x:List UInt8)(w:World)(hW:Below W.heap.size W w)(he:l.es.length≤1000000)(h:LogAt w O db lb l)(hx:Bq w v x)(hxl:x.length≤9223372036854775807):
  Calls Tryz.prog 29 #[.pointer (some ⟨lb,0,none⟩),v] w fun r w'=>Turn O lT w w' ∧
   ((20 < x.length∧r= .returned (.tuple #[.int .i64 0,errS at_ 0])∧Below w.heap.size w w')∨(x.length≤20∧l.live=false∧r= .returned (.tuple #[.int .i64 0,errS at_ 6])∧Below w.heap.size w w') ∨
    (x.length≤20∧l.live=true∧r= .returned (.tuple #[.int .i64 (l.es.length:Int),.nilIface])∧LogAt w' (Ext O w w') db lb { l with es:=l.es++[x] }∧∀ g,g < w.heap.size→LFree w lb g→LFree w' lb g)):=by
 have HS:=hide (sents_below hSN hW)
 have HLG:=hide h
 have HX:=hide hx
 obtain⟨g,cap,C,fr,rfl,hcap,hg,hc⟩:=hx
 have HCC:=hide (And.intro hg hc)
 clear hSN hW h hg hc
 by_cases h20:20 < x.length
 ·have h0:=HS.out.entry
  go_enter Tryz.func29,Tryz.ntmps29
  go_wp2_with fail
  go_region
  all_goals go_wp2_with fail
  all_goals go_ret2
  all_goals exact⟨(Turn.refl _ _ _).drew,.inl ⟨h20,rfl,(Below.refl _ _).drew⟩⟩
 ·have h20':¬(20:Int) < (x.length:Int):=by omega
  cases hlv:l.live with
  | false =>
   have h6:=HS.out.failed
   go_enter Tryz.func29,Tryz.ntmps29
   go_wp2_with fail
   refine(failed_any O db lb l w HLG.out).mono ?_
   rintro r w1 ⟨rfl,rfl⟩
   rw [hlv]
   go_wp2_with fail
   go_region
   all_goals go_wp2_with fail
   all_goals go_ret2
   all_goals exact⟨(Turn.refl _ _ _).drew,.inr (.inl ⟨by omega,by first | rfl | trivial,rfl,(Below.refl _ _).drew⟩)⟩
  | true =>
   obtain⟨a,ecap,hb,hes,hgg,hO⟩:=lok HLG.out
   obtain⟨-,-,⟨c2,f2⟩,-⟩:=lall hb
   go_enter Tryz.func29,Tryz.ntmps29
   go_wp2_with fail
   refine(failed_any O db lb l w HLG.out).mono ?_
   rintro r w1 ⟨rfl,rfl⟩
   rw [hlv]
   have HLV:=hide hlv
   clear hlv
   obtain⟨i,hi,hi'⟩:=Option.map_eq_some_iff.1 infoBytes
   obtain⟨hz0,hz1,hz2⟩:i.zero=some (.slice none 0 0)∧i.size=1∧i.bytes=24:=by simpa using hi'
   clear hi'
   have HI:=hide hi
   have HZ:=hide (And.intro hz0 (And.intro hz1 hz2))
   clear hi hz0 hz1 hz2
   have HB:=hide hb
   have HES:=hide hes
   have HG:=hide hgg
   have HOL:=hide hO
   have hlt:=heap_some_lt hb
   obtain⟨xs,hoe,hxe⟩:=hes
   have HOE:=hide hoe
   have HXE:=hide hxe
   have HCL:Hid (∀ j u,(x.map bv)[j]?=some u→w1.drew.cell? ((⟨g,0,none⟩:Addr).add j)=some u):=fun j u hj=>by
    have hjl:j < x.length:=by simpa using (List.getElem?_eq_some_iff.1 hj).1
    rw [Addr.add_mid,Nat.zero_add]
    show w1.cell? ⟨g,j,none⟩=_
    rw [cell_of_row _ _ _ _ _ _ HCC.out.1,HCC.out.2 j hjl]
    simpa [hjl] using hj
   clear hb hgg hO hoe hxe
   go_wp2_with fail
   go_region_law (first
    | (go_simp;go_at_call 49;(refine(clone_any ⟨g,0,none⟩ x.length cap x w1.drew rfl (by omega) (by exact HCL.out)).mono ?_;rintro r w2 ⟨y,rfl,hob,hb2⟩;obtain⟨gy,cy,ny,rfl⟩:=ob_shape hob;have hbb:Below w1.heap.size w1 w2:=(Below.refl _ w1).drew.trans hb2;have m2:w2.cell? ⟨lb,2,none⟩=some (.slice a l.es.length ecap):=(by rw [hbb.cell (p:=⟨lb,2,none⟩) hlt];exact c2);have m2':∀ o,(w2.alloc o).cell? ⟨lb,2,none⟩=some (.slice a l.es.length ecap):=(fun o=>by rw [cell_old _ _ ⟨_,2,none⟩ (cell_lt m2)];exact m2);have HOB:=hide hob;have HBB:=hide hbb;have HO2:Hid (∀ o,(w2.alloc o).ownsRow 0 76 1 (.slice a l.es.length ecap) l.es.length xs):=(fun o=>ownsRow_below (ownsRow_below HOE.out hbb) (below_alloc w2 o));have HLB:Hid (∀ o w3,(w2.alloc o).grownBy w3 (Value.slice a l.es.length ecap).ownBlock→w3.heap[lb]?=some (.cells (lcells db (.slice a l.es.length ecap) l) 109 (0,0))):=(fun o w3 hgr=>lb_stays (HO2.out o) (heap_alloc_old (by rw [hbb.block _ hlt];exact HB.out)) hgr);clear hob hb2 hbb))
    | (refine step_append_lies _ (by rfl) _ _ _ (by rfl) 0 76 i (.slice none 0 0) 1 24 Tryz.underlying107 HI.out HZ.out.1 HZ.out.2.1 HZ.out.2.2 rfl (by omega) (.slice a l.es.length ecap) l.es.length xs (by rfl) (HO2.out _) ⟨w2.heap.size,0,none⟩ 1 1 [.slice (some ⟨gy,0,none⟩) ny cy] (by rfl) rfl (World.news_of_block (heap_alloc_last _ _)) (by simp [Value.oneCell']) (by omega) (by unfold maxLen;omega) (by omega) (by omega) (w2.heap.size+1) (by simp) ?_;intro g3 cap3 w3 hown hgrow hat hltg;have hb3:=HLB.out _ w3 hgrow;obtain⟨-,-,⟨k3,z3⟩,-⟩:=lall hb3;have HOW:=hide hown;have HGR:=hide hgrow;have HAT:=hide hat;have HB3:=hide hb3;clear hown hgrow hat hb3))
   all_goals
    have k6:=(dcell (dset HB3.out 2 (.slice (some ⟨g3,0,none⟩) (l.es.length+1) cap3)) 2 _ rfl).1
    go_wp2_with fail
    go_ret2
    have hbo:=HBB.out
    have hT2:Turn O lT w1 (w2.alloc (.cells #[.slice (some ⟨gy,0,none⟩) ny cy] 76)):=(Turn.of_below hbo).alloc _
    have hTe:Turn O [] w1 (w2.alloc (.cells #[.slice (some ⟨gy,0,none⟩) ny cy] 76)):=(Turn.of_below hbo).alloc _
    have hszz:w1.heap.size≤(w2.alloc (.cells #[.slice (some ⟨gy,0,none⟩) ny cy] 76)).heap.size:=hT2.size
    have hfin:=log_append (l:=l) (es:=l.es) (b:=[x]) (ys:=[.slice (some ⟨gy,0,none⟩) ny cy]) (hv:=0) (B:=w1.drew.heap.size) hT2 (.inl HOL.out) (fun g' hg'=> .inl (HG.out g' hg')) (HO2.out _)
     (fun j hj=>by
      obtain⟨z,e,hz⟩:=HXE.out j hj
      exact⟨z,e,ownsRow_turn hz.1 hTe (by decide),hz.2⟩)
     (fun j hj=>by
      obtain rfl:j=0:=by simpa using hj
      exact⟨_,rfl,HOB.out.below (below_alloc _ _)⟩)
     (Nat.zero_le _) rfl HOW.out ⟨HGR.out.os,HGR.out.tape,HGR.out.output,HGR.out.size,HGR.out.block⟩ (by have h:=HAT.out;simpa using h) HB3.out
    refine⟨hfin.1,.inr (.inr ⟨by omega,by first | rfl | trivial,congrArg (fun z=>Ending.returned (.tuple #[.int .i64 z,.nilIface])) (by simp),by have h9:=hfin.2.1;rw [HLV.out] at h9;exact h9,fun gf hgf hfr=>?_⟩)⟩
    obtain⟨ev2,n2,xs2,hc2,ho2,hx2⟩:=hfr
    rw [(dcell HB.out 2 _ rfl).1] at hc2
    simp only [Option.some.injEq] at hc2
    subst hc2
    obtain rfl:=owns_same HOE.out ho2
    refine⟨_,_,_,(dcell (dset HB3.out 2 (.slice (some ⟨g3,0,none⟩) (l.es.length+1) cap3)) 2 _ rfl).1,ownsRow_turn HOW.out ((Turn.refl (fun _=>True) [109] w3).set (.inl trivial) HB3.out (by simp) _) (by decide),fun z hz=>?_⟩
    rcases List.mem_append.1 hz with hz | hz
    ·exact hx2 z hz
    ·obtain rfl:z=_:=by simpa using hz
     obtain⟨gy',cy',hfm,hby,-,-⟩:=HOB.out.form
     simp only [Value.slice.injEq,Option.some.injEq,Addr.mk.injEq,and_true] at hfm
     have hby':w1.heap.size≤gy':=hby
     intro e9
     simp only [Value.ownBlock,Option.some.injEq] at e9
     omega
end
end Go.Proofs.YtinhekmmdlhfkaaGreatDoor
