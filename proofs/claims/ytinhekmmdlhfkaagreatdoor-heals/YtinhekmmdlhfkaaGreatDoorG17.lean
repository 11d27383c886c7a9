import Derived.Test.YtinhekmmdlhfkaaGreatDoorG16
import Derived.Test.YtinhekmmdlhfkaaGreatDoorG04
import Derived.Test.YtinhekmmdlhfkaaGreatDoorG15
import Derived.Test.YtinhekmmdlhfkaaGreatDoorG03
import Derived.Test.YtinhekmmdlhfkaaGreatDoorG07
import Derived.Deep.CutRange
import Derived.Deep.LoopGhost
import Derived.Deep.RegionLaw
import Derived.Deep.RegionHeld3
namespace Go.Proofs.YtinhekmmdlhfkaaGreatDoor
section
set_option maxHeartbeats 4000000
open Go.RowKit
set_option maxRecDepth 100000
theorem lines_eq (d h:List UInt8):(⟨#[116,105,108,101,115,10]⟩++⟨d.toArray⟩++⟨#[10]⟩++⟨h.toArray⟩++⟨#[10]⟩:ByteArray)=⟨(tilesL++d++[10]++h++[10]).toArray⟩:=by
 apply ByteArray.ext
 simp [tilesL]
def tv (n:Int)(b0 b1 b2 b3 b4 b5 b6 b7:UInt8):Array Value:=#[.int .i64 n,.int .u8 b0.toNat,.int .u8 b1.toNat,.int .u8 b2.toNat,.int .u8 b3.toNat,.int .u8 b4.toNat,.int .u8 b5.toNat,.int .u8 b6.toNat,.int .u8 b7.toNat]
theorem cells9 {w:World}{g:Nat}{x0 x1 x2 x3 x4 x5 x6 x7 x8:Value}{t:TypeId}{fr:Nat×Nat}(h:w.heap[g]?=some (.cells #[x0,x1,x2,x3,x4,x5,x6,x7,x8] t fr)):
  w.cell? ⟨g,0,none⟩=some x0∧w.cell? ⟨g,1,none⟩=some x1∧w.cell? ⟨g,2,none⟩=some x2∧w.cell? ⟨g,3,none⟩=some x3∧w.cell? ⟨g,4,none⟩=some x4∧w.cell? ⟨g,5,none⟩=some x5∧w.cell? ⟨g,6,none⟩=some x6∧w.cell? ⟨g,7,none⟩=some x7∧w.cell? ⟨g,8,none⟩=some x8:=by
 refine⟨?_,?_,?_,?_,?_,?_,?_,?_,?_⟩<;>rw [cell_of_row _ _ _ _ _ _ h]<;>rfl
theorem conv_bs (w:World)(k:List UInt8)(c:Nat):Bs (w.alloc (.cells (bytesRow ⟨k.toArray⟩ c) 5 ((bytesRow ⟨k.toArray⟩ c).size,(bytesRow ⟨k.toArray⟩ c).size+1))) (.slice (some ⟨w.heap.size,0,none⟩) k.length c) k :=
 ⟨_,_,rfl,.inr ⟨w.heap.size,0,rfl,fun i hi=>by
  rw [Nat.zero_add,conv_cells w ⟨k.toArray⟩ c i hi]
  rfl⟩⟩
theorem sign_parts (w:World)(k l:List UInt8)(c1 c2:Nat):
  Bss ((((w.alloc (.cells (bytesRow ⟨k.toArray⟩ c1) 5 ((bytesRow ⟨k.toArray⟩ c1).size,(bytesRow ⟨k.toArray⟩ c1).size+1))).alloc (.cells #[.int .u8 0] 5)).alloc (.cells (bytesRow ⟨l.toArray⟩ c2) 5 ((bytesRow ⟨l.toArray⟩ c2).size,(bytesRow ⟨l.toArray⟩ c2).size+1))).alloc
   (.cells #[.slice (some ⟨w.heap.size,0,none⟩) k.length c1,.slice (some ⟨w.heap.size+1,0,none⟩) 1 1,.slice (some ⟨w.heap.size+1+1,0,none⟩) l.length c2] 76)) (.slice (some ⟨w.heap.size+1+1+1,0,none⟩) 3 3) [k,[0],l]:=by
 have h1:=conv_bs w k c1
 have s1:(w.alloc (.cells (bytesRow ⟨k.toArray⟩ c1) 5 ((bytesRow ⟨k.toArray⟩ c1).size,(bytesRow ⟨k.toArray⟩ c1).size+1))).heap.size=w.heap.size+1:=by simp
 generalize w.alloc (.cells (bytesRow ⟨k.toArray⟩ c1) 5 ((bytesRow ⟨k.toArray⟩ c1).size,(bytesRow ⟨k.toArray⟩ c1).size+1))=w1 at *
 have h2:Bs (w1.alloc (.cells #[.int .u8 0] 5)) (.slice (some ⟨w.heap.size+1,0,none⟩) 1 1) [0]:=Bs.fresh w1 [0] 5 (w.heap.size+1) s1.symm 1
 have h1:=h1.below (below_alloc w1 (.cells #[.int .u8 0] 5))
 have s2:(w1.alloc (.cells #[.int .u8 0] 5)).heap.size=w.heap.size+1+1:=by simp [s1]
 generalize w1.alloc (.cells #[.int .u8 0] 5)=w2 at *
 have h3:=conv_bs w2 l c2
 rw [s2] at h3
 have h1:=h1.below (below_alloc w2 (.cells (bytesRow ⟨l.toArray⟩ c2) 5 ((bytesRow ⟨l.toArray⟩ c2).size,(bytesRow ⟨l.toArray⟩ c2).size+1)))
 have h2:=h2.below (below_alloc w2 (.cells (bytesRow ⟨l.toArray⟩ c2) 5 ((bytesRow ⟨l.toArray⟩ c2).size,(bytesRow ⟨l.toArray⟩ c2).size+1)))
 have s3:(w2.alloc (.cells (bytesRow ⟨l.toArray⟩ c2) 5 ((bytesRow ⟨l.toArray⟩ c2).size,(bytesRow ⟨l.toArray⟩ c2).size+1))).heap.size=w.heap.size+1+1+1:=by simp [s2]
 generalize w2.alloc (.cells (bytesRow ⟨l.toArray⟩ c2) 5 ((bytesRow ⟨l.toArray⟩ c2).size,(bytesRow ⟨l.toArray⟩ c2).size+1))=w3 at *
 refine⟨_,3,rfl,Nat.le_refl _,.inr ⟨w.heap.size+1+1+1,0,rfl,fun i hi=>?_⟩⟩
 have hb:=below_alloc w3 (.cells #[.slice (some ⟨w.heap.size,0,none⟩) k.length c1,.slice (some ⟨w.heap.size+1,0,none⟩) 1 1,.slice (some ⟨w.heap.size+1+1,0,none⟩) l.length c2] 76)
 rw [Nat.zero_add]
 match i,hi with
 | 0,_=>exact⟨_,cell_new w3 _ _ 0 _ s3.symm,h1.below hb⟩
 | 1,_=>exact⟨_,cell_new w3 _ _ 1 _ s3.symm,h2.below hb⟩
 | 2,_=>exact⟨_,cell_new w3 _ _ 2 _ s3.symm,h3.below hb⟩
theorem sign_any (n:Int)(h0:0≤n)(h1:n≤9223372036854775807)(b0 b1 b2 b3 b4 b5 b6 b7:UInt8)(key:List UInt8)(hk:key.length≤9223372036854775807)(w:World)(E:Env w):
  Calls Tryz.prog 96 #[.agg (tv n b0 b1 b2 b3 b4 b5 b6 b7),.string ⟨key.toArray⟩] w fun r w'=>r= .returned (.string ⟨(signF n.toNat [b0,b1,b2,b3,b4,b5,b6,b7] key).toArray⟩)∧Below w.heap.size w w':=by
 unfold tv
 have HE:=hide E
 clear E
 have HS:Hid (signF n.toNat [b0,b1,b2,b3,b4,b5,b6,b7] key=(tilesL++dec n.toNat++[10]++hexF [b0,b1,b2,b3,b4,b5,b6,b7]++[10])++hexF (hash (key++[0]++(tilesL++dec n.toNat++[10]++hexF [b0,b1,b2,b3,b4,b5,b6,b7]++[10])))++[10]):=rfl
 have hd:=dec_length_le n h0 h1
 have hx:=hexF_len [b0,b1,b2,b3,b4,b5,b6,b7]
 simp only [List.length_cons,List.length_nil] at hx
 have HX:=hide (hexadecimal_any [b0,b1,b2,b3,b4,b5,b6,b7] rfl)
 have HI:=hide (itoa_call n h0 h1)
 generalize dec n.toNat=d at *
 generalize hexF [b0,b1,b2,b3,b4,b5,b6,b7]=h at *
 have a1:¬ 9223372036854775807 < 6+d.length:=by omega
 have a2:¬ 9223372036854775807 < 6+d.length+1:=by omega
 have a3:¬ 9223372036854775807 < 6+d.length+1+h.length:=by omega
 have a4:¬ 9223372036854775807 < 6+d.length+1+h.length+1:=by omega
 have hle:=lines_eq d h
 have hll:(tilesL++d++[10]++h++[10]).length≤60:=by simp [tilesL];omega
 generalize tilesL++d++[10]++h++[10]=L at *
 have hcv:∀(w0:World) (s:ByteArray),(convert 9 76 (.string s)).run Tryz.prog w0=_:=fun w0 s=>run_bytes_of_string (P:=Tryz.prog) w0 9 76 5 s Tryz.underlying9 Tryz.underlying76 Tryz.underlying5
 go_enter Tryz.func96,Tryz.ntmps96
 go_wp2_with fail
 go_region_with (first
  | (go_at_call 118;refine(HI.out _ (HE.out.below (below_alloc w _).drew)).mono ?_;rintro r w1 ⟨rfl,hb1⟩;have HB1:Hid (Below w.heap.size w w1):=(below_alloc w _).drew.trans (hb1.mono (by simp));obtain⟨c0,c1,c2,c3,c4,c5,c6,c7,c8⟩:=cells9 ((hb1.block w.heap.size (by simp)).trans (heap_alloc_last _ _));clear hb1)
  | (go_at_call 139;refine(HX.out _).mono ?_;rintro r w2 ⟨rfl,hb2⟩;have HB2:Hid (Below w.heap.size w w2):=HB1.out.trans (hb2.mono HB1.out.size);clear hb2))
 all_goals clear c0 c1 c2 c3 c4 c5 c6 c7 c8 HB1 w1
 all_goals
  have hb4:=fun(o1 o2 o3 o4:Obj)=>(below_alloc3 w2 o1 o2 o3).trans ((below_alloc _ o4).mono (by simp;omega))
  have HB4:Hid (∀ o1 o2 o3 o4,Below w.heap.size w ((((w2.alloc o1).alloc o2).alloc o3).alloc o4)):=fun o1 o2 o3 o4=>HB2.out.trans ((hb4 o1 o2 o3 o4).mono HB2.out.size)
  clear hb4
  go_wp2_with fail
  refine(hashOf_any _ [key,[0],L] _ (by simp [maxLen]) (fun x hx=>by simp at hx;rcases hx with rfl | rfl | rfl<;>(unfold maxLen;simp;try omega)) (by exact(sign_parts w2 key L _ _).below ((Below.refl _ _).drew.drew))).mono ?_
  rintro r w5 ⟨hr5,hb5⟩
  have HB5:Hid (Below w.heap.size w w5):=((HB4.out _ _ _ _).drew.drew).trans (hb5.mono (HB4.out _ _ _ _).size)
  rw [show hash [key,[0],L].flatten=hash (key++[0]++L) by simp] at hr5
  subst hr5
  clear hb5 HB4 hcv
  have hhl:=hash_length (key++[0]++L)
  generalize hash (key++[0]++L)=H at *
  go_wp2_with fail
  refine(hexadecimal_any H hhl w5).mono ?_
  rintro r w6 ⟨rfl,hb6⟩
  have HB6:Hid (Below w.heap.size w w6):=HB5.out.trans (hb6.mono HB5.out.size)
  clear hb6
  have hHl:=hexF_len H
  rw [hhl] at hHl
  generalize hexF H=M at *
  have a7:¬ 9223372036854775807 < L.length+M.length:=by omega
  have a8:¬ 9223372036854775807 < L.length+M.length+1:=by omega
  go_wp2_with fail
  go_ret
  refine⟨?_,HB6.out⟩
  rw [HS.out]
  exact ret_txt (by apply ByteArray.ext;simp)
end
section
set_option maxHeartbeats 400000
open Go.RowKit
set_option maxRecDepth 100000
theorem own_mono {e:Bool}{B B':Nat}{r:Value}{w:World}(h:OwnRes e B r w)(hB:B'≤B):OwnRes e B' r w:=by
 rcases h with h | ⟨h,g,h1,h2,h3⟩
 ·exact .inl h
 ·exact .inr ⟨h,g,h1,Nat.le_trans hB h2,h3⟩
theorem swap1_any (O:Nat→Prop)(db lb B1 B2:Nat)(d:Dk)(x:List UInt8)(w:World)(hn:d.fs.length≤1000000000)(h:DiskAt w O db d)
  (h1:w.cell? ⟨B1,0,none⟩=some (.pointer (some ⟨lb,0,none⟩))) (h2:w.cell? ⟨B2,0,none⟩=some (txv x)) (hst:w.cell? ⟨lb,0,none⟩=some (stV db true)) :
  Calls Tryz.prog 125 #[.pointer (some ⟨B1,0,none⟩),.pointer (some ⟨B2,0,none⟩)] w fun r w'=>∃ e,r= .returned e∧OwnRes (bad d) w.heap.size e w'∧Turn O dT w w'∧DiskAt w' (Ext O w w') db (swapD d cpF x):=by
 have l1:=cell_lt h1
 have l2:=cell_lt h2
 have l3:=cell_lt hst
 unfold stV dptr at hst
 simp only [if_true] at hst
 unfold txv at h2
 have h1':∀ o,(w.alloc o).cell? ⟨B1,0,none⟩=some (.pointer (some ⟨lb,0,none⟩)):=fun o=>by rw [cell_old _ _ ⟨_,0,none⟩ l1];exact h1
 have h3':∀ o,(w.alloc o).cell? ⟨lb,0,none⟩=some (.iface 25 (.pointer (some ⟨db,0,none⟩))):=fun o=>by rw [cell_old _ _ ⟨_,0,none⟩ l3];exact hst
 have HD:=hide h
 clear h
 have hm:=meth_swap
 have hcv:=fun w0=>run_bytes_of_string (P:=Tryz.prog) w0 9 76 5 ⟨x.toArray⟩ Tryz.underlying9 Tryz.underlying76 Tryz.underlying5
 go_enter Tryz.func125,Tryz.ntmps125
 go_wp2_with fail
 go_region_with (go_at_call 235;refine(swap_any O db d cpF x _ _ hn (by exact HD.out.stay (O1:=fun _=>False) (T:=[]) ((Turn.refl _ _ w).alloc _).drew.drew (by simp) (by simp)) (by exact bq_conv w x _ (grownCap_ge _ _ _ _))).mono ?_;rintro r w1 ⟨e,rfl,ho,ht,hd⟩;have HO:=hide ho;have HT:=hide ht;have HDD:=hide hd;clear ho ht hd)
 all_goals go_wp2
 all_goals go_ret
 all_goals refine⟨_,rfl,own_mono HO.out (by show w.heap.size≤(w.heap.push _).size;simp),((Turn.refl O dT w).alloc _).drew.drew.trans (HT.out.mono (fun _ h=> .inl h) (fun _ h=>h)),HDD.out.mono (fun k hk=>?_)⟩
 all_goals rcases hk with h | ⟨h,h'⟩
 all_goals first | exact .inl h | exact .inr ⟨Nat.le_trans (by show w.heap.size≤(w.heap.push _).size;simp) h,h'⟩
theorem OBs.bss' {w:World}{B:Nat}{v:Value}{ls:List (List UInt8)}(h:OBs w B v ls):Bss w v ls:=by
 obtain⟨xs,⟨hl,ho⟩,hx⟩:=h
 rcases ho with ⟨rfl,h0⟩ | ⟨g,cap,cur,rfl,hB,hg,hn,hm,hs,ht⟩
 ·exact⟨none,0,by rw [h0],by rw [h0];exact Nat.le_refl _,.inl (List.length_eq_zero_iff.1 h0)⟩
 ·refine⟨_,_,rfl,hn,.inr ⟨g,0,rfl,fun i hi=>?_⟩⟩
  obtain⟨x,e,hb⟩:=hx i hi
  refine⟨x,?_,?_⟩
  ·rw [Nat.zero_add,cell_of_row _ _ _ _ _ _ hg]
   rw [← ht,Nat.mul_one] at e
   rw [List.getElem?_take,if_pos hi] at e
   simpa using e
  ·obtain⟨g',cap',rfl,-,-,hc⟩:=hb.form
   exact⟨_,_,rfl,.inr ⟨g',0,rfl,fun j hj=>by rw [Nat.zero_add];exact hc j hj⟩⟩
theorem lall {w:World}{b db:Nat}{ev:Value}{l:Lg}(h:w.heap[b]?=some (.cells (lcells db ev l) 109 (0,0))):(w.cell? ⟨b,0,none⟩=some (stV db l.live)∧w.frozen? ⟨b,0,none⟩=false)∧(w.cell? ⟨b,1,none⟩=some (txv l.key)∧w.frozen? ⟨b,1,none⟩=false)∧(w.cell? ⟨b,2,none⟩=some ev∧w.frozen? ⟨b,2,none⟩=false)∧(w.cell? ⟨b,3,none⟩=some (.int .i64 l.put)∧w.frozen? ⟨b,3,none⟩=false) :=
 ⟨dcell h 0 _ rfl,dcell h 1 _ rfl,dcell h 2 _ rfl,dcell h 3 _ rfl⟩
theorem frozen9 {w:World}{g:Nat}{cs:Array Value}{t:TypeId}(h:w.heap[g]?=some (.cells cs t (0,0))):∀ i,w.frozen? ⟨g,i,none⟩=false:=fun i=>by simp [World.frozen?,h]
theorem new_at (w:World)(o1 o2:Obj){w1:World}(hb:Below ((w.alloc o1).alloc o2).drew.heap.size ((w.alloc o1).alloc o2).drew w1):w1.heap[w.heap.size+1]?=some o2:=by
 have e:((w.alloc o1).alloc o2).drew.heap[w.heap.size+1]?=some o2:=by
  show((w.alloc o1).alloc o2).heap[w.heap.size+1]?=some o2
  rw [show w.heap.size+1=(w.alloc o1).heap.size by simp]
  exact heap_alloc_last _ _
 rw [hb.block _ (heap_some_lt e)]
 exact e
end
section
open Go.RowKit
set_option maxRecDepth 100000
abbrev lT:List Nat:=[109,76]
theorem LogAt.stay {w w':World}{O O1:Nat→Prop}{T:List Nat}{db b:Nat}{l:Lg}(h:LogAt w O db b l)(ht:Turn O1 T w w')(h1:109∉T)(h2:76∉T)(h3:5∉T):LogAt w' O db b l:=by
 obtain⟨ev,a,hb,⟨xs,ho,hx⟩,hg⟩:=h
 refine⟨ev,a,ht.keep hb h1,⟨xs,ownsRow_turn ho ht h2,fun j hj=>?_⟩,hg⟩
 obtain⟨x,e,hob⟩:=hx j hj
 exact⟨x,e,ownsRow_turn hob.1 ht h3,hob.2⟩
theorem LogAt.mono {w:World}{O O':Nat→Prop}{db b:Nat}{l:Lg}(h:LogAt w O db b l)(hO:∀ k,O k→O' k):LogAt w O' db b l:=by
 obtain⟨ev,a,hb,hes,hg⟩:=h
 exact⟨ev,hO _ a,hb,hes,fun g e=>hO g (hg g e)⟩
theorem obs_turn {w w':World}{O:Nat→Prop}{T:List Nat}{B:Nat}{v:Value}{es:List (List UInt8)}(h:OBs w B v es)(ht:Turn O T w w')(h2:76∉T)(h3:5∉T):OBs w' B v es:=by
 obtain⟨xs,ho,hx⟩:=h
 refine⟨xs,ownsRow_turn ho ht h2,fun j hj=>?_⟩
 obtain⟨x,e,hob⟩:=hx j hj
 exact⟨x,e,ownsRow_turn hob.1 ht h3,hob.2⟩
theorem obs_block {w:World}{B:Nat}{a:Option Addr}{cap:Nat}{es:List (List UInt8)}(h:OBs w B (.slice a es.length cap) es)(h0:0 < es.length):∃ g,a=some ⟨g,0,none⟩∧∃ xs:List Value,w.ownsRow B 76 1 (.slice a es.length cap) es.length xs:=by
 obtain⟨xs,ho,hx⟩:=h
 rcases ho.2 with ⟨e,e0⟩ | ⟨g,c,cur,e,r⟩
 ·omega
 ·simp at e
  exact⟨g,e.1,xs,ho⟩
theorem obs_cap {w:World}{B:Nat}{a:Option Addr}{cap:Nat}{es:List (List UInt8)}(h:OBs w B (.slice a es.length cap) es):es.length≤cap:=by
 obtain⟨a',cap',e,hc,-⟩:=h.bss'
 simp only [Value.slice.injEq,true_and] at e
 omega
theorem log_append {O:Nat→Prop}{w0 w w4:World}{db lb:Nat}{l:Lg}{es b:List (List UInt8)}{a:Option Addr}{cap g cap' hv B:Nat}{xs ys:List Value}
  {T:List Nat} (HT:Turn O T w0 w) (hO:Ext O w0 w lb) (hg:∀ g,(Value.slice a es.length cap).ownBlock=some g→Ext O w0 w g)
  (HOE:w.ownsRow 0 76 1 (.slice a es.length cap) es.length xs) (HXE:∀ j (h:j < es.length),∃ x,xs[j]?=some x∧OB w 0 x es[j])
  (HYB:∀ j (h:j < b.length),∃ x,ys[j]?=some x∧OB w B x b[j]) (hvb:hv≤b.length) (hyl:ys.length=b.length)
  (HOW:w4.ownsRow 0 76 1 (.slice (some ⟨g,0,none⟩) (es.length+(b.length - hv)) cap') (es.length+(b.length - hv)) (xs++ys.drop hv))
  (HGR:w.drew.grownBy w4 (Value.slice a es.length cap).ownBlock) (HAT:(Value.slice a es.length cap).ownBlock=some g∨g=w.heap.size)
  (HB4:w4.heap[lb]?=some (.cells (lcells db (.slice a es.length cap) { key:=l.key,es:=es,put:=l.put,live:=l.live }) 109 (0,0))) (hTa:76∈T:=by decide) (hTb:109∈T:=by decide) :
  Turn O T w0 (w4.setCell ⟨lb,2,none⟩ (.slice (some ⟨g,0,none⟩) (es.length+(b.length - hv)) cap'))∧LogAt (w4.setCell ⟨lb,2,none⟩ (.slice (some ⟨g,0,none⟩) (es.length+(b.length - hv)) cap')) (Ext O w0 (w4.setCell ⟨lb,2,none⟩ (.slice (some ⟨g,0,none⟩) (es.length+(b.length - hv)) cap'))) db lb { l with es:=es++b.drop hv } ∧
   (∀ d,DiskAt w O db d→DiskAt (w4.setCell ⟨lb,2,none⟩ (.slice (some ⟨g,0,none⟩) (es.length+(b.length - hv)) cap')) O db d)∧Turn (fun _=>True) [76,109] w (w4.setCell ⟨lb,2,none⟩ (.slice (some ⟨g,0,none⟩) (es.length+(b.length - hv)) cap')):=by
 have hT1:Turn (fun _=>True) [76] w w4:=(Turn.refl _ _ w).drew.grown (w:=w.drew) HOE HGR (fun _ _=> .inl trivial) (by decide)
 have hT2:Turn (fun _=>True) [109] w4 (w4.setCell ⟨lb,2,none⟩ (.slice (some ⟨g,0,none⟩) (es.length+(b.length - hv)) cap')):=(Turn.refl _ _ w4).set (.inl trivial) HB4 (by decide) _
 have t4:Turn O T w0 w4:=HT.drew.grown (w:=w.drew) HOE HGR hg hTa
 have hsz:w.heap.size≤w4.heap.size:=HGR.size
 have hlb4:Ext O w0 w4 lb:=Ext.more hsz _ hO
 have hss:(w4.setCell ⟨lb,2,none⟩ (.slice (some ⟨g,0,none⟩) (es.length+(b.length - hv)) cap')).heap.size=w4.heap.size:=by simp [World.setCell]
 have hxl:xs.length=es.length:=by rw [HOE.1,Nat.mul_one]
 have hgl:g < w4.heap.size:=by
  rcases HOW.2 with ⟨e,-⟩ | ⟨g',c',cur,e,-,hg',-⟩
  ·simp at e
  ·simp at e
   rw [e.1]
   exact heap_some_lt hg'
 have hel:(es++b.drop hv).length=es.length+(b.length - hv):=by simp
 refine⟨t4.set hlb4 HB4 hTb _,⟨.slice (some ⟨g,0,none⟩) (es.length+(b.length - hv)) cap',?_,dset HB4 2 _,?_,?_⟩,fun d hd=>?_,(hT1.mono (fun _ h=>h) (by simp)).trans (hT2.mono (fun _ _=> .inl trivial) (by simp))⟩
 ·exact Ext.more (by rw [hss];exact Nat.le_refl _) _ hlb4
 ·show OBs _ 0 _ (es++b.drop hv)
  refine obs_turn ⟨xs++ys.drop hv,by rw [hel];exact HOW,fun j hj=>?_⟩ hT2 (by decide) (by decide)
  by_cases hjl:j < es.length
  ·obtain⟨x,e,hb⟩:=HXE j hjl
   refine⟨x,by rw [List.getElem?_append_left (by omega)];exact e,?_⟩
   rw [List.getElem_append_left hjl]
   exact⟨ownsRow_turn hb.1 hT1 (by decide),hb.2⟩
  ·obtain⟨x,e,hb⟩:=HYB (hv+(j - es.length)) (by omega)
   refine⟨x,by rw [List.getElem?_append_right (by omega),hxl,List.getElem?_drop];exact e,?_⟩
   rw [List.getElem_append_right (by omega),List.getElem_drop]
   exact(show OB w4 B x _ from ⟨ownsRow_turn hb.1 hT1 (by decide),hb.2⟩).weaken (Nat.zero_le _)
 ·intro g' e
  simp only [Value.ownBlock,Option.some.injEq] at e
  subst e
  rcases HAT with h | h
  ·exact Ext.more (by rw [hss];exact hsz) _ (hg _ h)
  ·exact .inr ⟨by have:=HT.size;omega,by rw [hss];exact hgl⟩
 ·exact(hd.stay hT1 (by decide) (by decide)).stay hT2 (by decide) (by decide)
end
section
set_option maxHeartbeats 2000000
open Go.RowKit
set_option maxRecDepth 100000
theorem nine_set {w:World}{b:Nat}{t:TypeId}{a0 a1 a2 a3 a4 a5 a6 a7 a8:Value}(v0 v1 v2 v3 v4 v5 v6 v7 v8:Value)(h:w.heap[b]?=some (.cells #[a0,a1,a2,a3,a4,a5,a6,a7,a8] t (0,0))):(((((((((w.setCell ⟨b,0,none⟩ v0).setCell ⟨b,1,none⟩ v1).setCell ⟨b,2,none⟩ v2).setCell ⟨b,3,none⟩ v3).setCell ⟨b,4,none⟩ v4).setCell ⟨b,5,none⟩ v5).setCell ⟨b,6,none⟩ v6).setCell ⟨b,7,none⟩ v7).setCell ⟨b,8,none⟩ v8).heap[b]?=some (.cells #[v0,v1,v2,v3,v4,v5,v6,v7,v8] t (0,0)):=by
 have e0:(w.setCell ⟨b,0,none⟩ v0).heap[b]?=some (.cells #[v0,a1,a2,a3,a4,a5,a6,a7,a8] t (0,0)):=dset h 0 v0
 have e1:((w.setCell ⟨b,0,none⟩ v0).setCell ⟨b,1,none⟩ v1).heap[b]?=some (.cells #[v0,v1,a2,a3,a4,a5,a6,a7,a8] t (0,0)):=dset e0 1 v1
 have e2:(((w.setCell ⟨b,0,none⟩ v0).setCell ⟨b,1,none⟩ v1).setCell ⟨b,2,none⟩ v2).heap[b]?=some (.cells #[v0,v1,v2,a3,a4,a5,a6,a7,a8] t (0,0)):=dset e1 2 v2
 have e3:((((w.setCell ⟨b,0,none⟩ v0).setCell ⟨b,1,none⟩ v1).setCell ⟨b,2,none⟩ v2).setCell ⟨b,3,none⟩ v3).heap[b]?=some (.cells #[v0,v1,v2,v3,a4,a5,a6,a7,a8] t (0,0)):=dset e2 3 v3
 have e4:(((((w.setCell ⟨b,0,none⟩ v0).setCell ⟨b,1,none⟩ v1).setCell ⟨b,2,none⟩ v2).setCell ⟨b,3,none⟩ v3).setCell ⟨b,4,none⟩ v4).heap[b]?=some (.cells #[v0,v1,v2,v3,v4,a5,a6,a7,a8] t (0,0)):=dset e3 4 v4
 have e5:((((((w.setCell ⟨b,0,none⟩ v0).setCell ⟨b,1,none⟩ v1).setCell ⟨b,2,none⟩ v2).setCell ⟨b,3,none⟩ v3).setCell ⟨b,4,none⟩ v4).setCell ⟨b,5,none⟩ v5).heap[b]?=some (.cells #[v0,v1,v2,v3,v4,v5,a6,a7,a8] t (0,0)):=dset e4 5 v5
 have e6:(((((((w.setCell ⟨b,0,none⟩ v0).setCell ⟨b,1,none⟩ v1).setCell ⟨b,2,none⟩ v2).setCell ⟨b,3,none⟩ v3).setCell ⟨b,4,none⟩ v4).setCell ⟨b,5,none⟩ v5).setCell ⟨b,6,none⟩ v6).heap[b]?=some (.cells #[v0,v1,v2,v3,v4,v5,v6,a7,a8] t (0,0)):=dset e5 6 v6
 have e7:((((((((w.setCell ⟨b,0,none⟩ v0).setCell ⟨b,1,none⟩ v1).setCell ⟨b,2,none⟩ v2).setCell ⟨b,3,none⟩ v3).setCell ⟨b,4,none⟩ v4).setCell ⟨b,5,none⟩ v5).setCell ⟨b,6,none⟩ v6).setCell ⟨b,7,none⟩ v7).heap[b]?=some (.cells #[v0,v1,v2,v3,v4,v5,v6,v7,a8] t (0,0)):=dset e6 7 v7
 have e8:(((((((((w.setCell ⟨b,0,none⟩ v0).setCell ⟨b,1,none⟩ v1).setCell ⟨b,2,none⟩ v2).setCell ⟨b,3,none⟩ v3).setCell ⟨b,4,none⟩ v4).setCell ⟨b,5,none⟩ v5).setCell ⟨b,6,none⟩ v6).setCell ⟨b,7,none⟩ v7).setCell ⟨b,8,none⟩ v8).heap[b]?=some (.cells #[v0,v1,v2,v3,v4,v5,v6,v7,v8] t (0,0)):=dset e7 8 v8
 exact e8
theorem nine_below {B b:Nat}{a w:World}(h:Below B a w)(hb:B≤b)(v0 v1 v2 v3 v4 v5 v6 v7 v8:Value):Below B a (((((((((w.setCell ⟨b,0,none⟩ v0).setCell ⟨b,1,none⟩ v1).setCell ⟨b,2,none⟩ v2).setCell ⟨b,3,none⟩ v3).setCell ⟨b,4,none⟩ v4).setCell ⟨b,5,none⟩ v5).setCell ⟨b,6,none⟩ v6).setCell ⟨b,7,none⟩ v7).setCell ⟨b,8,none⟩ v8) :=
 h|>.setCell (p:=⟨b,0,none⟩) hb v0|>.setCell (p:=⟨b,1,none⟩) hb v1|>.setCell (p:=⟨b,2,none⟩) hb v2|>.setCell (p:=⟨b,3,none⟩) hb v3|>.setCell (p:=⟨b,4,none⟩) hb v4|>.setCell (p:=⟨b,5,none⟩) hb v5|>.setCell (p:=⟨b,6,none⟩) hb v6|>.setCell (p:=⟨b,7,none⟩) hb v7|>.setCell (p:=⟨b,8,none⟩) hb v8
theorem nine_other {w:World}{b k:Nat}(v0 v1 v2 v3 v4 v5 v6 v7 v8:Value)(h:k≠b):(((((((((w.setCell ⟨b,0,none⟩ v0).setCell ⟨b,1,none⟩ v1).setCell ⟨b,2,none⟩ v2).setCell ⟨b,3,none⟩ v3).setCell ⟨b,4,none⟩ v4).setCell ⟨b,5,none⟩ v5).setCell ⟨b,6,none⟩ v6).setCell ⟨b,7,none⟩ v7).setCell ⟨b,8,none⟩ v8).heap[k]?=w.heap[k]?:=by
 repeat rw [heap_setCell_other _ _ _ _ h]
theorem lswap_any (O OL:Nat→Prop)(db lb:Nat)(d:Dk)(l:Lg)(w:World)(E:Env w)(hn:d.fs.length≤1000000000)(he:l.es.length≤1000000)(h20:∀ e∈l.es,e.length≤20)(hk:l.key.length≤9223372036854775807)(hlv:l.live=true)(h:DiskAt w O db d)(hL:LogAt w OL db lb l):
  Calls Tryz.prog 83 #[.pointer (some ⟨lb,0,none⟩)] w fun r w'=>∃ e,r= .returned e∧GotErr (bad d) cpF w.heap.size e w'∧Turn O dT w w'∧DiskAt w' (Ext O w w') db (swapD d cpF (signF l.es.length (rootT l.es) l.key)):=by
 have hmf:∀(fn:Fn) (first cap:Array Value) (w:World),(Instr.makeFunc fn first cap).run Tryz.prog w= .ok (.func fn first cap) w:=fun _ _ _ _=>rfl
 have eg:∀ args w,(callFunc 125 args).run Tryz.prog w= .ok (.enter 125 args) w:=enters_of Tryz.func125 (by kernel_rfl) rfl
 obtain⟨ev,hO,hb,hes,hg⟩:=hL
 obtain⟨⟨c0,f0⟩,⟨c1,f1⟩,⟨c2,f2⟩,-⟩:=lall hb
 rw [hlv] at c0
 have HC0:=hide c0
 have hlt:=heap_some_lt hb
 have HD:=hide h
 have HE:=hide E
 have HS:=hide hes
 obtain⟨a,cap,hev⟩:∃ a cap,ev= .slice a l.es.length cap:=by
  obtain⟨a,cap,e,-⟩:=hes.bss'
  exact⟨a,cap,e⟩
 subst hev
 clear h hb hes hg E
 go_enter Tryz.func83,Tryz.ntmps83
 go_wp2_with fail
 obtain⟨b0,b1,b2,b3,b4,b5,b6,b7,hR⟩:=hv8 (rootF l.es.length l.es) (rootF_length _ _)
 have hR':hv (rootF l.es.length l.es)=#[.int .u8 b0.toNat,.int .u8 b1.toNat,.int .u8 b2.toNat,.int .u8 b3.toNat,.int .u8 b4.toNat,.int .u8 b5.toNat,.int .u8 b6.toNat,.int .u8 b7.toNat]:=by rw [hR];rfl
 have HR:=hide hR
 have HR':=hide hR'
 have H20:=hide h20
 have HBS:Hid (∀ w',Below w.heap.size w w'→Bss w' (.slice a l.es.length cap) l.es):=fun w' hb=>HS.out.bss'.below hb
 have HB0:Hid (Below w.heap.size w (w.alloc (.cells #[.pointer (some ⟨lb,0,none⟩)] 68)).drew):=(below_alloc _ _).drew
 have HB1:Hid (∀ o,Below w.heap.size w ((w.alloc (.cells #[.pointer (some ⟨lb,0,none⟩)] 68)).alloc o).drew):=fun o=>((below_alloc w _).alloc (by simp) o).drew
 have HC2:Hid (∀ W w',Below w.heap.size w W→Below W.heap.size W w'→w'.cell? ⟨lb,2,none⟩=some (.slice a l.es.length cap)):=fun W w' h1 h2=>by rw [h2.cell (p:=⟨lb,2,none⟩) (Nat.lt_of_lt_of_le hlt h1.size),h1.cell (p:=⟨lb,2,none⟩) hlt];exact c2
 have HX0:Hid (∀ w',Below (w.alloc (.cells #[.pointer (some ⟨lb,0,none⟩)] 68)).drew.heap.size (w.alloc (.cells #[.pointer (some ⟨lb,0,none⟩)] 68)).drew w'→w'.heap[w.heap.size]?=some (.cells #[.pointer (some ⟨lb,0,none⟩)] 68 (0,0))):=fun w' h=>by rw [h.block _ (by show w.heap.size < (w.heap.push _).size;simp)];exact heap_alloc_last w _
 have HX1:Hid (∀ o w',Below ((w.alloc (.cells #[.pointer (some ⟨lb,0,none⟩)] 68)).alloc o).drew.heap.size ((w.alloc (.cells #[.pointer (some ⟨lb,0,none⟩)] 68)).alloc o).drew w'→w'.heap[w.heap.size]?=some (.cells #[.pointer (some ⟨lb,0,none⟩)] 68 (0,0))):=fun o w' h=>by rw [h.block _ (by show w.heap.size < ((w.heap.push _).push _).size;simp;omega)];exact heap_alloc_old (heap_alloc_last w _)
 clear hR hR' h20
 go_cut [3] from 5 to 15 (fun s3 wx=>∃ B,s3= .pointer (some ⟨B,0,none⟩)∧wx.heap[B]?=some (.cells (tv l.es.length b0 b1 b2 b3 b4 b5 b6 b7) 93 (0,0))∧Below w.heap.size w wx∧wx.heap[w.heap.size]?=some (.cells #[.pointer (some ⟨lb,0,none⟩)] 68 (0,0)))
 case first =>
  clear hmf eg c0 f0 c1 f1 f2 hn hk hlv hO HD HE
  have hne1:¬ lb=w.heap.size+1:=by omega
  have hne2:¬ w.heap.size+1=lb:=by omega
  go_region_held3 (fun W=>W.cell? ⟨w.heap.size,0,none⟩=some (.pointer (some ⟨lb,0,none⟩))∧W.cell? ⟨lb,2,none⟩=some (.slice a l.es.length cap)) (go_keep) (first
   | (go_at_call 51;refine(root_any l.es.length _ l.es (w.alloc (.cells #[.pointer (some ⟨lb,0,none⟩)] 68)).drew (Nat.le_refl _) he (by intro e he';have:=H20.out e he';unfold maxLen;omega) (by exact HBS.out _ HB0.out)).mono ?_;rintro r w1 ⟨rfl,hb1⟩;rw [HR'.out];have HBB:=hide hb1;have m2:=HC2.out _ _ HB0.out hb1;have hx0:=HX0.out _ hb1;have m0:=(dcell hx0 0 _ rfl).1;have m2':∀ o,(w1.alloc o).cell? ⟨lb,2,none⟩=some (.slice a l.es.length cap):=(fun o=>by rw [cell_old _ _ ⟨_,2,none⟩ (cell_lt m2)];exact m2);have m0':∀ o,(w1.alloc o).cell? ⟨w.heap.size,0,none⟩=some (.pointer (some ⟨lb,0,none⟩)):=(fun o=>by rw [cell_old _ _ ⟨_,0,none⟩ (cell_lt m0)];exact m0);have HXX:=hide hx0;clear hb1 hx0)
   | (go_at_call 51;refine(root_any l.es.length _ l.es ((w.alloc (.cells #[.pointer (some ⟨lb,0,none⟩)] 68)).alloc (.cells #[.int .i64 0,.int .u8 0,.int .u8 0,.int .u8 0,.int .u8 0,.int .u8 0,.int .u8 0,.int .u8 0,.int .u8 0] 93)).drew (Nat.le_refl _) he (by intro e he';have:=H20.out e he';unfold maxLen;omega) (by exact HBS.out _ (HB1.out _))).mono ?_;rintro r w1 ⟨rfl,hb1⟩;rw [HR'.out];have HBB:=hide hb1;have hnew:=new_at w _ _ hb1;obtain⟨n0,n1,n2,n3,n4,n5,n6,n7,n8⟩:=cells9 hnew;have nz:=frozen9 hnew;have HNW:=hide hnew;have m2:=HC2.out _ _ (HB1.out _) hb1;have hx0:=HX1.out _ _ hb1;have m0:=(dcell hx0 0 _ rfl).1;have m2':∀ o,(w1.alloc o).cell? ⟨lb,2,none⟩=some (.slice a l.es.length cap):=(fun o=>by rw [cell_old _ _ ⟨_,2,none⟩ (cell_lt m2)];exact m2);have m0':∀ o,(w1.alloc o).cell? ⟨w.heap.size,0,none⟩=some (.pointer (some ⟨lb,0,none⟩)):=(fun o=>by rw [cell_old _ _ ⟨_,0,none⟩ (cell_lt m0)];exact m0);have HXX:=hide hx0;clear hb1 hnew hx0))
  ·go_wp2_with fail
   go_meet
   refine⟨w1.heap.size,rfl,heap_alloc_last _ _,?_,heap_alloc_old HXX.out⟩
   exact((HB0.out.trans (HBB.out.mono HB0.out.size)).alloc (Nat.le_trans HB0.out.size HBB.out.size) _)
  ·go_wp2_with fail
   go_meet
   have hbw:Below w.heap.size w w1:=(HB1.out _).trans (HBB.out.mono (HB1.out _).size)
   have hne:w.heap.size≠w.heap.size+1:=by omega
   have e8:=nine_set (.int .i64 (l.es.length:Int)) (.int .u8 (b0.toNat:Int)) (.int .u8 (b1.toNat:Int)) (.int .u8 (b2.toNat:Int)) (.int .u8 (b3.toNat:Int)) (.int .u8 (b4.toNat:Int)) (.int .u8 (b5.toNat:Int)) (.int .u8 (b6.toNat:Int)) (.int .u8 (b7.toNat:Int)) HNW.out
   have e9:=nine_below hbw (show w.heap.size≤w.heap.size+1 by omega) (.int .i64 (l.es.length:Int)) (.int .u8 (b0.toNat:Int)) (.int .u8 (b1.toNat:Int)) (.int .u8 (b2.toNat:Int)) (.int .u8 (b3.toNat:Int)) (.int .u8 (b4.toNat:Int)) (.int .u8 (b5.toNat:Int)) (.int .u8 (b6.toNat:Int)) (.int .u8 (b7.toNat:Int))
   have e10:=nine_other (w:=w1) (b:=w.heap.size+1) (.int .i64 (l.es.length:Int)) (.int .u8 (b0.toNat:Int)) (.int .u8 (b1.toNat:Int)) (.int .u8 (b2.toNat:Int)) (.int .u8 (b3.toNat:Int)) (.int .u8 (b4.toNat:Int)) (.int .u8 (b5.toNat:Int)) (.int .u8 (b6.toNat:Int)) (.int .u8 (b7.toNat:Int)) hne
   rw [HXX.out] at e10
   exact⟨w.heap.size+1,rfl,e8,e9,e10⟩
 case rest =>
  obtain⟨B,rfl,hB,hbw,hbx⟩:=hcut
  have HBw:=hide hbw
  have HBx:=hide hbx
  have HBB:=hide hB
  have m0:=(dcell hbx 0 _ rfl).1
  have m1:wc.cell? ⟨lb,1,none⟩=some (.string ⟨l.key.toArray⟩):=by rw [hbw.cell (p:=⟨lb,1,none⟩) hlt];exact c1
  obtain⟨n0,n1,n2,n3,n4,n5,n6,n7,n8⟩:=cells9 hB
  have HEw:=hide (HE.out.below hbw)
  have hbl:=heap_some_lt hB
  clear hbw hbx hB c0 c1 c2 f0 f1 f2
  have hB0:Hid (∀ o,Below wc.heap.size wc (wc.alloc o).drew):=fun o=>(below_alloc _ _).drew
  have hx0:¬ w.heap.size=wc.heap.size:=by have:=cell_lt m0;simp only at this;omega
  have hx1:¬ lb=wc.heap.size:=by have:=cell_lt m1;simp only at this;omega
  have hx2:¬ B=wc.heap.size:=by omega
  have hx3:¬ wc.heap.size=w.heap.size:=by omega
  have hx4:¬ wc.heap.size=lb:=by omega
  have hx5:¬ wc.heap.size=B:=by omega
  have HSB:Hid (∀ W',Below wc.heap.size wc W'→((fun W=>W.cell? ⟨w.heap.size,0,none⟩=some (.pointer (some ⟨lb,0,none⟩))∧W.cell? ⟨lb,1,none⟩=some (.string ⟨l.key.toArray⟩)∧W.cell? ⟨B,0,none⟩=some (.int .i64 (l.es.length:Int))∧W.cell? ⟨B,1,none⟩=some (.int .u8 (b0.toNat:Int))∧W.cell? ⟨B,2,none⟩=some (.int .u8 (b1.toNat:Int))∧W.cell? ⟨B,3,none⟩=some (.int .u8 (b2.toNat:Int))∧W.cell? ⟨B,4,none⟩=some (.int .u8 (b3.toNat:Int))∧W.cell? ⟨B,5,none⟩=some (.int .u8 (b4.toNat:Int))∧W.cell? ⟨B,6,none⟩=some (.int .u8 (b5.toNat:Int))∧W.cell? ⟨B,7,none⟩=some (.int .u8 (b6.toNat:Int))∧W.cell? ⟨B,8,none⟩=some (.int .u8 (b7.toNat:Int)))) W'):=fun W' hb=>by
   have cc:∀ {p:Addr} {v:Value},wc.cell? p=some v→W'.cell? p=some v:=fun {p v} h=>by rw [hb.cell (cell_lt h)];exact h
   exact⟨cc m0,cc m1,cc n0,cc n1,cc n2,cc n3,cc n4,cc n5,cc n6,cc n7,cc n8⟩
  have hD0:Hid (Below wc.heap.size wc wc.drew):=(Below.refl _ _).drew
  have HSG:Hid (signF (l.es.length:Int).toNat [b0,b1,b2,b3,b4,b5,b6,b7] l.key=signF l.es.length (rootT l.es) l.key):=by show _=_;unfold rootT;rw [HR.out,Int.toNat_natCast]
  go_wp2_with fail
  go_cut [4] from 16 to 21 (fun s4 wx=>∃ B4,s4= .pointer (some ⟨B4,0,none⟩)∧wx.heap[B4]?=some (.cells #[txv (signF l.es.length (rootT l.es) l.key)] 9 (0,0))∧Below w.heap.size w wx∧wx.heap[w.heap.size]?=some (.cells #[.pointer (some ⟨lb,0,none⟩)] 68 (0,0)))
  case first =>
   clear hmf eg hn hlv HD
   go_region_held3 (fun W=>W.cell? ⟨w.heap.size,0,none⟩=some (.pointer (some ⟨lb,0,none⟩))∧W.cell? ⟨lb,1,none⟩=some (.string ⟨l.key.toArray⟩)∧W.cell? ⟨B,0,none⟩=some (.int .i64 (l.es.length:Int))∧W.cell? ⟨B,1,none⟩=some (.int .u8 (b0.toNat:Int))∧W.cell? ⟨B,2,none⟩=some (.int .u8 (b1.toNat:Int))∧W.cell? ⟨B,3,none⟩=some (.int .u8 (b2.toNat:Int))∧W.cell? ⟨B,4,none⟩=some (.int .u8 (b3.toNat:Int))∧W.cell? ⟨B,5,none⟩=some (.int .u8 (b4.toNat:Int))∧W.cell? ⟨B,6,none⟩=some (.int .u8 (b5.toNat:Int))∧W.cell? ⟨B,7,none⟩=some (.int .u8 (b6.toNat:Int))∧W.cell? ⟨B,8,none⟩=some (.int .u8 (b7.toNat:Int))) (go_keep) (first
    | (go_at_call 96;refine(sign_any (l.es.length:Int) (by omega) (by omega) b0 b1 b2 b3 b4 b5 b6 b7 l.key hk wc.drew (by exact HEw.out.below hD0.out)).mono ?_;rintro r w2 ⟨rfl,hb2⟩;have hbb:Below wc.heap.size wc w2:=(hD0.out).trans (hb2.mono (hD0.out).size);obtain⟨q0,q1,q2,q3,q4,q5,q6,q7,q8,q9,q10⟩:=HSB.out w2 hbb;have HB2:=hide hbb;clear hb2 hbb)
    | (go_at_call 96;refine(sign_any (l.es.length:Int) (by omega) (by omega) b0 b1 b2 b3 b4 b5 b6 b7 l.key hk (wc.alloc (.cells #[.string ⟨#[]⟩] 9)).drew (by exact HEw.out.below (hB0.out _))).mono ?_;rintro r w2 ⟨rfl,hb2⟩;have hbb:Below wc.heap.size wc w2:=((hB0.out _)).trans (hb2.mono ((hB0.out _)).size);obtain⟨q0,q1,q2,q3,q4,q5,q6,q7,q8,q9,q10⟩:=HSB.out w2 hbb;have HB2:=hide hbb;have hnw:w2.heap[wc.heap.size]?=some (.cells #[.string ⟨#[]⟩] 9 (0,0)):=(by rw [hb2.block _ (by show wc.heap.size < (wc.heap.push _).size;simp)];exact heap_alloc_last wc _);obtain⟨x0,x1⟩:=dcell hnw 0 _ rfl;have HNW:=hide hnw;clear hnw;clear hb2 hbb))
   ·go_wp2_with fail
    go_meet
    have hsg:=HSG.out
    rw [Int.toNat_natCast] at hsg
    rw [hsg]
    exact⟨w2.heap.size,rfl,heap_alloc_last _ _,(HBw.out.trans (HB2.out.mono HBw.out.size)).alloc (Nat.le_trans HBw.out.size HB2.out.size) _,heap_alloc_old (by rw [HB2.out.block _ (heap_some_lt HBx.out)];exact HBx.out)⟩
   ·go_wp2_with fail
    go_meet
    have hsg:=HSG.out
    rw [Int.toNat_natCast] at hsg
    rw [hsg]
    refine⟨wc.heap.size,rfl,dset HNW.out 0 _,(HBw.out.trans (HB2.out.mono HBw.out.size)).setCell (by show w.heap.size≤wc.heap.size;exact HBw.out.size) _,?_⟩
    rw [heap_setCell_other _ _ _ _ hx0,HB2.out.block _ (heap_some_lt HBx.out)]
    exact HBx.out
  case rest =>
   clear hx0 hx1 hx2 hx3 hx4 hx5 m0 m1 n0 n1 n2 n3 n4 n5 n6 n7 n8 hbl HSB hB0 hD0 HEw HBw HBx HBB
   obtain⟨B4,rfl,h4,hbw,hbx⟩:=hcut
   go_wp2_with fail
   have hstw:wc.cell? ⟨lb,0,none⟩=some (stV db true):=by rw [hbw.cell (p:=⟨lb,0,none⟩) hlt];exact HC0.out
   have hcall:=swap1_any O db lb w.heap.size B4 d (signF l.es.length (rootT l.es) l.key) (wc.alloc (.cells #[.nilIface] 70)) hn
    (HD.out.stay (O1:=fun _=>False) (T:=[]) ((Turn.of_below hbw).alloc _) (by simp) (by simp))
    (dcell (heap_alloc_old hbx) 0 _ rfl).1 (dcell (heap_alloc_old h4) 0 _ rfl).1 (by rw [cell_old _ _ ⟨_,0,none⟩ (cell_lt hstw)];exact hstw)
   have H0:Hid ((wc.alloc (.cells #[.nilIface] 70)).heap[wc.heap.size]?=some (.cells #[.nilIface] 70 (0,0))):=heap_alloc_last _ _
   have hbl:Hid (Below w.heap.size w (wc.alloc (.cells #[.nilIface] 70))):=hbw.alloc hbw.size _
   refine(ask_any cpF 125 _ wc (fun e w'=>OwnRes (bad d) (wc.alloc (.cells #[.nilIface] 70)).heap.size e w'∧Turn O dT (wc.alloc (.cells #[.nilIface] 70)) w'∧DiskAt w' (Ext O (wc.alloc (.cells #[.nilIface] 70)) w') db (swapD d cpF (signF l.es.length (rootT l.es) l.key))) eg hcall ?_).mono ?_
   ·rintro e w' ⟨ho,ht,-⟩
    exact⟨own_shape ho,ht.keep H0.out (by decide)⟩
   have h34:w.heap.size≤wc.heap.size:=hbw.size
   clear hcall h4 hbw hbx hstw
   generalize wc.alloc (.cells #[.nilIface] 70)=W4 at *
   rintro r w5 ⟨e,w',⟨ho,ht,hd⟩,h⟩
   have HEE:=hide (ask_end hbl.out h34 H0.out ho ht hd h)
   clear ho ht hd h
   obtain⟨e',he'⟩:=HEE.out
   obtain rfl:=he'.1
   have HX:=hide he'.2
   clear he' HEE
   go_wp2_with fail
   go_ret
   exact⟨_,rfl,HX.out⟩
end
end Go.Proofs.YtinhekmmdlhfkaaGreatDoor
