import Derived.Test.YtinhekmmdlhfkaaGreatDoorG15
import Derived.Test.YtinhekmmdlhfkaaGreatDoorG16
import Derived.Test.YtinhekmmdlhfkaaGreatDoorG03
import Derived.Test.YtinhekmmdlhfkaaGreatDoorG06
import Derived.Deep.CutRange
import Derived.Deep.LoopGhost
import Derived.Deep.RegionLaw
namespace Go.Proofs.YtinhekmmdlhfkaaGreatDoor
section
set_option maxHeartbeats 400000
open Go.RowKit
set_option maxRecDepth 100000
theorem z1s {e:Bool}{B B':Nat}{r:Value}{w:World}(h:zcc e B r w)(hB:B'≤B):zcc e B' r w:=by
 rcases h with h | ⟨h,g,h1,h2,h3⟩
 ·exact .inl h
 ·exact .inr ⟨h,g,h1,Nat.le_trans hB h2,h3⟩
theorem zzb (O:Nat→Prop)(db lb B1 B2:Nat)(d:Dk)(x:List UInt8)(w:World)(hn:d.fs.length≤1000000000)(h:zm w O db d)
  (h1:w.cell? ⟨B1,0,none⟩=some (.pointer (some ⟨lb,0,none⟩))) (h2:w.cell? ⟨B2,0,none⟩=some (txv x)) (hst:w.cell? ⟨lb,0,none⟩=some (stV db true)) :
  Calls Tryz.prog 125 #[.pointer (some ⟨B1,0,none⟩),.pointer (some ⟨B2,0,none⟩)] w fun r w'=>∃ e,r= .returned e∧zcc (bad d) w.heap.size e w'∧zf O dT w w'∧zm w' (Ext O w w') db (zbv d cpF x):=by
 have l1:=zj h1
 have l2:=zj h2
 have l3:=zj hst
 unfold stV vv at hst
 simp only [if_true] at hst
 unfold txv at h2
 have h1':∀ o,(w.alloc o).cell? ⟨B1,0,none⟩=some (.pointer (some ⟨lb,0,none⟩)):=fun o=>by rw [zk _ _ ⟨_,0,none⟩ l1];exact h1
 have h3':∀ o,(w.alloc o).cell? ⟨lb,0,none⟩=some (.iface 25 (.pointer (some ⟨db,0,none⟩))):=fun o=>by rw [zk _ _ ⟨_,0,none⟩ l3];exact hst
 have HD:=za h
 clear h
 have hm:=zx5
 have hcv:=fun w0=>run_bytes_of_string (P:=Tryz.prog) w0 9 76 5 ⟨x.toArray⟩ Tryz.underlying9 Tryz.underlying76 Tryz.underlying5
 go_enter Tryz.func125,Tryz.ntmps125
 go_wp2_with fail
 go_region_with (go_at_call 235;refine(z4x O db d cpF x _ _ hn (by exact HD.o.stay (O1:=fun _=>False) (T:=[]) ((zf.refl _ _ w).alloc _).drew.drew (by simp) (by simp)) (by exact zco w x _ (grownCap_ge _ _ _ _))).mono ?_;rintro r w1 ⟨e,rfl,ho,ht,hd⟩;have HO:=za ho;have HT:=za ht;have HDD:=za hd;clear ho ht hd)
 all_goals go_wp2
 all_goals go_ret
 all_goals refine⟨_,rfl,z1s HO.o (by show w.heap.size≤(w.heap.push _).size;simp),((zf.refl O dT w).alloc _).drew.drew.trans (HT.o.mono (fun _ h=> .inl h) (fun _ h=>h)),HDD.o.mono (fun k hk=>?_)⟩
 all_goals rcases hk with h | ⟨h,h'⟩
 all_goals first | exact .inl h | exact .inr ⟨Nat.le_trans (by show w.heap.size≤(w.heap.push _).size;simp) h,h'⟩
theorem OBs.bss' {w:World}{B:Nat}{v:Value}{ls:List (List UInt8)}(h:OBs w B v ls):Bss w v ls:=by
 obtain⟨xs,⟨hl,ho⟩,hx⟩:=h
 rcases ho with ⟨rfl,h0⟩ | ⟨g,cap,cur,rfl,hB,hg,hn,hm,hs,ht⟩
 ·exact⟨none,0,by rw [h0],by rw [h0];exact Nat.le_refl _,.inl (List.length_eq_zero_iff.1 h0)⟩
 ·refine⟨_,_,rfl,hn,.inr ⟨g,0,rfl,fun i hi=>?_⟩⟩
  obtain⟨x,e,hb⟩:=hx i hi
  refine⟨x,?_,?_⟩
  ·rw [Nat.zero_add,cell_of_row _ _ _ _ _ _ hg]
   rw [← ht,Nat.mul_one] at e
   rw [List.getElem?_take,if_pos hi] at e
   simpa using e
  ·obtain⟨g',cap',rfl,-,-,hc⟩:=hb.form
   exact⟨_,_,rfl,.inr ⟨g',0,rfl,fun j hj=>by rw [Nat.zero_add];exact hc j hj⟩⟩
theorem zej {w:World}{b db:Nat}{ev:Value}{l:Lg}(h:w.heap[b]?=some (.cells (zck db ev l) 109 (0,0))):(w.cell? ⟨b,0,none⟩=some (stV db l.live)∧w.frozen? ⟨b,0,none⟩=false)∧(w.cell? ⟨b,1,none⟩=some (txv l.key)∧w.frozen? ⟨b,1,none⟩=false)∧(w.cell? ⟨b,2,none⟩=some ev∧w.frozen? ⟨b,2,none⟩=false)∧(w.cell? ⟨b,3,none⟩=some (.int .i64 l.put)∧w.frozen? ⟨b,3,none⟩=false) :=
 ⟨zg h 0 _ rfl,zg h 1 _ rfl,zg h 2 _ rfl,zg h 3 _ rfl⟩
abbrev z9v:Array Value:=#[.int .i64 0,.int .u8 0,.int .u8 0,.int .u8 0,.int .u8 0,.int .u8 0,.int .u8 0,.int .u8 0,.int .u8 0]
theorem zpv {w:World}{g:Nat}{cs:Array Value}{t:TypeId}(h:w.heap[g]?=some (.cells cs t (0,0))):∀ i,w.frozen? ⟨g,i,none⟩=false:=fun i=>by simp [World.frozen?,h]
theorem z72 (w:World)(o1 o2:Obj){w1:World}(hb:Below ((w.alloc o1).alloc o2).drew.heap.size ((w.alloc o1).alloc o2).drew w1):w1.heap[w.heap.size+1]?=some o2:=by
 have e:((w.alloc o1).alloc o2).drew.heap[w.heap.size+1]?=some o2:=by
  show((w.alloc o1).alloc o2).heap[w.heap.size+1]?=some o2
  rw [show w.heap.size+1=(w.alloc o1).heap.size by simp]
  exact heap_alloc_last _ _
 rw [hb.block _ (zb e)]
 exact e
end
section
set_option maxHeartbeats 1000000
open Go.RowKit
set_option maxRecDepth 100000
abbrev rT:List Nat:=[41,109,76]
abbrev lT:List Nat:=[109,76]
theorem zf.to_rT {O:Nat→Prop}{w w':World}(h:zf O dT1 w w'):zf O rT w w':=h.mono (fun _ h=>h) (fun t ht=>by simp at ht;simp [ht])
theorem xk.stay {w w':World}{O O1:Nat→Prop}{T:List Nat}{db b:Nat}{l:Lg}(h:xk w O db b l)(ht:zf O1 T w w')(h1:109∉T)(h2:76∉T)(h3:5∉T):xk w' O db b l:=by
 obtain⟨ev,a,hb,⟨xs,ho,hx⟩,hg⟩:=h
 refine⟨ev,a,ht.keep hb h1,⟨xs,zo ho ht h2,fun j hj=>?_⟩,hg⟩
 obtain⟨x,e,hob⟩:=hx j hj
 exact⟨x,e,zo hob.1 ht h3,hob.2⟩
theorem xk.mono {w:World}{O O':Nat→Prop}{db b:Nat}{l:Lg}(h:xk w O db b l)(hO:∀ k,O k→O' k):xk w O' db b l:=by
 obtain⟨ev,a,hb,hes,hg⟩:=h
 exact⟨ev,hO _ a,hb,hes,fun g e=>hO g (hg g e)⟩
theorem xk.out {w w':World}{O O1:Nat→Prop}{T:List Nat}{db b:Nat}{l:Lg}(h:xk w O db b l)(ht:zf O1 T w w')(h1:∀ k,O k→¬ O1 k)(h3:5∉T):xk w' O db b l:=by
 obtain⟨ev,a,hb,⟨xs,ho,hx⟩,hg⟩:=h
 refine⟨ev,a,ht.stay hb (h1 b a),⟨xs,zit ho ht (fun g hg'=>h1 g (hg g hg')),fun j hj=>?_⟩,hg⟩
 obtain⟨x,e,hob⟩:=hx j hj
 exact⟨x,e,zo hob.1 ht h3,hob.2⟩
theorem zl4 {w w':World}{O:Nat→Prop}{T:List Nat}{B:Nat}{v:Value}{es:List (List UInt8)}(h:OBs w B v es)(ht:zf O T w w')(h2:76∉T)(h3:5∉T):OBs w' B v es:=by
 obtain⟨xs,ho,hx⟩:=h
 refine⟨xs,zo ho ht h2,fun j hj=>?_⟩
 obtain⟨x,e,hob⟩:=hx j hj
 exact⟨x,e,zo hob.1 ht h3,hob.2⟩
theorem z67 {lk:Lk}{es:List (List UInt8)}{q hv:Nat}(hq:es.length / 4=q)(hh:es.length % 4=hv)(h:(wdF lk q hv).bind (fun k=>zb8 lk q k)=none):j7 lk es=([],false):=by
 subst hq hh
 unfold j7
 cases e:wdF lk (es.length / 4) (es.length % 4) with
 | none=>rfl
 | some w=>rw [e] at h;simp only [Option.bind_some] at h;simp only [h]
theorem zym {lk:Lk}{es b:List (List UInt8)}{q hv:Nat}(hq:es.length / 4=q)(hh:es.length % 4=hv)(h:(wdF lk q hv).bind (fun k=>zb8 lk q k)=some b)(hd:¬ b.take hv=es.drop (4*q)):j7 lk es=([],false):=by
 subst hq hh
 unfold j7
 cases e:wdF lk (es.length / 4) (es.length % 4) with
 | none=>rfl
 | some w=>rw [e] at h;simp only [Option.bind_some] at h;simp only [h,if_neg hd]
theorem z47 {lk:Lk}{es b:List (List UInt8)}{n q hv:Nat}(hq:es.length / 4=q)(hh:es.length % 4=hv)(hn:wdF lk q hv=some n)(h:(wdF lk q hv).bind (fun k=>zb8 lk q k)=some b)(hd:b.take hv=es.drop (4*q)):j7 lk es=(b.drop hv,decide (n=4))∧b.length=n:=by
 subst hq hh
 rw [hn] at h
 simp only [Option.bind_some] at h
 refine⟨?_,(zdh h).1⟩
 unfold j7
 simp only [hn,h,if_pos hd]
theorem zeh.of {lk:Lk}{d:List (List UInt8)}{k:Nat}(h1:∀ i,i < k→(j7 lk (zah lk d i)).2=true)(h2:(j7 lk (zah lk d k)).2=false):zeh lk d (zah lk d k++(j7 lk (zah lk d k)).1):=⟨k,h1,h2,rfl⟩
theorem zhq {w:World}{B:Nat}{a:Option Addr}{cap:Nat}{es:List (List UInt8)}(h:OBs w B (.slice a es.length cap) es)(h0:0 < es.length):∃ g,a=some ⟨g,0,none⟩∧∃ xs:List Value,w.ownsRow B 76 1 (.slice a es.length cap) es.length xs:=by
 obtain⟨xs,ho,hx⟩:=h
 rcases ho.2 with ⟨e,e0⟩ | ⟨g,c,cur,e,r⟩
 ·omega
 ·simp at e
  exact⟨g,e.1,xs,ho⟩
theorem zpy {w:World}{B:Nat}{a:Option Addr}{cap:Nat}{es:List (List UInt8)}(h:OBs w B (.slice a es.length cap) es):es.length≤cap:=by
 obtain⟨a',cap',e,hc,-⟩:=h.bss'
 simp only [Value.slice.injEq,true_and] at e
 omega
theorem zrk {w:World}{B g:Nat}{cap:Nat}{es:List (List UInt8)}(h:OBs w B (.slice (some ⟨g,0,none⟩) es.length cap) es){k:Nat}(hk:k≤es.length):Bss w (.slice (some ⟨g,0,none⟩) k cap) (es.take k):=h.bss'.take k hk
theorem zfh {O:Nat→Prop}{w0 w w4:World}{db lb:Nat}{l:Lg}{es b:List (List UInt8)}{a:Option Addr}{cap g cap' hv B:Nat}{xs ys:List Value}
  {T:List Nat} (HT:zf O T w0 w) (hO:Ext O w0 w lb) (hg:∀ g,(Value.slice a es.length cap).ownBlock=some g→Ext O w0 w g)
  (HOE:w.ownsRow 0 76 1 (.slice a es.length cap) es.length xs) (HXE:∀ j (h:j < es.length),∃ x,xs[j]?=some x∧OB w 0 x es[j])
  (HYB:∀ j (h:j < b.length),∃ x,ys[j]?=some x∧OB w B x b[j]) (hvb:hv≤b.length) (hyl:ys.length=b.length)
  (HOW:w4.ownsRow 0 76 1 (.slice (some ⟨g,0,none⟩) (es.length+(b.length - hv)) cap') (es.length+(b.length - hv)) (xs++ys.drop hv))
  (HGR:w.drew.grownBy w4 (Value.slice a es.length cap).ownBlock) (HAT:(Value.slice a es.length cap).ownBlock=some g∨g=w.heap.size)
  (HB4:w4.heap[lb]?=some (.cells (zck db (.slice a es.length cap) { key:=l.key,es:=es,put:=l.put,live:=l.live }) 109 (0,0))) (hTa:76∈T:=by decide) (hTb:109∈T:=by decide) :
  zf O T w0 (w4.setCell ⟨lb,2,none⟩ (.slice (some ⟨g,0,none⟩) (es.length+(b.length - hv)) cap'))∧xk (w4.setCell ⟨lb,2,none⟩ (.slice (some ⟨g,0,none⟩) (es.length+(b.length - hv)) cap')) (Ext O w0 (w4.setCell ⟨lb,2,none⟩ (.slice (some ⟨g,0,none⟩) (es.length+(b.length - hv)) cap'))) db lb { l with es:=es++b.drop hv } ∧
   (∀ d,zm w O db d→zm (w4.setCell ⟨lb,2,none⟩ (.slice (some ⟨g,0,none⟩) (es.length+(b.length - hv)) cap')) O db d)∧zf (fun _=>True) [76,109] w (w4.setCell ⟨lb,2,none⟩ (.slice (some ⟨g,0,none⟩) (es.length+(b.length - hv)) cap')):=by
 have hT1:zf (fun _=>True) [76] w w4:=(zf.refl _ _ w).drew.grown (w:=w.drew) HOE HGR (fun _ _=> .inl trivial) (by decide)
 have hT2:zf (fun _=>True) [109] w4 (w4.setCell ⟨lb,2,none⟩ (.slice (some ⟨g,0,none⟩) (es.length+(b.length - hv)) cap')):=(zf.refl _ _ w4).set (.inl trivial) HB4 (by decide) _
 have t4:zf O T w0 w4:=HT.drew.grown (w:=w.drew) HOE HGR hg hTa
 have hsz:w.heap.size≤w4.heap.size:=HGR.size
 have hlb4:Ext O w0 w4 lb:=Ext.more hsz _ hO
 have hss:(w4.setCell ⟨lb,2,none⟩ (.slice (some ⟨g,0,none⟩) (es.length+(b.length - hv)) cap')).heap.size=w4.heap.size:=by simp [World.setCell]
 have hxl:xs.length=es.length:=by rw [HOE.1,Nat.mul_one]
 have hgl:g < w4.heap.size:=by
  rcases HOW.2 with ⟨e,-⟩ | ⟨g',c',cur,e,-,hg',-⟩
  ·simp at e
  ·simp at e
   rw [e.1]
   exact zb hg'
 have hel:(es++b.drop hv).length=es.length+(b.length - hv):=by simp
 refine⟨t4.set hlb4 HB4 hTb _,⟨.slice (some ⟨g,0,none⟩) (es.length+(b.length - hv)) cap',?_,qj HB4 2 _,?_,?_⟩,fun d hd=>?_,(hT1.mono (fun _ h=>h) (by simp)).trans (hT2.mono (fun _ _=> .inl trivial) (by simp))⟩
 ·exact Ext.more (by rw [hss];exact Nat.le_refl _) _ hlb4
 ·show OBs _ 0 _ (es++b.drop hv)
  refine zl4 ⟨xs++ys.drop hv,by rw [hel];exact HOW,fun j hj=>?_⟩ hT2 (by decide) (by decide)
  by_cases hjl:j < es.length
  ·obtain⟨x,e,hb⟩:=HXE j hjl
   refine⟨x,by rw [List.getElem?_append_left (by omega)];exact e,?_⟩
   rw [List.getElem_append_left hjl]
   exact⟨zo hb.1 hT1 (by decide),hb.2⟩
  ·obtain⟨x,e,hb⟩:=HYB (hv+(j - es.length)) (by omega)
   refine⟨x,by rw [List.getElem?_append_right (by omega),hxl,List.getElem?_drop];exact e,?_⟩
   rw [List.getElem_append_right (by omega),List.getElem_drop]
   exact(show OB w4 B x _ from ⟨zo hb.1 hT1 (by decide),hb.2⟩).weaken (Nat.zero_le _)
 ·intro g' e
  simp only [Value.ownBlock,Option.some.injEq] at e
  subst e
  rcases HAT with h | h
  ·exact Ext.more (by rw [hss];exact hsz) _ (hg _ h)
  ·exact .inr ⟨by have:=HT.size;omega,by rw [hss];exact hgl⟩
 ·exact(hd.stay hT1 (by decide) (by decide)).stay hT2 (by decide) (by decide)
theorem zor {w:World}{B:Nat}{a:Option Addr}{cap:Nat}{es:List (List UInt8)}(h:OBs w B (.slice a es.length cap) es):∀ i,4*i≤es.length→(cap=4*i→Bss w (.slice a (es.length - 4*i) 0) (es.drop (4*i)))∧(Bss w (.slice (a.map fun x=>x.add (4*i)) (es.length - 4*i) (cap - 4*i)) (es.drop (4*i))):=by
 intro i hi
 have hb:=h.bss'
 obtain⟨a',cap',e,hc,hx⟩:=hb
 simp only [Value.slice.injEq,true_and] at e
 obtain⟨rfl,rfl⟩:=e
 refine⟨fun hcap=>⟨a,0,by rw [List.length_drop],by rw [List.length_drop];omega,.inl (by rw [List.drop_eq_nil_iff];omega)⟩,?_⟩
 refine⟨_,_,by rw [List.length_drop],by rw [List.length_drop];omega,?_⟩
 rcases hx with rfl | ⟨b,off,rfl,hx⟩
 ·exact .inl (by simp)
 ·refine .inr ⟨b,off+4*i,by simp [Addr.add_mid],fun j hj=>?_⟩
  rw [List.length_drop] at hj
  obtain⟨x,hx1,hx2⟩:=hx (4*i+j) (by omega)
  refine⟨x,by rw [Nat.add_assoc];exact hx1,?_⟩
  rw [List.getElem_drop]
  exact hx2
theorem zui (O:Nat→Prop)(W:World)(hE:Env W)(hOW:∀ k,O k→W.heap.size≤k)(db lb:Nat)(d:Dk)(l:Lg)(w:World)(hn:d.fs.length≤1000000000)(hl:∀ f∈d.fs,f.2.length≤1000000000)(hc:zau d)(hW:Below W.heap.size W w)(h:zm w O db d)(hL:xk w O db lb l)(hlv:l.live=true)
  (s:List Nat) (hs:zht (zx d.fs) s) (hsl:s.length≤100000) (h0:∀ j,4*j < l.es.length→j∈s) :
  Calls Tryz.prog 45 #[.pointer (some ⟨lb,0,none⟩)] w fun r w'=>∃(d':Dk) (es':List (List UInt8)),zf O rT w w'∧zm w' O db d'∧xk w' (Ext O w w') db lb { l with es:=es' }∧d'.fs=d.fs∧tk d'=tk d ∧
   ((d'.hit=true∧∃ p e,r= .returned e∧zbd true p w.heap.size e w')∨(zau d'∧r= .returned .nilIface∧zeh (zx d.fs) l.es es')):=by
 have HL:=za hl
 have HD:=za h
 have HLG:=za hL
 have HW:=za hW
 have HC:=za hc
 have HO:=za hOW
 have hEE:=za hE
 have HS:=za hs
 have H0:=za h0
 clear hl h hL hW hc hOW hE hs h0
 go_enter Tryz.func45,Tryz.ntmps45
 go_wp2_with fail
 go_loopg [3,4,5,6,7,8,9] (s.length+1) (fun gg _ _ _ _ _ _ _ wr=>∃(k:Nat) (d1:Dk),s.length+1 - k≤gg∧zf O rT w wr∧zm wr O db d1∧xk wr (Ext O w wr) db lb { l with es:=zah (zx d.fs) l.es k }∧d1.fs=d.fs∧tk d1=tk d∧zau d1∧∀ i,i < k→(j7 (zx d.fs) (zah (zx d.fs) l.es i)).2=true)
 case atStart=>exact⟨0,d,by omega,zf.refl _ _ _,HD.o,HLG.o.mono (fun _ h=> .inl h),rfl,rfl,HC.o,fun i hi=>absurd hi (Nat.not_lt_zero _)⟩
 case round =>
  obtain⟨k,d1,hgg,ht,hd,hlg,hfs,htu,hcm,hst⟩:=hrel
  have hbd:=z05 HS.o H0.o hst
  have HT:=za ht
  have HD1:=za hd
  have HF:=za (And.intro hfs htu)
  have HCM:=za hcm
  have HST:=za hst
  have HEW:=za (Env.turn hEE.out HW.o ht HO.o)
  have HB4:=za hbd
  have HLG1:=za hlg
  obtain⟨ev,hO,hb,hes,hg⟩:=hlg
  generalize hes0:zah (zx d.fs) l.es k=es at *
  have HES:=za hes0
  have hm:es.length≤400000:=by omega
  obtain⟨⟨c0,f0⟩,-,⟨c2,f2⟩,-⟩:=zej hb
  obtain⟨a,cap,hev⟩:=zdb hes
  subst hev
  have HBL:=za hb
  have HEV:=za hes
  have HG:=za hg
  clear ht hd hfs htu hcm hst hb hes hg hes0 hbd
  go_upto_region 2 with fail
  go_cut [3,4] from 10 to 66 (fun s3 s4 wx=>s3= .int .i64 (es.length / 4:Nat)∧wx=wr∧∃ a' c',s4= .slice a' (es.length % 4) c'∧∀ W',OBs W' 0 (.slice a es.length cap) es→Bss W' s4 (es.drop (4*(es.length / 4))))
  case first =>
   have e1:es.length - es.length / 4*4=es.length % 4:=by omega
   have e2:((es.length:Int) / 4)=((es.length / 4:Nat):Int):=by omega
   have E1:=za e1
   have E2:=za e2
   have hdm:4*(es.length / 4)≤es.length:=by omega
   clear e1 e2
   go_wp2_with fail
   all_goals go_meet
   all_goals refine⟨by rw [E2.out],rfl,_,_,by rw [E1.out],fun W' hW'=>?_⟩
   ·have:=(zor hW' (es.length / 4) hdm).1 (by omega)
    rw [show es.length / 4*4=4*(es.length / 4) by omega]
    exact this
   ·have:=(zor hW' (es.length / 4) hdm).2
    rw [show es.length / 4*4=4*(es.length / 4) by omega]
    exact this
  case rest =>
   obtain⟨rfl,rfl,a',c',rfl,hbg⟩:=hcut
   have hq1:4*(es.length / 4)+es.length % 4≤es.length:=by omega
   have hq2:es.length≤4*(es.length / 4)+es.length % 4:=by omega
   have h4:es.length % 4 < 4:=by omega
   generalize hqq:es.length / 4=q at *
   generalize hhh:es.length % 4=hv at *
   have HQ:=za (And.intro hqq hhh)
   have HBG:=za hbg
   clear hbg hqq hhh
   have hi100:q≤1000000:=by omega
   go_wp2_with fail
   refine(zm8 O W hEE.out HO.o db lb d1 q hv wc (by rw [HF.o.1];exact hn) (by rw [HF.o.1];exact HL.o) hi100 h4 HCM.o HEW.o.2 HD1.o _ HBL.o (by show some (stV db l.live)=_;rw [hlv])).mono ?_
   rintro r w1 ⟨d2,n,v,e,rfl,ht1,hd2,hf2,hu2,hres⟩
   have HT1:=za ht1
   have HD2:=za hd2
   have HF2:Hid (d2.fs=d.fs∧tk d2=tk d):=⟨hf2.trans HF.o.1,hu2.trans HF.o.2⟩
   have HLG2:=za (HLG1.o.stay ht1 (by decide) (by decide) (by decide))
   have HTT:Hid (zf O rT w w1):=HT.o.trans (ht1.to_rT.mono (fun _ h=> .inl h) (fun _ h=>h))
   have HEV1:Hid (OBs w1 0 (.slice a es.length cap) es):=zl4 HEV.o ht1 (by decide) (by decide)
   have HBL1:=za (ht1.keep HBL.o (by decide))
   have HW1:=za (HEW.o.2.trans (ht1.below HO.o HEW.o.2.size))
   rw [HF.o.1] at hres
   clear ht1 hd2 hf2 hu2
   rcases hres with ⟨hh,p,hge⟩ | ⟨hc2,rfl,hres⟩
   ·have HH:=za hh
    have HGE:=za hge
    obtain⟨g,rfl⟩:∃ g,e= .iface 113 (.pointer (some ⟨g,0,none⟩)):=by
     rcases jf hge with ⟨h,-⟩ | ⟨-,h⟩
     ·simp at h
     ·exact h
    clear hh hge
    go_wp2_with fail
    go_ret
    exact⟨d2,es,HTT.o,HD2.o,HLG2.o.mono (Ext.more HT1.o.size),HF2.o.1,HF2.o.2,.inl ⟨HH.o,p,_,rfl,HGE.o.weaken HT.o.size⟩⟩
   ·have HC2:=za hc2
    have hgot:zfd w1 v ((wdF (zx d.fs) q hv).bind fun k=>zx d.fs (yr (-1) (q:Nat) (k:Nat)))∧zei ((wdF (zx d.fs) q hv).bind fun k=>zx d.fs (yr (-1) (q:Nat) (k:Nat))) n=(wdF (zx d.fs) q hv).bind fun k=>zb8 (zx d.fs) q k:=by
     rcases hres with ⟨h1,rfl,rfl⟩ | ⟨h1,x,h2,h3⟩
     ·rw [h1];exact⟨.inr ⟨rfl,rfl⟩,rfl⟩
     ·rw [h1]
      refine⟨.inl ⟨x,h2,h3⟩,?_⟩
      show zei (zx d.fs (yr (-1) (q:Nat) (n:Nat))) n=zb8 (zx d.fs) q n
      rfl
    have hn4:n≤4:=by
     rcases hres with ⟨-,rfl,-⟩ | ⟨h1,-⟩
     ·omega
     ·exact(zlp h1).2.1
    have HRES:Hid (n=0∧wdF (zx d.fs) q hv=none∨wdF (zx d.fs) q hv=some n):=by
     rcases hres with ⟨h1,h2,-⟩ | ⟨h1,-⟩
     ·exact .inl ⟨h2,h1⟩
     ·exact .inr h1
    obtain⟨va,vn,vc,rfl⟩:∃ a n c,v= .slice a n c:=by
     rcases zfg hgot.1 with ⟨-,rfl⟩ | ⟨_,_,_,_,-,rfl⟩
     ·exact⟨_,_,_,rfl⟩
     ·exact⟨_,_,_,rfl⟩
    have HGOT:=za hgot
    clear hc2 hgot hres
    go_wp2_with fail
    refine(zhc n (.slice va vn vc) _ w1 HGOT.o.1).mono ?_
    rintro r w2 ⟨hb2,hr⟩
    rw [HGOT.o.2] at hr
    have hT2:zf O [] w1 w2:= .of_below hb2
    have HD3:=za (HD2.o.stay hT2 (by decide) (by decide))
    have HLG3:=za (HLG2.o.stay hT2 (by decide) (by decide) (by decide))
    have HTT2:Hid (zf O rT w w2):=HTT.o.then_below hb2
    have HEV2:Hid (OBs w2 0 (.slice a es.length cap) es):=zl4 HEV1.o hT2 (by decide) (by decide)
    have HBL2:=za (hT2.keep HBL1.o (by decide))
    have hsz12:Hid (wc.heap.size≤w2.heap.size):=Nat.le_trans HT1.o.size hb2.size
    clear hb2 hT2
    rcases hr with ⟨b,y,hb,rfl,hob⟩ | ⟨hb,rfl⟩
    ·obtain⟨ya,yc,rfl⟩:=zdb hob
     have hnn:wdF (zx d.fs) q hv=some n:=by
      rcases HRES.o with ⟨-,h⟩ | h
      ·rw [h] at hb;simp at hb
      ·exact h
     have hlt4:=zlp hnn
     have hbl:b.length=n:=by
      have h:=hb
      rw [hnn] at h
      exact(zdh h).1
     obtain⟨gb,rfl,hbs⟩:=zhq hob (by omega)
     have HOB:=za hob
     have HBS:=za hbs
     have HHB:=za hb
     have HNN:=za hnn
     have HBL4:=za hbl
     have hbn:hv < b.length:=by omega
     have hyc:=zpy hob
     have hlt5:=hlt4.1
     clear hob hbs hb hnn hlt4 hbl
     by_cases heq:b.take hv=es.drop (4*q)
     ·have HSB:=za (z47 HQ.o.1 HQ.o.2 HNN.o HHB.o heq)
      have hcall:=zwy (.slice (some ⟨gb,0,none⟩) hv yc) (.slice a' hv c') (b.take hv) (es.drop (4*q)) w2 (by simp;omega) (by simp;omega) (by exact zrk HOB.o (by omega)) (HBG.o w2 HEV2.o)
      rw [show decide (b.take hv=es.drop (4*q))=true by simp [heq]] at hcall
      clear heq
      go_wp2_with fail
      refine hcall.mono ?_
      rintro r w3 ⟨rfl,rfl⟩
      clear hcall
      obtain⟨i,hi,hi'⟩:=Option.map_eq_some_iff.1 zg5
      obtain⟨hz0,hz1,hz2⟩:i.zero=some (.slice none 0 0)∧i.size=1∧i.bytes=24:=by simpa using hi'
      clear hi'
      have HI:=za hi
      have HZ:=za (And.intro hz0 (And.intro hz1 hz2))
      clear hi hz0 hz1 hz2
      obtain⟨-,-,⟨c2',f2'⟩,-⟩:=zej HBL2.o
      obtain⟨xs,hoe,hxe⟩:=HEV2.o
      obtain⟨ys,hob,hyb⟩:=HOB.o
      have hyl:ys.length=b.length:=by rw [hob.1,Nat.mul_one]
      have hnw:Hid (∀ j u,(ys.drop hv)[j]?=some u→w3.drew.cell? ((⟨gb,hv,none⟩:Addr).add j)=some u):=fun j u hj=>by
       rw [List.getElem?_drop] at hj
       have:=hob.cells rfl _ _ hj
       rw [Addr.add_mid] at this ⊢
       rw [Nat.zero_add] at this
       exact this
      have hn1:Hid (∀ u∈ys.drop hv,u.oneCell'=true):=fun u hu=>by
       obtain⟨j,hj,rfl⟩:=List.getElem_of_mem (List.mem_of_mem_drop hu)
       obtain⟨x,hx,hx'⟩:=hyb j (by omega)
       rw [List.getElem?_eq_getElem hj] at hx
       obtain rfl:ys[j]=x:=by simpa using hx
       exact zlq hx' _ (by simp)
      have HOE:=za hoe
      have HXE:=za hxe
      have HOY:=za hob
      have HYB:=za hyb
      have HYL:=za hyl
      have hyn:¬ yc=hv:=by omega
      have hvb:hv≤b.length:=by omega
      have hb4l:b.length≤4:=by have:=HBL4.o;omega
      have hks:k≤s.length:=HB4.o.2
      have hdl:Hid ((ys.drop hv).length=(b.length - hv)*1):=by show _=_;rw [List.length_drop,hyl];omega
      clear hoe hxe hob hyb hyl
      have HOD:Hid (w3.drew.ownsRow 0 76 1 (.slice a es.length cap) es.length xs):=HOE.o
      have HLB3:Hid (∀ w4,w3.drew.grownBy w4 (Value.slice a es.length cap).ownBlock→w4.heap[lb]?=some (.cells (zck db (.slice a es.length cap) { key:=l.key,es:=es,put:=l.put,live:=l.live }) 109 (0,0))):=fun w4 hgr=>by
       rw [hgr.block lb (show lb < w3.heap.size from zb HBL2.o) (fun e=>?_)]
       ·exact HBL2.o
       ·rcases HOE.o.2 with ⟨h,-⟩ | ⟨g,cp,cur,h,-,hg,-⟩
        ·simp at h;rw [h.1] at e;simp [Value.ownBlock] at e
        ·simp at h
         rw [h.1] at e
         simp only [Value.ownBlock,Option.some.injEq] at e
         subst e
         have:=HBL2.o
         rw [hg] at this
         simp at this
      have HOX:=za hO
      by_cases hn4':n < 4
      ·have hn4b:(n:Int) < 4:=by omega
       go_wp2_with fail
       go_region_law (refine step_append_lies _ (by rfl) _ _ _ (by rfl) 0 76 i (.slice none 0 0) 1 24 Tryz.underlying107 HI.o HZ.o.1 HZ.o.2.1 HZ.o.2.2 rfl (by omega) (.slice a es.length cap) es.length xs (by rfl) HOD.o ⟨gb,hv,none⟩ (b.length - hv) (yc - hv) (ys.drop hv) (by rfl) hdl.out hnw.out hn1.out (by omega) (by unfold maxLen;omega) (by omega) (by omega) w3.heap.size (by rfl) ?_;intro g cap' w4 hown hgrow hat hltg;have hb4:=HLB3.o w4 hgrow;obtain⟨-,-,⟨k4,z4⟩,-⟩:=zej hb4;have HOW:=za hown;have HGR:=za hgrow;have HAT:=za hat;have HB4':=za hb4;clear hown hgrow hat hb4)
       all_goals go_wp2_with fail
       all_goals go_ret
       all_goals
        have hfin:=zfh (l:=l) HTT2.o (Ext.more hsz12.out _ HOX.o) (fun g' hg'=>Ext.more hsz12.out _ (HG.o g' hg')) HOE.o HXE.o HYB.o hvb HYL.o HOW.o HGR.o HAT.o HB4'.o
        refine⟨d2,es++b.drop hv,hfin.1,hfin.2.2.1 d2 HD3.o,hfin.2.1,HF2.o.1,HF2.o.2,.inr ⟨HC2.o,rfl,?_⟩⟩
        have hsb:=HSB.o.1
        rw [show decide (n=4)=false by simp;omega] at hsb
        rw [← HES.o] at hsb ⊢
        have:=zeh.of HST.o (by rw [hsb])
        rw [hsb] at this
        exact this
      ·have hn4b:¬(n:Int) < 4:=by omega
       go_wp2_with fail
       go_region_law (refine step_append_lies _ (by rfl) _ _ _ (by rfl) 0 76 i (.slice none 0 0) 1 24 Tryz.underlying107 HI.o HZ.o.1 HZ.o.2.1 HZ.o.2.2 rfl (by omega) (.slice a es.length cap) es.length xs (by rfl) HOD.o ⟨gb,hv,none⟩ (b.length - hv) (yc - hv) (ys.drop hv) (by rfl) hdl.out hnw.out hn1.out (by omega) (by unfold maxLen;omega) (by omega) (by omega) w3.heap.size (by rfl) ?_;intro g cap' w4 hown hgrow hat hltg;have hb4:=HLB3.o w4 hgrow;obtain⟨-,-,⟨k4,z4⟩,-⟩:=zej hb4;have HOW:=za hown;have HGR:=za hgrow;have HAT:=za hat;have HB4':=za hb4;clear hown hgrow hat hb4)
       all_goals go_wp2_with fail
       all_goals go_roundg (gk - 1)
       case rel =>
        have hfin:=zfh (l:=l) HTT2.o (Ext.more hsz12.out _ HOX.o) (fun g' hg'=>Ext.more hsz12.out _ (HG.o g' hg')) HOE.o HXE.o HYB.o hvb HYL.o HOW.o HGR.o HAT.o HB4'.o
        have hsb:=HSB.o.1
        rw [show decide (n=4)=true by simp;omega] at hsb
        have hbh:zah (zx d.fs) l.es (k+1)=es++b.drop hv:=by
         rw [zah,HES.o,hsb]
        refine⟨k+1,d2,by omega,hfin.1,hfin.2.2.1 d2 HD3.o,by rw [hbh];exact hfin.2.1,HF2.o.1,HF2.o.2,HC2.o,fun j hj=>?_⟩
        by_cases hjk:j < k
        ·exact HST.o j hjk
        ·obtain rfl:j=k:=by omega
         rw [HES.o,hsb]
       case measure=>omega
     ·have HSB:=za (zym HQ.o.1 HQ.o.2 HHB.o heq)
      have hcall:=zwy (.slice (some ⟨gb,0,none⟩) hv yc) (.slice a' hv c') (b.take hv) (es.drop (4*q)) w2 (by simp;omega) (by simp;omega) (by exact zrk HOB.o (by omega)) (HBG.o w2 HEV2.o)
      rw [show decide (b.take hv=es.drop (4*q))=false by simp [heq]] at hcall
      clear heq
      go_wp2_with fail
      refine hcall.mono ?_
      rintro r w3 ⟨rfl,rfl⟩
      go_wp2_with fail
      go_ret
      refine⟨d2,es,HTT2.o,HD3.o,HLG3.o.mono (Ext.more hsz12.out),HF2.o.1,HF2.o.2,.inr ⟨HC2.o,rfl,?_⟩⟩
      rw [← HES.o] at HSB ⊢
      have:=zeh.of HST.o (by rw [HSB.o])
      rw [HSB.o,List.append_nil] at this
      exact this
    ·have HSB:=za (z67 HQ.o.1 HQ.o.2 hb)
     go_wp2_with fail
     go_ret
     refine⟨d2,es,HTT2.o,HD3.o,HLG3.o.mono (Ext.more hsz12.out),HF2.o.1,HF2.o.2,.inr ⟨HC2.o,rfl,?_⟩⟩
     rw [← HES.o] at HSB ⊢
     have:=zeh.of HST.o (by rw [HSB.o])
     rw [HSB.o,List.append_nil] at this
     exact this
end
end Go.Proofs.YtinhekmmdlhfkaaGreatDoor
