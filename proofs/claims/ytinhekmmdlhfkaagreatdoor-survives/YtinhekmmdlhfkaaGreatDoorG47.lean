import Derived.Test.YtinhekmmdlhfkaaGreatDoorG20
import Derived.Test.YtinhekmmdlhfkaaGreatDoorG42
import Derived.Test.YtinhekmmdlhfkaaGreatDoorG04
import Derived.Test.YtinhekmmdlhfkaaGreatDoorG46
import Derived.Test.YtinhekmmdlhfkaaGreatDoorG18
import Derived.Test.YtinhekmmdlhfkaaGreatDoorG16
import Derived.Test.YtinhekmmdlhfkaaGreatDoorG19
import Derived.Laws.AppendOwnNone
import Derived.Test.YtinhekmmdlhfkaaGreatDoorG10
import Derived.Test.YtinhekmmdlhfkaaGreatDoorG05
import Derived.Test.YtinhekmmdlhfkaaGreatDoorG45
namespace Go.Proofs.YtinhekmmdlhfkaaGreatDoor
section
set_option maxHeartbeats 1000000
open Go.RowKit
set_option maxRecDepth 100000
def zgs (w:World)(lb g:Nat):Prop:=∃(ev:Value) (n:Nat) (xs:List Value),w.cell? ⟨lb,2,none⟩=some ev∧w.ownsRow 0 76 1 ev n xs∧∀ x∈xs,x.ownBlock≠some g
theorem zoo {w:World}{B B':Nat}{e:TypeId}{v:Value}{n n':Nat}{xs xs':List Value}(h:w.ownsRow B e 1 v n xs)(h':w.ownsRow B' e 1 v n' xs'):xs=xs':=by
 obtain⟨l1,h⟩:=h
 obtain⟨l2,h'⟩:=h'
 rcases h with ⟨rfl,rfl⟩ | ⟨g,cap,cur,rfl,-,hg,-,-,-,ht⟩
 ·rcases h' with ⟨-,rfl⟩ | ⟨g',cap',cur',e',-⟩
  ·rw [List.eq_nil_of_length_eq_zero (l:=xs) (by omega),List.eq_nil_of_length_eq_zero (l:=xs') (by omega)]
  ·simp at e'
 ·rcases h' with ⟨e',-⟩ | ⟨g',cap',cur',e',-,hg',-,-,-,ht'⟩
  ·simp at e'
  ·simp only [Value.slice.injEq,Option.some.injEq,Addr.mk.injEq,and_true] at e'
   obtain⟨rfl,rfl,rfl⟩:=e'
   rw [hg] at hg'
   simp only [Option.some.injEq,Obj.cells.injEq,and_true] at hg'
   rw [← ht,← ht',hg']
theorem zgs.fresh {w:World}{O:Nat→Prop}{db lb:Nat}{l:Lg}(h:xk w O db lb l)(g:Nat)(hg:w.heap.size≤g):zgs w lb g:=by
 obtain⟨ev,-,hb,⟨xs,ho,hx⟩,-⟩:=h
 refine⟨ev,l.es.length,xs,(zg hb 2 _ rfl).1,ho,fun x hm e=>?_⟩
 obtain⟨j,hj,rfl⟩:=List.getElem_of_mem hm
 have hjl:j < l.es.length:=by rw [ho.1] at hj;omega
 obtain⟨y,e',hy⟩:=hx j hjl
 rw [List.getElem?_eq_getElem hj] at e'
 simp only [Option.some.injEq] at e'
 obtain⟨g',cap,hf,-,hl,-⟩:=hy.form
 rw [e',hf] at e
 simp only [Value.ownBlock,Option.some.injEq] at e
 omega
theorem zgs.below {w w':World}{lb g:Nat}(h:zgs w lb g)(hb:Below w.heap.size w w'):zgs w' lb g:=by
 obtain⟨ev,n,xs,hc,ho,hx⟩:=h
 exact⟨ev,n,xs,by rw [hb.cell (p:=⟨lb,2,none⟩) (zj hc)];exact hc,yd ho hb,hx⟩
theorem xk.clear {w w':World}{O:Nat→Prop}{db lb g:Nat}{l:Lg}{C:Array Value}{f:Nat×Nat}(h:xk w O db lb l)(hf:zgs w lb g)(hg:w.heap[g]?=some (.cells C 5 f))(hk:∀ k,k≠g→w'.heap[k]?=w.heap[k]?):xk w' O db lb l:=by
 obtain⟨ev,a,hb,⟨xs,ho,hx⟩,hgo⟩:=h
 obtain⟨ev2,n2,xs2,hc2,ho2,hx2⟩:=hf
 rw [(zg hb 2 ev rfl).1] at hc2
 simp only [Option.some.injEq] at hc2
 subst hc2
 obtain rfl:=zoo ho ho2
 have hne:∀(k:Nat) (c:Array Value) (t:TypeId) (x:Nat×Nat),w.heap[k]?=some (Obj.cells c t x)→t≠5→w'.heap[k]?=some (Obj.cells c t x):=fun k c t x e ht=>by
  rw [hk k (fun e'=>?_)]
  ·exact e
  ·subst e'
   rw [hg] at e
   simp only [Option.some.injEq,Obj.cells.injEq] at e
   exact ht e.2.1.symm
 refine⟨ev,a,hne _ _ _ _ hb (by decide),⟨xs,⟨ho.1,?_⟩,fun j hj=>?_⟩,hgo⟩
 ·rcases ho.2 with h | ⟨g',cap,cur,e1,e2,e3,r⟩
  ·exact .inl h
  ·exact .inr ⟨g',cap,cur,e1,e2,hne _ _ _ _ e3 (by decide),r⟩
 ·obtain⟨x,e,hob⟩:=hx j hj
  refine⟨x,e,⟨hob.1.1,?_⟩,hob.2⟩
  have hm:=hx2 x (List.mem_of_getElem? e)
  rcases hob.1.2 with h | ⟨g',cap,cur,e1,e2,e3,r⟩
  ·exact .inl h
  ·refine .inr ⟨g',cap,cur,e1,e2,?_,r⟩
   rw [hk g' (fun e'=>?_)]
   ·exact e3
   ·rw [e1,e'] at hm
    exact hm rfl
theorem z4v {w w3:World}{lb db n:Nat}{a:Option Addr}{cap:Nat}{l:Lg}{xs:List Value}(ho:w.ownsRow 0 76 1 (.slice a n cap) n xs)(hb:w.heap[lb]?=some (.cells (zck db (.slice a n cap) l) 109 (0,0)))(hgr:w.grownBy w3 (Value.slice a n cap).ownBlock):w3.heap[lb]?=some (.cells (zck db (.slice a n cap) l) 109 (0,0)):=by
 rw [hgr.block lb (zb hb) (fun e=>?_)]
 ·exact hb
 ·rcases ho.2 with ⟨h,-⟩ | ⟨g,cp,cur,h,-,hg,-⟩
  ·simp at h;rw [h.1] at e;simp [Value.ownBlock] at e
  ·simp at h
   rw [h.1] at e
   simp only [Value.ownBlock,Option.some.injEq] at e
   subst e
   rw [hg] at hb
   simp at hb
theorem zuv (O:Nat→Prop)(W:World)(at_:Nat→Addr)(hSN:qm W at_)(db lb:Nat)(l:Lg)(v:Value)(x:List UInt8)(w:World)(hW:Below W.heap.size W w)(he:l.es.length≤1000000)(h:xk w O db lb l)(hx:Bq w v x)(hxl:x.length≤9223372036854775807):
  Calls Tryz.prog 29 #[.pointer (some ⟨lb,0,none⟩),v] w fun r w'=>zf O lT w w' ∧
   ((20 < x.length∧r= .returned (.tuple #[.int .i64 0,jo at_ 0])∧Below w.heap.size w w')∨(x.length≤20∧l.live=false∧r= .returned (.tuple #[.int .i64 0,jo at_ 6])∧Below w.heap.size w w') ∨
    (x.length≤20∧l.live=true∧r= .returned (.tuple #[.int .i64 (l.es.length:Int),.nilIface])∧xk w' (Ext O w w') db lb { l with es:=l.es++[x] }∧∀ g,g < w.heap.size→zgs w lb g→zgs w' lb g)):=by
 have HS:=za (yz hSN hW)
 have HLG:=za h
 have HX:=za hx
 obtain⟨g,cap,C,fr,rfl,hcap,hg,hc⟩:=hx
 have HCC:=za (And.intro hg hc)
 clear hSN hW h hg hc
 by_cases h20:20 < x.length
 ·have h0:=HS.o.entry
  go_enter Tryz.func29,Tryz.ntmps29
  go_wp2_with fail
  go_region
  all_goals go_wp2_with fail
  all_goals go_ret2
  all_goals exact⟨(zf.refl _ _ _).drew,.inl ⟨h20,rfl,(Below.refl _ _).drew⟩⟩
 ·have h20':¬(20:Int) < (x.length:Int):=by omega
  cases hlv:l.live with
  | false =>
   have h6:=HS.o.failed
   go_enter Tryz.func29,Tryz.ntmps29
   go_wp2_with fail
   refine(ze9 O db lb l w HLG.o).mono ?_
   rintro r w1 ⟨rfl,rfl⟩
   rw [hlv]
   go_wp2_with fail
   go_region
   all_goals go_wp2_with fail
   all_goals go_ret2
   all_goals exact⟨(zf.refl _ _ _).drew,.inr (.inl ⟨by omega,by first | rfl | trivial,rfl,(Below.refl _ _).drew⟩)⟩
  | true =>
   obtain⟨a,ecap,hb,hes,hgg,hO⟩:=lok HLG.o
   obtain⟨-,-,⟨c2,f2⟩,-⟩:=zej hb
   go_enter Tryz.func29,Tryz.ntmps29
   go_wp2_with fail
   refine(ze9 O db lb l w HLG.o).mono ?_
   rintro r w1 ⟨rfl,rfl⟩
   rw [hlv]
   have HLV:=za hlv
   clear hlv
   obtain⟨i,hi,hi'⟩:=Option.map_eq_some_iff.1 zg5
   obtain⟨hz0,hz1,hz2⟩:i.zero=some (.slice none 0 0)∧i.size=1∧i.bytes=24:=by simpa using hi'
   clear hi'
   have HI:=za hi
   have HZ:=za (And.intro hz0 (And.intro hz1 hz2))
   clear hi hz0 hz1 hz2
   have HB:=za hb
   have HES:=za hes
   have HG:=za hgg
   have HOL:=za hO
   have hlt:=zb hb
   obtain⟨xs,hoe,hxe⟩:=hes
   have HOE:=za hoe
   have HXE:=za hxe
   have HCL:Hid (∀ j u,(x.map bv)[j]?=some u→w1.drew.cell? ((⟨g,0,none⟩:Addr).add j)=some u):=fun j u hj=>by
    have hjl:j < x.length:=by simpa using (List.getElem?_eq_some_iff.1 hj).1
    rw [Addr.add_mid,Nat.zero_add]
    show w1.cell? ⟨g,j,none⟩=_
    rw [cell_of_row _ _ _ _ _ _ HCC.o.1,HCC.o.2 j hjl]
    simpa [hjl] using hj
   clear hb hgg hO hoe hxe
   go_wp2_with fail
   go_region_law (first
    | (go_simp;go_at_call 49;(refine(zew ⟨g,0,none⟩ x.length cap x w1.drew rfl (by omega) (by exact HCL.o)).mono ?_;rintro r w2 ⟨y,rfl,hob,hb2⟩;obtain⟨gy,cy,ny,rfl⟩:=zgb hob;have hbb:Below w1.heap.size w1 w2:=(Below.refl _ w1).drew.trans hb2;have m2:w2.cell? ⟨lb,2,none⟩=some (.slice a l.es.length ecap):=(by rw [hbb.cell (p:=⟨lb,2,none⟩) hlt];exact c2);have m2':∀ o,(w2.alloc o).cell? ⟨lb,2,none⟩=some (.slice a l.es.length ecap):=(fun o=>by rw [zk _ _ ⟨_,2,none⟩ (zj m2)];exact m2);have HOB:=za hob;have HBB:=za hbb;have HO2:Hid (∀ o,(w2.alloc o).ownsRow 0 76 1 (.slice a l.es.length ecap) l.es.length xs):=(fun o=>yd (yd HOE.o hbb) (ze w2 o));have HLB:Hid (∀ o w3,(w2.alloc o).grownBy w3 (Value.slice a l.es.length ecap).ownBlock→w3.heap[lb]?=some (.cells (zck db (.slice a l.es.length ecap) l) 109 (0,0))):=(fun o w3 hgr=>z4v (HO2.o o) (zc (by rw [hbb.block _ hlt];exact HB.o)) hgr);clear hob hb2 hbb))
    | (refine step_append_lies _ (by rfl) _ _ _ (by rfl) 0 76 i (.slice none 0 0) 1 24 Tryz.underlying107 HI.o HZ.o.1 HZ.o.2.1 HZ.o.2.2 rfl (by omega) (.slice a l.es.length ecap) l.es.length xs (by rfl) (HO2.o _) ⟨w2.heap.size,0,none⟩ 1 1 [.slice (some ⟨gy,0,none⟩) ny cy] (by rfl) rfl (World.news_of_block (heap_alloc_last _ _)) (by simp [Value.oneCell']) (by omega) (by unfold maxLen;omega) (by omega) (by omega) (w2.heap.size+1) (by simp) ?_;intro g3 cap3 w3 hown hgrow hat hltg;have hb3:=HLB.o _ w3 hgrow;obtain⟨-,-,⟨k3,z3⟩,-⟩:=zej hb3;have HOW:=za hown;have HGR:=za hgrow;have HAT:=za hat;have HB3:=za hb3;clear hown hgrow hat hb3))
   all_goals
    have k6:=(zg (qj HB3.o 2 (.slice (some ⟨g3,0,none⟩) (l.es.length+1) cap3)) 2 _ rfl).1
    go_wp2_with fail
    go_ret2
    have hbo:=HBB.o
    have hT2:zf O lT w1 (w2.alloc (.cells #[.slice (some ⟨gy,0,none⟩) ny cy] 76)):=(zf.of_below hbo).alloc _
    have hTe:zf O [] w1 (w2.alloc (.cells #[.slice (some ⟨gy,0,none⟩) ny cy] 76)):=(zf.of_below hbo).alloc _
    have hszz:w1.heap.size≤(w2.alloc (.cells #[.slice (some ⟨gy,0,none⟩) ny cy] 76)).heap.size:=hT2.size
    have hfin:=zfh (l:=l) (es:=l.es) (b:=[x]) (ys:=[.slice (some ⟨gy,0,none⟩) ny cy]) (hv:=0) (B:=w1.drew.heap.size) hT2 (.inl HOL.o) (fun g' hg'=> .inl (HG.o g' hg')) (HO2.o _)
     (fun j hj=>by
      obtain⟨z,e,hz⟩:=HXE.o j hj
      exact⟨z,e,zo hz.1 hTe (by decide),hz.2⟩)
     (fun j hj=>by
      obtain rfl:j=0:=by simpa using hj
      exact⟨_,rfl,HOB.o.below (ze _ _)⟩)
     (Nat.zero_le _) rfl HOW.o ⟨HGR.o.os,HGR.o.tape,HGR.o.output,HGR.o.size,HGR.o.block⟩ (by have h:=HAT.o;simpa using h) HB3.o
    refine⟨hfin.1,.inr (.inr ⟨by omega,by first | rfl | trivial,congrArg (fun z=>Ending.returned (.tuple #[.int .i64 z,.nilIface])) (by simp),by have h9:=hfin.2.1;rw [HLV.o] at h9;exact h9,fun gf hgf hfr=>?_⟩)⟩
    obtain⟨ev2,n2,xs2,hc2,ho2,hx2⟩:=hfr
    rw [(zg HB.o 2 _ rfl).1] at hc2
    simp only [Option.some.injEq] at hc2
    subst hc2
    obtain rfl:=zoo HOE.o ho2
    refine⟨_,_,_,(zg (qj HB3.o 2 (.slice (some ⟨g3,0,none⟩) (l.es.length+1) cap3)) 2 _ rfl).1,zo HOW.o ((zf.refl (fun _=>True) [109] w3).set (.inl trivial) HB3.o (by simp) _) (by decide),fun z hz=>?_⟩
    rcases List.mem_append.1 hz with hz | hz
    ·exact hx2 z hz
    ·obtain rfl:z=_:=by simpa using hz
     obtain⟨gy',cy',hfm,hby,-,-⟩:=HOB.o.form
     simp only [Value.slice.injEq,Option.some.injEq,Addr.mk.injEq,and_true] at hfm
     have hby':w1.heap.size≤gy':=hby
     intro e9
     simp only [Value.ownBlock,Option.some.injEq] at e9
     omega
end
section
set_option maxHeartbeats 1000000
open Go.RowKit
set_option maxRecDepth 100000
theorem zks {B g:Nat}{a w:World}(hg:B≤g)(h:Below B a w)(o:Nat)(vs:List Value):Below B a (w.setCells g o vs):=by
 obtain⟨r1,r2,r3,r4⟩:=zbi g vs o w
 exact⟨r1.trans h.os,r2.trans h.tape,r3.trans h.output,by rw [r4];exact h.size,fun k hk=>by rw [vd _ _ _ _ _ (by omega)];exact h.block k hk⟩
theorem zt9 {O:Nat→Prop}{T:List Nat}{a w:World}{g:Nat}(h:zf O T a w)(hg:a.heap.size≤g)(o:Nat)(vs:List Value):zf O T a (w.setCells g o vs):=by
 obtain⟨r1,r2,r3,r4⟩:=zbi g vs o w
 exact⟨r1.trans h.os,r2.trans h.tape,r3.trans h.output,by rw [r4];exact h.size,fun k hk=>by rw [vd _ _ _ _ _ (by omega)];exact h.block k hk⟩
def znj (g n:Nat)(w:World):Prop:=∃ C fr,w.heap[g]?=some (.cells C 5 fr)∧n≤C.size∧n≤fr.1
theorem zsy (w0:World)(s:List UInt8)(cap:Nat):znj w0.heap.size s.length (w0.alloc (.cells (bytesRow ⟨s.toArray⟩ cap) 5 ((bytesRow ⟨s.toArray⟩ cap).size,(bytesRow ⟨s.toArray⟩ cap).size+1))):=⟨_,_,heap_alloc_last _ _,by simp [bytesRow,ByteArray.size],by simp [bytesRow,ByteArray.size]⟩
theorem znj.there {g n:Nat}{w:World}(h:znj g n w):w.there g 0 n:=by
 obtain⟨C,fr,h1,h2,h3⟩:=h
 exact zqw h1 h2 (.inl h3)
theorem znj.turn {g n:Nat}{w w':World}{O:Nat→Prop}{T:List Nat}(h:znj g n w)(ht:zf O T w w')(hT:5∉T):znj g n w':=by
 obtain⟨C,fr,h1,h2,h3⟩:=h
 exact⟨C,fr,ht.keep h1 hT,h2,h3⟩
theorem zky (O:Nat→Prop)(W:World)(at_:Nat→Addr)(hSN:qm W at_)(hOW:∀ k,O k→W.heap.size≤k)(db pb lb:Nat)(l:Lg)(s:List UInt8)(w:World)(hW:Below W.heap.size W w)(he:l.es.length≤1000000)(hsl:s.length≤9223372036854775807)(hp:zhs w pb lb)(hL:xk w O db lb l):
  Calls Tryz.prog 10 #[.pointer (some ⟨pb,0,none⟩),.string ⟨s.toArray⟩] w fun r w'=>zf O lT w w' ∧
   ((20 < s.length∧r= .returned (.tuple #[.int .i64 0,told 1])∧Below w.heap.size w w')∨(s.length≤20∧l.live=false∧r= .returned (.tuple #[.int .i64 0,told 7])∧Below w.heap.size w w') ∨
    (s.length≤20∧l.live=true∧r= .returned (.tuple #[.int .i64 (l.es.length:Int),told 0])∧xk w' (Ext O w w') db lb { l with es:=l.es++[s] })):=by
 have hplt:pb < w.heap.size:=zb hp
 have HPB:Hid (w.cell? ⟨pb,0,none⟩=some (.pointer (some ⟨lb,0,none⟩))):=(zg hp 0 _ rfl).1
 have HL:=za hL
 have HW:=za hW
 have HO:=za hOW
 have HS:=za hSN
 clear hL hW hOW hSN hp
 have hcv:=run_bytes_of_string (P:=Tryz.prog) (w.alloc (.cells #[.int .i64 0,.string ⟨#[]⟩] 29)) 9 76 5 ⟨s.toArray⟩ Tryz.underlying9 Tryz.underlying76 Tryz.underlying5
 have hge:(⟨s.toArray⟩:ByteArray).size≤grownCap (w.alloc (.cells #[.int .i64 0,.string ⟨#[]⟩] 29)) (⟨s.toArray⟩:ByteArray).size 0 5:=grownCap_ge _ _ _ _
 have hss:(⟨s.toArray⟩:ByteArray).size=s.length:=by simp [ByteArray.size]
 rw [hss] at hge
 have HQ:=za (zco (w.alloc (.cells #[.int .i64 0,.string ⟨#[]⟩] 29)) s (grownCap (w.alloc (.cells #[.int .i64 0,.string ⟨#[]⟩] 29)) s.length 0 5) hge)
 clear hss
 have hc0:∀ o1 o2,((w.alloc o1).alloc o2).cell? ⟨pb,0,none⟩=some (.pointer (some ⟨lb,0,none⟩)):=fun o1 o2=>by
  rw [zk _ _ ⟨_,0,none⟩ (by simp;omega),zk _ _ ⟨_,0,none⟩ hplt]
  exact HPB.o
 have hb0:∀ o1 o2,Below w.heap.size w ((w.alloc o1).alloc o2):=fun o1 o2=>(ze w o1).trans ((ze _ o2).mono (by simp))
 have HB0:=za hb0
 have HIR:=za (zsy (w.alloc (.cells #[.int .i64 0,.string ⟨#[]⟩] 29)) s (grownCap (w.alloc (.cells #[.int .i64 0,.string ⟨#[]⟩] 29)) s.length 0 5))
 have HR0:Hid (∀ o,zcj w.heap.size ((w.alloc (.cells #[.int .i64 0,.string ⟨#[]⟩] 29)).alloc o)):=fun o=>zc (heap_alloc_last _ _)
 have HSZ:Hid (∀ o1 o2,((w.alloc o1).alloc o2).heap.size=w.heap.size+2):=fun o1 o2=>by simp
 have e1:(w.alloc (.cells #[.int .i64 0,.string ⟨#[]⟩] 29)).heap.size=w.heap.size+1:=by simp
 rw [e1] at HQ HIR
 clear hb0 e1
 go_enter Tryz.func10,Tryz.ntmps10
 go_wp2_with fail
 have HR1:=za (HR0.o (.cells (bytesRow ⟨s.toArray⟩ (grownCap (w.alloc (.cells #[.int .i64 0,.string ⟨#[]⟩] 29)) s.length 0 5)) 5 ((bytesRow ⟨s.toArray⟩ (grownCap (w.alloc (.cells #[.int .i64 0,.string ⟨#[]⟩] 29)) s.length 0 5)).size,(bytesRow ⟨s.toArray⟩ (grownCap (w.alloc (.cells #[.int .i64 0,.string ⟨#[]⟩] 29)) s.length 0 5)).size+1)))
 have HB1:=za (HB0.o (.cells #[.int .i64 0,.string ⟨#[]⟩] 29) (.cells (bytesRow ⟨s.toArray⟩ (grownCap (w.alloc (.cells #[.int .i64 0,.string ⟨#[]⟩] 29)) s.length 0 5)) 5 ((bytesRow ⟨s.toArray⟩ (grownCap (w.alloc (.cells #[.int .i64 0,.string ⟨#[]⟩] 29)) s.length 0 5)).size,(bytesRow ⟨s.toArray⟩ (grownCap (w.alloc (.cells #[.int .i64 0,.string ⟨#[]⟩] 29)) s.length 0 5)).size+1)))
 have HZ1:=za (HSZ.o (.cells #[.int .i64 0,.string ⟨#[]⟩] 29) (.cells (bytesRow ⟨s.toArray⟩ (grownCap (w.alloc (.cells #[.int .i64 0,.string ⟨#[]⟩] 29)) s.length 0 5)) 5 ((bytesRow ⟨s.toArray⟩ (grownCap (w.alloc (.cells #[.int .i64 0,.string ⟨#[]⟩] 29)) s.length 0 5)).size,(bytesRow ⟨s.toArray⟩ (grownCap (w.alloc (.cells #[.int .i64 0,.string ⟨#[]⟩] 29)) s.length 0 5)).size+1)))
 clear HR0 HB0 HSZ hc0 hcv hge
 generalize ((w.alloc (.cells #[.int .i64 0,.string ⟨#[]⟩] 29)).alloc (.cells (bytesRow ⟨s.toArray⟩ (grownCap (w.alloc (.cells #[.int .i64 0,.string ⟨#[]⟩] 29)) s.length 0 5)) 5 ((bytesRow ⟨s.toArray⟩ (grownCap (w.alloc (.cells #[.int .i64 0,.string ⟨#[]⟩] 29)) s.length 0 5)).size,(bytesRow ⟨s.toArray⟩ (grownCap (w.alloc (.cells #[.int .i64 0,.string ⟨#[]⟩] 29)) s.length 0 5)).size+1)))=X at *
 generalize grownCap (w.alloc (.cells #[.int .i64 0,.string ⟨#[]⟩] 29)) s.length 0 5=cp at *
 have HX:Hid (zf O lT w X):= .of_below HB1.o
 have HLX:Hid (xk X O db lb l):=HL.o.stay (O1:=fun _=>False) (T:=[]) (.of_below HB1.o) (by simp) (by simp) (by simp)
 have HFX:Hid (zgs X lb (w.heap.size+1)):=(zgs.fresh HL.o (w.heap.size+1) (by omega)).below HB1.o
 have HBX:Hid (Below W.heap.size W X):=HW.o.trans (HB1.o.mono HW.o.size)
 refine(zuv O W at_ HS.o db lb l _ s X.drew HBX.o.drew he (by exact HLX.o) (by exact HQ.o) hsl).mono ?_
 rintro r w2 ⟨ht2,hres⟩
 have HT2:Hid (zf O lT w w2):=HX.o.trans ((ht2.undrew).mono (fun _ h=> .inl h) (fun _ h=>h))
 have HR2:Hid (zcj w.heap.size w2):=HR1.o.turn ht2.undrew (by decide)
 have HI2:Hid (znj (w.heap.size+1) s.length w2):=HIR.o.turn ht2.undrew (by decide)
 have HB2:Hid (Below W.heap.size W w2):=HW.o.trans (HT2.o.below HO.o HW.o.size)
 have HE2:Hid (∀ k,Ext O X.drew w2 k→Ext O w w2 k):=fun k hk=>by
  rcases hk with h | h
  ·exact .inl h
  ·exact .inr ⟨Nat.le_trans HB1.o.size h.1,h.2⟩
 clear ht2
 have hcl:=fun ty=>zrr (P:=Tryz.prog) w2 76 5 ty (.int .u8 0) Tryz.underlying76 zrn rfl rfl (w.heap.size+1) s.length cp HI2.o.there
 have HT3:Hid (zf O lT w (w2.setCells (w.heap.size+1) 0 (List.replicate s.length (.int .u8 0)))):=zt9 HT2.o (by omega) _ _
 have HR3:Hid (zcj w.heap.size (w2.setCells (w.heap.size+1) 0 (List.replicate s.length (.int .u8 0)))):=by
  show zcj _ _
  unfold zcj
  rw [vd _ _ _ _ _ (by omega)]
  exact HR2.o
 have HB3:Hid (Below W.heap.size W (w2.setCells (w.heap.size+1) 0 (List.replicate s.length (.int .u8 0)))):=zks (Nat.le_trans HW.o.size (by omega)) HB2.o _ _
 have HS3:Hid ((w2.setCells (w.heap.size+1) 0 (List.replicate s.length (.int .u8 0))).heap.size=w2.heap.size):=(zbi (w.heap.size+1) (List.replicate s.length (.int .u8 0)) 0 w2).2.2.2
 have HBL:Hid (Below X.heap.size X w2→Below w.heap.size w (w2.setCells (w.heap.size+1) 0 (List.replicate s.length (.int .u8 0)))):=fun h=>zks (by omega) (HB1.o.trans (h.mono HB1.o.size)) _ _
 have HLL:Hid (∀ l',xk w2 (Ext O X.drew w2) db lb l'→zgs w2 lb (w.heap.size+1)→xk (w2.setCells (w.heap.size+1) 0 (List.replicate s.length (.int .u8 0))) (Ext O w (w2.setCells (w.heap.size+1) 0 (List.replicate s.length (.int .u8 0)))) db lb l'):=fun l' h hf=>by
  obtain⟨C,fr,hg,-,-⟩:=HI2.o
  refine(h.clear hf hg (fun k hk=>vd _ _ _ _ _ hk)).mono (fun k hk=>?_)
  rcases HE2.o k hk with h | h
  ·exact .inl h
  ·exact .inr ⟨h.1,by rw [HS3.o];exact h.2⟩
 generalize w2.setCells (w.heap.size+1) 0 (List.replicate s.length (.int .u8 0))=Y at *
 rcases hres with ⟨h20,rfl,hb⟩ | ⟨h20,hlv,rfl,hb⟩ | ⟨h20,hlv,rfl,hl,hfr⟩
 ·have HH:=za (And.intro h20 (HBL.o ⟨hb.os,hb.tape,hb.output,hb.size,hb.block⟩))
  clear h20 hb
  unfold jo
  go_wp2_with fail
  refine(z1k at_ Y (yz HS.o HB3.o)).mono ?_
  rintro r w4 ⟨rfl,hb4⟩
  have HB4:=za hb4
  have HR4:=za (HR3.o.below hb4)
  obtain⟨c0,z0⟩:=zg HR4.o 0 _ rfl
  obtain⟨c1,z1⟩:=zg HR4.o 1 _ rfl
  clear hb4
  unfold told
  go_wp2_with fail
  exact bodyPost_ret (v:= .tuple #[.int .i64 0,.agg #[.int .i64 1,.string ⟨([]:List UInt8).toArray⟩]]) (yy Tryz.results10 _ _ w.heap.size 29 _ (0,0) _ rfl (jr HR4.o _ _ rfl) Tryz.underlying29 rfl (by kernel_rfl) _ rfl) rfl ⟨jv (HT3.o.then_below HB4.o),.inl ⟨HH.o.1,rfl,zcu (HH.o.2.trans (HB4.o.mono HT3.o.size))⟩⟩
 ·have HH:=za (And.intro h20 (And.intro hlv (HBL.o ⟨hb.os,hb.tape,hb.output,hb.size,hb.block⟩)))
  clear h20 hb hlv
  unfold jo
  go_wp2_with fail
  refine(ztf at_ Y (yz HS.o HB3.o)).mono ?_
  rintro r w4 ⟨rfl,hb4⟩
  have HB4:=za hb4
  have HR4:=za (HR3.o.below hb4)
  obtain⟨c0,z0⟩:=zg HR4.o 0 _ rfl
  obtain⟨c1,z1⟩:=zg HR4.o 1 _ rfl
  clear hb4
  unfold told
  go_wp2_with fail
  exact bodyPost_ret (v:= .tuple #[.int .i64 0,.agg #[.int .i64 7,.string ⟨([]:List UInt8).toArray⟩]]) (yy Tryz.results10 _ _ w.heap.size 29 _ (0,0) _ rfl (jr HR4.o _ _ rfl) Tryz.underlying29 rfl (by kernel_rfl) _ rfl) rfl ⟨jv (HT3.o.then_below HB4.o),.inr (.inl ⟨HH.o.1,HH.o.2.1,rfl,zcu (HH.o.2.2.trans (HB4.o.mono HT3.o.size))⟩)⟩
 ·have HH:=za (And.intro h20 (And.intro hlv (HLL.o _ hl (hfr _ (by have:=HZ1.o;show _ < X.heap.size;omega) HFX.o))))
  clear h20 hlv hl hfr
  go_wp2_with fail
  refine(zjy at_ Y (yz HS.o HB3.o)).mono ?_
  rintro r w4 ⟨rfl,hb4⟩
  have HB4:=za hb4
  have HR4:=za (HR3.o.below hb4)
  obtain⟨c0,z0⟩:=zg HR4.o 0 _ rfl
  obtain⟨c1,z1⟩:=zg HR4.o 1 _ rfl
  clear hb4
  unfold told
  go_wp2_with fail
  exact bodyPost_ret (v:= .tuple #[.int .i64 (l.es.length:Int),.agg #[.int .i64 0,.string ⟨([]:List UInt8).toArray⟩]]) (yy Tryz.results10 _ _ w.heap.size 29 _ (0,0) _ rfl (jr HR4.o _ _ rfl) Tryz.underlying29 rfl (by kernel_rfl) _ rfl) rfl ⟨jv (HT3.o.then_below HB4.o),.inr (.inr ⟨HH.o.1,HH.o.2.1,rfl,(HH.o.2.2.later HB4.o).sets2 HR4.o⟩)⟩
end
section
open Go.RowKit
set_option maxRecDepth 100000
end
section
open Go.RowKit
set_option maxRecDepth 100000
end
section
open Go.RowKit
set_option maxRecDepth 100000
end
section
open Go.RowKit
set_option maxRecDepth 100000
end
section
open Go.RowKit
set_option maxRecDepth 100000
end
section
open Go.RowKit
set_option maxRecDepth 100000
theorem zre {w:World}{B:Nat}{v:Value}{ls:List (List UInt8)}(h:w.ownsRow B 9 1 v ls.length (ls.map txv)):Tss w v ls:=by
 rcases h.2 with ⟨rfl,h0⟩ | ⟨g,cap,cur,rfl,-,hg,hcap,-,hsz,ht⟩
 ·exact⟨none,0,by rw [h0],by omega,.inl (List.eq_nil_of_length_eq_zero h0)⟩
 ·refine⟨_,cap,rfl,hcap,.inr ⟨g,0,rfl,fun i hi=>?_⟩⟩
  rw [Nat.zero_add,cell_of_row _ _ _ _ _ _ hg]
  have e:(ls.map txv)[i]?=some (txv ls[i]):=by simp [hi]
  rw [← ht,List.getElem?_take,if_pos (by omega)] at e
  simpa using e
theorem zj1 {w:World}{B:Nat}{e:TypeId}{s:Nat}{v:Value}{n:Nat}{xs:List Value}(h:w.ownsRow B e s v n xs):∃ a cap,v= .slice a n cap:=by
 rcases h.2 with ⟨rfl,rfl⟩ | ⟨g,cap,cur,rfl,-⟩
 ·exact⟨_,_,rfl⟩
 ·exact⟨_,_,rfl⟩
end
section
open Go.RowKit
set_option maxRecDepth 100000
structure Num (n:Nat)(x:Wd)(d:Dk)(s:List Nat):Prop where
 apart:zbq d.fs
 data:∀ f∈d.fs,f.2.length≤1048576
 count:d.fs.length≤4096+n*180400
 among:zht (zx d.fs) s
 small:s.length≤4096+n
 key:x.key.length≤9223372036854775807
 turned:d.turned=false
structure Ent (x:Wd)(d:Dk)(s:List Nat)(es:List (List UInt8))(put:Nat):Prop where
 short:∀ e∈es,e.length≤20
 ins:∀ j,4*j < es.length→j∈s
 le:put≤es.length
 there:x.failed=false→zau d∧∀ f∈xj (es.take put),zx d.fs f.1=some f.2
theorem zwv {x:Wd}{d:Dk}{s:List Nat}{es:List (List UInt8)}{put:Nat}(h:Ent x d s es put):es.length≤4*s.length:=by
 have:=zc4 ((es.length+3) / 4) s (fun j hj=>h.ins j (by omega))
 omega
theorem Num.more {n m:Nat}{x:Wd}{d:Dk}{s:List Nat}(h:Num n x d s)(hm:n≤m):Num m x d s :=
 ⟨h.apart,h.data,Nat.le_trans h.count (Nat.add_le_add_left (Nat.mul_le_mul_right _ hm) _),h.among,Nat.le_trans h.small (Nat.add_le_add_left hm _),h.key,h.turned⟩
theorem zmw {n:Nat}{x x':Wd}{d d':Dk}{s:List Nat}(h:Num n x d s)(hk:x'.key=x.key)(hf:d'.fs=d.fs)(ht:d'.turned=d.turned):Num n x' d' s :=
 ⟨by rw [hf];exact h.apart,by rw [hf];exact h.data,by rw [hf];exact h.count,by rw [hf];exact h.among,h.small,by rw [hk];exact h.key,by rw [ht];exact h.turned⟩
end
section
open Go.RowKit
set_option maxRecDepth 100000
end
section
open Go.RowKit
set_option maxRecDepth 100000
theorem zsh (w:World){ops:Array Oper}{rest:List Oper}{o:Oper}{a:Act}{Q:Exit→Act→World→Prop}
  (hgd:o.guard=none) (s x:Operand) (hop:o.op=Op.call { callee:=Callee.builtin Builtin.append,args:=#[s,x],argTypes:=#[22,22] })
  (B:Nat) (hB:B≤w.heap.size) (v:Value) (ls:List (List UInt8)) (hs:a.eval s=v) (hown:w.ownsRow B 9 1 v ls.length (ls.map txv))
  (t:List UInt8) (H:Nat) (hH:w.heap.size=H) (hx:a.eval x= .slice (some ⟨H,0,none⟩) 1 1) (hn:ls.length≤1000000000)
  (h:∀ v' w',w'.ownsRow B 9 1 v' (ls++[t]).length ((ls++[t]).map txv)→zf (fun g=>v.ownBlock=some g) [9] w w'→(∀ g,v'.ownBlock=some g→v.ownBlock=some g∨w.heap.size≤g)→wpList Tryz.prog ops Q rest (a.put o.dst v') w'):wpList Tryz.prog ops Q (o::rest) a (w.alloc (.cells #[txv t] 9)):=by
 obtain⟨i,hi,hi'⟩:=Option.map_eq_some_iff.1 zwp
 obtain⟨hz0,hz1,hz2⟩:i.zero=some (.string ⟨#[]⟩)∧i.size=1∧i.bytes=16:=by simpa using hi'
 subst hH
 have ho:=World.ownsRow.alloc hown (.cells #[txv t] 9)
 refine wpList_append_lies _ hgd s x _ hop B 9 i (.string ⟨#[]⟩) 1 16 Tryz.underlying22 hi hz0 hz1 hz2 rfl (by omega) v ls.length (ls.map txv) hs ho ⟨w.heap.size,0,none⟩ 1 1 [txv t] hx rfl (World.news_of_block (heap_alloc_last _ _)) (by simp [txv,Value.oneCell']) (by omega) (by unfold maxLen;omega) (by omega) (by simp;omega) (w.heap.size+1) (by simp) fun g cap w1 hown1 hgrow hat hlt=>?_
 refine h _ w1 (by simpa using hown1) (((zf.refl (fun g=>v.ownBlock=some g) [9] w).alloc _).grown ho hgrow (fun g hg=> .inl hg) (by simp)) fun g' hg'=>?_
 simp only [Value.ownBlock,Option.some.injEq] at hg'
 subst hg'
 rcases hat with h | h
 ·exact .inl h
 ·exact .inr (by omega)
end
section
open Go.RowKit
set_option maxRecDepth 100000
end
section
def cpT (x:Wd)(es:List (List UInt8)):List UInt8:=xn es.length (yb es) x.key
theorem zqt {n:Nat}{x x':Wd}{d:Dk}{s:List Nat}{es:List (List UInt8)}{put:Nat}{fs2:Fs}(hn:n≤4100)(h:Num n x d s)(he:Ent x d s es put)(hf:x.failed=false)(hp:fs2.Perm d.fs)(hc:zm3 fs2 (xj es)=false)(hk:x'.key=x.key):
  Num (n+1) x' (qt (yj es put) (cpT x es) d).2 s∧zek (xj es) (cpT x es) d.fs (qt (yj es put) (cpT x es) d).2.fs∧zvw (xj es) ∧
   (((qt (yj es put) (cpT x es) d).1=none∧zau (qt (yj es put) (cpT x es) d).2∧zx (qt (yj es put) (cpT x es) d).2.fs cpF=some (cpT x es)∧∀ f∈xj es,zx (qt (yj es put) (cpT x es) d).2.fs f.1=some f.2) ∨
    ((∃ p,(qt (yj es put) (cpT x es) d).1=some p∧(p=cpF∨∃ x,(p,x)∈xj es))∧(qt (yj es put) (cpT x es) d).2.hit=true)):=by
 have hfew:=zwv he
 have hsm:=h.small
 have hlen:es.length≤1000000:=by omega
 have hfine:=zho hlen
 have hnc:ve d.fs (xj es):=by
  have h1:=zqi hc
  intro q y hy
  have:=h1 q y hy
  rw [zxq h.apart hp] at this
  exact this
 obtain⟨hcalm,hthere⟩:=he.there hf
 obtain⟨a1,t1,w1,h1⟩:=zwb (c:=cpT x es) hfine hcalm h.apart h.turned hnc (fun f hf=>zg8 f hf)
 have hcl:(cpT x es).length≤1048576:=by
  have h8:(yb es).length=8:=jn _ _
  have h1:=zbf (es.length:Int) (by omega) (by omega)
  rw [Int.toNat_natCast] at h1
  have h2:=za1 (yb es)
  have h3:(zhx es.length (yb es) x.key).length=16:=by unfold zhx;rw [za1];rfl
  have h4:zcz.length≤10:=by decide
  unfold cpT
  rw [zgf]
  simp only [List.length_append,List.length_cons,List.length_nil]
  omega
 refine⟨⟨a1,z4e he.short h.data hcl (by omega) a1 w1,?_,zty h.among he.ins w1,by omega,by rw [hk];exact h.key,t1⟩,w1,hfine,?_⟩
 ·have h1:=z5b (yj es put) (cpT x es) d
  have h2:=zje es put
  have h3:=h.count
  omega
 ·rcases h1 with ⟨e,c1,l1,l2⟩ | h1
  ·refine .inl ⟨e,c1,l1,fun f hf=>?_⟩
   rcases zib he.le f hf with h' | h'
   ·exact l2 f h'
   ·exact w1.stays (hthere f h') (fun e=>hfine.2 f.2 (by rw [← e];exact hf))
  ·exact .inr h1
end
section
open Go.RowKit
set_option maxRecDepth 100000
theorem zpl {es:List (List UInt8)}{put:Nat}{c:List UInt8}{d:Dk}(hs:jj d)(ha:zbq d.fs)(ht:d.turned=false)(hl:es.length≤1000000)(hn:ve d.fs (xj es)):(qt (yj es put) c d).1=none:=by
 obtain⟨-,-,-,h⟩:=zwb (c:=c) (zho hl) ⟨hs.2.1,hs.2.2⟩ ha ht hn (fun f hf=>zg8 (put:=put) f hf)
 rcases h with h | ⟨-,h⟩
 ·exact h.1
 ·rw [(hs.pub (yj es put) c).2.2] at h;simp at h
end
end Go.Proofs.YtinhekmmdlhfkaaGreatDoor
