import Derived.Test.YtinhekmmdlhfkaaGreatDoorG02
import Derived.Shelf.SlicesQ.Load
import Derived.Deep.AppendLies
import Derived.Deep.RegionLaw
import Derived.Laws.IdiomStrings
import Derived.Lib.SliceRun
namespace Go.Proofs.YtinhekmmdlhfkaaGreatDoor
section
set_option maxHeartbeats 1000000
open Go.RowKit
theorem zpd (f:Nat)(v:Value)(ls:List (List UInt8))(w:World)(h0:ls.length=0)(h:Bss w v ls):
  Calls Tryz.prog 51 #[v] w fun r w'=>r= .returned (.agg (hv (qb f ls)))∧Below w.heap.size w w':=by
 obtain⟨a,cap,rfl,hcap,-⟩:=h
 rw [zal f ls h0,h0]
 clear hcap
 go_enter Tryz.func51,Tryz.ntmps51
 go_wp2_with fail
 refine(zfk _ [] _ (by simp) (fun l hl=>by simp at hl) ⟨none,0,rfl,Nat.le_refl _,.inl rfl⟩).mono ?_
 rintro r w' ⟨hr,hb⟩
 have hr':r= .returned (.agg (hv (hash []))):=hr
 clear hr
 subst hr'
 have hg:w'.heap[w.heap.size]?=some (.cells #[Value.int IntKind.u8 0,Value.int IntKind.u8 0,Value.int IntKind.u8 0,Value.int IntKind.u8 0,Value.int IntKind.u8 0,Value.int IntKind.u8 0,Value.int IntKind.u8 0,Value.int IntKind.u8 0] 91 (0,0)):=by
  rw [hb.block _ (by simp)];exact heap_alloc_last _ _
 have Hg:=za hg
 clear hg
 go_wp2_with (refine wpList_store_row rfl 91 _ _ rfl w.heap.size (hv (hash [])) rfl rfl 91 _ Hg.o (by kernel_rfl) rfl (jp _) ?_)
 refine bodyPost_ret (v:= .agg (hv (hash []))) (results_cell_row Tryz.results51 _ _ w.heap.size 91 _ (0,0) _ rfl (setRow_heap _ _ _ _ _ _ Hg.o) Tryz.underlying91 rfl (by kernel_rfl)) rfl ⟨rfl,?_⟩
 exact below_setRow ((ze _ _).trans (hb.mono (by simp))) (Nat.le_refl _) _
theorem z14 (f:Nat)(v:Value)(ls:List (List UInt8))(w:World)(h1:ls.length=1)(hl:∀ l∈ls,l.length≤maxLen)(h:Bss w v ls):
  Calls Tryz.prog 51 #[v] w fun r w'=>r= .returned (.agg (hv (qb (f+1) ls)))∧Below w.heap.size w w':=by
 rw [zdi f ls h1]
 obtain⟨e,rfl⟩:=List.length_eq_one_iff.1 h1
 obtain⟨a,cap,rfl,hcap,h⟩:=h
 rcases h with h | ⟨b,off,rfl,hc⟩
 ·simp at h
 obtain⟨x,hx,hbs⟩:=hc 0 (by simp)
 have He:=za (hl e (by simp))
 have Hb:Hid (Bs w x e):=hbs
 clear hcap hc hbs hl
 have hz:∀ o,(w.alloc o).cell? ⟨b,off,none⟩=some x:=fun o=>by rw [zk _ _ ⟨b,off,none⟩ (zj (p:=⟨b,off+0,none⟩) hx)];exact hx
 clear hx
 simp only [List.length_singleton,List.headD_cons] at *
 go_enter Tryz.func51,Tryz.ntmps51
 go_wp2_with fail
 refine(zsn x e _ He.o (Hb.o.below (ze _ _))).mono ?_
 rintro r w' ⟨rfl,hb⟩
 have hg:w'.heap[w.heap.size]?=some (.cells #[Value.int IntKind.u8 0,Value.int IntKind.u8 0,Value.int IntKind.u8 0,Value.int IntKind.u8 0,Value.int IntKind.u8 0,Value.int IntKind.u8 0,Value.int IntKind.u8 0,Value.int IntKind.u8 0] 91 (0,0)):=by
  rw [hb.block _ (by simp)];exact heap_alloc_last _ _
 have Hg:=za hg
 clear hg
 go_wp2_with (refine wpList_store_row rfl 91 _ _ rfl w.heap.size (hv (qu e)) rfl rfl 91 _ Hg.o (by kernel_rfl) rfl (jp _) ?_)
 refine bodyPost_ret (v:= .agg (hv (qu e))) (results_cell_row Tryz.results51 _ _ w.heap.size 91 _ (0,0) _ rfl (setRow_heap _ _ _ _ _ _ Hg.o) Tryz.underlying91 rfl (by kernel_rfl)) rfl ⟨rfl,?_⟩
 exact below_setRow ((ze _ _).trans (hb.mono (by simp))) (Nat.le_refl _) _
def Own (w w1:World):Prop:=Below w.heap.size w w1∧w1.heap[w.heap.size]?=some (.cells #[Value.int IntKind.u8 0,Value.int IntKind.u8 0,Value.int IntKind.u8 0,Value.int IntKind.u8 0,Value.int IntKind.u8 0,Value.int IntKind.u8 0,Value.int IntKind.u8 0,Value.int IntKind.u8 0] 91 (0,0))
theorem Own.start (w:World):Own w (w.alloc (.cells #[Value.int IntKind.u8 0,Value.int IntKind.u8 0,Value.int IntKind.u8 0,Value.int IntKind.u8 0,Value.int IntKind.u8 0,Value.int IntKind.u8 0,Value.int IntKind.u8 0,Value.int IntKind.u8 0] 91)).drew :=
 ⟨(ze _ _).drew,heap_alloc_last _ _⟩
theorem Own.next {w w1 w2:World}(h:Own w w1)(hb:Below w1.heap.size w1 w2):Own w w2:=by
 have hs:=h.1.size
 have hlt:w.heap.size < w1.heap.size:=by
  rcases Nat.lt_or_ge w.heap.size w1.heap.size with h' | h'
  ·exact h'
  ·have:=h.2;simp [Array.getElem?_eq_none h'] at this
 exact⟨h.1.trans (hb.mono hs),by rw [hb.block _ hlt];exact h.2⟩
theorem zzd (f:Nat)(b off cap:Nat)(ls:List (List UInt8))(w:World)(h2:2≤ls.length)(hn:ls.length≤1000000)(hcap:ls.length≤cap)(hl:∀ l∈ls,l.length≤maxLen)(h:Bss w (.slice (some ⟨b,off,none⟩) ls.length cap) ls)
  (ih:∀(v:Value) (ls:List (List UInt8)) (w:World),ls.length≤f→ls.length≤1000000→(∀ l∈ls,l.length≤maxLen)→Bss w v ls→Calls Tryz.prog 51 #[v] w fun r w'=>r= .returned (.agg (hv (qb f ls)))∧Below w.heap.size w w') (hf:ls.length≤f+1) :
  Calls Tryz.prog 51 #[.slice (some ⟨b,off,none⟩) ls.length cap] w fun r w'=>r= .returned (.agg (hv (qb (f+1) ls)))∧Below w.heap.size w w':=by
 obtain⟨k1,k2,k3⟩:=jy ls.length h2
 rw [j9 f ls h2]
 have hk:kOf ls.length≤ls.length:=by omega
 obtain⟨x0,x1,x2,x3,x4,x5,x6,x7,hx⟩:=zkb (xa (qb f (ls.take (kOf ls.length))) (qb f (ls.drop (kOf ls.length)))) (qf _ _)
 have Hx:=za hx
 have Hl:=za hl
 have H:=za h
 have IH:=za ih
 have f1:(ls.take (kOf ls.length)).length≤f:=by simp;omega
 have f2:(ls.drop (kOf ls.length)).length≤f:=by simp;omega
 have f3:(ls.take (kOf ls.length)).length≤1000000:=by simp;omega
 have f4:(ls.drop (kOf ls.length)).length≤1000000:=by simp;omega
 have F:=za (And.intro f1 (And.intro f2 (And.intro f3 f4)))
 clear f1 f2 f3 f4
 have n1:((ls.length:Int)==0)=false:=beq_eq_false_iff_ne.2 (by omega)
 have n2:((ls.length:Int)==1)=false:=beq_eq_false_iff_ne.2 (by omega)
 clear hx hl h ih
 go_enter Tryz.func51,Tryz.ntmps51
 go_wp2_with fail
 refine(zdj ls.length _ h2 (Nat.le_trans hn (by decide))).mono ?_
 rintro e w' ⟨rfl,rfl⟩
 have c1:(kOf ls.length:Int)≤(cap:Int):=by omega
 have c2:(kOf ls.length:Int)≤(ls.length:Int):=by omega
 have c3:(0:Int)≤(kOf ls.length:Int):=by omega
 go_wp2_with fail
 go_region_with (first
  | (go_at_call_of 51 (Value.slice (some (⟨b,off,none⟩:Addr)) (kOf ls.length) cap);refine(IH.out _ (ls.take (kOf ls.length)) _ F.out.1 F.out.2.2.1 (fun l hl=>Hl.o l (List.mem_of_mem_take hl)) (by exact(H.o.take _ hk).below (Own.start w).1)).mono ?_;rintro e w1 ⟨rfl,hb1⟩;have HO1:Hid (Own w w1):=(Own.start w).next hb1;clear hb1)
  | (go_at_call_of 51 (Value.slice (some (⟨b,off+kOf ls.length,none⟩:Addr)) (ls.length - kOf ls.length) (cap - kOf ls.length));refine(IH.out _ (ls.drop (kOf ls.length)) _ F.out.2.1 F.out.2.2.2 (fun l hl=>Hl.o l (List.mem_of_mem_drop hl)) (by exact(H.o.drop _ hk).below HO1.o.1)).mono ?_;rintro e w2 ⟨rfl,hb2⟩;have HO2:Hid (Own w w2):=HO1.o.next hb2;clear hb2)
  | (go_at_call 86;refine(zaw _ _ _ (jn _ _) (jn _ _)).mono ?_;rintro e w3 ⟨hr,hb3⟩;rw [Hx.o] at hr;subst hr;have HO3:Hid (Own w w3):=HO2.o.next hb3;clear hb3;obtain⟨⟨c0,c1,c2,c3,c4,c5,c6,c7⟩,hf⟩:=z13 HO3.o.2))
 go_wp2
 refine bodyPost_ret (v:= .agg #[.int .u8 x0,.int .u8 x1,.int .u8 x2,.int .u8 x3,.int .u8 x4,.int .u8 x5,.int .u8 x6,.int .u8 x7]) (by simp [results,Tryz.results51,go_sem,c0,c1,c2,c3,c4,c5,c6,c7]) rfl ⟨by rw [Hx.o],?_⟩
 exact znc HO3.o.1 (Nat.le_refl _) _ _ _ _ _ _ _ _
theorem zf1 (f:Nat):∀(v:Value) (ls:List (List UInt8)) (w:World),ls.length≤f→ls.length≤1000000→(∀ l∈ls,l.length≤maxLen)→Bss w v ls →
  Calls Tryz.prog 51 #[v] w fun r w'=>r= .returned (.agg (hv (qb f ls)))∧Below w.heap.size w w':=by
 induction f with
 | zero=>exact fun v ls w hf _ _ h=>zpd 0 v ls w (by omega) h
 | succ f ih =>
  intro v ls w hf hn hl h
  by_cases h0:ls.length=0
  ·exact zpd _ v ls w h0 h
  by_cases h1:ls.length=1
  ·exact z14 f v ls w h1 hl h
  ·have h':=h
   obtain⟨a,cap,rfl,hcap,h⟩:=h
   rcases h with h | ⟨b,off,rfl,-⟩
   ·exact absurd (by simp [h]) h0
   ·exact zzd f b off cap ls w (by omega) hn hcap hl h' ih hf
end
section
set_option maxHeartbeats 1000000
open Go.RowKit
set_option maxRecDepth 100000
theorem z0h (fs:Fs):∀(j:Nat) (h:j < fs.length),(jm fs)[j*2]?=some (txv fs[j].1)∧(jm fs)[j*2+1]?=some (txv fs[j].2):=by
 induction fs with
 | nil=>intro j h;simp at h
 | cons f r ih =>
  intro j h
  have e:jm (f::r)=txv f.1::txv f.2::jm r:=by simp [jm]
  cases j with
  | zero=>rw [e];exact⟨rfl,rfl⟩
  | succ j =>
   rw [e,show(j+1)*2=j*2+1+1 by omega]
   have:=ih j (by simpa using h)
   simpa using this
theorem ztv (fs:Fs):(jm fs).length=fs.length*2:=by
 induction fs with
 | nil=>rfl
 | cons f r ih=>simp [jm] at ih ⊢;omega
theorem zmg:∀(fs:Fs) (k:Nat)(p x:List UInt8)(hk:k < fs.length) ,fs[k].1=p→jm (fs.set k (p,x))=(jm fs).set (k*2+1) (txv x)
 | [],k,_,_,hk,_=>by simp at hk
 | f::r,0,p,x,_,e=>by
  obtain rfl:f.1=p:=by simpa using e
  simp [jm]
 | f::r,k+1,p,x,hk,e=>by
  have h:=zmg r k p x (by simpa using hk) (by simpa using e)
  rw [List.set_cons_succ,show(k+1)*2+1=k*2+1+1+1 by omega]
  have e1:∀ l,jm (f::l)=txv f.1::txv f.2::jm l:=fun l=>by simp [jm]
  rw [e1,e1,h]
  rfl
theorem zn3 (a b:Fs):jm (a++b)=jm a++jm b:=by simp [jm]
def zjf (w:World)(t:TypeId)(v:Value)(fs:Fs):Prop:=∃ a cap,v= .slice a fs.length cap∧(fs.length=0∨∃ g,a=some ⟨g,0,none⟩∧∃ cur,w.heap[g]?=some (.cells cur t (0,0))∧fs.length≤cap∧cur.size=cap*2∧∀ j (h:j < fs.length),cur[j*2]?=some (txv fs[j].1)∧cur[j*2+1]?=some (txv fs[j].2))
theorem zir {w:World}{t:TypeId}{B:Nat}{v:Value}{fs:Fs}(h:w.ownsRow B t 2 v fs.length (jm fs)):zjf w t v fs:=by
 rcases h.2 with ⟨rfl,h0⟩ | ⟨g,cap,cur,rfl,-,hg,hn,-,hs,ht⟩
 ·exact⟨none,0,by rw [h0],.inl h0⟩
 ·refine⟨_,_,rfl,.inr ⟨g,rfl,cur,hg,hn,hs,fun j hj=>?_⟩⟩
  have e:=z0h fs j hj
  rw [← ht,List.getElem?_take,List.getElem?_take,if_pos (by omega),if_pos (by omega)] at e
  simpa using e
theorem zjf.below {w w':World}{t:TypeId}{v:Value}{fs:Fs}(h:zjf w t v fs)(hb:Below w.heap.size w w'):zjf w' t v fs:=by
 obtain⟨a,cap,e,h | ⟨g,ea,cur,hg,r⟩⟩:=h
 ·exact⟨a,cap,e,.inl h⟩
 ·exact⟨a,cap,e,.inr ⟨g,ea,cur,by rw [hb.block g (zb hg)];exact hg,r⟩⟩
theorem z17 (q:List UInt8)(B:Nat)(f:List UInt8×List UInt8)(w:World)(hB:w.cell? ⟨B,0,none⟩=some (txv q)):
  Calls Tryz.prog 68 #[.agg #[txv f.1,txv f.2],.pointer (some ⟨B,0,none⟩)] w fun r w'=>r= .returned (.bool (decide (f.1=q)))∧Below w.heap.size w w':=by
 have hb:=zj hB
 unfold txv at *
 have hB':∀ o,(w.alloc o).cell? ⟨B,0,none⟩=some (.string ⟨q.toArray⟩):=fun o=>by rw [zk _ _ ⟨_,0,none⟩ hb];exact hB
 clear hB
 go_enter Tryz.func68,Tryz.ntmps68
 go_wp2_with fail
 go_ret
 exact⟨congrArg (fun b=>Ending.returned (.bool b)) (by show(f.1==q)=_;rw [Bool.eq_iff_iff];simp),(Below.refl _ _).alloc (Nat.le_refl _) _⟩
def ixI (fs:Fs)(p:List UInt8):Int:=match ixF fs p with
 | some i=>i
 | none=>-1
theorem zzm (q:List UInt8)(B:Nat)(v:Value)(fs:Fs)(w:World)(hn:fs.length≤1000000000)(h:zjf w 63 v fs)(hB:w.cell? ⟨B,0,none⟩=some (txv q)):
  Calls Tryz.prog 67 #[v,.func (.func 68) #[] #[.pointer (some ⟨B,0,none⟩)]] w fun r w'=>r= .returned (.int .i64 (ixI fs q))∧Below w.heap.size w w':=by
 obtain⟨a,cap,rfl,hc⟩:=h
 have HC:=za hc
 have HBc:=za hB
 clear hc hB
 have eg:∀ args w,(callFunc 68 args).run Tryz.prog w= .ok (.enter 68 args) w:=enters_of Tryz.func68 (by kernel_rfl) rfl
 go_enter Tryz.func67,Tryz.ntmps67
 go_wp2_with fail
 go_loopw [5,8] (fun _ i wr=>∃ k:Nat,k≤fs.length∧i= .int .i64 k∧Below w.heap.size w wr∧∀ j (hj:j < fs.length),j < k→fs[j].1≠q) (fun _ i _=>fs.length - (intOf i).toNat)
 case atStart=>exact⟨0,Nat.zero_le _,rfl,Below.refl _ _,fun j _ hj=>absurd hj (Nat.not_lt_zero _)⟩
 case round =>
  obtain⟨k,hk,rfl,hbe,hno⟩:=hrel
  have HBe:=za hbe
  have HN:=za hno
  clear hbe hno
  by_cases hlt:k < fs.length
  ·obtain⟨g,rfl,cur,hg,hcap,hcs,hx⟩:∃ g,a=some ⟨g,0,none⟩∧∃ cur,w.heap[g]?=some (.cells cur 63 (0,0))∧fs.length≤cap∧cur.size=cap*2∧∀ j (h:j < fs.length),cur[j*2]?=some (txv fs[j].1)∧cur[j*2+1]?=some (txv fs[j].2):=by
    rcases HC.o with h0 | h0
    ·omega
    ·exact h0
   have hg':wr.heap[g]?=some (.cells cur 63 (0,0)):=by rw [HBe.o.block g (zb hg)];exact hg
   obtain⟨x0,x1⟩:=hx k hlt
   have y0:wr.cell? ⟨g,k*2,none⟩=some (txv fs[k].1):=by rw [cell_of_row _ _ _ _ _ _ hg'];exact x0
   have y1:wr.cell? ⟨g,k*2+1,none⟩=some (txv fs[k].2):=by rw [cell_of_row _ _ _ _ _ _ hg'];exact x1
   unfold txv at y0 y1
   have hcall:=z17 q B fs[k] wr (by rw [HBe.o.cell (p:=⟨B,0,none⟩) (zj HBc.o)];exact HBc.o)
   unfold txv at hcall
   clear hg hg' hx hcs x0 x1
   by_cases hq:fs[k].1=q
   ·have HI:Hid (ixF fs q=some k):=z2d hlt hq (fun j hj=>HN.o j (by omega) hj)
    rw [show decide (fs[k].1=q)=true by simp [hq]] at hcall
    clear hq
    generalize fs[k]=f at *
    go_wp2_with (go_at_fn 68;refine hcall.mono ?_;rintro e w' ⟨rfl,hb'⟩)
    go_ret
    exact⟨by unfold ixI;rw [HI.o];rfl,HBe.o.trans (hb'.mono HBe.o.size)⟩
   ·rw [show decide (fs[k].1=q)=false by simp [hq]] at hcall
    have HN':Hid (∀ j (hj:j < fs.length),j < k+1→fs[j].1≠q):=fun j hjl hjk=>by
     rcases Nat.lt_or_ge j k with h | h
     ·exact HN.o j hjl h
     ·obtain rfl:j=k:=by omega
      exact hq
    clear hq HN
    generalize fs[k]=f at *
    go_wp2_with (go_at_fn 68;refine hcall.mono ?_;rintro e w' ⟨rfl,hb'⟩)
    go_roundw
    case rel=>exact⟨k+1,by omega,by go_num,HBe.o.trans (hb'.mono HBe.o.size),HN'.o⟩
    case measure=>simp [intOf];omega
  ·go_wp2_with fail
   go_ret
   refine⟨?_,HBe.o⟩
   have:ixF fs q=none:=zkr (fun f hf=>by
    obtain⟨j,hj,rfl⟩:=List.getElem_of_mem hf
    exact HN.o j hj (by omega))
   unfold ixI
   rw [this]
   rfl
theorem zgn (O:Nat→Prop)(b:Nat)(d:Dk)(q:List UInt8)(w:World)(hn:d.fs.length≤1000000000)(h:zm w O b d):
  Calls Tryz.prog 43 #[vv b,txv q] w fun r w'=>r= .returned (.int .i64 (ixI d.fs q))∧Below w.heap.size w w':=by
 obtain⟨fv,hO,hb,hf,hg⟩:=h
 obtain⟨c0,f0⟩:=(zd1 hb).1
 have hlt:=zb hb
 have HF:=za (zir hf)
 clear hb hf hg
 unfold vv txv
 have c0':∀ o,(w.alloc o).cell? ⟨b,0,none⟩=some fv:=fun o=>by rw [zk _ _ ⟨_,0,none⟩ hlt];exact c0
 go_enter Tryz.func43,Tryz.ntmps43
 go_wp2_with fail
 refine(zzm q w.heap.size fv d.fs _ hn (HF.o.below (ze _ _)) (by simp [txv])).mono ?_
 rintro e w' ⟨rfl,hb'⟩
 have HB:Hid (Below w.heap.size w w'):=(ze w _).trans (hb'.mono (by simp))
 clear hb'
 go_wp2_with fail
 go_ret
 exact⟨rfl,HB.o⟩
def Bq (w:World)(v:Value)(l:List UInt8):Prop:=∃ g cap C fr,v= .slice (some ⟨g,0,none⟩) l.length cap∧l.length≤cap∧w.heap[g]?=some (.cells C 5 fr)∧∀ i (hi:i < l.length),C[i]?=some (bv l[i])
theorem Bq.turn {w w':World}{O:Nat→Prop}{T:List Nat}{v:Value}{l:List UInt8}(h:Bq w v l)(ht:zf O T w w')(hT:5∉T):Bq w' v l:=by
 obtain⟨g,cap,C,fr,e,hl,hg,hc⟩:=h
 exact⟨g,cap,C,fr,e,hl,ht.keep hg hT,hc⟩
theorem Bq.below {w w':World}{v:Value}{l:List UInt8}(h:Bq w v l)(hb:Below w.heap.size w w'):Bq w' v l:=h.turn (O:=fun _=>False) (T:=[]) (.of_below hb) (by simp)
theorem Bq.conv {w:World}{v:Value}{l:List UInt8}(h:Bq w v l):(convert 76 9 v).run Tryz.prog w= .ok (.string ⟨l.toArray⟩) w:=by
 obtain⟨g,cap,C,fr,rfl,-,hg,hc⟩:=h
 refine run_convert_bytes_back w _ _ 5 ⟨g,0,none⟩ cap l Tryz.underlying76 Tryz.underlying5 Tryz.underlying9 (fun j hj=>?_)
 rw [Addr.add_mid,Nat.zero_add,cell_of_row _ _ _ _ _ _ hg]
 exact hc j hj
theorem zrh:(Tryz.prog.info? 63).map (fun i=>(i.zero,i.size,i.bytes))=some (some (.agg #[.string ⟨#[]⟩,.string ⟨#[]⟩]),2,32):=by kernel_rfl
theorem zwh {O:Nat→Prop}{b:Nat}{d:Dk}{p x:List UInt8}{w w1 w3:World}{fv:Value}{o:Obj}{g cap:Nat}(HT:zf O [] w w1)(hO:O b)(HG:∀ g,fv.ownBlock=some g→O g)(HF:w1.ownsRow 0 63 2 fv d.fs.length (jm d.fs))(HE:ixF d.fs p=none)
  (HOW:w3.ownsRow 0 63 2 (.slice (some ⟨g,0,none⟩) (d.fs.length+1) cap) (d.fs.length+1) (jm d.fs++[.string ⟨p.toArray⟩,.string ⟨x.toArray⟩])) (HGR:(w1.alloc o).drew.grownBy w3 fv.ownBlock) (HAT:fv.ownBlock=some g∨g=w1.heap.size+1) (HB3:w3.heap[b]?=some (.cells (zcg fv d) 41 (0,0))) :
  Ending.returned (.tuple #[])= .returned (.tuple #[])∧zf O dT w (w3.setCell ⟨b,0,none⟩ (.slice (some ⟨g,0,none⟩) (d.fs.length+1) cap))∧zm (w3.setCell ⟨b,0,none⟩ (.slice (some ⟨g,0,none⟩) (d.fs.length+1) cap)) (Ext O w (w3.setCell ⟨b,0,none⟩ (.slice (some ⟨g,0,none⟩) (d.fs.length+1) cap))) b { d with fs:=zac d.fs p x }:=by
 have t0:zf O dT w w1:=HT.mono (fun _ h=>h) (by simp)
 have t1:zf O dT w (w1.alloc o).drew:=(t0.alloc o).drew
 have hf1:(w1.alloc o).drew.ownsRow 0 63 2 fv d.fs.length (jm d.fs):=World.ownsRow.alloc (w:=w1) HF o
 have t2:zf O dT w w3:=t1.grown hf1 HGR (fun g' hg'=> .inl (HG g' hg')) (by decide)
 have t3:=t2.set (o:=0) (.inl hO) HB3 (by decide) (.slice (some ⟨g,0,none⟩) (d.fs.length+1) cap)
 have hset:zac d.fs p x=d.fs++[(p,x)]:=by unfold zac;rw [HE]
 have hgl:g < w3.heap.size:=by
  rcases HOW.2 with ⟨e,-⟩ | ⟨g',cap',cur,e,-,hg,-⟩
  ·simp at e
  ·simp at e
   rw [e.1]
   exact zb hg
 have hs3:(w3.setCell ⟨b,0,none⟩ (.slice (some ⟨g,0,none⟩) (d.fs.length+1) cap)).heap.size=w3.heap.size:=by simp [World.setCell]
 have tb:zf O dT1 w3 (w3.setCell ⟨b,0,none⟩ (.slice (some ⟨g,0,none⟩) (d.fs.length+1) cap)):=(zf.refl O dT1 w3).set (.inl hO) HB3 (by decide) _
 refine⟨rfl,t3,.slice (some ⟨g,0,none⟩) (d.fs.length+1) cap,.inl hO,qj HB3 0 _,?_,fun g' e=>?_⟩
 ·show World.ownsRow _ 0 63 2 _ (zac d.fs p x).length (jm (zac d.fs p x))
  rw [hset,zn3,List.length_append]
  exact zo HOW tb (by decide)
 ·simp only [Value.ownBlock,Option.some.injEq] at e
  subst e
  rcases HAT with h | h
  ·exact .inl (HG _ h)
  ·have:=t0.size
   exact .inr (by rw [hs3];omega)
theorem zhi (O:Nat→Prop)(b:Nat)(d:Dk)(p x:List UInt8)(v:Value)(w:World)(hn:d.fs.length≤1000000000)(h:zm w O b d)(hv:Bq w v x):
  Calls Tryz.prog 237 #[vv b,txv p,v] w fun r w'=>r= .returned (.tuple #[])∧zf O dT w w'∧zm w' (Ext O w w') b { d with fs:=zac d.fs p x }:=by
 have HD:=za h
 have HV:=za hv
 clear h hv
 unfold vv txv
 go_enter Tryz.func237,Tryz.ntmps237
 go_wp2_with fail
 refine(zgn O b d p w hn HD.o).mono ?_
 rintro e w1 ⟨rfl,hb1⟩
 have HT:Hid (zf O [] w w1):= .of_below hb1
 have HD1:=za (HD.o.stay HT.o (by decide) (by decide))
 have HV1:=za (HV.o.below hb1)
 clear hb1
 cases e:ixF d.fs p with
 | some k =>
  have he:ixI d.fs p=k:=by unfold ixI;rw [e]
  rw [he]
  obtain⟨hk,hkp,-⟩:=zbg e
  obtain⟨fv,hO,hb,hf,hg⟩:=HD1.o
  obtain⟨c0,f0⟩:=(zd1 hb).1
  have hcv:=Bq.conv (w:=w1.drew) HV1.o
  rcases hf.2 with ⟨rfl,h0⟩ | ⟨g,cap,cur,rfl,-,hgg,hn',hm,hs,ht⟩
  ·omega
  have c1:∃ u,w1.cell? ⟨g,k*2+1,none⟩=some u:=by
   rw [cell_of_row _ _ _ _ _ _ hgg]
   exact⟨cur[k*2+1]'(by omega),by simp⟩
  have f1:w1.frozen? ⟨g,k*2+1,none⟩=false:=by simp [World.frozen?,hgg]
  obtain⟨u,c1⟩:=c1
  have HG:=za hg
  have HGG:=za hgg
  have HB:=za hb
  have HS:=za (And.intro hs ht)
  have HF:=za hf
  have HE:=za e
  have HK:=za hkp
  clear hg hgg hb hs ht hf e hkp he HV HV1 HD HD1
  go_wp2_with fail
  go_region
  go_end0
  have t1:zf O dT w (w1.setCell ⟨g,k*2+1,none⟩ (.string ⟨x.toArray⟩)):=(HT.o.mono (T':=dT) (fun _ h=>h) (by simp)).set (.inl (HG.o g rfl)) HGG.o (by decide) _
  have hne:b≠g:=fun e=>by
   have h1:=HB.o
   rw [e,HGG.o] at h1
   simp at h1
  refine⟨rfl,t1.drew,_,.inl hO,?_,?_,fun g' e=> .inl (HG.o g' e)⟩
  ·show(w1.setCell ⟨g,k*2+1,none⟩ (.string ⟨x.toArray⟩)).heap[b]?=_
   rw [heap_setCell_other _ _ _ _ (by simpa using hne)]
   exact HB.o
  ·have hset:zac d.fs p x=d.fs.set k (p,x):=by unfold zac;rw [HE.o]
   have hlen:(zac d.fs p x).length=d.fs.length:=by rw [hset,List.length_set]
   show World.ownsRow _ 0 63 2 _ (zac d.fs p x).length (jm (zac d.fs p x))
   rw [hlen]
   refine⟨by rw [ztv,hlen],.inr ⟨g,cap,_,rfl,Nat.zero_le _,heap_setCell_same w1 g (k*2+1) cur _ _ HGG.o,hn',hm,by rw [Array.size_setIfInBounds];exact HS.o.1,?_⟩⟩
   rw [hset,zmg d.fs k p x hk HK.o,← HS.o.2,Array.toList_setIfInBounds,List.take_set]
   rfl
 | none =>
  have he:ixI d.fs p=-1:=by unfold ixI;rw [e]
  rw [he]
  obtain⟨i,hi,hi'⟩:=Option.map_eq_some_iff.1 zrh
  obtain⟨hz0,hz1,hz2⟩:i.zero=some (.agg #[.string ⟨#[]⟩,.string ⟨#[]⟩])∧i.size=2∧i.bytes=32:=by simpa using hi'
  clear hi'
  have HI:=za hi
  have HZ:=za (And.intro hz0 (And.intro hz1 hz2))
  clear hi hz0 hz1 hz2
  obtain⟨fv,hO,hb,hf,hg⟩:=HD1.o
  obtain⟨c0,f0⟩:=(zd1 hb).1
  have hcv:=Bq.conv (w:=w1.drew) HV1.o
  have HG:=za hg
  have HB:=za hb
  have HF:=za hf
  have HE:=za e
  have HF1:Hid (∀ o,(w1.alloc o).drew.ownsRow 0 63 2 fv d.fs.length (jm d.fs)):=fun o=>World.ownsRow.alloc (w:=w1) hf o
  have HB1:Hid (∀ o,(w1.alloc o).drew.heap[b]?=some (.cells (zcg fv d) 41 (0,0))):=fun o=>zc (w:=w1) hb
  have c0':∀ o,(w1.alloc o).cell? ⟨b,0,none⟩=some fv:=fun o=>by rw [zk _ _ ⟨_,0,none⟩ (zb hb)];exact c0
  have HNE:Hid (∀ g,fv.ownBlock=some g→b≠g):=fun g hg e=>by
   rcases hf.2 with ⟨rfl,-⟩ | ⟨g',cap,cur,rfl,-,hgg,-⟩
   ·simp [Value.ownBlock] at hg
   ·simp only [Value.ownBlock,Option.some.injEq] at hg
    subst hg
    rw [e,hgg] at hb
    simp at hb
  clear hg hb hf e he HV HV1 HD HD1
  go_wp2_with fail
  go_region_law (refine step_append_lies _ (by rfl) _ _ _ (by rfl) 0 63 i (.agg #[.string ⟨#[]⟩,.string ⟨#[]⟩]) 2 32 Tryz.underlying39 HI.o HZ.o.1 HZ.o.2.1 HZ.o.2.2 rfl (by omega) fv d.fs.length (jm d.fs) (by rfl) (HF1.o _) ⟨w1.heap.size,0,none⟩ 1 1 [.string ⟨p.toArray⟩,.string ⟨x.toArray⟩] (by rfl) rfl (World.news_of_block (heap_alloc_last _ _)) (by simp [Value.oneCell']) (by omega) (by unfold maxLen;omega) (by omega) (by omega) (w1.heap.size+1) (by simp) ?_;intro g cap' w3 hown hgrow hat hltg;have hb3:w3.heap[b]?=some (.cells (zcg fv d) 41 (0,0)):=(by rw [hgrow.block b (zb (HB1.o _)) (fun e=>HNE.o b e.symm rfl)];exact HB1.o _);obtain⟨c3,f3⟩:=(zd1 hb3).1;have HOW:=za hown;have HGR:=za hgrow;have HAT:=za hat;have HB3:=za hb3;clear hown hgrow hat hb3)
  all_goals go_end0
  all_goals exact zwh HT.o hO HG.o HF.o HE.o HOW.o HGR.o HAT.o HB3.o
end
section
open Go.RowKit
def txt (l:List UInt8):Value:= .string ⟨l.toArray⟩
end
section
open Go.RowKit
end
section
open Go.RowKit
def EB (w:World)(B:Nat)(x:Value)(l:List UInt8):Prop :=
 ∃ g cap C fr,x= .slice (some ⟨g,0,none⟩) l.length cap∧B≤g∧w.heap[g]?=some (.cells C 5 fr)∧(∀ i (h:i < l.length),C[i]?=some (bv l[i]))∧l.length≤fr.1
theorem xe {w:World}{g:Nat}{o:Obj}(h:w.heap[g]?=some o):g < w.heap.size:=by
 rcases Nat.lt_or_ge g w.heap.size with h' | h'
 ·exact h'
 ·simp [Array.getElem?_eq_none h'] at h
theorem EB.below {w w':World}{B:Nat}{x:Value}{l:List UInt8}(h:EB w B x l)(hb:Below w.heap.size w w'):EB w' B x l:=by
 obtain⟨g,cap,C,fr,e,hB,hg,hc,hf⟩:=h
 exact⟨g,cap,C,fr,e,hB,by rw [hb.block g (xe hg)];exact hg,hc,hf⟩
theorem EB.grown {w w':World}{B:Nat}{x v:Value}{l:List UInt8}{n:Nat}{xs:List Value}(h:EB w B x l)(ho:w.ownsRow B 76 1 v n xs)(hg':w.grownBy w' v.ownBlock):EB w' B x l:=by
 obtain⟨g,cap,C,fr,e,hB,hg,hc,hf⟩:=h
 refine⟨g,cap,C,fr,e,hB,?_,hc,hf⟩
 rw [hg'.block g (xe hg) ?_]
 ·exact hg
 ·intro hq
  rcases ho.2 with ⟨rfl,_⟩ | ⟨g',c',cur,rfl,_,hg2,_⟩
  ·simp [Value.ownBlock] at hq
  ·simp only [Value.ownBlock,Option.some.injEq] at hq
   subst hq
   rw [hg] at hg2
   simp at hg2
theorem yd {w w':World}{B:Nat}{e:TypeId}{s:Nat}{v:Value}{n:Nat}{xs:List Value}(h:w.ownsRow B e s v n xs)(hb:Below w.heap.size w w'):w'.ownsRow B e s v n xs:=by
 refine⟨h.1,?_⟩
 rcases h.2 with h | ⟨g,cap,cur,e1,e2,e3,r⟩
 ·exact .inl h
 ·exact .inr ⟨g,cap,cur,e1,e2,by rw [hb.block g (xe e3)];exact e3,r⟩
theorem EB.bs {w:World}{B:Nat}{x:Value}{l:List UInt8}(h:EB w B x l):Bs w x l:=by
 obtain⟨g,cap,C,fr,rfl,hB,hg,hc,hf⟩:=h
 refine⟨_,_,rfl,.inr ⟨g,0,rfl,fun i hi=>?_⟩⟩
 rw [Nat.zero_add,cell_of_row _ _ _ _ _ _ hg]
 exact hc i hi
theorem EB.conv (w:World)(s:ByteArray)(B cap:Nat)(hB:B≤w.heap.size):
  EB (w.alloc (.cells (bytesRow s cap) 5 ((bytesRow s cap).size,(bytesRow s cap).size+1))) B (.slice (some ⟨w.heap.size,0,none⟩) s.size cap) s.data.toList:=by
 refine⟨w.heap.size,cap,_,_,by simp,hB,heap_alloc_last _ _,fun i hi=>?_,?_⟩
 ·have hi':i < s.data.size:=by simpa using hi
  rw [bytesRow,Array.getElem?_append_left (by simpa using hi')]
  rw [Array.getElem?_map,Array.getElem?_eq_getElem hi']
  rfl
 ·simp [bytesRow]
theorem js {w:World}{B:Nat}{e:TypeId}{s:Nat}{v:Value}{n:Nat}{xs:List Value}(h:w.ownsRow B e s v n xs):∀ k,v.ownBlock=some k→B≤k:=by
 intro k hk
 rcases h.2 with ⟨rfl,_⟩ | ⟨g,cap,cur,rfl,hB,_⟩
 ·simp [Value.ownBlock] at hk
 ·simp only [Value.ownBlock,Option.some.injEq] at hk
  omega
theorem zg5:(Tryz.prog.info? 76).map (fun i=>(i.zero,i.size,i.bytes))=some (some (.slice none 0 0),1,24):=by kernel_rfl
end
end Go.Proofs.YtinhekmmdlhfkaaGreatDoor
