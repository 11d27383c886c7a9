import Derived.Test.YtinhekmmdlhfkaaGreatDoorG09
import Derived.Test.YtinhekmmdlhfkaaGreatDoorG04
import Derived.Test.YtinhekmmdlhfkaaGreatDoorG10
import Derived.WalkKit
import Derived.Test.YtinhekmmdlhfkaaGreatDoorG02
import Derived.Deep.RegionHeld3
import Derived.Deep.CutRange
namespace Go.Proofs.YtinhekmmdlhfkaaGreatDoor
section
set_option maxHeartbeats 4000000
open Go.RowKit
set_option maxRecDepth 100000
theorem catch2_idle (p q:Addr)(w:World):
  CallsD Tryz.prog 91 #[.pointer (some p),.pointer (some q)] .returning w fun e u' w'=>e= .returned (.tuple #[])∧u'= .returning∧w'=w:=by
 refine callsD_of_wpS Tryz.func91 rfl fun c₀ cs hu=>?_
 apply wpS_seq
 apply wpS_region
 simp [wpOpsS,go_sem,recoverD,hu,Tryz.ntmps91,Exit.thenS]
 refine wpS_cond (t:=false) (by simp [Act.eval,Array.replicate]) ?_
 simp only [Bool.false_eq_true,if_false]
 refine wpS_of_wp (wp_skip ?_)
 cases c₀
 simp_all [bodyPostS,results,Tryz.results91]
theorem meth_fetch (n:Nat)(v:Value)(w:World):(Go.method (n+1) 44 v "Fetch").run Tryz.prog w= .ok (238,v) w:=by kernel_rfl
theorem GotV.turn {w w':World}{O:Nat→Prop}{T:List Nat}{v:Value}{x:Option (List UInt8)}(h:GotV w v x)(ht:Turn O T w w')(hT:5∉T):GotV w' v x:=by
 rcases h with ⟨d,rfl,hq⟩ | ⟨rfl,rfl⟩
 ·exact .inl ⟨d,rfl,hq.turn ht hT⟩
 ·exact .inr ⟨rfl,rfl⟩
theorem two_cells {w1:World}{s:Nat}{v u:Value}{b:Bool}(b1:w1.heap[s]?=some (.cells #[u] 76 (0,0)))(b2:w1.heap[s+1]?=some (.cells #[.bool false] 4 (0,0))):
  ((w1.setCell ⟨s,0,none⟩ v).setCell ⟨s,0,none⟩ v).cell? ⟨s,0,none⟩=some v∧(((w1.setCell ⟨s,0,none⟩ v).setCell ⟨s,0,none⟩ v).setCell ⟨s+1,0,none⟩ (.bool b)).drew.cell? ⟨s+1,0,none⟩=some (.bool b) ∧
  Turn (fun _=>True) [76,4] w1 (((w1.setCell ⟨s,0,none⟩ v).setCell ⟨s,0,none⟩ v).setCell ⟨s+1,0,none⟩ (.bool b)).drew:=by
 have c1:(w1.setCell ⟨s,0,none⟩ v).heap[s]?=some (.cells #[v] 76 (0,0)):=by rw [dset b1];rfl
 have d1:((w1.setCell ⟨s,0,none⟩ v).setCell ⟨s,0,none⟩ v).heap[s]?=some (.cells #[v] 76 (0,0)):=by rw [dset c1];rfl
 have c2:(w1.setCell ⟨s,0,none⟩ v).heap[s+1]?=some (.cells #[.bool false] 4 (0,0)):=by rw [heap_setCell_other _ _ _ _ (show s+1≠s by omega)];exact b2
 have d2:((w1.setCell ⟨s,0,none⟩ v).setCell ⟨s,0,none⟩ v).heap[s+1]?=some (.cells #[.bool false] 4 (0,0)):=by rw [heap_setCell_other _ _ _ _ (show s+1≠s by omega)];exact c2
 have e2:(((w1.setCell ⟨s,0,none⟩ v).setCell ⟨s,0,none⟩ v).setCell ⟨s+1,0,none⟩ (.bool b)).heap[s+1]?=some (.cells #[.bool b] 4 (0,0)):=by rw [dset d2];rfl
 exact⟨(dcell d1 0 _ rfl).1,(dcell e2 0 _ rfl).1,((((Turn.refl _ _ w1).set (.inl trivial) b1 (by simp) _).set (.inl trivial) c1 (by simp) _).set (.inl trivial) d2 (by simp) _).drew⟩
def netV (nb:Nat):Value:= .iface 44 (.pointer (some ⟨nb,0,none⟩))
theorem cfetch_any (O:Nat→Prop)(nb db cb:Nat)(n:Nt)(d:Dk)(p:List UInt8)(w:World)(hn:d.fs.length≤1000000000)(hl:∀ f∈d.fs,f.2.length≤1000000000)
  (hy:∀ l∈n.lies,l.data.length≤1000000000) (hyl:n.lies.length≤1000000000) (hf:0≤n.fetches∧n.fetches < 4611686018427387904) (htd:∀ t∈n.told,0≤t∧t < 4611686018427387904)
  (hD:DiskAt w O db d) (hN:NetAt w O nb db n) (hc:w.cell? ⟨cb,2,none⟩=some (netV nb)) :
  Calls Tryz.prog 56 #[ptrV cb,txv p] w fun r w'=>∃ v x,r= .returned (.tuple #[v,.bool (netF d.fs n p).1.2])∧Turn O nT w w'∧NetAt w' O nb db (netF d.fs n p).2∧GotV w' v x∧x.getD []=(netF d.fs n p).1.1:=by
 have hmf:∀(fn:Fn) (first cap:Array Value) (w:World),(Instr.makeFunc fn first cap).run Tryz.prog w= .ok (.func fn first cap) w:=fun _ _ _ _=>rfl
 have hcl:=cell_lt hc
 have hm:=meth_fetch
 have eg:∀ args w,(callFunc 238 args).run Tryz.prog w= .ok (.enter 238 args) w:=enters_of Tryz.func238 (by kernel_rfl) rfl
 have hc2:∀ o o',((w.alloc o).alloc o').cell? ⟨cb,2,none⟩=some (netV nb):=fun o o'=>by
  rw [cell_old _ _ ⟨_,2,none⟩ (Nat.lt_of_lt_of_le hcl (by simp)),cell_old _ _ ⟨_,2,none⟩ hcl];exact hc
 have HC:=hide (nfetch_any O nb db n d p ((w.alloc (.cells #[.slice none 0 0] 76)).alloc (.cells #[.bool false] 4)) hn hl hy hyl hf htd (hD.stay (O1:=fun _=>False) (T:=[]) (.of_below (below_alloc2 _ _ _)) (by simp) (by simp)) (hN.below (below_alloc2 _ _ _)))
 have H0:Hid (((w.alloc (.cells #[.slice none 0 0] 76)).alloc (.cells #[.bool false] 4)).heap[w.heap.size]?=some (.cells #[.slice none 0 0] 76 (0,0))∧((w.alloc (.cells #[.slice none 0 0] 76)).alloc (.cells #[.bool false] 4)).heap[w.heap.size+1]?=some (.cells #[.bool false] 4 (0,0))∧Turn O nT w ((w.alloc (.cells #[.slice none 0 0] 76)).alloc (.cells #[.bool false] 4))):=by
  refine⟨heap_alloc_old (heap_alloc_last _ _),?_,.of_below (below_alloc2 _ _ _)⟩
  rw [show w.heap.size+1=(w.alloc (.cells #[.slice none 0 0] 76)).heap.size by simp]
  exact heap_alloc_last _ _
 clear hD hN hl hy htd hc
 unfold netV at hc2
 unfold ptrV txv
 unfold txv at HC
 generalize netF d.fs n p=N at *
 obtain⟨⟨dat,ok⟩,n'⟩:=N
 simp only at *
 go_enter_defers Tryz.func56,Tryz.ntmps56
 go_wp2_with fail
 refine HC.out.mono ?_
 rintro r w1 ⟨v,e,x,rfl,ht,hN1,hg,hx,he⟩
 obtain⟨va,vl,vc,rfl⟩:∃ a l c,v= .slice a l c:=by
  rcases hg with ⟨d',-,g,cap,C,fr,e',-⟩ | ⟨-,e'⟩
  ·exact⟨_,_,_,e'⟩
  ·exact⟨_,_,_,e'⟩
 have b1:w1.heap[w.heap.size]?=some (.cells #[.slice none 0 0] 76 (0,0)):=ht.keep H0.out.1 (by decide)
 have b2:w1.heap[w.heap.size+1]?=some (.cells #[.bool false] 4 (0,0)):=ht.keep H0.out.2.1 (by decide)
 have c2:(w1.setCell ⟨w.heap.size,0,none⟩ (.slice va vl vc)).heap[w.heap.size]?=some (.cells #[.slice va vl vc] 76 (0,0)):=by rw [dset b1];rfl
 have c3:(w1.setCell ⟨w.heap.size,0,none⟩ (.slice va vl vc)).heap[w.heap.size+1]?=some (.cells #[.bool false] 4 (0,0)):=by rw [heap_setCell_other _ _ _ _ (show w.heap.size+1≠w.heap.size by omega)];exact b2
 obtain⟨k0,z0⟩:=dcell b1 0 _ rfl
 obtain⟨k1,z1⟩:=dcell c2 0 _ rfl
 obtain⟨k2,z2⟩:=dcell c3 0 _ rfl
 have n1:w.heap.size≠w.heap.size+1:=by omega
 have HT1:=hide (H0.out.2.2.trans (ht.mono (fun _ h=> .inl h) (fun _ h=>h)))
 have HN1:=hide hN1
 have HGV:=hide hg
 have HX:=hide hx
 have HE:=hide he
 have HBB:=hide (And.intro b1 b2)
 have HCC:=hide (And.intro c2 c3)
 have hev:e= .nilIface∧ok=true∨ok=false∧∃ g,e=errV g:=by
  rcases he with ⟨h1,h2⟩ | ⟨h1,h2⟩
  ·exact .inl ⟨h2,h1⟩
  ·exact .inr ⟨h1,h2⟩
 clear ht hN1 hg hx he b1 b2 c2 c3 HC
 rcases hev with ⟨rfl,rfl⟩ | ⟨rfl,g',rfl⟩
 ·go_wp2_with fail
  go_region
  all_goals go_wp2_with fail
  all_goals refine leaves_cons (f:=91) (args:=#[.pointer (some ⟨w.heap.size,0,none⟩),.pointer (some ⟨w.heap.size+1,0,none⟩)]) (by simp) (by simp [go_sem]) ?_
  all_goals refine(catch2_idle ⟨w.heap.size,0,none⟩ ⟨w.heap.size+1,0,none⟩ _).mono ?_
  all_goals rintro e u' w'' ⟨rfl,rfl,rfl⟩
  all_goals simp [Leaves,settle,results,Tryz.results56,go_sem]
  obtain⟨q1,q2,q3⟩:=two_cells (v:= .slice va vl vc) (b:=true) HBB.out.1 HBB.out.2
  rw [q1]
  simp only [Result.andThen_ok]
  rw [q2]
  exact⟨_,rfl,_,rfl,(((HT1.out.setNew (Nat.le_refl _) _ _).setNew (Nat.le_refl _) _ _).setNew (Nat.le_succ _) _ _).drew,HN1.out.turn q3 (by decide) (by decide) (by decide),x,HGV.out.turn q3 (by decide),HX.out⟩
 ·unfold errV
  go_wp2_with fail
  go_region
  all_goals go_wp2_with fail
  all_goals refine leaves_cons (f:=91) (args:=#[.pointer (some ⟨w.heap.size,0,none⟩),.pointer (some ⟨w.heap.size+1,0,none⟩)]) (by simp) (by simp [go_sem]) ?_
  all_goals refine(catch2_idle ⟨w.heap.size,0,none⟩ ⟨w.heap.size+1,0,none⟩ _).mono ?_
  all_goals rintro e u' w'' ⟨rfl,rfl,rfl⟩
  all_goals simp [Leaves,settle,results,Tryz.results56,go_sem]
  obtain⟨q1,q2,q3⟩:=two_cells (v:= .slice va vl vc) (b:=false) HBB.out.1 HBB.out.2
  rw [q1]
  simp only [Result.andThen_ok]
  rw [q2]
  exact⟨_,rfl,_,rfl,(((HT1.out.setNew (Nat.le_refl _) _ _).setNew (Nat.le_refl _) _ _).setNew (Nat.le_succ _) _ _).drew,HN1.out.turn q3 (by decide) (by decide) (by decide),x,HGV.out.turn q3 (by decide),HX.out⟩
end
section
def upd (f:Nat→Nat)(a b:Nat):Nat→Nat:=fun x=>if x=a then b else f x
theorem upd_same (f:Nat→Nat)(a b:Nat):upd f a b a=b:=if_pos rfl
theorem upd_other (f:Nat→Nat)(a b x:Nat)(h:x≠a):upd f a b x=f x:=if_neg h
def chain (nx pv:Nat→Nat):List Nat→Prop
 | a::b::r=>nx a=b∧pv b=a∧chain nx pv (b::r)
 | _=>True
theorem chain_append {nx pv:Nat→Nat}:∀(l1:List Nat) (a:Nat) (l2:List Nat),chain nx pv (l1++a::l2)↔chain nx pv (l1++[a])∧chain nx pv (a::l2)
 | [],a,l2=>by simp [chain]
 | [b],a,l2=>by
  show(nx b=a∧pv a=b∧chain nx pv (a::l2))↔(nx b=a∧pv a=b∧chain nx pv [a])∧chain nx pv (a::l2)
  simp [chain,and_assoc]
 | b::c::r,a,l2=>by
  have ih:=chain_append (nx:=nx) (pv:=pv) (c::r) a l2
  show(nx b=c∧pv c=b∧chain nx pv ((c::r)++a::l2))↔(nx b=c∧pv c=b∧chain nx pv ((c::r)++[a]))∧chain nx pv (a::l2)
  rw [ih]
  simp [and_assoc]
theorem chain_congr {nx pv nx' pv':Nat→Nat}:∀(l:List Nat),chain nx pv l→(∀ a∈l.dropLast,nx' a=nx a)→(∀ b∈l.tail,pv' b=pv b)→chain nx' pv' l
 | [],_,_,_=>trivial
 | [_],_,_,_=>trivial
 | a::b::r,h,h1,h2=>by
  obtain⟨e1,e2,e3⟩:=h
  refine⟨by rw [h1 a (by simp)];exact e1,by rw [h2 b (by simp)];exact e2,chain_congr (b::r) e3 (fun x hx=>h1 x (by simp [hx])) (fun x hx=>h2 x (by simp at hx ⊢;exact .inr hx))⟩
def Circ (eb:Nat)(bs:List Nat)(nx pv:Nat→Nat):Prop:=(eb::bs).Nodup∧chain nx pv (eb::bs++[eb])
theorem circ_none (eb:Nat):Circ eb [] (fun _=>eb) (fun _=>eb):=⟨by simp,rfl,rfl,trivial⟩
theorem chain_last {nx pv:Nat→Nat}:∀(a:Nat) (l:List Nat) (x:Nat),chain nx pv (a::l++[x])→pv x=(a::l).getLast (by simp)∧nx ((a::l).getLast (by simp))=x
 | a,[],x,h=>⟨h.2.1,h.1⟩
 | a,b::r,x,h=>by
  have h':chain nx pv ((b::r)++[x]):=h.2.2
  have:=chain_last b r x h'
  simpa using this
theorem Circ.last {eb:Nat}{bs:List Nat}{nx pv:Nat→Nat}(h:Circ eb bs nx pv):pv eb=(eb::bs).getLast (by simp)∧nx ((eb::bs).getLast (by simp))=eb:=chain_last eb bs eb h.2
theorem Circ.first {eb b:Nat}{bs:List Nat}{nx pv:Nat→Nat}(h:Circ eb (b::bs) nx pv):nx eb=b∧pv b=eb:=⟨h.2.1,h.2.2.1⟩
theorem Circ.pv_mem {eb:Nat}{bs:List Nat}{nx pv:Nat→Nat}(h:Circ eb bs nx pv):pv eb∈eb::bs:=by rw [h.last.1];exact List.getLast_mem _
theorem Circ.add {eb nb:Nat}{bs:List Nat}{nx pv:Nat→Nat}(h:Circ eb bs nx pv)(hn:nb∉eb::bs):Circ eb (bs++[nb]) (upd (upd nx (pv eb) nb) nb eb) (upd (upd pv eb nb) nb (pv eb)):=by
 obtain⟨e1,e2⟩:=h.last
 have hp:=h.pv_mem
 have hpn:pv eb≠nb:=fun e=>hn (e▸hp)
 have hen:eb≠nb:=fun e=>hn (e▸List.mem_cons_self ..)
 obtain⟨hd,hc⟩:=h
 refine⟨?_,?_⟩
 ·rw [← List.cons_append,List.nodup_append]
  refine⟨hd,by simp,fun a ha b hb=>?_⟩
  obtain rfl:b=nb:=by simpa using hb
  exact fun e=>hn (e▸ha)
 ·rw [← List.cons_append,List.append_assoc]
  show chain _ _ ((eb::bs)++nb::[eb])
  rw [chain_append]
  refine⟨?_,⟨upd_same _ _ _,by rw [upd_other _ _ _ _ hen,upd_same],trivial⟩⟩
  -- eb::bs,then nb
  have hsplit:(eb::bs)=(eb::bs).dropLast++[(eb::bs).getLast (by simp)]:=(List.dropLast_concat_getLast (by simp)).symm
  rw [hsplit,← e1,List.append_assoc]
  show chain _ _ ((eb::bs).dropLast++pv eb::[nb])
  rw [chain_append]
  refine⟨?_,⟨by rw [upd_other _ _ _ _ hpn,upd_same],upd_same _ _ _,trivial⟩⟩
  have hc1:chain nx pv ((eb::bs).dropLast++[pv eb]):=by
   rw [e1,← hsplit]
   have:chain nx pv ((eb::bs).dropLast++(eb::bs).getLast (by simp)::[eb]):=by
    have e:(eb::bs).dropLast++(eb::bs).getLast (by simp)::[eb]=(eb::bs)++[eb]:=by
     conv=>rhs;rw [hsplit]
     simp
    rw [e];exact hc
   have:=((chain_append _ _ _).1 this).1
   rwa [← hsplit] at this
  refine chain_congr _ hc1 ?_ ?_
  ·intro a ha
   rw [List.dropLast_concat] at ha
   have hab:a∈eb::bs:=List.dropLast_subset _ ha
   have h1:a≠nb:=fun e=>hn (e▸hab)
   have h2:a≠pv eb:=by
    rw [e1]
    intro e
    have hnd:=hd
    rw [hsplit,List.nodup_append] at hnd
    exact hnd.2.2 a ha _ (by simp) e
   rw [upd_other _ _ _ _ h1,upd_other _ _ _ _ h2]
  ·intro b hb
   have hbm:b∈bs:=by
    have:(eb::bs).dropLast++[pv eb]=eb::bs:=by rw [e1];exact hsplit.symm
    rw [this] at hb
    simpa using hb
   have h1:b≠nb:=fun e=>hn (by rw [← e];simp [hbm])
   have h2:b≠eb:=fun e=>(List.nodup_cons.1 hd).1 (e▸hbm)
   rw [upd_other _ _ _ _ h1,upd_other _ _ _ _ h2]
theorem Circ.strike {eb x:Nat}{b1 b2:List Nat}{nx pv:Nat→Nat}(h:Circ eb (b1++x::b2) nx pv):
  Circ eb (b1++b2) (upd nx (pv x) (nx x)) (upd pv (nx x) (pv x))∧pv x≠x∧nx x≠x∧(pv x=eb∨pv x∈b1)∧(nx x=eb∨nx x∈b2):=by
 obtain⟨hd,hc⟩:=h
 have hc':chain nx pv ((eb::b1)++x::(b2++[eb])):=by simpa using hc
 rw [chain_append] at hc'
 obtain⟨c1,c2⟩:=hc'
 obtain⟨p1,p2⟩:=chain_last eb b1 x c1
 have hxn:x∉eb::(b1++b2):=by
  have hp:(eb::(b1++x::b2)).Perm (x::eb::(b1++b2)):=by
   refine((List.perm_middle).cons eb).trans ?_
   exact List.Perm.swap ..
  exact(List.nodup_cons.1 ((hp.nodup_iff).1 hd)).1
 have hd':(eb::(b1++b2)).Nodup:=by
  refine List.Nodup.sublist ?_ hd
  exact(List.Sublist.append (List.Sublist.refl _) (List.sublist_cons_self _ _)).cons_cons _
 have hpm:pv x∈eb::b1:=by rw [p1];exact List.getLast_mem _
 -- what stands behind x
 obtain⟨n1,hn1,hnx⟩:∃ r,b2++[eb]=nx x::r∧pv (nx x)=x:=by
  cases b2 with
  | nil=>exact⟨[],by rw [c2.1];rfl,by rw [c2.1];exact c2.2.1⟩
  | cons y r=>exact⟨r++[eb],by rw [c2.1];rfl,by rw [c2.1];exact c2.2.1⟩
 have hnm:nx x=eb∨nx x∈b2:=by
  cases b2 with
  | nil=>simp at hn1;exact .inl hn1.1.symm
  | cons y r=>simp at hn1;exact .inr (by rw [← hn1.1];simp)
 have hpx:pv x≠x:=fun e=>hxn (by
  rw [← e]
  rcases List.mem_cons.1 hpm with h | h
  ·simp [h]
  ·simp [h])
 have hnx':nx x≠x:=fun e=>hxn (by
  rw [← e]
  rcases hnm with h | h
  ·simp [h]
  ·simp [h])
 have hpm':pv x=eb∨pv x∈b1:=by simpa using hpm
 refine⟨⟨hd',?_⟩,hpx,hnx',hpm',hnm⟩
 obtain⟨hd1,hd2,hd3⟩:(eb::b1).Nodup∧(b2++[eb]).Nodup∧∀ a∈b1,∀ b∈b2,a≠b:=by
  rw [← List.cons_append,List.nodup_append] at hd'
  obtain⟨q1,q2,q3⟩:=hd'
  refine⟨q1,?_,fun a ha b hb=>q3 a (by simp [ha]) b hb⟩
  rw [List.nodup_append]
  exact⟨q2,by simp,fun a ha b hb=>by obtain rfl:b=eb:=by simpa using hb
                                     exact fun e=>q3 b (by simp) a ha e.symm⟩
 have heb1:eb∉b1:=(List.nodup_cons.1 hd1).1
 have hsplit:(eb::b1)=(eb::b1).dropLast++[pv x]:=by
  rw [p1];exact(List.dropLast_concat_getLast (by simp)).symm
 have e:eb::(b1++b2)++[eb]=(eb::b1).dropLast++pv x::(nx x::n1):=by
  rw [← hn1]
  have:eb::(b1++b2)++[eb]=(eb::b1)++(b2++[eb]):=by simp
  rw [this,hsplit,List.append_assoc]
  simp
 rw [e,chain_append]
 refine⟨?_,upd_same _ _ _,upd_same _ _ _,?_⟩
 ·have hc1:chain nx pv ((eb::b1).dropLast++[pv x]):=by
   have:chain nx pv ((eb::b1).dropLast++pv x::[x]):=by
    have e2:(eb::b1).dropLast++pv x::[x]=eb::b1++[x]:=by
     conv=>rhs;rw [hsplit]
     simp
    rw [e2];exact c1
   exact((chain_append _ _ _).1 this).1
  refine chain_congr _ hc1 ?_ ?_
  ·intro a ha
   rw [List.dropLast_concat] at ha
   refine upd_other _ _ _ _ ?_
   intro e
   have hnd:=hd1
   rw [hsplit,List.nodup_append] at hnd
   exact hnd.2.2 a ha _ (by simp) e
  ·intro b hb
   rw [← hsplit] at hb
   have hb1:b∈b1:=by simpa using hb
   refine upd_other _ _ _ _ ?_
   intro e
   rcases hnm with h | h
   ·exact heb1 (by rw [← h,← e];exact hb1)
   ·exact hd3 b hb1 _ h e
 ·have hc2:chain nx pv (nx x::n1):=by
   have:chain nx pv (x::(nx x::n1)):=by rw [← hn1];exact c2
   exact this.2.2
  refine chain_congr _ hc2 ?_ ?_
  ·intro a ha
   rw [← hn1,List.dropLast_concat] at ha
   refine upd_other _ _ _ _ ?_
   intro e
   rcases hpm' with h | h
   ·rw [List.nodup_append] at hd2
    exact hd2.2.2 a ha eb (by simp) (e.trans h)
   ·exact hd3 _ h a ha e.symm
  ·intro b hb
   refine upd_other _ _ _ _ ?_
   intro e
   rw [hn1] at hd2
   have hb':b∈n1:=by simpa using hb
   exact(List.nodup_cons.1 hd2).1 (e▸hb')
end
section
set_option maxHeartbeats 8000000
open Go.RowKit
set_option maxRecDepth 100000
abbrev LkN:Nat:=194
abbrev MeN:Nat:=196
def lkN (p:Pl)(v:Value)(o n:Nat):Array Value:=#[.int .i64 p.1,.int .i64 p.2.1,.int .i64 p.2.2,v,ptrV o,ptrV n]
abbrev LsN:=List (Nat×Pl×Value)
def LsN.ks (L:LsN):Ks:=L.map fun x=>(x.2.1,x.1)
def LsN.drop (L:LsN)(p:Pl):LsN:=L.filter fun x=>!decide (x.2.1=p)
structure RingN (w:World)(eb:Nat)(L:LsN)(nx pv:Nat→Nat):Prop where
 ends:w.heap[eb]?=some (.cells (lkN (0,0,0) (.pointer none) (pv eb) (nx eb)) LkN (0,0))
 link:∀ x∈L,w.heap[x.1]?=some (.cells (lkN x.2.1 x.2.2 (pv x.1) (nx x.1)) LkN (0,0))
 circ:Circ eb (L.map (·.1)) nx pv
structure MemNAt (w:World)(O:Nat→Prop)(mb hb eb:Nat)(nx pv:Nat→Nat)(room:Int)(L:LsN):Prop where
 own:O mb∧O hb∧O eb∧∀ x∈L,O x.1
 mem:w.heap[mb]?=some (.cells #[.int .i64 room,.map (some hb),ptrV eb] MeN (0,0))
 ring:RingN w eb L nx pv
 map:MapIs w hb L.ks
 ok:∀ x∈L,PlOk x.2.1∧∃ a,x.2.2= .pointer a
def MemN (w:World)(O:Nat→Prop)(mb:Nat)(room:Int)(L:LsN):Prop:=∃ hb eb nx pv,MemNAt w O mb hb eb nx pv room L
def LsN.get (L:LsN)(p:Pl):Option (Nat×Value):=match L.find? (fun x=>decide (x.2.1=p)) with
 | some x=>some (x.1,x.2.2)
 | none=>none
theorem ksN_get (L:LsN)(p:Pl):L.ks.get p=(L.get p).map (·.1):=by
 unfold LsN.ks Ks.get LsN.get
 rw [List.find?_map]
 have:((fun x:Pl×Nat=>decide (x.1=p))∘fun x:Nat×Pl×Value=>(x.2.1,x.1))=fun x=>decide (x.2.1=p):=rfl
 rw [this]
 cases L.find? (fun x=>decide (x.2.1=p))<;>rfl
theorem lsN_mem {L:LsN}{p:Pl}{b:Nat}{v:Value}(h:L.get p=some (b,v)):(b,p,v)∈L:=by
 unfold LsN.get at h
 cases e:L.find? (fun x=>decide (x.2.1=p)) with
 | none=>rw [e] at h;simp at h
 | some x =>
  rw [e] at h
  simp only [Option.some.injEq,Prod.mk.injEq] at h
  have h1:=List.find?_some e
  have h2:=List.mem_of_find?_eq_some e
  simp only [decide_eq_true_eq] at h1
  obtain⟨a,b',c⟩:=x
  simp only at h h1
  obtain⟨rfl,rfl⟩:=h
  subst h1
  exact h2
theorem zeroLpN (w:World):(zeroValue 192).run Tryz.prog w= .ok (.pointer none) w:=by kernel_rfl
theorem getN_yes (O:Nat→Prop)(mb:Nat)(room:Int)(L:LsN)(p:Pl)(hp:PlOk p)(w:World)(h:MemN w O mb room L)(b:Nat)(a:Option Addr)(hg:L.get p=some (b,.pointer a)):
  Calls Tryz.prog 144 #[ptrV mb,plV p] w fun r w'=>r= .returned (.tuple #[.pointer a,.bool true])∧Below w.heap.size w w':=by
 obtain⟨hb,eb,nx,pv,h⟩:=h
 have hk:L.ks.get p=some b:=by rw [ksN_get,hg];rfl
 have hl:=lsN_mem hg
 obtain⟨m0,-⟩:=dcell h.mem 1 _ rfl
 obtain⟨l0,-⟩:=dcell (h.ring.link _ hl) 3 _ rfl
 have hlook:=fun n o=>(h.map.same (w':=(w.alloc o).drewN n) (Below.heap_alloc w o hb h.map.lt)).look Tryz.underlying191 zeroLpN hp
 rw [hk] at hlook
 simp only [optV,ptrV,Option.isSome_some] at hlook
 have x0:mb < w.heap.size:=heap_some_lt h.mem
 have x1:b < w.heap.size:=heap_some_lt (h.ring.link _ hl)
 have y0:∀ o,(w.alloc o).cell? ⟨mb,1,none⟩=some (.map (some hb)):=fun o=>by rw [cell_old _ _ ⟨mb,1,none⟩ x0];exact m0
 have y1:∀ o,(w.alloc o).cell? ⟨b,3,none⟩=some (.pointer a):=fun o=>by rw [cell_old _ _ ⟨b,3,none⟩ x1];exact l0
 unfold plV at hlook ⊢
 unfold ptrV
 clear m0 l0 hk hl hg hp h
 go_enter Tryz.func144,Tryz.ntmps144
 go_wp2_with fail
 go_quiet (fail)
 go_wp2_with fail
 go_ret2
 exact⟨rfl,below_drewN (below_alloc w _) _⟩
theorem getN_no (O:Nat→Prop)(mb:Nat)(room:Int)(L:LsN)(p:Pl)(hp:PlOk p)(w:World)(h:MemN w O mb room L)(hg:L.get p=none):
  Calls Tryz.prog 144 #[ptrV mb,plV p] w fun r w'=>r= .returned (.tuple #[.pointer none,.bool false])∧Below w.heap.size w w':=by
 obtain⟨hb,eb,nx,pv,h⟩:=h
 have hk:L.ks.get p=none:=by rw [ksN_get,hg];rfl
 obtain⟨m0,-⟩:=dcell h.mem 1 _ rfl
 have hlook:=fun n o=>(h.map.same (w':=(w.alloc o).drewN n) (Below.heap_alloc w o hb h.map.lt)).look Tryz.underlying191 zeroLpN hp
 rw [hk] at hlook
 simp only [optV,Option.isSome_none] at hlook
 have x0:mb < w.heap.size:=heap_some_lt h.mem
 have y0:∀ o,(w.alloc o).cell? ⟨mb,1,none⟩=some (.map (some hb)):=fun o=>by rw [cell_old _ _ ⟨mb,1,none⟩ x0];exact m0
 unfold plV at hlook ⊢
 unfold ptrV
 clear m0 hk hg hp h
 go_enter Tryz.func144,Tryz.ntmps144
 go_wp2_with fail
 go_quiet (fail)
 go_wp2_with fail
 go_ret2
 exact⟨rfl,below_drewN (below_alloc w _) _⟩
theorem LsN.drop_none {L:LsN}{p:Pl}(h:L.get p=none):L.drop p=L:=by
 unfold LsN.drop
 rw [List.filter_eq_self]
 intro x hx
 unfold LsN.get at h
 cases e:L.find? (fun x=>decide (x.2.1=p)) with
 | some y=>rw [e] at h;simp at h
 | none=>simpa using List.find?_eq_none.1 e x hx
theorem LsN.drop_some {L:LsN}{p:Pl}{b:Nat}{v:Value}(hn:(L.ks.map (·.1)).Nodup)(h:L.get p=some (b,v)):∃ l1 l2,L=l1++(b,p,v)::l2∧L.drop p=l1++l2:=by
 obtain⟨l1,l2,e⟩:=List.append_of_mem (lsN_mem h)
 refine⟨l1,l2,e,?_⟩
 rw [e] at hn ⊢
 unfold LsN.ks at hn
 rw [List.map_map,List.map_append,List.nodup_append] at hn
 obtain⟨-,hn2,hn3⟩:=hn
 rw [List.map_cons,List.nodup_cons] at hn2
 unfold LsN.drop
 rw [List.filter_append,List.filter_cons]
 have a1:l1.filter (fun y=>!decide (y.2.1=p))=l1:=by
  rw [List.filter_eq_self]
  intro y hy
  simpa using hn3 y.2.1 (List.mem_map.2 ⟨y,hy,rfl⟩) p (by simp)
 have a2:l2.filter (fun y=>!decide (y.2.1=p))=l2:=by
  rw [List.filter_eq_self]
  intro y hy
  have:y.2.1≠p:=fun e'=>hn2.1 (List.mem_map.2 ⟨y,hy,e'⟩)
  simpa using this
 rw [a1,a2];simp
theorem ksN_drop (L:LsN)(p:Pl):(L.drop p).ks=L.ks.drop p:=by
 unfold LsN.ks LsN.drop Ks.drop
 rw [List.filter_map];rfl
theorem setN5 {w:World}{c d m:Nat}{q:Pl}{u:Value}{o:Nat}{nx:Nat→Nat}(h:w.heap[c]?=some (.cells (lkN q u o (nx c)) LkN (0,0))):(w.setCell ⟨d,5,none⟩ (.pointer (some ⟨m,0,none⟩))).heap[c]?=some (.cells (lkN q u o (upd nx d m c)) LkN (0,0)):=by
 by_cases e:c=d
 ·subst e
  rw [dset h,upd_same];rfl
 ·rw [heap_setCell_other _ _ _ _ e,upd_other _ _ _ _ e];exact h
theorem setN4 {w:World}{c d m:Nat}{q:Pl}{u:Value}{n:Nat}{pv:Nat→Nat}(h:w.heap[c]?=some (.cells (lkN q u (pv c) n) LkN (0,0))):(w.setCell ⟨d,4,none⟩ (.pointer (some ⟨m,0,none⟩))).heap[c]?=some (.cells (lkN q u (upd pv d m c) n) LkN (0,0)):=by
 by_cases e:c=d
 ·subst e
  rw [dset h,upd_same];rfl
 ·rw [heap_setCell_other _ _ _ _ e,upd_other _ _ _ _ e];exact h
theorem RingN.strike {w:World}{eb b:Nat}{p:Pl}{v:Value}{l1 l2:LsN}{nx pv:Nat→Nat}(h:RingN w eb (l1++(b,p,v)::l2) nx pv):
  RingN ((w.setCell ⟨pv b,5,none⟩ (.pointer (some ⟨nx b,0,none⟩))).setCell ⟨nx b,4,none⟩ (.pointer (some ⟨pv b,0,none⟩))) eb (l1++l2) (upd nx (pv b) (nx b)) (upd pv (nx b) (pv b)):=by
 have hc:=h.circ
 rw [List.map_append,List.map_cons] at hc
 refine⟨setN4 (setN5 h.ends),fun x hx=>setN4 (setN5 (h.link x ?_)),?_⟩
 ·rcases List.mem_append.1 hx with e | e
  ·simp [e]
  ·simp [e]
 ·rw [List.map_append];exact hc.strike.1
theorem Turn.map {O:Nat→Prop}{T:List Nat}{a w w':World}{hb:Nat}{l:Ks}(h:Turn O T a w)(hO:Ext O a w hb)(hm:MapIs w hb l)(hg:w.grownBy w' (some hb)):Turn O T a w':=by
 refine h.trans ⟨hg.os,hg.tape,hg.output,hg.size,fun k hk=>?_⟩
 by_cases e:k=hb
 ·subst e
  obtain⟨es,c,e⟩:=hm.isMap
  exact .inr ⟨hO,.inr ⟨es,c,e⟩⟩
 ·exact .inl (hg.block k hk (fun e'=>e (by simpa using e')))
theorem MapIs.not {w:World}{hb k:Nat}{l:Ks}(h:MapIs w hb l){c:Array Value}{t:TypeId}{x:Nat×Nat}(e:w.heap[k]?=some (.cells c t x)):some k≠some hb:=by
 intro e'
 simp only [Option.some.injEq] at e'
 subst e'
 obtain⟨es,cl,e2⟩:=h.isMap
 rw [e] at e2;simp at e2
theorem RingN.same {w w':World}{eb:Nat}{L:LsN}{nx pv:Nat→Nat}(h:RingN w eb L nx pv)(e:∀(k:Nat) (c:Array Value),w.heap[k]?=some (Obj.cells c LkN (0,0))→w'.heap[k]?=w.heap[k]?):RingN w' eb L nx pv :=
 ⟨(e _ _ h.ends).trans h.ends,fun x hx=>(e _ _ (h.link x hx)).trans (h.link x hx),h.circ⟩
theorem dropN_yes (O:Nat→Prop)(mb:Nat)(room:Int)(L:LsN)(p:Pl)(hp:PlOk p)(w:World)(h:MemN w O mb room L)(b:Nat)(v:Value)(hg:L.get p=some (b,v)):
  Calls Tryz.prog 189 #[ptrV mb,plV p] w fun r w'=>r= .returned (.tuple #[])∧Turn O [LkN] w w'∧MemN w' O mb room (L.drop p):=by
 obtain⟨hb,eb,nx,pv,h⟩:=h
 have hk:L.ks.get p=some b:=by rw [ksN_get,hg];rfl
 have hl:=lsN_mem hg
 obtain⟨D,-,-,hnd,-⟩:=h.map
 obtain⟨l1,l2,eL,eD⟩:=LsN.drop_some hnd hg
 have hc:=h.ring.circ
 rw [eL,List.map_append,List.map_cons] at hc
 obtain⟨hc',np,nn,mp,mn⟩:=hc.strike
 simp only at hc' np nn mp mn
 -- the links around it
 have hP:∃ q u,w.heap[pv b]?=some (.cells (lkN q u (pv (pv b)) (nx (pv b))) LkN (0,0)):=by
  rcases mp with e | e
  ·rw [e];exact⟨_,_,h.ring.ends⟩
  ·obtain⟨x,hx,ex⟩:=List.mem_map.1 e
   rw [← ex];exact⟨_,_,h.ring.link x (by rw [eL];simp [hx])⟩
 have hN:∃ q u,w.heap[nx b]?=some (.cells (lkN q u (pv (nx b)) (nx (nx b))) LkN (0,0)):=by
  rcases mn with e | e
  ·rw [e];exact⟨_,_,h.ring.ends⟩
  ·obtain⟨x,hx,ex⟩:=List.mem_map.1 e
   rw [← ex];exact⟨_,_,h.ring.link x (by rw [eL];simp [hx])⟩
 obtain⟨qp,up,hP⟩:=hP
 obtain⟨qn,un,hN⟩:=hN
 obtain⟨m0,-⟩:=dcell h.mem 1 _ rfl
 obtain⟨l4,-⟩:=dcell (h.ring.link _ hl) 4 _ rfl
 obtain⟨l5,-⟩:=dcell (h.ring.link _ hl) 5 _ rfl
 obtain⟨p5,g5⟩:=dcell hP 5 _ rfl
 obtain⟨n4,g4⟩:=dcell hN 4 _ rfl
 have hlook:=fun n o=>(h.map.same (w':=(w.alloc o).drewN n) (Below.heap_alloc w o hb h.map.lt)).look Tryz.underlying191 zeroLpN hp
 rw [hk] at hlook
 simp only [optV,ptrV,Option.isSome_some] at hlook
 have y0:∀ o,(w.alloc o).cell? ⟨mb,1,none⟩=some (.map (some hb)):=fun o=>by rw [cell_old _ _ ⟨mb,1,none⟩ (heap_some_lt h.mem)];exact m0
 have HH:=hide h
 have HL:=hide hl
 have HE:=hide (And.intro eL eD)
 have HC:=hide hc'
 have HW:=hide (And.intro hP hN)
 have HK:=hide hk
 have HG:=hide hg
 have HP:=hide hp
 have HM:=hide (And.intro mp mn)
 unfold plV at hlook ⊢
 unfold ptrV
 have HL4:=hide l4
 have HL5:=hide l5
 have HP5:=hide (And.intro p5 g5)
 have HN4:=hide (And.intro n4 g4)
 clear m0 l4 l5 p5 g5 n4 g4 hk hl hg hp h eL eD hc' hP hN hc hnd mp mn
 go_enter Tryz.func189,Tryz.ntmps189
 go_wp2_with fail
 go_quiet (fail)
 clear hlook
 have HB0:Hid (Below w.heap.size w ((w.alloc (.cells #[.int .i64 p.1,.int .i64 p.2.1,.int .i64 p.2.2] 126)).drewN nq)):=below_drewN (below_alloc w _) _
 have HK0:Hid (((w.alloc (.cells #[.int .i64 p.1,.int .i64 p.2.1,.int .i64 p.2.2] 126)).drewN nq).heap[w.heap.size]?=some (.cells #[.int .i64 p.1,.int .i64 p.2.1,.int .i64 p.2.2] 126 (0,0))):=heap_alloc_last _ _
 have hz:w.heap.size < ((w.alloc (.cells #[.int .i64 p.1,.int .i64 p.2.1,.int .i64 p.2.2] 126)).drewN nq).heap.size:=heap_some_lt HK0.out
 clear y0
 generalize (w.alloc (.cells #[.int .i64 p.1,.int .i64 p.2.1,.int .i64 p.2.2] 126)).drewN nq=W1 at *
 have cc:∀ {a:Addr} {x:Value},w.cell? a=some x→W1.cell? a=some x:=fun {a x} e=>by rw [HB0.out.cell (cell_lt e)];exact e
 have q4:W1.cell? ⟨b,4,none⟩=some (.pointer (some ⟨pv b,0,none⟩)):=cc HL4.out
 have q5:W1.cell? ⟨b,5,none⟩=some (.pointer (some ⟨nx b,0,none⟩)):=cc HL5.out
 have r5:W1.cell? ⟨pv b,5,none⟩=some (.pointer (some ⟨nx (pv b),0,none⟩)):=cc HP5.out.1
 have r4:W1.cell? ⟨nx b,4,none⟩=some (.pointer (some ⟨pv (nx b),0,none⟩)):=cc HN4.out.1
 have s5:W1.frozen? ⟨pv b,5,none⟩=false:=by rw [HB0.out.frozen (p:=⟨pv b,5,none⟩) (cell_lt (p:=⟨pv b,5,none⟩) HP5.out.1)];exact HP5.out.2
 have s4:W1.frozen? ⟨nx b,4,none⟩=false:=by rw [HB0.out.frozen (p:=⟨nx b,4,none⟩) (cell_lt (p:=⟨nx b,4,none⟩) HN4.out.1)];exact HN4.out.2
 clear cc
 go_wp2_with fail
 go_region_held3 (fun w'=>w'.cell? ⟨b,4,none⟩=some (.pointer (some ⟨pv b,0,none⟩))∧w'.cell? ⟨b,5,none⟩=some (.pointer (some ⟨nx b,0,none⟩))) (go_keep) (fail)
 rename_i hheld
 clear hheld
 -- what has come of the ring
 have HT:Hid (Turn O [LkN] w ((W1.setCell ⟨pv b,5,none⟩ (.pointer (some ⟨nx b,0,none⟩))).setCell ⟨nx b,4,none⟩ (.pointer (some ⟨pv b,0,none⟩))).drew∧RingN ((W1.setCell ⟨pv b,5,none⟩ (.pointer (some ⟨nx b,0,none⟩))).setCell ⟨nx b,4,none⟩ (.pointer (some ⟨pv b,0,none⟩))).drew eb (L.drop p) (upd nx (pv b) (nx b)) (upd pv (nx b) (pv b)) ∧
   ∀ k,k < w.heap.size+1→(∀ c,W1.heap[k]?≠some (.cells c LkN (0,0)))→((W1.setCell ⟨pv b,5,none⟩ (.pointer (some ⟨nx b,0,none⟩))).setCell ⟨nx b,4,none⟩ (.pointer (some ⟨pv b,0,none⟩))).drew.heap[k]?=W1.heap[k]?):=by
  have hr1:RingN W1 eb L nx pv:=HH.out.ring.same fun k c e=>HB0.out.block k (heap_some_lt e)
  have hP1:=(HB0.out.block _ (heap_some_lt HW.out.1)).trans HW.out.1
  have hN1:=(HB0.out.block _ (heap_some_lt HW.out.2)).trans HW.out.2
  have oP:O (pv b):=by
   rcases HM.out.1 with e | e
   ·rw [e];exact HH.out.own.2.2.1
   ·obtain⟨x,hx,ex⟩:=List.mem_map.1 e
    rw [← ex];exact HH.out.own.2.2.2 x (by rw [HE.out.1];simp [hx])
  have oN:O (nx b):=by
   rcases HM.out.2 with e | e
   ·rw [e];exact HH.out.own.2.2.1
   ·obtain⟨x,hx,ex⟩:=List.mem_map.1 e
    rw [← ex];exact HH.out.own.2.2.2 x (by rw [HE.out.1];simp [hx])
  refine⟨?_,?_,?_⟩
  ·have t1:Turn O [LkN] w (W1.setCell ⟨pv b,5,none⟩ (.pointer (some ⟨nx b,0,none⟩))):=(Turn.of_below HB0.out).set (.inl oP) hP1 (by simp) _
   exact(t1.set (.inl oN) (setN5 hN1) (by simp) _).drew
  ·rw [HE.out.2]
   rw [HE.out.1] at hr1
   exact hr1.strike.same fun k c _=>rfl
  ·intro k _ hk
   have e1:k≠nx b:=fun e=>hk _ (e▸hN1)
   have e2:k≠pv b:=fun e=>hk _ (e▸hP1)
   show((W1.setCell _ _).setCell _ _).heap[k]?=_
   rw [heap_setCell_other _ _ _ _ e1,heap_setCell_other _ _ _ _ e2]
 generalize ((W1.setCell ⟨pv b,5,none⟩ (.pointer (some ⟨nx b,0,none⟩))).setCell ⟨nx b,4,none⟩ (.pointer (some ⟨pv b,0,none⟩))).drew=W2 at *
 clear q4 q5 r5 r4 s5 s4 HP5 HN4 HL4 HL5 HW
 have hm1:W1.heap[mb]?=some (.cells #[.int .i64 room,.map (some hb),ptrV eb] MeN (0,0)):=(HB0.out.block _ (heap_some_lt HH.out.mem)).trans HH.out.mem
 have hm2:W2.heap[mb]?=some (.cells #[.int .i64 room,.map (some hb),ptrV eb] MeN (0,0)):=by
  rw [HT.out.2.2 mb (Nat.lt_succ_of_lt (heap_some_lt HH.out.mem)) (fun c e=>by rw [hm1] at e;simp only [Option.some.injEq,Obj.cells.injEq] at e;exact absurd e.2.1 (by decide))];exact hm1
 have hp2:W2.heap[w.heap.size]?=some (.cells #[.int .i64 p.1,.int .i64 p.2.1,.int .i64 p.2.2] 126 (0,0)):=by
  rw [HT.out.2.2 w.heap.size (Nat.lt_succ_self _) (fun c e=>by rw [HK0.out] at e;simp only [Option.some.injEq,Obj.cells.injEq] at e;exact absurd e.2.1 (by decide))];exact HK0.out
 have hmap2:MapIs W2.drew hb L.ks:=by
  refine HH.out.map.same ?_
  show W2.heap[hb]?=_
  obtain⟨es,c,e⟩:=HH.out.map.isMap
  rw [HT.out.2.2 hb (Nat.lt_succ_of_lt HH.out.map.lt) (fun c' e'=>by rw [HB0.out.block _ HH.out.map.lt,e] at e';simp at e'),HB0.out.block _ HH.out.map.lt]
 obtain⟨w3,hrun,hmap3,hgrow⟩:=hmap2.del Tryz.underlying191 HP.out HK.out 0
 unfold plV at hrun
 obtain⟨a1,-⟩:=dcell hm2 1 _ rfl
 obtain⟨b0,-⟩:=dcell hp2 0 _ rfl
 obtain⟨b1,-⟩:=dcell hp2 1 _ rfl
 obtain⟨b2,-⟩:=dcell hp2 2 _ rfl
 have hm3:w3.heap[mb]?=some (.cells #[.int .i64 room,.map (some hb),ptrV eb] MeN (0,0)):=(hgrow.block mb (heap_some_lt hm2) (fun e=>by
  simp only [Option.some.injEq] at e
  obtain⟨es,c,e'⟩:=hmap2.isMap
  rw [← e] at e'
  have:some (Obj.cells _ _ _)=some (Obj.map es c):=hm2.symm.trans e'
  simp at this)).trans hm2
 have hp3:w3.heap[w.heap.size]?=some (.cells #[.int .i64 p.1,.int .i64 p.2.1,.int .i64 p.2.2] 126 (0,0)):=(hgrow.block w.heap.size (heap_some_lt hp2) (fun e=>by
  simp only [Option.some.injEq] at e
  obtain⟨es,c,e'⟩:=hmap2.isMap
  rw [← e] at e'
  have:some (Obj.cells _ _ _)=some (Obj.map es c):=hp2.symm.trans e'
  simp at this)).trans hp2
 obtain⟨c1,-⟩:=dcell hm3 1 _ rfl
 obtain⟨d0,-⟩:=dcell hp3 0 _ rfl
 obtain⟨d1,-⟩:=dcell hp3 1 _ rfl
 obtain⟨d2,-⟩:=dcell hp3 2 _ rfl
 have HM3:=hide hmap3
 have HM3b:=hide hm3
 have HG3:Hid (W2.grownBy w3 (some hb)):=⟨hgrow.os,hgrow.tape,hgrow.output,hgrow.size,hgrow.block⟩
 have HM2:=hide hmap2
 clear hm1 hm2 hp2 hm3 hp3 hmap2 hmap3 hgrow
 go_wp2_with fail
 go_region_held3 (fun w'=>w'.cell? ⟨mb,1,none⟩=some (.map (some hb))∧w'.cell? ⟨w.heap.size,0,none⟩=some (.int .i64 p.1)∧w'.cell? ⟨w.heap.size,1,none⟩=some (.int .i64 p.2.1)∧w'.cell? ⟨w.heap.size,2,none⟩=some (.int .i64 p.2.2)) (go_keep) (fail)
 go_wp2_with fail
 go_end0
 have hin:∀ x∈L.drop p,x∈L:=fun x hx=>(List.mem_filter.1 hx).1
 have hm2:MapIs W2 hb L.ks:=HM2.out.same rfl
 refine⟨rfl,HT.out.1.map (.inl HH.out.own.2.1) hm2 HG3.out,hb,eb,upd nx (pv b) (nx b),upd pv (nx b) (pv b),⟨HH.out.own.1,HH.out.own.2.1,HH.out.own.2.2.1,fun x hx=>HH.out.own.2.2.2 x (hin x hx)⟩,HM3b.out,?_,?_,fun x hx=>HH.out.ok x (hin x hx)⟩
 ·exact HT.out.2.1.same fun k c e=>HG3.out.block k (heap_some_lt e) (hm2.not e)
 ·rw [ksN_drop];exact HM3.out
theorem dropN_no (O:Nat→Prop)(mb:Nat)(room:Int)(L:LsN)(p:Pl)(hp:PlOk p)(w:World)(h:MemN w O mb room L)(hg:L.get p=none):
  Calls Tryz.prog 189 #[ptrV mb,plV p] w fun r w'=>r= .returned (.tuple #[])∧Below w.heap.size w w':=by
 obtain⟨hb,eb,nx,pv,h⟩:=h
 have hk:L.ks.get p=none:=by rw [ksN_get,hg];rfl
 obtain⟨m0,-⟩:=dcell h.mem 1 _ rfl
 have hlook:=fun n o=>(h.map.same (w':=(w.alloc o).drewN n) (Below.heap_alloc w o hb h.map.lt)).look Tryz.underlying191 zeroLpN hp
 rw [hk] at hlook
 simp only [optV,Option.isSome_none] at hlook
 have x0:mb < w.heap.size:=heap_some_lt h.mem
 have y0:∀ o,(w.alloc o).cell? ⟨mb,1,none⟩=some (.map (some hb)):=fun o=>by rw [cell_old _ _ ⟨mb,1,none⟩ x0];exact m0
 unfold plV at hlook ⊢
 unfold ptrV
 clear m0 hk hg hp h
 go_enter Tryz.func189,Tryz.ntmps189
 go_wp2_with fail
 go_quiet (fail)
 go_wp2_with fail
 first | go_end0 | refine bodyPost_ret (results_none rfl _ _ _) rfl ?_
 exact⟨rfl,below_drewN (below_alloc w _) _⟩
theorem MemN.stay {w w':World}{O O1 O':Nat→Prop}{T:List Nat}{mb:Nat}{room:Int}{L:LsN}(h:MemN w O mb room L)(ht:Turn O1 T w w')(h1:∀ k,O k→¬ O1 k)(h2:∀ k,O k→O' k):MemN w' O' mb room L:=by
 obtain⟨hb,eb,nx,pv,h⟩:=h
 have same:∀ k,O k→k < w.heap.size→w'.heap[k]?=w.heap[k]?:=fun k hk hlt=>by
  rcases ht.block k hlt with e | ⟨e,-⟩
  ·exact e
  ·exact absurd e (h1 k hk)
 refine⟨hb,eb,nx,pv,⟨h2 _ h.own.1,h2 _ h.own.2.1,h2 _ h.own.2.2.1,fun x hx=>h2 _ (h.own.2.2.2 x hx)⟩,(same _ h.own.1 (heap_some_lt h.mem)).trans h.mem,?_,h.map.same (same _ h.own.2.1 h.map.lt),h.ok⟩
 exact⟨(same _ h.own.2.2.1 (heap_some_lt h.ring.ends)).trans h.ring.ends,fun x hx=>(same _ (h.own.2.2.2 x hx) (heap_some_lt (h.ring.link x hx))).trans (h.ring.link x hx),h.ring.circ⟩
theorem MemN.below {w w':World}{O O':Nat→Prop}{mb:Nat}{room:Int}{L:LsN}(h:MemN w O mb room L)(hb:Below w.heap.size w w')(h2:∀ k,O k→O' k):MemN w' O' mb room L :=
 h.stay (O1:=fun _=>False) (T:=[]) (.of_below hb) (fun _ _ h=>h) h2
theorem dropN_any (O:Nat→Prop)(mb:Nat)(room:Int)(L:LsN)(p:Pl)(hp:PlOk p)(w:World)(h:MemN w O mb room L):
  Calls Tryz.prog 189 #[ptrV mb,plV p] w fun r w'=>r= .returned (.tuple #[])∧Turn O [LkN] w w'∧MemN w' O mb room (L.drop p):=by
 cases hg:L.get p with
 | some x=>exact dropN_yes O mb room L p hp w h x.1 x.2 hg
 | none =>
  refine(dropN_no O mb room L p hp w h hg).mono ?_
  rintro r w' ⟨rfl,hb⟩
  rw [LsN.drop_none hg]
  exact⟨rfl,.of_below hb,h.below hb (fun _ h=>h)⟩
end
end Go.Proofs.YtinhekmmdlhfkaaGreatDoor
