import Derived.WalkKit
import Derived.Test.YtinhekmmdlhfkaaGreatDoorG10
import Derived.Test.YtinhekmmdlhfkaaGreatDoorG02
import Derived.Deep.RegionHeld3
import Derived.Deep.CutRange
namespace Go.Proofs.YtinhekmmdlhfkaaGreatDoor
section
def upd (f:Nat→Nat)(a b:Nat):Nat→Nat:=fun x=>if x=a then b else f x
theorem vm (f:Nat→Nat)(a b:Nat):upd f a b a=b:=if_pos rfl
theorem ja (f:Nat→Nat)(a b x:Nat)(h:x≠a):upd f a b x=f x:=if_neg h
def vz (nx pv:Nat→Nat):List Nat→Prop
 | a::b::r=>nx a=b∧pv b=a∧vz nx pv (b::r)
 | _=>True
theorem zaf {nx pv:Nat→Nat}:∀(l1:List Nat) (a:Nat) (l2:List Nat),vz nx pv (l1++a::l2)↔vz nx pv (l1++[a])∧vz nx pv (a::l2)
 | [],a,l2=>by simp [vz]
 | [b],a,l2=>by
  show(nx b=a∧pv a=b∧vz nx pv (a::l2))↔(nx b=a∧pv a=b∧vz nx pv [a])∧vz nx pv (a::l2)
  simp [vz,and_assoc]
 | b::c::r,a,l2=>by
  have ih:=zaf (nx:=nx) (pv:=pv) (c::r) a l2
  show(nx b=c∧pv c=b∧vz nx pv ((c::r)++a::l2))↔(nx b=c∧pv c=b∧vz nx pv ((c::r)++[a]))∧vz nx pv (a::l2)
  rw [ih]
  simp [and_assoc]
theorem zd3 {nx pv nx' pv':Nat→Nat}:∀(l:List Nat),vz nx pv l→(∀ a∈l.dropLast,nx' a=nx a)→(∀ b∈l.tail,pv' b=pv b)→vz nx' pv' l
 | [],_,_,_=>trivial
 | [_],_,_,_=>trivial
 | a::b::r,h,h1,h2=>by
  obtain⟨e1,e2,e3⟩:=h
  refine⟨by rw [h1 a (by simp)];exact e1,by rw [h2 b (by simp)];exact e2,zd3 (b::r) e3 (fun x hx=>h1 x (by simp [hx])) (fun x hx=>h2 x (by simp at hx ⊢;exact .inr hx))⟩
def zg0 (eb:Nat)(bs:List Nat)(nx pv:Nat→Nat):Prop:=(eb::bs).Nodup∧vz nx pv (eb::bs++[eb])
theorem zkj (eb:Nat):zg0 eb [] (fun _=>eb) (fun _=>eb):=⟨by simp,rfl,rfl,trivial⟩
theorem zig {nx pv:Nat→Nat}:∀(a:Nat) (l:List Nat) (x:Nat),vz nx pv (a::l++[x])→pv x=(a::l).getLast (by simp)∧nx ((a::l).getLast (by simp))=x
 | a,[],x,h=>⟨h.2.1,h.1⟩
 | a,b::r,x,h=>by
  have h':vz nx pv ((b::r)++[x]):=h.2.2
  have:=zig b r x h'
  simpa using this
theorem zg0.last {eb:Nat}{bs:List Nat}{nx pv:Nat→Nat}(h:zg0 eb bs nx pv):pv eb=(eb::bs).getLast (by simp)∧nx ((eb::bs).getLast (by simp))=eb:=zig eb bs eb h.2
theorem zg0.first {eb b:Nat}{bs:List Nat}{nx pv:Nat→Nat}(h:zg0 eb (b::bs) nx pv):nx eb=b∧pv b=eb:=⟨h.2.1,h.2.2.1⟩
theorem zg0.empty {eb:Nat}{nx pv:Nat→Nat}(h:zg0 eb [] nx pv):nx eb=eb∧pv eb=eb:=⟨h.2.1,h.2.2.1⟩
theorem zg0.pv_mem {eb:Nat}{bs:List Nat}{nx pv:Nat→Nat}(h:zg0 eb bs nx pv):pv eb∈eb::bs:=by rw [h.last.1];exact List.getLast_mem _
theorem zg0.add {eb nb:Nat}{bs:List Nat}{nx pv:Nat→Nat}(h:zg0 eb bs nx pv)(hn:nb∉eb::bs):zg0 eb (bs++[nb]) (upd (upd nx (pv eb) nb) nb eb) (upd (upd pv eb nb) nb (pv eb)):=by
 obtain⟨e1,e2⟩:=h.last
 have hp:=h.pv_mem
 have hpn:pv eb≠nb:=fun e=>hn (e▸hp)
 have hen:eb≠nb:=fun e=>hn (e▸List.mem_cons_self ..)
 obtain⟨hd,hc⟩:=h
 refine⟨?_,?_⟩
 ·rw [← List.cons_append,List.nodup_append]
  refine⟨hd,by simp,fun a ha b hb=>?_⟩
  obtain rfl:b=nb:=by simpa using hb
  exact fun e=>hn (e▸ha)
 ·rw [← List.cons_append,List.append_assoc]
  show vz _ _ ((eb::bs)++nb::[eb])
  rw [zaf]
  refine⟨?_,⟨vm _ _ _,by rw [ja _ _ _ _ hen,vm],trivial⟩⟩
  -- eb::bs,then nb
  have hsplit:(eb::bs)=(eb::bs).dropLast++[(eb::bs).getLast (by simp)]:=(List.dropLast_concat_getLast (by simp)).symm
  rw [hsplit,← e1,List.append_assoc]
  show vz _ _ ((eb::bs).dropLast++pv eb::[nb])
  rw [zaf]
  refine⟨?_,⟨by rw [ja _ _ _ _ hpn,vm],vm _ _ _,trivial⟩⟩
  have hc1:vz nx pv ((eb::bs).dropLast++[pv eb]):=by
   rw [e1,← hsplit]
   have:vz nx pv ((eb::bs).dropLast++(eb::bs).getLast (by simp)::[eb]):=by
    have e:(eb::bs).dropLast++(eb::bs).getLast (by simp)::[eb]=(eb::bs)++[eb]:=by
     conv=>rhs;rw [hsplit]
     simp
    rw [e];exact hc
   have:=((zaf _ _ _).1 this).1
   rwa [← hsplit] at this
  refine zd3 _ hc1 ?_ ?_
  ·intro a ha
   rw [List.dropLast_concat] at ha
   have hab:a∈eb::bs:=List.dropLast_subset _ ha
   have h1:a≠nb:=fun e=>hn (e▸hab)
   have h2:a≠pv eb:=by
    rw [e1]
    intro e
    have hnd:=hd
    rw [hsplit,List.nodup_append] at hnd
    exact hnd.2.2 a ha _ (by simp) e
   rw [ja _ _ _ _ h1,ja _ _ _ _ h2]
  ·intro b hb
   have hbm:b∈bs:=by
    have:(eb::bs).dropLast++[pv eb]=eb::bs:=by rw [e1];exact hsplit.symm
    rw [this] at hb
    simpa using hb
   have h1:b≠nb:=fun e=>hn (by rw [← e];simp [hbm])
   have h2:b≠eb:=fun e=>(List.nodup_cons.1 hd).1 (e▸hbm)
   rw [ja _ _ _ _ h1,ja _ _ _ _ h2]
theorem zg0.strike {eb x:Nat}{b1 b2:List Nat}{nx pv:Nat→Nat}(h:zg0 eb (b1++x::b2) nx pv):
  zg0 eb (b1++b2) (upd nx (pv x) (nx x)) (upd pv (nx x) (pv x))∧pv x≠x∧nx x≠x∧(pv x=eb∨pv x∈b1)∧(nx x=eb∨nx x∈b2):=by
 obtain⟨hd,hc⟩:=h
 have hc':vz nx pv ((eb::b1)++x::(b2++[eb])):=by simpa using hc
 rw [zaf] at hc'
 obtain⟨c1,c2⟩:=hc'
 obtain⟨p1,p2⟩:=zig eb b1 x c1
 have hxn:x∉eb::(b1++b2):=by
  have hp:(eb::(b1++x::b2)).Perm (x::eb::(b1++b2)):=by
   refine((List.perm_middle).cons eb).trans ?_
   exact List.Perm.swap ..
  exact(List.nodup_cons.1 ((hp.nodup_iff).1 hd)).1
 have hd':(eb::(b1++b2)).Nodup:=by
  refine List.Nodup.sublist ?_ hd
  exact(List.Sublist.append (List.Sublist.refl _) (List.sublist_cons_self _ _)).cons_cons _
 have hpm:pv x∈eb::b1:=by rw [p1];exact List.getLast_mem _
 -- what stands behind x
 obtain⟨n1,hn1,hnx⟩:∃ r,b2++[eb]=nx x::r∧pv (nx x)=x:=by
  cases b2 with
  | nil=>exact⟨[],by rw [c2.1];rfl,by rw [c2.1];exact c2.2.1⟩
  | cons y r=>exact⟨r++[eb],by rw [c2.1];rfl,by rw [c2.1];exact c2.2.1⟩
 have hnm:nx x=eb∨nx x∈b2:=by
  cases b2 with
  | nil=>simp at hn1;exact .inl hn1.1.symm
  | cons y r=>simp at hn1;exact .inr (by rw [← hn1.1];simp)
 have hpx:pv x≠x:=fun e=>hxn (by
  rw [← e]
  rcases List.mem_cons.1 hpm with h | h
  ·simp [h]
  ·simp [h])
 have hnx':nx x≠x:=fun e=>hxn (by
  rw [← e]
  rcases hnm with h | h
  ·simp [h]
  ·simp [h])
 have hpm':pv x=eb∨pv x∈b1:=by simpa using hpm
 refine⟨⟨hd',?_⟩,hpx,hnx',hpm',hnm⟩
 obtain⟨hd1,hd2,hd3⟩:(eb::b1).Nodup∧(b2++[eb]).Nodup∧∀ a∈b1,∀ b∈b2,a≠b:=by
  rw [← List.cons_append,List.nodup_append] at hd'
  obtain⟨q1,q2,q3⟩:=hd'
  refine⟨q1,?_,fun a ha b hb=>q3 a (by simp [ha]) b hb⟩
  rw [List.nodup_append]
  exact⟨q2,by simp,fun a ha b hb=>by obtain rfl:b=eb:=by simpa using hb
                                     exact fun e=>q3 b (by simp) a ha e.symm⟩
 have heb1:eb∉b1:=(List.nodup_cons.1 hd1).1
 have hsplit:(eb::b1)=(eb::b1).dropLast++[pv x]:=by
  rw [p1];exact(List.dropLast_concat_getLast (by simp)).symm
 have e:eb::(b1++b2)++[eb]=(eb::b1).dropLast++pv x::(nx x::n1):=by
  rw [← hn1]
  have:eb::(b1++b2)++[eb]=(eb::b1)++(b2++[eb]):=by simp
  rw [this,hsplit,List.append_assoc]
  simp
 rw [e,zaf]
 refine⟨?_,vm _ _ _,vm _ _ _,?_⟩
 ·have hc1:vz nx pv ((eb::b1).dropLast++[pv x]):=by
   have:vz nx pv ((eb::b1).dropLast++pv x::[x]):=by
    have e2:(eb::b1).dropLast++pv x::[x]=eb::b1++[x]:=by
     conv=>rhs;rw [hsplit]
     simp
    rw [e2];exact c1
   exact((zaf _ _ _).1 this).1
  refine zd3 _ hc1 ?_ ?_
  ·intro a ha
   rw [List.dropLast_concat] at ha
   refine ja _ _ _ _ ?_
   intro e
   have hnd:=hd1
   rw [hsplit,List.nodup_append] at hnd
   exact hnd.2.2 a ha _ (by simp) e
  ·intro b hb
   rw [← hsplit] at hb
   have hb1:b∈b1:=by simpa using hb
   refine ja _ _ _ _ ?_
   intro e
   rcases hnm with h | h
   ·exact heb1 (by rw [← h,← e];exact hb1)
   ·exact hd3 b hb1 _ h e
 ·have hc2:vz nx pv (nx x::n1):=by
   have:vz nx pv (x::(nx x::n1)):=by rw [← hn1];exact c2
   exact this.2.2
  refine zd3 _ hc2 ?_ ?_
  ·intro a ha
   rw [← hn1,List.dropLast_concat] at ha
   refine ja _ _ _ _ ?_
   intro e
   rcases hpm' with h | h
   ·rw [List.nodup_append] at hd2
    exact hd2.2.2 a ha eb (by simp) (e.trans h)
   ·exact hd3 _ h a ha e.symm
  ·intro b hb
   refine ja _ _ _ _ ?_
   intro e
   rw [hn1] at hd2
   have hb':b∈n1:=by simpa using hb
   exact(List.nodup_cons.1 hd2).1 (e▸hb')
end
section
set_option maxHeartbeats 8000000
open Go.RowKit
set_option maxRecDepth 100000
abbrev LkN:Nat:=194
abbrev MeN:Nat:=196
def lkN (p:Pl)(v:Value)(o n:Nat):Array Value:=#[.int .i64 p.1,.int .i64 p.2.1,.int .i64 p.2.2,v,zt o,zt n]
abbrev LsN:=List (Nat×Pl×Value)
def LsN.ks (L:LsN):Ks:=L.map fun x=>(x.2.1,x.1)
def LsN.drop (L:LsN)(p:Pl):LsN:=L.filter fun x=>!decide (x.2.1=p)
structure zeo (w:World)(eb:Nat)(L:LsN)(nx pv:Nat→Nat):Prop where
 ends:w.heap[eb]?=some (.cells (lkN (0,0,0) (.pointer none) (pv eb) (nx eb)) LkN (0,0))
 link:∀ x∈L,w.heap[x.1]?=some (.cells (lkN x.2.1 x.2.2 (pv x.1) (nx x.1)) LkN (0,0))
 circ:zg0 eb (L.map (·.1)) nx pv
structure zh7 (w:World)(O:Nat→Prop)(mb hb eb:Nat)(nx pv:Nat→Nat)(room:Int)(L:LsN):Prop where
 own:O mb∧O hb∧O eb∧∀ x∈L,O x.1
 mem:w.heap[mb]?=some (.cells #[.int .i64 room,.map (some hb),zt eb] MeN (0,0))
 ring:zeo w eb L nx pv
 map:jc w hb L.ks
 ok:∀ x∈L,zcb x.2.1∧∃ a,x.2.2= .pointer a
def vt (w:World)(O:Nat→Prop)(mb:Nat)(room:Int)(L:LsN):Prop:=∃ hb eb nx pv,zh7 w O mb hb eb nx pv room L
def LsN.get (L:LsN)(p:Pl):Option (Nat×Value):=match L.find? (fun x=>decide (x.2.1=p)) with
 | some x=>some (x.1,x.2.2)
 | none=>none
theorem zjo (L:LsN)(p:Pl):L.ks.get p=(L.get p).map (·.1):=by
 unfold LsN.ks Ks.get LsN.get
 rw [List.find?_map]
 have:((fun x:Pl×Nat=>decide (x.1=p))∘fun x:Nat×Pl×Value=>(x.2.1,x.1))=fun x=>decide (x.2.1=p):=rfl
 rw [this]
 cases L.find? (fun x=>decide (x.2.1=p))<;>rfl
theorem ze8 {L:LsN}{p:Pl}{b:Nat}{v:Value}(h:L.get p=some (b,v)):(b,p,v)∈L:=by
 unfold LsN.get at h
 cases e:L.find? (fun x=>decide (x.2.1=p)) with
 | none=>rw [e] at h;simp at h
 | some x =>
  rw [e] at h
  simp only [Option.some.injEq,Prod.mk.injEq] at h
  have h1:=List.find?_some e
  have h2:=List.mem_of_find?_eq_some e
  simp only [decide_eq_true_eq] at h1
  obtain⟨a,b',c⟩:=x
  simp only at h h1
  obtain⟨rfl,rfl⟩:=h
  subst h1
  exact h2
theorem zlm (w:World):(zeroValue 192).run Tryz.prog w= .ok (.pointer none) w:=by kernel_rfl
theorem zmy (O:Nat→Prop)(mb:Nat)(room:Int)(L:LsN)(p:Pl)(hp:zcb p)(w:World)(h:vt w O mb room L)(b:Nat)(a:Option Addr)(hg:L.get p=some (b,.pointer a)):
  Calls Tryz.prog 144 #[zt mb,plV p] w fun r w'=>r= .returned (.tuple #[.pointer a,.bool true])∧Below w.heap.size w w':=by
 obtain⟨hb,eb,nx,pv,h⟩:=h
 have hk:L.ks.get p=some b:=by rw [zjo,hg];rfl
 have hl:=ze8 hg
 obtain⟨m0,-⟩:=zg h.mem 1 _ rfl
 obtain⟨l0,-⟩:=zg (h.ring.link _ hl) 3 _ rfl
 have hlook:=fun n o=>(h.map.same (w':=(w.alloc o).drewN n) (Below.heap_alloc w o hb h.map.lt)).look Tryz.underlying191 zlm hp
 rw [hk] at hlook
 simp only [zn7,zt,Option.isSome_some] at hlook
 have x0:mb < w.heap.size:=zb h.mem
 have x1:b < w.heap.size:=zb (h.ring.link _ hl)
 have y0:∀ o,(w.alloc o).cell? ⟨mb,1,none⟩=some (.map (some hb)):=fun o=>by rw [zk _ _ ⟨mb,1,none⟩ x0];exact m0
 have y1:∀ o,(w.alloc o).cell? ⟨b,3,none⟩=some (.pointer a):=fun o=>by rw [zk _ _ ⟨b,3,none⟩ x1];exact l0
 unfold plV at hlook ⊢
 unfold zt
 clear m0 l0 hk hl hg hp h
 go_enter Tryz.func144,Tryz.ntmps144
 go_wp2_with fail
 go_quiet (fail)
 go_wp2_with fail
 go_ret2
 exact⟨rfl,below_drewN (ze w _) _⟩
theorem zp3 (O:Nat→Prop)(mb:Nat)(room:Int)(L:LsN)(p:Pl)(hp:zcb p)(w:World)(h:vt w O mb room L)(hg:L.get p=none):
  Calls Tryz.prog 144 #[zt mb,plV p] w fun r w'=>r= .returned (.tuple #[.pointer none,.bool false])∧Below w.heap.size w w':=by
 obtain⟨hb,eb,nx,pv,h⟩:=h
 have hk:L.ks.get p=none:=by rw [zjo,hg];rfl
 obtain⟨m0,-⟩:=zg h.mem 1 _ rfl
 have hlook:=fun n o=>(h.map.same (w':=(w.alloc o).drewN n) (Below.heap_alloc w o hb h.map.lt)).look Tryz.underlying191 zlm hp
 rw [hk] at hlook
 simp only [zn7,Option.isSome_none] at hlook
 have x0:mb < w.heap.size:=zb h.mem
 have y0:∀ o,(w.alloc o).cell? ⟨mb,1,none⟩=some (.map (some hb)):=fun o=>by rw [zk _ _ ⟨mb,1,none⟩ x0];exact m0
 unfold plV at hlook ⊢
 unfold zt
 clear m0 hk hg hp h
 go_enter Tryz.func144,Tryz.ntmps144
 go_wp2_with fail
 go_quiet (fail)
 go_wp2_with fail
 go_ret2
 exact⟨rfl,below_drewN (ze w _) _⟩
theorem LsN.drop_none {L:LsN}{p:Pl}(h:L.get p=none):L.drop p=L:=by
 unfold LsN.drop
 rw [List.filter_eq_self]
 intro x hx
 unfold LsN.get at h
 cases e:L.find? (fun x=>decide (x.2.1=p)) with
 | some y=>rw [e] at h;simp at h
 | none=>simpa using List.find?_eq_none.1 e x hx
theorem LsN.drop_some {L:LsN}{p:Pl}{b:Nat}{v:Value}(hn:(L.ks.map (·.1)).Nodup)(h:L.get p=some (b,v)):∃ l1 l2,L=l1++(b,p,v)::l2∧L.drop p=l1++l2:=by
 obtain⟨l1,l2,e⟩:=List.append_of_mem (ze8 h)
 refine⟨l1,l2,e,?_⟩
 rw [e] at hn ⊢
 unfold LsN.ks at hn
 rw [List.map_map,List.map_append,List.nodup_append] at hn
 obtain⟨-,hn2,hn3⟩:=hn
 rw [List.map_cons,List.nodup_cons] at hn2
 unfold LsN.drop
 rw [List.filter_append,List.filter_cons]
 have a1:l1.filter (fun y=>!decide (y.2.1=p))=l1:=by
  rw [List.filter_eq_self]
  intro y hy
  simpa using hn3 y.2.1 (List.mem_map.2 ⟨y,hy,rfl⟩) p (by simp)
 have a2:l2.filter (fun y=>!decide (y.2.1=p))=l2:=by
  rw [List.filter_eq_self]
  intro y hy
  have:y.2.1≠p:=fun e'=>hn2.1 (List.mem_map.2 ⟨y,hy,e'⟩)
  simpa using this
 rw [a1,a2];simp
theorem z27 (L:LsN)(p:Pl):(L.drop p).ks=L.ks.drop p:=by
 unfold LsN.ks LsN.drop Ks.drop
 rw [List.filter_map];rfl
theorem zsk {w:World}{c d m:Nat}{q:Pl}{u:Value}{o:Nat}{nx:Nat→Nat}(h:w.heap[c]?=some (.cells (lkN q u o (nx c)) LkN (0,0))):(w.setCell ⟨d,5,none⟩ (.pointer (some ⟨m,0,none⟩))).heap[c]?=some (.cells (lkN q u o (upd nx d m c)) LkN (0,0)):=by
 by_cases e:c=d
 ·subst e
  rw [qj h,vm];rfl
 ·rw [heap_setCell_other _ _ _ _ e,ja _ _ _ _ e];exact h
theorem z3x {w:World}{c d m:Nat}{q:Pl}{u:Value}{n:Nat}{pv:Nat→Nat}(h:w.heap[c]?=some (.cells (lkN q u (pv c) n) LkN (0,0))):(w.setCell ⟨d,4,none⟩ (.pointer (some ⟨m,0,none⟩))).heap[c]?=some (.cells (lkN q u (upd pv d m c) n) LkN (0,0)):=by
 by_cases e:c=d
 ·subst e
  rw [qj h,vm];rfl
 ·rw [heap_setCell_other _ _ _ _ e,ja _ _ _ _ e];exact h
theorem zeo.strike {w:World}{eb b:Nat}{p:Pl}{v:Value}{l1 l2:LsN}{nx pv:Nat→Nat}(h:zeo w eb (l1++(b,p,v)::l2) nx pv):
  zeo ((w.setCell ⟨pv b,5,none⟩ (.pointer (some ⟨nx b,0,none⟩))).setCell ⟨nx b,4,none⟩ (.pointer (some ⟨pv b,0,none⟩))) eb (l1++l2) (upd nx (pv b) (nx b)) (upd pv (nx b) (pv b)):=by
 have hc:=h.circ
 rw [List.map_append,List.map_cons] at hc
 refine⟨z3x (zsk h.ends),fun x hx=>z3x (zsk (h.link x ?_)),?_⟩
 ·rcases List.mem_append.1 hx with e | e
  ·simp [e]
  ·simp [e]
 ·rw [List.map_append];exact hc.strike.1
theorem zf.map {O:Nat→Prop}{T:List Nat}{a w w':World}{hb:Nat}{l:Ks}(h:zf O T a w)(hO:Ext O a w hb)(hm:jc w hb l)(hg:w.grownBy w' (some hb)):zf O T a w':=by
 refine h.trans ⟨hg.os,hg.tape,hg.output,hg.size,fun k hk=>?_⟩
 by_cases e:k=hb
 ·subst e
  obtain⟨es,c,e⟩:=hm.isMap
  exact .inr ⟨hO,.inr ⟨es,c,e⟩⟩
 ·exact .inl (hg.block k hk (fun e'=>e (by simpa using e')))
theorem jc.not {w:World}{hb k:Nat}{l:Ks}(h:jc w hb l){c:Array Value}{t:TypeId}{x:Nat×Nat}(e:w.heap[k]?=some (.cells c t x)):some k≠some hb:=by
 intro e'
 simp only [Option.some.injEq] at e'
 subst e'
 obtain⟨es,cl,e2⟩:=h.isMap
 rw [e] at e2;simp at e2
theorem zeo.same {w w':World}{eb:Nat}{L:LsN}{nx pv:Nat→Nat}(h:zeo w eb L nx pv)(e:∀(k:Nat) (c:Array Value),w.heap[k]?=some (Obj.cells c LkN (0,0))→w'.heap[k]?=w.heap[k]?):zeo w' eb L nx pv :=
 ⟨(e _ _ h.ends).trans h.ends,fun x hx=>(e _ _ (h.link x hx)).trans (h.link x hx),h.circ⟩
theorem z0e (O:Nat→Prop)(mb:Nat)(room:Int)(L:LsN)(p:Pl)(hp:zcb p)(w:World)(h:vt w O mb room L)(b:Nat)(v:Value)(hg:L.get p=some (b,v)):
  Calls Tryz.prog 189 #[zt mb,plV p] w fun r w'=>r= .returned (.tuple #[])∧zf O [LkN] w w'∧vt w' O mb room (L.drop p):=by
 obtain⟨hb,eb,nx,pv,h⟩:=h
 have hk:L.ks.get p=some b:=by rw [zjo,hg];rfl
 have hl:=ze8 hg
 obtain⟨D,-,-,hnd,-⟩:=h.map
 obtain⟨l1,l2,eL,eD⟩:=LsN.drop_some hnd hg
 have hc:=h.ring.circ
 rw [eL,List.map_append,List.map_cons] at hc
 obtain⟨hc',np,nn,mp,mn⟩:=hc.strike
 simp only at hc' np nn mp mn
 -- the links around it
 have hP:∃ q u,w.heap[pv b]?=some (.cells (lkN q u (pv (pv b)) (nx (pv b))) LkN (0,0)):=by
  rcases mp with e | e
  ·rw [e];exact⟨_,_,h.ring.ends⟩
  ·obtain⟨x,hx,ex⟩:=List.mem_map.1 e
   rw [← ex];exact⟨_,_,h.ring.link x (by rw [eL];simp [hx])⟩
 have hN:∃ q u,w.heap[nx b]?=some (.cells (lkN q u (pv (nx b)) (nx (nx b))) LkN (0,0)):=by
  rcases mn with e | e
  ·rw [e];exact⟨_,_,h.ring.ends⟩
  ·obtain⟨x,hx,ex⟩:=List.mem_map.1 e
   rw [← ex];exact⟨_,_,h.ring.link x (by rw [eL];simp [hx])⟩
 obtain⟨qp,up,hP⟩:=hP
 obtain⟨qn,un,hN⟩:=hN
 obtain⟨m0,-⟩:=zg h.mem 1 _ rfl
 obtain⟨l4,-⟩:=zg (h.ring.link _ hl) 4 _ rfl
 obtain⟨l5,-⟩:=zg (h.ring.link _ hl) 5 _ rfl
 obtain⟨p5,g5⟩:=zg hP 5 _ rfl
 obtain⟨n4,g4⟩:=zg hN 4 _ rfl
 have hlook:=fun n o=>(h.map.same (w':=(w.alloc o).drewN n) (Below.heap_alloc w o hb h.map.lt)).look Tryz.underlying191 zlm hp
 rw [hk] at hlook
 simp only [zn7,zt,Option.isSome_some] at hlook
 have y0:∀ o,(w.alloc o).cell? ⟨mb,1,none⟩=some (.map (some hb)):=fun o=>by rw [zk _ _ ⟨mb,1,none⟩ (zb h.mem)];exact m0
 have HH:=za h
 have HL:=za hl
 have HE:=za (And.intro eL eD)
 have HC:=za hc'
 have HW:=za (And.intro hP hN)
 have HK:=za hk
 have HG:=za hg
 have HP:=za hp
 have HM:=za (And.intro mp mn)
 unfold plV at hlook ⊢
 unfold zt
 have HL4:=za l4
 have HL5:=za l5
 have HP5:=za (And.intro p5 g5)
 have HN4:=za (And.intro n4 g4)
 clear m0 l4 l5 p5 g5 n4 g4 hk hl hg hp h eL eD hc' hP hN hc hnd mp mn
 go_enter Tryz.func189,Tryz.ntmps189
 go_wp2_with fail
 go_quiet (fail)
 clear hlook
 have HB0:Hid (Below w.heap.size w ((w.alloc (.cells #[.int .i64 p.1,.int .i64 p.2.1,.int .i64 p.2.2] 126)).drewN nq)):=below_drewN (ze w _) _
 have HK0:Hid (((w.alloc (.cells #[.int .i64 p.1,.int .i64 p.2.1,.int .i64 p.2.2] 126)).drewN nq).heap[w.heap.size]?=some (.cells #[.int .i64 p.1,.int .i64 p.2.1,.int .i64 p.2.2] 126 (0,0))):=heap_alloc_last _ _
 have hz:w.heap.size < ((w.alloc (.cells #[.int .i64 p.1,.int .i64 p.2.1,.int .i64 p.2.2] 126)).drewN nq).heap.size:=zb HK0.o
 clear y0
 generalize (w.alloc (.cells #[.int .i64 p.1,.int .i64 p.2.1,.int .i64 p.2.2] 126)).drewN nq=W1 at *
 have cc:∀ {a:Addr} {x:Value},w.cell? a=some x→W1.cell? a=some x:=fun {a x} e=>by rw [HB0.o.cell (zj e)];exact e
 have q4:W1.cell? ⟨b,4,none⟩=some (.pointer (some ⟨pv b,0,none⟩)):=cc HL4.o
 have q5:W1.cell? ⟨b,5,none⟩=some (.pointer (some ⟨nx b,0,none⟩)):=cc HL5.o
 have r5:W1.cell? ⟨pv b,5,none⟩=some (.pointer (some ⟨nx (pv b),0,none⟩)):=cc HP5.o.1
 have r4:W1.cell? ⟨nx b,4,none⟩=some (.pointer (some ⟨pv (nx b),0,none⟩)):=cc HN4.o.1
 have s5:W1.frozen? ⟨pv b,5,none⟩=false:=by rw [HB0.o.frozen (p:=⟨pv b,5,none⟩) (zj (p:=⟨pv b,5,none⟩) HP5.o.1)];exact HP5.o.2
 have s4:W1.frozen? ⟨nx b,4,none⟩=false:=by rw [HB0.o.frozen (p:=⟨nx b,4,none⟩) (zj (p:=⟨nx b,4,none⟩) HN4.o.1)];exact HN4.o.2
 clear cc
 go_wp2_with fail
 go_region_held3 (fun w'=>w'.cell? ⟨b,4,none⟩=some (.pointer (some ⟨pv b,0,none⟩))∧w'.cell? ⟨b,5,none⟩=some (.pointer (some ⟨nx b,0,none⟩))) (go_keep) (fail)
 rename_i hheld
 clear hheld
 -- what has come of the ring
 have HT:Hid (zf O [LkN] w ((W1.setCell ⟨pv b,5,none⟩ (.pointer (some ⟨nx b,0,none⟩))).setCell ⟨nx b,4,none⟩ (.pointer (some ⟨pv b,0,none⟩))).drew∧zeo ((W1.setCell ⟨pv b,5,none⟩ (.pointer (some ⟨nx b,0,none⟩))).setCell ⟨nx b,4,none⟩ (.pointer (some ⟨pv b,0,none⟩))).drew eb (L.drop p) (upd nx (pv b) (nx b)) (upd pv (nx b) (pv b)) ∧
   ∀ k,k < w.heap.size+1→(∀ c,W1.heap[k]?≠some (.cells c LkN (0,0)))→((W1.setCell ⟨pv b,5,none⟩ (.pointer (some ⟨nx b,0,none⟩))).setCell ⟨nx b,4,none⟩ (.pointer (some ⟨pv b,0,none⟩))).drew.heap[k]?=W1.heap[k]?):=by
  have hr1:zeo W1 eb L nx pv:=HH.o.ring.same fun k c e=>HB0.o.block k (zb e)
  have hP1:=(HB0.o.block _ (zb HW.o.1)).trans HW.o.1
  have hN1:=(HB0.o.block _ (zb HW.o.2)).trans HW.o.2
  have oP:O (pv b):=by
   rcases HM.o.1 with e | e
   ·rw [e];exact HH.o.own.2.2.1
   ·obtain⟨x,hx,ex⟩:=List.mem_map.1 e
    rw [← ex];exact HH.o.own.2.2.2 x (by rw [HE.o.1];simp [hx])
  have oN:O (nx b):=by
   rcases HM.o.2 with e | e
   ·rw [e];exact HH.o.own.2.2.1
   ·obtain⟨x,hx,ex⟩:=List.mem_map.1 e
    rw [← ex];exact HH.o.own.2.2.2 x (by rw [HE.o.1];simp [hx])
  refine⟨?_,?_,?_⟩
  ·have t1:zf O [LkN] w (W1.setCell ⟨pv b,5,none⟩ (.pointer (some ⟨nx b,0,none⟩))):=(zf.of_below HB0.o).set (.inl oP) hP1 (by simp) _
   exact(t1.set (.inl oN) (zsk hN1) (by simp) _).drew
  ·rw [HE.o.2]
   rw [HE.o.1] at hr1
   exact hr1.strike.same fun k c _=>rfl
  ·intro k _ hk
   have e1:k≠nx b:=fun e=>hk _ (e▸hN1)
   have e2:k≠pv b:=fun e=>hk _ (e▸hP1)
   show((W1.setCell _ _).setCell _ _).heap[k]?=_
   rw [heap_setCell_other _ _ _ _ e1,heap_setCell_other _ _ _ _ e2]
 generalize ((W1.setCell ⟨pv b,5,none⟩ (.pointer (some ⟨nx b,0,none⟩))).setCell ⟨nx b,4,none⟩ (.pointer (some ⟨pv b,0,none⟩))).drew=W2 at *
 clear q4 q5 r5 r4 s5 s4 HP5 HN4 HL4 HL5 HW
 have hm1:W1.heap[mb]?=some (.cells #[.int .i64 room,.map (some hb),zt eb] MeN (0,0)):=(HB0.o.block _ (zb HH.o.mem)).trans HH.o.mem
 have hm2:W2.heap[mb]?=some (.cells #[.int .i64 room,.map (some hb),zt eb] MeN (0,0)):=by
  rw [HT.o.2.2 mb (Nat.lt_succ_of_lt (zb HH.o.mem)) (fun c e=>by rw [hm1] at e;simp only [Option.some.injEq,Obj.cells.injEq] at e;exact absurd e.2.1 (by decide))];exact hm1
 have hp2:W2.heap[w.heap.size]?=some (.cells #[.int .i64 p.1,.int .i64 p.2.1,.int .i64 p.2.2] 126 (0,0)):=by
  rw [HT.o.2.2 w.heap.size (Nat.lt_succ_self _) (fun c e=>by rw [HK0.o] at e;simp only [Option.some.injEq,Obj.cells.injEq] at e;exact absurd e.2.1 (by decide))];exact HK0.o
 have hmap2:jc W2.drew hb L.ks:=by
  refine HH.o.map.same ?_
  show W2.heap[hb]?=_
  obtain⟨es,c,e⟩:=HH.o.map.isMap
  rw [HT.o.2.2 hb (Nat.lt_succ_of_lt HH.o.map.lt) (fun c' e'=>by rw [HB0.o.block _ HH.o.map.lt,e] at e';simp at e'),HB0.o.block _ HH.o.map.lt]
 obtain⟨w3,hrun,hmap3,hgrow⟩:=hmap2.del Tryz.underlying191 HP.o HK.o 0
 unfold plV at hrun
 obtain⟨a1,-⟩:=zg hm2 1 _ rfl
 obtain⟨b0,-⟩:=zg hp2 0 _ rfl
 obtain⟨b1,-⟩:=zg hp2 1 _ rfl
 obtain⟨b2,-⟩:=zg hp2 2 _ rfl
 have hm3:w3.heap[mb]?=some (.cells #[.int .i64 room,.map (some hb),zt eb] MeN (0,0)):=(hgrow.block mb (zb hm2) (fun e=>by
  simp only [Option.some.injEq] at e
  obtain⟨es,c,e'⟩:=hmap2.isMap
  rw [← e] at e'
  have:some (Obj.cells _ _ _)=some (Obj.map es c):=hm2.symm.trans e'
  simp at this)).trans hm2
 have hp3:w3.heap[w.heap.size]?=some (.cells #[.int .i64 p.1,.int .i64 p.2.1,.int .i64 p.2.2] 126 (0,0)):=(hgrow.block w.heap.size (zb hp2) (fun e=>by
  simp only [Option.some.injEq] at e
  obtain⟨es,c,e'⟩:=hmap2.isMap
  rw [← e] at e'
  have:some (Obj.cells _ _ _)=some (Obj.map es c):=hp2.symm.trans e'
  simp at this)).trans hp2
 obtain⟨c1,-⟩:=zg hm3 1 _ rfl
 obtain⟨d0,-⟩:=zg hp3 0 _ rfl
 obtain⟨d1,-⟩:=zg hp3 1 _ rfl
 obtain⟨d2,-⟩:=zg hp3 2 _ rfl
 have HM3:=za hmap3
 have HM3b:=za hm3
 have HG3:Hid (W2.grownBy w3 (some hb)):=⟨hgrow.os,hgrow.tape,hgrow.output,hgrow.size,hgrow.block⟩
 have HM2:=za hmap2
 clear hm1 hm2 hp2 hm3 hp3 hmap2 hmap3 hgrow
 go_wp2_with fail
 go_region_held3 (fun w'=>w'.cell? ⟨mb,1,none⟩=some (.map (some hb))∧w'.cell? ⟨w.heap.size,0,none⟩=some (.int .i64 p.1)∧w'.cell? ⟨w.heap.size,1,none⟩=some (.int .i64 p.2.1)∧w'.cell? ⟨w.heap.size,2,none⟩=some (.int .i64 p.2.2)) (go_keep) (fail)
 go_wp2_with fail
 go_end0
 have hin:∀ x∈L.drop p,x∈L:=fun x hx=>(List.mem_filter.1 hx).1
 have hm2:jc W2 hb L.ks:=HM2.o.same rfl
 refine⟨rfl,HT.o.1.map (.inl HH.o.own.2.1) hm2 HG3.o,hb,eb,upd nx (pv b) (nx b),upd pv (nx b) (pv b),⟨HH.o.own.1,HH.o.own.2.1,HH.o.own.2.2.1,fun x hx=>HH.o.own.2.2.2 x (hin x hx)⟩,HM3b.o,?_,?_,fun x hx=>HH.o.ok x (hin x hx)⟩
 ·exact HT.o.2.1.same fun k c e=>HG3.o.block k (zb e) (hm2.not e)
 ·rw [z27];exact HM3.o
theorem z0y (O:Nat→Prop)(mb:Nat)(room:Int)(L:LsN)(p:Pl)(hp:zcb p)(w:World)(h:vt w O mb room L)(hg:L.get p=none):
  Calls Tryz.prog 189 #[zt mb,plV p] w fun r w'=>r= .returned (.tuple #[])∧Below w.heap.size w w':=by
 obtain⟨hb,eb,nx,pv,h⟩:=h
 have hk:L.ks.get p=none:=by rw [zjo,hg];rfl
 obtain⟨m0,-⟩:=zg h.mem 1 _ rfl
 have hlook:=fun n o=>(h.map.same (w':=(w.alloc o).drewN n) (Below.heap_alloc w o hb h.map.lt)).look Tryz.underlying191 zlm hp
 rw [hk] at hlook
 simp only [zn7,Option.isSome_none] at hlook
 have x0:mb < w.heap.size:=zb h.mem
 have y0:∀ o,(w.alloc o).cell? ⟨mb,1,none⟩=some (.map (some hb)):=fun o=>by rw [zk _ _ ⟨mb,1,none⟩ x0];exact m0
 unfold plV at hlook ⊢
 unfold zt
 clear m0 hk hg hp h
 go_enter Tryz.func189,Tryz.ntmps189
 go_wp2_with fail
 go_quiet (fail)
 go_wp2_with fail
 first | go_end0 | refine bodyPost_ret (results_none rfl _ _ _) rfl ?_
 exact⟨rfl,below_drewN (ze w _) _⟩
theorem vt.stay {w w':World}{O O1 O':Nat→Prop}{T:List Nat}{mb:Nat}{room:Int}{L:LsN}(h:vt w O mb room L)(ht:zf O1 T w w')(h1:∀ k,O k→¬ O1 k)(h2:∀ k,O k→O' k):vt w' O' mb room L:=by
 obtain⟨hb,eb,nx,pv,h⟩:=h
 have same:∀ k,O k→k < w.heap.size→w'.heap[k]?=w.heap[k]?:=fun k hk hlt=>by
  rcases ht.block k hlt with e | ⟨e,-⟩
  ·exact e
  ·exact absurd e (h1 k hk)
 refine⟨hb,eb,nx,pv,⟨h2 _ h.own.1,h2 _ h.own.2.1,h2 _ h.own.2.2.1,fun x hx=>h2 _ (h.own.2.2.2 x hx)⟩,(same _ h.own.1 (zb h.mem)).trans h.mem,?_,h.map.same (same _ h.own.2.1 h.map.lt),h.ok⟩
 exact⟨(same _ h.own.2.2.1 (zb h.ring.ends)).trans h.ring.ends,fun x hx=>(same _ (h.own.2.2.2 x hx) (zb (h.ring.link x hx))).trans (h.ring.link x hx),h.ring.circ⟩
theorem vt.below {w w':World}{O O':Nat→Prop}{mb:Nat}{room:Int}{L:LsN}(h:vt w O mb room L)(hb:Below w.heap.size w w')(h2:∀ k,O k→O' k):vt w' O' mb room L :=
 h.stay (O1:=fun _=>False) (T:=[]) (.of_below hb) (fun _ _ h=>h) h2
theorem zon (O:Nat→Prop)(mb:Nat)(room:Int)(L:LsN)(p:Pl)(hp:zcb p)(w:World)(h:vt w O mb room L):
  Calls Tryz.prog 189 #[zt mb,plV p] w fun r w'=>r= .returned (.tuple #[])∧zf O [LkN] w w'∧vt w' O mb room (L.drop p):=by
 cases hg:L.get p with
 | some x=>exact z0e O mb room L p hp w h x.1 x.2 hg
 | none =>
  refine(z0y O mb room L p hp w h hg).mono ?_
  rintro r w' ⟨rfl,hb⟩
  rw [LsN.drop_none hg]
  exact⟨rfl,.of_below hb,h.below hb (fun _ h=>h)⟩
end
end Go.Proofs.YtinhekmmdlhfkaaGreatDoor
