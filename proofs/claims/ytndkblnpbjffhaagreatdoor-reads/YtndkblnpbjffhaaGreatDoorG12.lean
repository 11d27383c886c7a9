import Derived.Test.YtndkblnpbjffhaaGreatDoorG11
import Derived.Deep.RegionHeld3
import Derived.Deep.CutRange
set_option maxHeartbeats 8000000
set_option maxRecDepth 100000
open Go.RowKit
namespace Go.Proofs.YtndkblnpbjffhaaGreatDoor
def upd (f:Nat→Nat)(a b:Nat):Nat→Nat:=fun x=>if x=a then b else f x
theorem vt (f:Nat→Nat)(a b:Nat):upd f a b a=b:=if_pos rfl
theorem jh (f:Nat→Nat)(a b x:Nat)(h:x≠a):upd f a b x=f x:=if_neg h
def zag (nx pv:Nat→Nat):List Nat→Prop
 | a::b::r=>nx a=b∧pv b=a∧zag nx pv (b::r)
 | _=>True
theorem zak {nx pv:Nat→Nat}:∀(A:List Nat) (a:Nat) (h:List Nat),zag nx pv (A++a::h)↔zag nx pv (A++[a])∧zag nx pv (a::h)
 | [],a,h=>by simp [zag]
 | [b],a,h=>by
  show(nx b=a∧pv a=b∧zag nx pv (a::h))↔(nx b=a∧pv a=b∧zag nx pv [a])∧zag nx pv (a::h);simp [zag,and_assoc]
 | b::c::r,a,h=>by
  have D:=zak (nx:=nx) (pv:=pv) (c::r) a h;show(nx b=c∧pv c=b∧zag nx pv ((c::r)++a::h))↔(nx b=c∧pv c=b∧zag nx pv ((c::r)++[a]))∧zag nx pv (a::h);rw [D];simp [and_assoc]
theorem zew {nx pv A D:Nat→Nat}:∀(l:List Nat),zag nx pv l→(∀ a∈l.dropLast,A a=nx a)→(∀ b∈l.tail,D b=pv b)→zag A D l
 | [],_,_,_=>trivial
 | [_],_,_,_=>trivial
 | a::b::r,h,h1,h2=>by
  obtain⟨H,I,J⟩:=h;refine⟨by rw [h1 a (by simp)];exact H,by rw [h2 b (by simp)];exact I,zew (b::r) J (fun x E=>h1 x (by simp [E])) (fun x E=>h2 x (by simp at E ⊢;exact .inr E))⟩
def zio (h:Nat)(r:List Nat)(nx pv:Nat→Nat):Prop:=(h::r).Nodup∧zag nx pv (h::r++[h])
theorem zks (h:Nat):zio h [] (fun _=>h) (fun _=>h):=⟨by simp,rfl,rfl,trivial⟩
theorem zij {nx pv:Nat→Nat}:∀(a:Nat) (l:List Nat) (x:Nat),zag nx pv (a::l++[x])→pv x=(a::l).getLast (by simp)∧nx ((a::l).getLast (by simp))=x
 | a,[],x,h=>⟨h.2.1,h.1⟩
 | a,b::r,x,h=>by
  have A:zag nx pv ((b::r)++[x]):=h.2.2;have:=zij b r x A;simpa using this
theorem zio.last {r:Nat}{A:List Nat}{nx pv:Nat→Nat}(h:zio r A nx pv):pv r=(r::A).getLast (by simp)∧nx ((r::A).getLast (by simp))=r:=zij r A r h.2
theorem zio.first {r b:Nat}{A:List Nat}{nx pv:Nat→Nat}(h:zio r (b::A) nx pv):nx r=b∧pv b=r:=⟨h.2.1,h.2.2.1⟩
theorem zio.pv_mem {r:Nat}{A:List Nat}{nx pv:Nat→Nat}(h:zio r A nx pv):pv r∈r::A:=by rw [h.last.1];exact List.getLast_mem _
theorem zio.add {r D:Nat}{A:List Nat}{nx pv:Nat→Nat}(h:zio r A nx pv)(J:D∉r::A):zio r (A++[D]) (upd (upd nx (pv r) D) D r) (upd (upd pv r D) D (pv r)):=by
 obtain⟨L,Z⟩:=h.last;have Y:=h.pv_mem;have W:pv r≠D:=fun e=>J (e▸Y);have V:r≠D:=fun e=>J (e▸List.mem_cons_self ..);obtain⟨U,X⟩:=h;refine⟨?_,?_⟩
 ·rw [← List.cons_append,List.nodup_append];refine⟨U,by simp,fun a H b Q=>?_⟩;obtain rfl:b=D:=by simpa using Q
  exact fun e=>J (e▸H)
 ·rw [← List.cons_append,List.append_assoc];show zag _ _ ((r::A)++D::[r]);rw [zak];refine⟨?_,⟨vt _ _ _,by rw [jh _ _ _ _ V,vt],trivial⟩⟩
  -- r::A,then D
  have E:(r::A)=(r::A).dropLast++[(r::A).getLast (by simp)]:=(List.dropLast_concat_getLast (by simp)).symm;rw [E,← L,List.append_assoc];show zag _ _ ((r::A).dropLast++pv r::[D]);rw [zak];refine⟨?_,⟨by rw [jh _ _ _ _ W,vt],vt _ _ _,trivial⟩⟩;have S:zag nx pv ((r::A).dropLast++[pv r]):=by
   rw [L,← E];have:zag nx pv ((r::A).dropLast++(r::A).getLast (by simp)::[r]):=by
    have e:(r::A).dropLast++(r::A).getLast (by simp)::[r]=(r::A)++[r]:=by
     conv=>rhs;rw [E]
     simp
    rw [e];exact X
   have:=((zak _ _ _).1 this).1;rwa [← E] at this
  refine zew _ S ?_ ?_
  ·intro a H;rw [List.dropLast_concat] at H;have R:a∈r::A:=List.dropLast_subset _ H;have h1:a≠D:=fun e=>J (e▸R);have h2:a≠pv r:=by
    rw [L];intro e;have K:=U;rw [E,List.nodup_append] at K;exact K.2.2 a H _ (by simp) e
   rw [jh _ _ _ _ h1,jh _ _ _ _ h2]
  ·intro b Q;have I:b∈A:=by
    have:(r::A).dropLast++[pv r]=r::A:=by rw [L];exact E.symm
    rw [this] at Q;simpa using Q
   have h1:b≠D:=fun e=>J (by rw [← e];simp [I]);have h2:b≠r:=fun e=>(List.nodup_cons.1 U).1 (e▸I);rw [jh _ _ _ _ h1,jh _ _ _ _ h2]
theorem zio.strike {A x:Nat}{D E:List Nat}{nx pv:Nat→Nat}(h:zio A (D++x::E) nx pv):
  zio A (D++E) (upd nx (pv x) (nx x)) (upd pv (nx x) (pv x))∧pv x≠x∧nx x≠x∧(pv x=A∨pv x∈D)∧(nx x=A∨nx x∈E):=by
 obtain⟨hd,hc⟩:=h;have V:zag nx pv ((A::D)++x::(E++[A])):=by simpa using hc
 rw [zak] at V;obtain⟨c1,Q⟩:=V;obtain⟨p1,p2⟩:=zij A D x c1;have ac:x∉A::(D++E):=by
  have hp:(A::(D++x::E)).Perm (x::A::(D++E)):=by
   refine((List.perm_middle).cons A).trans ?_;exact List.Perm.swap ..
  exact(List.nodup_cons.1 ((hp.nodup_iff).1 hd)).1
 have R:(A::(D++E)).Nodup:=by
  refine List.Nodup.sublist ?_ hd;exact(List.Sublist.append (List.Sublist.refl _) (List.sublist_cons_self _ _)).cons_cons _
 have Z:pv x∈A::D:=by rw [p1];exact List.getLast_mem _
 -- what stands behind x
 obtain⟨n1,H,aj⟩:∃ r,E++[A]=nx x::r∧pv (nx x)=x:=by
  cases E with
  | nil=>exact⟨[],by rw [Q.1];rfl,by rw [Q.1];exact Q.2.1⟩
  | cons y r=>exact⟨r++[A],by rw [Q.1];rfl,by rw [Q.1];exact Q.2.1⟩
 have S:nx x=A∨nx x∈E:=by
  cases E with
  | nil=>simp at H;exact .inl H.1.symm
  | cons y r=>simp at H;exact .inr (by rw [← H.1];simp)
 have ai:pv x≠x:=fun e=>ac (by
  rw [← e];rcases List.mem_cons.1 Z with h | h
  ·simp [h]
  ·simp [h])
 have ah:nx x≠x:=fun e=>ac (by
  rw [← e];rcases S with h | h
  ·simp [h]
  ·simp [h])
 have aa:pv x=A∨pv x∈D:=by simpa using Z
 refine⟨⟨R,?_⟩,ai,ah,aa,S⟩;obtain⟨W,J,X⟩:(A::D).Nodup∧(E++[A]).Nodup∧∀ a∈D,∀ b∈E,a≠b:=by
  rw [← List.cons_append,List.nodup_append] at R;obtain⟨q1,q2,q3⟩:=R;refine⟨q1,?_,fun a I b L=>q3 a (by simp [I]) b L⟩;rw [List.nodup_append];exact⟨q2,by simp,fun a I b L=>by (obtain rfl:b=A:=by simpa using L);exact fun e=>q3 b (by simp) a I e.symm⟩
 have ag:A∉D:=(List.nodup_cons.1 W).1;have K:(A::D)=(A::D).dropLast++[pv x]:=by
  rw [p1];exact(List.dropLast_concat_getLast (by simp)).symm
 have e:A::(D++E)++[A]=(A::D).dropLast++pv x::(nx x::n1):=by
  rw [← H];have:A::(D++E)++[A]=(A::D)++(E++[A]):=by simp
  rw [this,K,List.append_assoc];simp
 rw [e,zak];refine⟨?_,vt _ _ _,vt _ _ _,?_⟩
 ·have ae:zag nx pv ((A::D).dropLast++[pv x]):=by
   have:zag nx pv ((A::D).dropLast++pv x::[x]):=by
    have e2:(A::D).dropLast++pv x::[x]=A::D++[x]:=by
     conv=>rhs;rw [K]
     simp
    rw [e2];exact c1
   exact((zak _ _ _).1 this).1
  refine zew _ ae ?_ ?_
  ·intro a I;rw [List.dropLast_concat] at I;refine jh _ _ _ _ ?_;intro e;have Y:=W;rw [K,List.nodup_append] at Y;exact Y.2.2 a I _ (by simp) e
  ·intro b L;rw [← K] at L;have U:b∈D:=by simpa using L
   refine jh _ _ _ _ ?_;intro e;rcases S with h | h
   ·exact ag (by rw [← h,← e];exact U)
   ·exact X b U _ h e
 ·have af:zag nx pv (nx x::n1):=by
   have:zag nx pv (x::(nx x::n1)):=by rw [← H];exact Q
   exact this.2.2
  refine zew _ af ?_ ?_
  ·intro a I;rw [← H,List.dropLast_concat] at I;refine jh _ _ _ _ ?_;intro e;rcases aa with h | h
   ·rw [List.nodup_append] at J;exact J.2.2 a I A (by simp) (e.trans h)
   ·exact X _ h a I e.symm
  ·intro b L;refine jh _ _ _ _ ?_;intro e;rw [H] at J;have ad:b∈n1:=by simpa using L
   exact(List.nodup_cons.1 J).1 (e▸ad)
abbrev LkN:Nat:=170
abbrev MeN:Nat:=172
def lkN (p:Pl)(v:Value)(o n:Nat):Array Value:=#[.int .i64 p.1,.int .i64 p.2.1,.int .i64 p.2.2,v,zo o,zo n]
abbrev LsN:=List (Nat×Pl×Value)
def LsN.ks (L:LsN):Ks:=L.map fun x=>(x.2.1,x.1)
def LsN.drop (L:LsN)(p:Pl):LsN:=L.filter fun x=>!decide (x.2.1=p)
structure zfn (w:World)(eb:Nat)(L:LsN)(nx pv:Nat→Nat):Prop where
 ends:w.heap[eb]?=some (.cells (lkN (0,0,0) (.pointer none) (pv eb) (nx eb)) LkN (0,0))
 link:∀ x∈L,w.heap[x.1]?=some (.cells (lkN x.2.1 x.2.2 (pv x.1) (nx x.1)) LkN (0,0))
 circ:zio eb (L.map (·.1)) nx pv
structure zix (w:World)(O:Nat→Prop)(mb hb eb:Nat)(nx pv:Nat→Nat)(room:Int)(L:LsN):Prop where
 own:O mb∧O hb∧O eb∧∀ x∈L,O x.1
 mem:w.heap[mb]?=some (.cells #[.int .i64 room,.map (some hb),zo eb] MeN (0,0))
 ring:zfn w eb L nx pv
 map:jq w hb L.ks
 ok:∀ x∈L,zct x.2.1∧∃ a,x.2.2= .pointer a
def zab (w:World)(O:Nat→Prop)(A:Nat)(room:Int)(L:LsN):Prop:=∃ r h nx pv,zix w O A r h nx pv room L
def LsN.get (L:LsN)(p:Pl):Option (Nat×Value):=match L.find? (fun x=>decide (x.2.1=p)) with
 | some x=>some (x.1,x.2.2)
 | none=>none
theorem zjj (L:LsN)(p:Pl):L.ks.get p=(L.get p).map (·.1):=by
 unfold LsN.ks Ks.get LsN.get;rw [List.find?_map];have:((fun x:Pl×Nat=>decide (x.1=p))∘fun x:Nat×Pl×Value=>(x.2.1,x.1))=fun x=>decide (x.2.1=p):=rfl;rw [this];cases L.find? (fun x=>decide (x.2.1=p))<;>rfl
theorem zf1 {L:LsN}{p:Pl}{b:Nat}{v:Value}(h:L.get p=some (b,v)):(b,p,v)∈L:=by
 unfold LsN.get at h;cases e:L.find? (fun x=>decide (x.2.1=p)) with
 | none=>rw [e] at h;simp at h
 | some x =>
  rw [e] at h;simp only [Option.some.injEq,Prod.mk.injEq] at h;have h1:=List.find?_some e;have h2:=List.mem_of_find?_eq_some e;simp only [decide_eq_true_eq] at h1;obtain⟨a,r,c⟩:=x;simp only at h h1;obtain⟨rfl,rfl⟩:=h;subst h1;exact h2
theorem zls (w:World):(zeroValue 168).run Tryz.prog w= .ok (.pointer none) w:=by kernel_rfl
theorem zmc (O:Nat→Prop)(D:Nat)(room:Int)(L:LsN)(p:Pl)(K:zct p)(w:World)(h:zab w O D room L)(b:Nat)(a:Option Addr)(E:L.get p=some (b,.pointer a)):
  Calls Tryz.prog 140 #[zo D,plV p] w fun r w'=>r= .returned (.tuple #[.pointer a,.bool true])∧Below w.heap.size w w':=by
 obtain⟨I,V,nx,pv,h⟩:=h;have J:L.ks.get p=some b:=by rw [zjj,E];rfl
 have H:=zf1 E;obtain⟨R,-⟩:=zf h.mem 1 _ rfl;obtain⟨Q,-⟩:=zf (h.ring.link _ H) 3 _ rfl;have A:=fun n o=>(h.map.same (w':=(w.alloc o).drewN n) (Below.heap_alloc w o I h.map.lt)).look Tryz.underlying167 zls K;rw [J] at A;simp only [zom,zo,Option.isSome_some] at A;have S:D < w.heap.size:=zb h.mem;have U:b < w.heap.size:=zb (h.ring.link _ H);have W:∀ o,(w.alloc o).cell? ⟨D,1,none⟩=some (.map (some I)):=fun o=>by rw [zl _ _ ⟨D,1,none⟩ S];exact R
 have X:∀ o,(w.alloc o).cell? ⟨b,3,none⟩=some (.pointer a):=fun o=>by rw [zl _ _ ⟨b,3,none⟩ U];exact Q
 unfold plV at A ⊢;unfold zo;clear R Q J H E K h;go_enter Tryz.func140,Tryz.ntmps140;go_wp2_with fail;go_quiet (fail);go_wp2_with fail;go_ret2;exact⟨rfl,below_drewN (ze w _) _⟩
theorem zrl (O:Nat→Prop)(D:Nat)(room:Int)(L:LsN)(p:Pl)(J:zct p)(w:World)(h:zab w O D room L)(H:L.get p=none):
  Calls Tryz.prog 140 #[zo D,plV p] w fun r w'=>r= .returned (.tuple #[.pointer none,.bool false])∧Below w.heap.size w w':=by
 obtain⟨E,R,nx,pv,h⟩:=h;have I:L.ks.get p=none:=by rw [zjj,H];rfl
 obtain⟨K,-⟩:=zf h.mem 1 _ rfl;have A:=fun n o=>(h.map.same (w':=(w.alloc o).drewN n) (Below.heap_alloc w o E h.map.lt)).look Tryz.underlying167 zls J;rw [I] at A;simp only [zom,Option.isSome_none] at A;have Q:D < w.heap.size:=zb h.mem;have S:∀ o,(w.alloc o).cell? ⟨D,1,none⟩=some (.map (some E)):=fun o=>by rw [zl _ _ ⟨D,1,none⟩ Q];exact K
 unfold plV at A ⊢;unfold zo;clear K I H J h;go_enter Tryz.func140,Tryz.ntmps140;go_wp2_with fail;go_quiet (fail);go_wp2_with fail;go_ret2;exact⟨rfl,below_drewN (ze w _) _⟩
theorem LsN.drop_none {L:LsN}{p:Pl}(h:L.get p=none):L.drop p=L:=by
 unfold LsN.drop;rw [List.filter_eq_self];intro x r;unfold LsN.get at h;cases e:L.find? (fun x=>decide (x.2.1=p)) with
 | some y=>rw [e] at h;simp at h
 | none=>simpa using List.find?_eq_none.1 e x r
theorem LsN.drop_some {L:LsN}{p:Pl}{b:Nat}{v:Value}(E:(L.ks.map (·.1)).Nodup)(h:L.get p=some (b,v)):∃ r A,L=r++(b,p,v)::A∧L.drop p=r++A:=by
 obtain⟨r,A,e⟩:=List.append_of_mem (zf1 h);refine⟨r,A,e,?_⟩;rw [e] at E ⊢;unfold LsN.ks at E;rw [List.map_map,List.map_append,List.nodup_append] at E;obtain⟨-,D,H⟩:=E;rw [List.map_cons,List.nodup_cons] at D;unfold LsN.drop;rw [List.filter_append,List.filter_cons];have J:r.filter (fun y=>!decide (y.2.1=p))=r:=by
  rw [List.filter_eq_self];intro y I;simpa using H y.2.1 (List.mem_map.2 ⟨y,I,rfl⟩) p (by simp)
 have K:A.filter (fun y=>!decide (y.2.1=p))=A:=by
  rw [List.filter_eq_self];intro y I;have:y.2.1≠p:=fun Q=>D.1 (List.mem_map.2 ⟨y,I,Q⟩);simpa using this
 rw [J,K];simp
theorem z6r (L:LsN)(p:Pl):(L.drop p).ks=L.ks.drop p:=by
 unfold LsN.ks LsN.drop Ks.drop;rw [List.filter_map];rfl
theorem zss {w:World}{c d m:Nat}{q:Pl}{u:Value}{o:Nat}{nx:Nat→Nat}(h:w.heap[c]?=some (.cells (lkN q u o (nx c)) LkN (0,0))):(w.setCell ⟨d,5,none⟩ (.pointer (some ⟨m,0,none⟩))).heap[c]?=some (.cells (lkN q u o (upd nx d m c)) LkN (0,0)):=by
 by_cases e:c=d
 ·subst e;rw [qo h,vt];rfl
 ·rw [heap_setCell_other _ _ _ _ e,jh _ _ _ _ e];exact h
theorem z2t {w:World}{c d m:Nat}{q:Pl}{u:Value}{n:Nat}{pv:Nat→Nat}(h:w.heap[c]?=some (.cells (lkN q u (pv c) n) LkN (0,0))):(w.setCell ⟨d,4,none⟩ (.pointer (some ⟨m,0,none⟩))).heap[c]?=some (.cells (lkN q u (upd pv d m c) n) LkN (0,0)):=by
 by_cases e:c=d
 ·subst e;rw [qo h,vt];rfl
 ·rw [heap_setCell_other _ _ _ _ e,jh _ _ _ _ e];exact h
theorem zfn.strike {w:World}{r b:Nat}{p:Pl}{v:Value}{D E:LsN}{nx pv:Nat→Nat}(h:zfn w r (D++(b,p,v)::E) nx pv):
  zfn ((w.setCell ⟨pv b,5,none⟩ (.pointer (some ⟨nx b,0,none⟩))).setCell ⟨nx b,4,none⟩ (.pointer (some ⟨pv b,0,none⟩))) r (D++E) (upd nx (pv b) (nx b)) (upd pv (nx b) (pv b)):=by
 have A:=h.circ;rw [List.map_append,List.map_cons] at A;refine⟨z2t (zss h.ends),fun x H=>z2t (zss (h.link x ?_)),?_⟩
 ·rcases List.mem_append.1 H with e | e
  ·simp [e]
  ·simp [e]
 ·rw [List.map_append];exact A.strike.1
theorem zg.map {O:Nat→Prop}{T:List Nat}{a w w':World}{A:Nat}{l:Ks}(h:zg O T a w)(E:Ext O a w A)(hm:jq w A l)(r:w.grownBy w' (some A)):zg O T a w':=by
 refine h.trans ⟨r.os,r.tape,r.output,r.size,fun k H=>?_⟩;by_cases e:k=A
 ·subst e;obtain⟨es,c,e⟩:=hm.isMap;exact .inr ⟨E,.inr ⟨es,c,e⟩⟩
 ·exact .inl (r.block k H (fun D=>e (by simpa using D)))
theorem jq.not {w:World}{D k:Nat}{l:Ks}(h:jq w D l){c:Array Value}{t:TypeId}{x:Nat×Nat}(e:w.heap[k]?=some (.cells c t x)):some k≠some D:=by
 intro r;simp only [Option.some.injEq] at r;subst r;obtain⟨es,E,A⟩:=h.isMap;rw [e] at A;simp at A
theorem zfn.same {w w':World}{r:Nat}{L:LsN}{nx pv:Nat→Nat}(h:zfn w r L nx pv)(e:∀(k:Nat) (c:Array Value),w.heap[k]?=some (Obj.cells c LkN (0,0))→w'.heap[k]?=w.heap[k]?):zfn w' r L nx pv :=
 ⟨(e _ _ h.ends).trans h.ends,fun x A=>(e _ _ (h.link x A)).trans (h.link x A),h.circ⟩
theorem zzc (O:Nat→Prop)(U:Nat)(room:Int)(L:LsN)(p:Pl)(hp:zct p)(w:World)(h:zab w O U room L)(b:Nat)(v:Value)(hg:L.get p=some (b,v)):
  Calls Tryz.prog 219 #[zo U,plV p] w fun r w'=>r= .returned (.tuple #[])∧zg O [LkN] w w'∧zab w' O U room (L.drop p):=by
 obtain⟨R,eb,nx,pv,h⟩:=h;have hk:L.ks.get p=some b:=by rw [zjj,hg];rfl
 have hl:=zf1 hg;obtain⟨D,-,-,am,-⟩:=h.map;obtain⟨l1,l2,eL,eD⟩:=LsN.drop_some am hg;have hc:=h.ring.circ;rw [eL,List.map_append,List.map_cons] at hc;obtain⟨ac,np,nn,mp,mn⟩:=hc.strike;simp only at ac np nn mp mn
 -- the links around it
 have hP:∃ q u,w.heap[pv b]?=some (.cells (lkN q u (pv (pv b)) (nx (pv b))) LkN (0,0)):=by
  rcases mp with e | e
  ·rw [e];exact⟨_,_,h.ring.ends⟩
  ·obtain⟨x,Q,ex⟩:=List.mem_map.1 e;rw [← ex];exact⟨_,_,h.ring.link x (by rw [eL];simp [Q])⟩
 have hN:∃ q u,w.heap[nx b]?=some (.cells (lkN q u (pv (nx b)) (nx (nx b))) LkN (0,0)):=by
  rcases mn with e | e
  ·rw [e];exact⟨_,_,h.ring.ends⟩
  ·obtain⟨x,Q,ex⟩:=List.mem_map.1 e;rw [← ex];exact⟨_,_,h.ring.link x (by rw [eL];simp [Q])⟩
 obtain⟨qp,up,hP⟩:=hP;obtain⟨qn,un,hN⟩:=hN;obtain⟨m0,-⟩:=zf h.mem 1 _ rfl;obtain⟨l4,-⟩:=zf (h.ring.link _ hl) 4 _ rfl;obtain⟨l5,-⟩:=zf (h.ring.link _ hl) 5 _ rfl;obtain⟨p5,g5⟩:=zf hP 5 _ rfl;obtain⟨n4,g4⟩:=zf hN 4 _ rfl;have X:=fun n o=>(h.map.same (w':=(w.alloc o).drewN n) (Below.heap_alloc w o R h.map.lt)).look Tryz.underlying167 zls hp;rw [hk] at X;simp only [zom,zo,Option.isSome_some] at X;have y0:∀ o,(w.alloc o).cell? ⟨U,1,none⟩=some (.map (some R)):=fun o=>by rw [zl _ _ ⟨U,1,none⟩ (zb h.mem)];exact m0
 have E:=za h;have HL:=za hl;have HE:=za (And.intro eL eD);have HC:=za ac;have HW:=za (And.intro hP hN);have HK:=za hk;have HG:=za hg;have HP:=za hp;have HM:=za (And.intro mp mn);unfold plV at X ⊢;unfold zo;have ag:=za l4;have ah:=za l5;have W:=za (And.intro p5 g5);have V:=za (And.intro n4 g4);clear m0 l4 l5 p5 g5 n4 g4 hk hl hg hp h eL eD ac hP hN hc am mp mn;go_enter Tryz.func219,Tryz.ntmps219;go_wp2_with fail;go_quiet (fail);clear X;have A:Hid (Below w.heap.size w ((w.alloc (.cells #[.int .i64 p.1,.int .i64 p.2.1,.int .i64 p.2.2] 99)).drewN nq)):=below_drewN (ze w _) _;have aa:Hid (((w.alloc (.cells #[.int .i64 p.1,.int .i64 p.2.1,.int .i64 p.2.2] 99)).drewN nq).heap[w.heap.size]?=some (.cells #[.int .i64 p.1,.int .i64 p.2.1,.int .i64 p.2.2] 99 (0,0))):=heap_alloc_last _ _;have hz:w.heap.size < ((w.alloc (.cells #[.int .i64 p.1,.int .i64 p.2.1,.int .i64 p.2.2] 99)).drewN nq).heap.size:=zb aa.o;clear y0;generalize (w.alloc (.cells #[.int .i64 p.1,.int .i64 p.2.1,.int .i64 p.2.2] 99)).drewN nq=H at *
 have cc:∀ {a:Addr} {x:Value},w.cell? a=some x→H.cell? a=some x:=fun {a x} e=>by rw [A.o.cell (zk e)];exact e
 have q4:H.cell? ⟨b,4,none⟩=some (.pointer (some ⟨pv b,0,none⟩)):=cc ag.o;have q5:H.cell? ⟨b,5,none⟩=some (.pointer (some ⟨nx b,0,none⟩)):=cc ah.o;have r5:H.cell? ⟨pv b,5,none⟩=some (.pointer (some ⟨nx (pv b),0,none⟩)):=cc W.o.1;have r4:H.cell? ⟨nx b,4,none⟩=some (.pointer (some ⟨pv (nx b),0,none⟩)):=cc V.o.1;have s5:H.frozen? ⟨pv b,5,none⟩=false:=by rw [A.o.frozen (p:=⟨pv b,5,none⟩) (zk (p:=⟨pv b,5,none⟩) W.o.1)];exact W.o.2
 have s4:H.frozen? ⟨nx b,4,none⟩=false:=by rw [A.o.frozen (p:=⟨nx b,4,none⟩) (zk (p:=⟨nx b,4,none⟩) V.o.1)];exact V.o.2
 clear cc;go_wp2_with fail;go_region_held3 (fun w'=>w'.cell? ⟨b,4,none⟩=some (.pointer (some ⟨pv b,0,none⟩))∧w'.cell? ⟨b,5,none⟩=some (.pointer (some ⟨nx b,0,none⟩))) (go_keep) (fail);rename_i ar;clear ar
 -- what has come of the ring
 have HT:Hid (zg O [LkN] w ((H.setCell ⟨pv b,5,none⟩ (.pointer (some ⟨nx b,0,none⟩))).setCell ⟨nx b,4,none⟩ (.pointer (some ⟨pv b,0,none⟩))).drew∧zfn ((H.setCell ⟨pv b,5,none⟩ (.pointer (some ⟨nx b,0,none⟩))).setCell ⟨nx b,4,none⟩ (.pointer (some ⟨pv b,0,none⟩))).drew eb (L.drop p) (upd nx (pv b) (nx b)) (upd pv (nx b) (pv b)) ∧
   ∀ k,k < w.heap.size+1→(∀ c,H.heap[k]?≠some (.cells c LkN (0,0)))→((H.setCell ⟨pv b,5,none⟩ (.pointer (some ⟨nx b,0,none⟩))).setCell ⟨nx b,4,none⟩ (.pointer (some ⟨pv b,0,none⟩))).drew.heap[k]?=H.heap[k]?):=by
  have an:zfn H eb L nx pv:=E.o.ring.same fun k c e=>A.o.block k (zb e);have aj:=(A.o.block _ (zb HW.o.1)).trans HW.o.1;have ai:=(A.o.block _ (zb HW.o.2)).trans HW.o.2;have oP:O (pv b):=by
   rcases HM.o.1 with e | e
   ·rw [e];exact E.o.own.2.2.1
   ·obtain⟨x,Q,ex⟩:=List.mem_map.1 e;rw [← ex];exact E.o.own.2.2.2 x (by rw [HE.o.1];simp [Q])
  have oN:O (nx b):=by
   rcases HM.o.2 with e | e
   ·rw [e];exact E.o.own.2.2.1
   ·obtain⟨x,Q,ex⟩:=List.mem_map.1 e;rw [← ex];exact E.o.own.2.2.2 x (by rw [HE.o.1];simp [Q])
  refine⟨?_,?_,?_⟩
  ·have t1:zg O [LkN] w (H.setCell ⟨pv b,5,none⟩ (.pointer (some ⟨nx b,0,none⟩))):=(zg.of_below A.o).set (.inl oP) aj (by simp) _;exact(t1.set (.inl oN) (zss ai) (by simp) _).drew
  ·rw [HE.o.2];rw [HE.o.1] at an;exact an.strike.same fun k c _=>rfl
  ·intro k _ hk;have e1:k≠nx b:=fun e=>hk _ (e▸ai);have e2:k≠pv b:=fun e=>hk _ (e▸aj);show((H.setCell _ _).setCell _ _).heap[k]?=_;rw [heap_setCell_other _ _ _ _ e1,heap_setCell_other _ _ _ _ e2]
 generalize ((H.setCell ⟨pv b,5,none⟩ (.pointer (some ⟨nx b,0,none⟩))).setCell ⟨nx b,4,none⟩ (.pointer (some ⟨pv b,0,none⟩))).drew=W2 at *
 clear q4 q5 r5 r4 s5 s4 W V ag ah HW;have ad:H.heap[U]?=some (.cells #[.int .i64 room,.map (some R),zo eb] MeN (0,0)):=(A.o.block _ (zb E.o.mem)).trans E.o.mem;have J:W2.heap[U]?=some (.cells #[.int .i64 room,.map (some R),zo eb] MeN (0,0)):=by
  rw [HT.o.2.2 U (Nat.lt_succ_of_lt (zb E.o.mem)) (fun c e=>by rw [ad] at e;simp only [Option.some.injEq,Obj.cells.injEq] at e;exact absurd e.2.1 (by decide))];exact ad
 have K:W2.heap[w.heap.size]?=some (.cells #[.int .i64 p.1,.int .i64 p.2.1,.int .i64 p.2.2] 99 (0,0)):=by
  rw [HT.o.2.2 w.heap.size (Nat.lt_succ_self _) (fun c e=>by rw [aa.o] at e;simp only [Option.some.injEq,Obj.cells.injEq] at e;exact absurd e.2.1 (by decide))];exact aa.o
 have S:jq W2.drew R L.ks:=by
  refine E.o.map.same ?_;show W2.heap[R]?=_;obtain⟨es,c,e⟩:=E.o.map.isMap;rw [HT.o.2.2 R (Nat.lt_succ_of_lt E.o.map.lt) (fun c' Z=>by rw [A.o.block _ E.o.map.lt,e] at Z;simp at Z),A.o.block _ E.o.map.lt]
 obtain⟨w3,au,al,I⟩:=S.del Tryz.underlying167 HP.o HK.o 0;unfold plV at au;obtain⟨a1,-⟩:=zf J 1 _ rfl;obtain⟨b0,-⟩:=zf K 0 _ rfl;obtain⟨b1,-⟩:=zf K 1 _ rfl;obtain⟨b2,-⟩:=zf K 2 _ rfl;have ae:w3.heap[U]?=some (.cells #[.int .i64 room,.map (some R),zo eb] MeN (0,0)):=(I.block U (zb J) (fun e=>by
  simp only [Option.some.injEq] at e;obtain⟨es,c,Z⟩:=S.isMap;rw [← e] at Z;have:some (Obj.cells _ _ _)=some (Obj.map es c):=J.symm.trans Z;simp at this)).trans J
 have Y:w3.heap[w.heap.size]?=some (.cells #[.int .i64 p.1,.int .i64 p.2.1,.int .i64 p.2.2] 99 (0,0)):=(I.block w.heap.size (zb K) (fun e=>by
  simp only [Option.some.injEq] at e;obtain⟨es,c,Z⟩:=S.isMap;rw [← e] at Z;have:some (Obj.cells _ _ _)=some (Obj.map es c):=K.symm.trans Z;simp at this)).trans K
 obtain⟨c1,-⟩:=zf ae 1 _ rfl;obtain⟨d0,-⟩:=zf Y 0 _ rfl;obtain⟨d1,-⟩:=zf Y 1 _ rfl;obtain⟨d2,-⟩:=zf Y 2 _ rfl;have ap:=za al;have aq:=za ae;have af:Hid (W2.grownBy w3 (some R)):=⟨I.os,I.tape,I.output,I.size,I.block⟩
 have ao:=za S;clear ad J K ae Y S al I;go_wp2_with fail;go_region_held3 (fun w'=>w'.cell? ⟨U,1,none⟩=some (.map (some R))∧w'.cell? ⟨w.heap.size,0,none⟩=some (.int .i64 p.1)∧w'.cell? ⟨w.heap.size,1,none⟩=some (.int .i64 p.2.1)∧w'.cell? ⟨w.heap.size,2,none⟩=some (.int .i64 p.2.2)) (go_keep) (fail);go_wp2_with fail;go_end0;have ak:∀ x∈L.drop p,x∈L:=fun x Q=>(List.mem_filter.1 Q).1;have J:jq W2 R L.ks:=ao.o.same rfl;refine⟨rfl,HT.o.1.map (.inl E.o.own.2.1) J af.o,R,eb,upd nx (pv b) (nx b),upd pv (nx b) (pv b),⟨E.o.own.1,E.o.own.2.1,E.o.own.2.2.1,fun x Q=>E.o.own.2.2.2 x (ak x Q)⟩,aq.o,?_,?_,fun x Q=>E.o.ok x (ak x Q)⟩
 ·exact HT.o.2.1.same fun k c e=>af.o.block k (zb e) (J.not e)
 ·rw [z6r];exact ap.o
theorem z4n (O:Nat→Prop)(D:Nat)(room:Int)(L:LsN)(p:Pl)(J:zct p)(w:World)(h:zab w O D room L)(H:L.get p=none):
  Calls Tryz.prog 219 #[zo D,plV p] w fun r w'=>r= .returned (.tuple #[])∧Below w.heap.size w w':=by
 obtain⟨E,R,nx,pv,h⟩:=h;have I:L.ks.get p=none:=by rw [zjj,H];rfl
 obtain⟨K,-⟩:=zf h.mem 1 _ rfl;have A:=fun n o=>(h.map.same (w':=(w.alloc o).drewN n) (Below.heap_alloc w o E h.map.lt)).look Tryz.underlying167 zls J;rw [I] at A;simp only [zom,Option.isSome_none] at A;have Q:D < w.heap.size:=zb h.mem;have S:∀ o,(w.alloc o).cell? ⟨D,1,none⟩=some (.map (some E)):=fun o=>by rw [zl _ _ ⟨D,1,none⟩ Q];exact K
 unfold plV at A ⊢;unfold zo;clear K I H J h;go_enter Tryz.func219,Tryz.ntmps219;go_wp2_with fail;go_quiet (fail);go_wp2_with fail;first | go_end0 | refine bodyPost_ret (results_none rfl _ _ _) rfl ?_
 exact⟨rfl,below_drewN (ze w _) _⟩
theorem zab.stay {w w':World}{O O1 O':Nat→Prop}{T:List Nat}{E:Nat}{room:Int}{L:LsN}(h:zab w O E room L)(K:zg O1 T w w')(h1:∀ k,O k→¬ O1 k)(h2:∀ k,O k→O' k):zab w' O' E room L:=by
 obtain⟨I,H,nx,pv,h⟩:=h;have r:∀ k,O k→k < w.heap.size→w'.heap[k]?=w.heap[k]?:=fun k J D=>by
  rcases K.block k D with e | ⟨e,-⟩
  ·exact e
  ·exact absurd e (h1 k J)
 refine⟨I,H,nx,pv,⟨h2 _ h.own.1,h2 _ h.own.2.1,h2 _ h.own.2.2.1,fun x A=>h2 _ (h.own.2.2.2 x A)⟩,(r _ h.own.1 (zb h.mem)).trans h.mem,?_,h.map.same (r _ h.own.2.1 h.map.lt),h.ok⟩;exact⟨(r _ h.own.2.2.1 (zb h.ring.ends)).trans h.ring.ends,fun x A=>(r _ (h.own.2.2.2 x A) (zb (h.ring.link x A))).trans (h.ring.link x A),h.ring.circ⟩
theorem zab.below {w w':World}{O O':Nat→Prop}{r:Nat}{room:Int}{L:LsN}(h:zab w O r room L)(A:Below w.heap.size w w')(h2:∀ k,O k→O' k):zab w' O' r room L :=
 h.stay (O1:=fun _=>False) (T:=[]) (.of_below A) (fun _ _ h=>h) h2
theorem zpx (O:Nat→Prop)(A:Nat)(room:Int)(L:LsN)(p:Pl)(E:zct p)(w:World)(h:zab w O A room L):
  Calls Tryz.prog 219 #[zo A,plV p] w fun r w'=>r= .returned (.tuple #[])∧zg O [LkN] w w'∧zab w' O A room (L.drop p):=by
 cases hg:L.get p with
 | some x=>exact zzc O A room L p E w h x.1 x.2 hg
 | none =>
  refine(z4n O A room L p E w h hg).mono ?_;rintro r w' ⟨rfl,D⟩;rw [LsN.drop_none hg];exact⟨rfl,.of_below D,h.below D (fun _ h=>h)⟩
end Go.Proofs.YtndkblnpbjffhaaGreatDoor
