import Derived.Test.YtlcllcgngjhoaaaGreatDoorG13
import Derived.Deep.RegionHeld3
set_option maxHeartbeats 8000000
set_option maxRecDepth 100000
set_option linter.all false
namespace Go.Proofs.YtlcllcgngjhoaaaGreatDoor
open Go.RowKit Go.Proofs.Tryz
def zcg:=@results_none
def zia:=@Below.heap_alloc
def zoe:=@Option.isSome_none
def zqd:=@Nat.lt_succ_of_lt
variable {b eb nb:Nat}{b1 b2:List Nat}
def upd (f:Nat→Nat)(a b:Nat):Nat→Nat:=fun x=>if x=a then b else f x
theorem zem (f:Nat→Nat)(a b:Nat):upd f a b a=b:=if_pos rfl
theorem zb3 (f:Nat→Nat)(a b x:Nat)(h:x≠a):upd f a b x=f x:=if_neg h
def zey (c d:Nat→Nat):List Nat→Prop
 | a::b::r=>c a=b∧d b=a∧zey c d (b::r)
 | _=>True
theorem ze5 {nx pv:Nat→Nat}:∀(e:List Nat) (a:Nat) (d:List Nat),zey nx pv (e++a::d)↔zey nx pv (e++[a])∧zey nx pv (a::d)
 | [],a,d=>by simp [zey]
 | [b],a,d=>by
  show(nx b=a∧pv a=b∧zey nx pv (a::d))↔(nx b=a∧pv a=b∧zey nx pv [a])∧zey nx pv (a::d);simp [zey,and_assoc]
 | b::c::r,a,d=>by
  have f:=ze5 (nx:=nx) (pv:=pv) (c::r) a d;show(nx b=c∧pv c=b∧zey nx pv ((c::r)++a::d))↔(nx b=c∧pv c=b∧zey nx pv ((c::r)++[a]))∧zey nx pv (a::d);rw [f];simp [and_assoc]
theorem zln {i j c d:Nat→Nat}:∀(l:List Nat),zey i j l→(∀ a∈l.dropLast,c a=i a)→(∀ b∈l.tail,d b=j b)→zey c d l
 | [],_,_,_=>trivial
 | [_],_,_,_=>trivial
 | a::b::r,h,f,g=>by
  obtain⟨k,m,n⟩:=h;refine⟨by rw [f a (by simp)];exact k,by rw [g b (by simp)];exact m,zln (b::r) n (fun x e=>f x (by simp [e])) (fun x e=>g x (by simp at e ⊢;exact .inr e))⟩
def zn7 (a:Nat)(b:List Nat)(c d:Nat→Nat):Prop:=(a::b).Nodup∧zey c d (a::b++[a])
theorem zst (a:Nat):zn7 a [] (fun _=>a) (fun _=>a):=⟨by simp,rfl,rfl,trivial⟩
theorem zqs {c d:Nat→Nat}:∀(a:Nat) (l:List Nat) (x:Nat),zey c d (a::l++[x])→d x=(a::l).getLast (by simp)∧c ((a::l).getLast (by simp))=x
 | a,[],x,h=>⟨h.2.1,h.1⟩
 | a,b::r,x,h=>by
  have e:zey c d ((b::r)++[x]):=h.2.2;have:=zqs b r x e;simpa using this
theorem zn7.last {a:List Nat}{b c:Nat→Nat}(h:zn7 eb a b c):c eb=(eb::a).getLast (by simp)∧b ((eb::a).getLast (by simp))=eb:=zqs eb a eb h.2
theorem zn7.first {d:List Nat}{a c:Nat→Nat}(h:zn7 eb (b::d) a c):a eb=b∧c b=eb:=⟨h.2.1,h.2.2.1⟩
theorem zn7.empty {a b:Nat→Nat}(h:zn7 eb [] a b):a eb=eb∧b eb=eb:=⟨h.2.1,h.2.2.1⟩
theorem zn7.pv_mem {a:List Nat}{c b:Nat→Nat}(h:zn7 eb a c b):b eb∈eb::a:=by rw [h.last.1];exact List.getLast_mem _
theorem zn7.add {d:List Nat}{n f:Nat→Nat}(h:zn7 eb d n f)(j:nb∉eb::d):zn7 eb (d++[nb]) (upd (upd n (f eb) nb) nb eb) (upd (upd f eb nb) nb (f eb)):=by
 obtain⟨l,x⟩:=h.last;have w:=h.pv_mem;have u:f eb≠nb:=fun e=>j (e▸w);have t:eb≠nb:=fun e=>j (e▸zdo ..);obtain⟨s,v⟩:=h;refine⟨?_,?_⟩
 ·rw [← zak,zao];refine⟨s,by simp,fun a g b m=>?_⟩;obtain rfl:b=nb:=by simpa using m
  exact fun e=>j (e▸g)
 ·rw [← zak,xt];show zey _ _ ((eb::d)++nb::[eb]);rw [ze5];refine⟨?_,⟨zem _ _ _,by rw [zb3 _ _ _ _ t,zem],trivial⟩⟩
  -- eb::d,then nb
  have c:(eb::d)=(eb::d).dropLast++[(eb::d).getLast (by simp)]:=(List.dropLast_concat_getLast (by simp)).symm;rw [c,← l,xt];show zey _ _ ((eb::d).dropLast++f eb::[nb]);rw [ze5];refine⟨?_,⟨by rw [zb3 _ _ _ _ u,zem],zem _ _ _,trivial⟩⟩;have r:zey n f ((eb::d).dropLast++[f eb]):=by
   rw [l,← c];have:zey n f ((eb::d).dropLast++(eb::d).getLast (by simp)::[eb]):=by
    have e:(eb::d).dropLast++(eb::d).getLast (by simp)::[eb]=(eb::d)++[eb]:=by
     conv=>rhs;rw [c]
     simp
    rw [e];exact v
   have:=((ze5 _ _ _).1 this).1
   rwa [← c] at this
  refine zln _ r ?_ ?_
  ·intro a g;rw [List.dropLast_concat] at g;have q:a∈eb::d:=zhy _ g;have o:a≠nb:=fun e=>j (e▸q);have p:a≠f eb:=by
    rw [l];intro e;have k:=s;rw [c,zao] at k;exact k.2.2 a g _ (by simp) e
   rw [zb3 _ _ _ _ o,zb3 _ _ _ _ p]
  ·intro b m;have i:b∈d:=by
    have:(eb::d).dropLast++[f eb]=eb::d:=by rw [l];exact c.symm
    rw [this] at m;simpa using m
   have o:b≠nb:=fun e=>j (by rw [← e];simp [i]);have p:b≠eb:=fun e=>(zbj.1 s).1 (e▸i);rw [zb3 _ _ _ _ o,zb3 _ _ _ _ p]
theorem zn7.strike {x:Nat}{f d:Nat→Nat}(h:zn7 eb (b1++x::b2) f d):
  zn7 eb (b1++b2) (upd f (d x) (f x)) (upd d (f x) (d x))∧d x≠x∧f x≠x∧(d x=eb∨d x∈b1)∧(f x=eb∨f x∈b2):=by
 obtain⟨H,L⟩:=h;have q:zey f d ((eb::b1)++x::(b2++[eb])):=by simpa using L
 rw [ze5] at q;obtain⟨G,m⟩:=q;obtain⟨I,Q⟩:=zqs eb b1 x G;have A:x∉eb::(b1++b2):=by
  have N:(eb::(b1++x::b2)).Perm (x::eb::(b1++b2)):=by
   refine((List.perm_middle).cons eb).trans ?_;exact List.Perm.swap ..
  exact(zbj.1 ((N.nodup_iff).1 H)).1
 have n:(eb::(b1++b2)).Nodup:=by
  refine List.Nodup.sublist ?_ H;exact(List.Sublist.append (List.Sublist.refl _) (List.sublist_cons_self _ _)).cons_cons _
 have z:d x∈eb::b1:=by rw [I];exact List.getLast_mem _
 -- what stands behind x
 obtain⟨B,g,M⟩:∃ r,b2++[eb]=f x::r∧d (f x)=x:=by
  cases b2 with
  | nil=>exact⟨[],by rw [m.1];rfl,by rw [m.1];exact m.2.1⟩
  | cons y r=>exact⟨r++[eb],by rw [m.1];rfl,by rw [m.1];exact m.2.1⟩
 have o:f x=eb∨f x∈b2:=by
  cases b2 with
  | nil=>simp at g;exact .inl g.1.symm
  | cons y r=>simp at g;exact .inr (by rw [← g.1];simp)
 have F:d x≠x:=fun e=>A (by
  rw [← e];rcases jr.1 z with h | h
  ·simp [h]
  ·simp [h])
 have w:f x≠x:=fun e=>A (by
  rw [← e];rcases o with h | h
  ·simp [h]
  ·simp [h])
 have l:d x=eb∨d x∈b1:=by simpa using z
 refine⟨⟨n,?_⟩,F,w,l,o⟩;obtain⟨s,j,t⟩:(eb::b1).Nodup∧(b2++[eb]).Nodup∧∀ a∈b1,∀ b∈b2,a≠b:=by
  rw [← zak,zao] at n;obtain⟨O,P,J⟩:=n;refine⟨O,?_,fun a i b k=>J a (by simp [i]) b k⟩;rw [zao]
  exact⟨P,by simp,fun a i b k=>by
    obtain rfl:b=eb:=by simpa using k
    exact fun e=>J b (by simp) a i e.symm⟩
 have u:eb∉b1:=(zbj.1 s).1;have c:(eb::b1)=(eb::b1).dropLast++[d x]:=by
  rw [I];exact(List.dropLast_concat_getLast (by simp)).symm
 have e:eb::(b1++b2)++[eb]=(eb::b1).dropLast++d x::(f x::B):=by
  rw [← g];have:eb::(b1++b2)++[eb]=(eb::b1)++(b2++[eb]):=by simp
  rw [this,c,xt];simp
 rw [e,ze5];refine⟨?_,zem _ _ _,zem _ _ _,?_⟩
 ·have D:zey f d ((eb::b1).dropLast++[d x]):=by
   have:zey f d ((eb::b1).dropLast++d x::[x]):=by
    have K:(eb::b1).dropLast++d x::[x]=eb::b1++[x]:=by
     conv=>rhs;rw [c]
     simp
    rw [K];exact G
   exact((ze5 _ _ _).1 this).1
  refine zln _ D ?_ ?_
  ·intro a i;rw [List.dropLast_concat] at i;refine zb3 _ _ _ _ ?_;intro e;have v:=s;rw [c,zao] at v;exact v.2.2 a i _ (by simp) e
  ·intro b k;rw [← c] at k;have p:b∈b1:=by simpa using k
   refine zb3 _ _ _ _ ?_;intro e;rcases o with h | h
   ·exact u (by rw [← h,← e];exact p)
   ·exact t b p _ h e
 ·have E:zey f d (f x::B):=by
   have:zey f d (x::(f x::B)):=by rw [← g];exact m
   exact this.2.2
  refine zln _ E ?_ ?_
  ·intro a i;rw [← g,List.dropLast_concat] at i;refine zb3 _ _ _ _ ?_;intro e;rcases l with h | h
   ·rw [zao] at j;exact j.2.2 a i eb (by simp) (e.trans h)
   ·exact t _ h a i e.symm
  ·intro b k;refine zb3 _ _ _ _ ?_;intro e;rw [g] at j;have C:b∈B:=by simpa using k
   exact(zbj.1 j).1 (e▸C)
variable {O O' O1:Nat→Prop}{T:List Nat}{a w w':World}{hb k m mb o:Nat}{t:TypeId}{u v:Value}
abbrev LkN:Nat:=211
abbrev MeN:Nat:=213
def lkN (p:Pl)(v:Value)(o n:Nat):Array Value:=#[.int .i64 p.1,.int .i64 p.2.1,.int .i64 p.2.2,v,yx o,yx n]
abbrev LsN:=List (Nat×Pl×Value)
def LsN.ks (L:LsN):Ks:=L.map fun x=>(x.2.1,x.1)
def LsN.drop (L:LsN)(p:Pl):LsN:=L.filter fun x=>!decide (x.2.1=p)
structure zl7 (w:World)(eb:Nat)(L:LsN)(nx pv:Nat→Nat):Prop where
 ends:w.heap[eb]?=some (.cells (lkN (0,0,0) (.pointer none) (pv eb) (nx eb)) LkN (0,0))
 link:∀ x∈L,w.heap[x.1]?=some (.cells (lkN x.2.1 x.2.2 (pv x.1) (nx x.1)) LkN (0,0))
 circ:zn7 eb (L.map (·.1)) nx pv
structure zqp (w:World)(O:Nat→Prop)(mb hb eb:Nat)(nx pv:Nat→Nat)(room:Int)(L:LsN):Prop where
 own:O mb∧O hb∧O eb∧∀ x∈L,O x.1
 mem:w.heap[mb]?=some (.cells #[.int .i64 room,.map (some hb),yx eb] MeN (0,0))
 ring:zl7 w eb L nx pv
 map:zb6 w hb L.ks
 ok:∀ x∈L,zip x.2.1∧∃ a,x.2.2= .pointer a
def zen (w:World)(O:Nat→Prop)(d:Nat)(a:Int)(L:LsN):Prop:=∃ c b e f,zqp w O d c b e f a L
def LsN.get (L:LsN)(p:Pl):Option (Nat×Value):=match L.find? (fun x=>decide (x.2.1=p)) with
 | some x=>some (x.1,x.2.2)
 | none=>none
theorem zrs (L:LsN)(p:Pl):L.ks.get p=(L.get p).map (·.1):=by
 unfold LsN.ks Ks.get LsN.get;rw [List.find?_map];have:((fun x:Pl×Nat=>decide (x.1=p))∘fun x:Nat×Pl×Value=>(x.2.1,x.1))=fun x=>decide (x.2.1=p):=rfl;rw [this];cases L.find? (fun x=>decide (x.2.1=p))<;>rfl
theorem zm9 {L:LsN}{p:Pl}(h:L.get p=some (b,v)):(b,p,v)∈L:=by
 unfold LsN.get at h;cases e:L.find? (fun x=>decide (x.2.1=p)) with
 | none=>rw [e] at h;simp at h
 | some x =>
  rw [e] at h;simp only [zr,ye] at h;have d:=zju e;have f:=zdm e;simp only [vj] at d;obtain⟨a,g,c⟩:=x;simp only at h d;obtain⟨rfl,rfl⟩:=h;subst d;exact f
theorem zu4 (w:World):(zeroValue 209).run prog w= .ok (.pointer none) w:=by kernel_rfl
theorem zv4 (O:Nat→Prop)(d:Nat)(e:Int)(L:LsN)(p:Pl)(k:zip p)(w:World)(h:zen w O d e L)(b:Nat)(a:Option Addr)(f:L.get p=some (b,.pointer a)):
  Calls prog 172 #[yx d,plV p] w fun r q=>r= .returned (.tuple #[.pointer a,.bool true])∧Below w.heap.size w q:=by
 obtain⟨i,u,v,x,h⟩:=h;have j:L.ks.get p=some b:=by rw [zrs,f];rfl
 have g:=zm9 f;obtain⟨m,-⟩:=zw h.mem 1 _ rfl;obtain⟨l,-⟩:=zw (h.ring.link _ g) 3 _ rfl;have c:=fun n o=>(h.map.same (w':=(w.alloc o).drewN n) (zia w o i h.map.lt)).look underlying208 zu4 k;rw [j] at c;simp only [zx9,yx,zjw] at c;have s:d < w.heap.size:=zi h.mem;have t:b < w.heap.size:=zi (h.ring.link _ g);have y:∀ o,(w.alloc o).cell? ⟨d,1,none⟩=some (.map (some i)):=fun o=>by rw [yp _ _ ⟨d,1,none⟩ s];exact m
 have z:∀ o,(w.alloc o).cell? ⟨b,3,none⟩=some (.pointer a):=fun o=>by rw [yp _ _ ⟨b,3,none⟩ t];exact l
 unfold plV at c ⊢;unfold yx;clear m l j g f k h;go_enter func172,ntmps172;go_wp2_with fail
 go_quiet (fail)
 go_wp2_with fail
 go_ret2
 exact⟨rfl,zhz (zk w _) _⟩
theorem z0w (O:Nat→Prop)(b:Nat)(c:Int)(L:LsN)(p:Pl)(g:zip p)(w:World)(h:zen w O b c L)(e:L.get p=none):
  Calls prog 172 #[yx b,plV p] w fun r j=>r= .returned (.tuple #[.pointer none,.bool false])∧Below w.heap.size w j:=by
 obtain⟨d,l,m,q,h⟩:=h;have f:L.ks.get p=none:=by rw [zrs,e];rfl
 obtain⟨i,-⟩:=zw h.mem 1 _ rfl;have a:=fun n o=>(h.map.same (w':=(w.alloc o).drewN n) (zia w o d h.map.lt)).look underlying208 zu4 g;rw [f] at a;simp only [zx9,zoe] at a;have k:b < w.heap.size:=zi h.mem;have s:∀ o,(w.alloc o).cell? ⟨b,1,none⟩=some (.map (some d)):=fun o=>by rw [yp _ _ ⟨b,1,none⟩ k];exact i
 unfold plV at a ⊢;unfold yx;clear i f e g h;go_enter func172,ntmps172;go_wp2_with fail
 go_quiet (fail)
 go_wp2_with fail
 go_ret2
 exact⟨rfl,zhz (zk w _) _⟩
theorem LsN.drop_none {L:LsN}{p:Pl}(h:L.get p=none):L.drop p=L:=by
 unfold LsN.drop;rw [za1];intro x a;unfold LsN.get at h;cases e:L.find? (fun x=>decide (x.2.1=p)) with
 | some y=>rw [e] at h;simp at h
 | none=>simpa using vx.1 e x a
theorem LsN.drop_some {L:LsN}{p:Pl}(f:(L.ks.map (·.1)).Nodup)(h:L.get p=some (b,v)):∃ a c,L=a++(b,p,v)::c∧L.drop p=a++c:=by
 obtain⟨a,c,e⟩:=List.append_of_mem (zm9 h);refine⟨a,c,e,?_⟩;rw [e] at f ⊢;unfold LsN.ks at f;rw [zgv,yy,zao] at f;obtain⟨-,d,g⟩:=f;rw [ve,zbj] at d;unfold LsN.drop;rw [zn9,zl1];have j:a.filter (fun y=>!decide (y.2.1=p))=a:=by
  rw [za1];intro y i;simpa using g y.2.1 (yl.2 ⟨y,i,rfl⟩) p (by simp)
 have k:c.filter (fun y=>!decide (y.2.1=p))=c:=by
  rw [za1];intro y i;have:y.2.1≠p:=fun l=>d.1 (yl.2 ⟨y,i,l⟩);simpa using this
 rw [j,k];simp
theorem yhi (L:LsN)(p:Pl):(L.drop p).ks=L.ks.drop p:=by
 unfold LsN.ks LsN.drop Ks.drop;rw [List.filter_map];rfl
theorem z5h {c d:Nat}{q:Pl}{a:Nat→Nat}(h:w.heap[c]?=some (.cells (lkN q u o (a c)) LkN (0,0))):(w.setCell ⟨d,5,none⟩ (.pointer (some ⟨m,0,none⟩))).heap[c]?=some (.cells (lkN q u o (upd a d m c)) LkN (0,0)):=by
 by_cases e:c=d
 ·subst e;rw [zav h,zem];rfl
 ·rw [yh _ _ _ _ e,zb3 _ _ _ _ e];exact h
theorem yjo {c d:Nat}{q:Pl}{n:Nat}{a:Nat→Nat}(h:w.heap[c]?=some (.cells (lkN q u (a c) n) LkN (0,0))):(w.setCell ⟨d,4,none⟩ (.pointer (some ⟨m,0,none⟩))).heap[c]?=some (.cells (lkN q u (upd a d m c) n) LkN (0,0)):=by
 by_cases e:c=d
 ·subst e;rw [zav h,zem];rfl
 ·rw [yh _ _ _ _ e,zb3 _ _ _ _ e];exact h
theorem zl7.strike {p:Pl}{f g:LsN}{a c:Nat→Nat}(h:zl7 w eb (f++(b,p,v)::g) a c):
  zl7 ((w.setCell ⟨c b,5,none⟩ (.pointer (some ⟨a b,0,none⟩))).setCell ⟨a b,4,none⟩ (.pointer (some ⟨c b,0,none⟩))) eb (f++g) (upd a (c b) (a b)) (upd c (a b) (c b)):=by
 have d:=h.circ;rw [yy,ve] at d;refine⟨yjo (z5h h.ends),fun x i=>yjo (z5h (h.link x ?_)),?_⟩
 ·rcases yt.1 i with e | e
  ·simp [e]
  ·simp [e]
 ·rw [yy];exact d.strike.1
theorem zq.map {l:Ks}(h:zq O T a w)(f:jz O a w hb)(i:zb6 w hb l)(b:w.grownBy w' (some hb)):zq O T a w':=by
 refine h.trans ⟨b.os,b.tape,b.output,b.size,fun k g=>?_⟩
 by_cases e:k=hb
 ·subst e;obtain⟨es,c,e⟩:=i.isMap;exact .inr ⟨f,.inr ⟨es,c,e⟩⟩
 ·exact .inl (b.block k g (fun d=>e (by simpa using d)))
theorem zb6.not {l:Ks}(h:zb6 w hb l){c:Array Value}{x:Nat×Nat}(e:w.heap[k]?=some (.cells c t x)):some k≠some hb:=by
 intro a;simp only [zr] at a;subst a;obtain⟨es,d,b⟩:=h.isMap;rw [e] at b;simp at b
theorem zl7.same {L:LsN}{b d:Nat→Nat}(h:zl7 w eb L b d)(e:∀(k:Nat) (c:Array Value),w.heap[k]?=some (Obj.cells c LkN (0,0))→w'.heap[k]?=w.heap[k]?):zl7 w' eb L b d :=
 ⟨(e _ _ h.ends).trans h.ends,fun x a=>(e _ _ (h.link x a)).trans (h.link x a),h.circ⟩
theorem yb0 (O:Nat→Prop)(E:Nat)(y:Int)(L:LsN)(p:Pl)(hp:zip p)(w:World)(h:zen w O E y L)(b:Nat)(v:Value)(hg:L.get p=some (b,v)):
  Calls prog 223 #[yx E,plV p] w fun r F=>r= .returned (.tuple #[])∧zq O [LkN] w F∧zen F O E y (L.drop p):=by
 obtain⟨B,T,f,g,h⟩:=h;have U:L.ks.get p=some b:=by rw [zrs,hg];rfl
 have hl:=zm9 hg;obtain⟨D,-,-,ae,-⟩:=h.map;obtain⟨l1,l2,eL,eD⟩:=LsN.drop_some ae hg;have hc:=h.ring.circ;rw [eL,yy,ve] at hc;obtain⟨N,np,nn,mp,mn⟩:=hc.strike;simp only at N np nn mp mn
 -- the links around it
 have hP:∃ q u,w.heap[g b]?=some (.cells (lkN q u (g (g b)) (f (g b))) LkN (0,0)):=by
  rcases mp with e | e
  ·rw [e];exact⟨_,_,h.ring.ends⟩
  ·obtain⟨x,A,M⟩:=yl.1 e;rw [← M];exact⟨_,_,h.ring.link x (by rw [eL];simp [A])⟩
 have hN:∃ q u,w.heap[f b]?=some (.cells (lkN q u (g (f b)) (f (f b))) LkN (0,0)):=by
  rcases mn with e | e
  ·rw [e];exact⟨_,_,h.ring.ends⟩
  ·obtain⟨x,A,M⟩:=yl.1 e;rw [← M];exact⟨_,_,h.ring.link x (by rw [eL];simp [A])⟩
 obtain⟨qp,up,hP⟩:=hP;obtain⟨qn,un,hN⟩:=hN;obtain⟨m0,-⟩:=zw h.mem 1 _ rfl;obtain⟨l4,-⟩:=zw (h.ring.link _ hl) 4 _ rfl;obtain⟨l5,-⟩:=zw (h.ring.link _ hl) 5 _ rfl;obtain⟨p5,g5⟩:=zw hP 5 _ rfl;obtain⟨n4,g4⟩:=zw hN 4 _ rfl;have m:=fun n o=>(h.map.same (w':=(w.alloc o).drewN n) (zia w o B h.map.lt)).look underlying208 zu4 hp;rw [U] at m;simp only [zx9,yx,zjw] at m;have y0:∀ o,(w.alloc o).cell? ⟨E,1,none⟩=some (.map (some B)):=fun o=>by rw [yp _ _ ⟨E,1,none⟩ (zi h.mem)];exact m0
 have l:=zf h;have HL:=zf hl;have HE:=zf (And.intro eL eD);have HC:=zf N;have HW:=zf (And.intro hP hN);have HK:=zf U;have HG:=zf hg;have HP:=zf hp;have HM:=zf (And.intro mp mn);unfold plV at m ⊢;unfold yx;have W:=zf l4;have X:=zf l5;have H:=zf (And.intro p5 g5);have G:=zf (And.intro n4 g4);clear m0 l4 l5 p5 g5 n4 g4 U hl hg hp h eL eD N hP hN hc ae mp mn;go_enter func223,ntmps223;go_wp2_with fail
 go_quiet (fail)
 clear m;have j:Hid (Below w.heap.size w ((w.alloc (.cells #[.int .i64 p.1,.int .i64 p.2.1,.int .i64 p.2.2] 150)).drewN nq)):=zhz (zk w _) _;have K:Hid (((w.alloc (.cells #[.int .i64 p.1,.int .i64 p.2.1,.int .i64 p.2.2] 150)).drewN nq).heap[w.heap.size]?=some (.cells #[.int .i64 p.1,.int .i64 p.2.1,.int .i64 p.2.2] 150 (0,0))):=zg _ _;have hz:w.heap.size < ((w.alloc (.cells #[.int .i64 p.1,.int .i64 p.2.1,.int .i64 p.2.2] 150)).drewN nq).heap.size:=zi K.o;clear y0;generalize (w.alloc (.cells #[.int .i64 p.1,.int .i64 p.2.1,.int .i64 p.2.2] 150)).drewN nq=s at *;have cc:∀ {a:Addr} {x:Value},w.cell? a=some x→s.cell? a=some x:=fun {a x} e=>by rw [j.o.cell (yg e)];exact e
 have q4:s.cell? ⟨b,4,none⟩=some (.pointer (some ⟨g b,0,none⟩)):=cc W.o;have q5:s.cell? ⟨b,5,none⟩=some (.pointer (some ⟨f b,0,none⟩)):=cc X.o;have r5:s.cell? ⟨g b,5,none⟩=some (.pointer (some ⟨f (g b),0,none⟩)):=cc H.o.1;have r4:s.cell? ⟨f b,4,none⟩=some (.pointer (some ⟨g (f b),0,none⟩)):=cc G.o.1;have s5:s.frozen? ⟨g b,5,none⟩=false:=by rw [j.o.frozen (p:=⟨g b,5,none⟩) (yg (p:=⟨g b,5,none⟩) H.o.1)];exact H.o.2
 have s4:s.frozen? ⟨f b,4,none⟩=false:=by rw [j.o.frozen (p:=⟨f b,4,none⟩) (yg (p:=⟨f b,4,none⟩) G.o.1)];exact G.o.2
 clear cc;go_wp2_with fail
 go_region_held3 (fun F=>F.cell? ⟨b,4,none⟩=some (.pointer (some ⟨g b,0,none⟩))∧F.cell? ⟨b,5,none⟩=some (.pointer (some ⟨f b,0,none⟩))) (go_keep) (fail)
 rename_i P;clear P
 -- what has come of the ring
 have Z:Hid (zq O [LkN] w ((s.setCell ⟨g b,5,none⟩ (.pointer (some ⟨f b,0,none⟩))).setCell ⟨f b,4,none⟩ (.pointer (some ⟨g b,0,none⟩))).drew∧zl7 ((s.setCell ⟨g b,5,none⟩ (.pointer (some ⟨f b,0,none⟩))).setCell ⟨f b,4,none⟩ (.pointer (some ⟨g b,0,none⟩))).drew T (L.drop p) (upd f (g b) (f b)) (upd g (f b) (g b)) ∧
   ∀ k,k < w.heap.size+1→(∀ c,s.heap[k]?≠some (.cells c LkN (0,0)))→((s.setCell ⟨g b,5,none⟩ (.pointer (some ⟨f b,0,none⟩))).setCell ⟨f b,4,none⟩ (.pointer (some ⟨g b,0,none⟩))).drew.heap[k]?=s.heap[k]?):=by
  have af:zl7 s T L f g:=l.o.ring.same fun k c e=>j.o.block k (zi e);have ab:=(j.o.block _ (zi HW.o.1)).trans HW.o.1;have aa:=(j.o.block _ (zi HW.o.2)).trans HW.o.2;have oP:O (g b):=by
   rcases HM.o.1 with e | e
   ·rw [e];exact l.o.own.2.2.1
   ·obtain⟨x,A,M⟩:=yl.1 e;rw [← M];exact l.o.own.2.2.2 x (by rw [HE.o.1];simp [A])
  have oN:O (f b):=by
   rcases HM.o.2 with e | e
   ·rw [e];exact l.o.own.2.2.1
   ·obtain⟨x,A,M⟩:=yl.1 e;rw [← M];exact l.o.own.2.2.2 x (by rw [HE.o.1];simp [A])
  refine⟨?_,?_,?_⟩
  ·have t1:zq O [LkN] w (s.setCell ⟨g b,5,none⟩ (.pointer (some ⟨f b,0,none⟩))):=(zq.of_below j.o).set (.inl oP) ab (by simp) _;exact(t1.set (.inl oN) (z5h aa) (by simp) _).drew
  ·rw [HE.o.2];rw [HE.o.1] at af;exact af.strike.same fun k c _=>rfl
  ·intro k _ U;have e1:k≠f b:=fun e=>U _ (e▸aa);have e2:k≠g b:=fun e=>U _ (e▸ab);show((s.setCell _ _).setCell _ _).heap[k]?=_;rw [yh _ _ _ _ e1,yh _ _ _ _ e2]
 generalize ((s.setCell ⟨g b,5,none⟩ (.pointer (some ⟨f b,0,none⟩))).setCell ⟨f b,4,none⟩ (.pointer (some ⟨g b,0,none⟩))).drew=S at *;clear q4 q5 r5 r4 s5 s4 H G W X HW;have Q:s.heap[E]?=some (.cells #[.int .i64 y,.map (some B),yx T] MeN (0,0)):=(j.o.block _ (zi l.o.mem)).trans l.o.mem;have t:S.heap[E]?=some (.cells #[.int .i64 y,.map (some B),yx T] MeN (0,0)):=by
  rw [Z.o.2.2 E (zqd (zi l.o.mem)) (fun c e=>by rw [Q] at e;simp only [zr,vw] at e;exact absurd e.2.1 (by decide))];exact Q
 have z:S.heap[w.heap.size]?=some (.cells #[.int .i64 p.1,.int .i64 p.2.1,.int .i64 p.2.2] 150 (0,0)):=by
  rw [Z.o.2.2 w.heap.size (Nat.lt_succ_self _) (fun c e=>by rw [K.o] at e;simp only [zr,vw] at e;exact absurd e.2.1 (by decide))];exact K.o
 have i:zb6 S.drew B L.ks:=by
  refine l.o.map.same ?_;show S.heap[B]?=_;obtain⟨es,c,e⟩:=l.o.map.isMap;rw [Z.o.2.2 B (zqd l.o.map.lt) (fun c' J=>by rw [j.o.block _ l.o.map.lt,e] at J;simp at J),j.o.block _ l.o.map.lt]
 obtain⟨w3,ag,C,d⟩:=i.del underlying208 HP.o HK.o 0;unfold plV at ag;obtain⟨a1,-⟩:=zw t 1 _ rfl;obtain⟨b0,-⟩:=zw z 0 _ rfl;obtain⟨b1,-⟩:=zw z 1 _ rfl;obtain⟨b2,-⟩:=zw z 2 _ rfl;have R:w3.heap[E]?=some (.cells #[.int .i64 y,.map (some B),yx T] MeN (0,0)):=(d.block E (zi t) (fun e=>by
  simp only [zr] at e;obtain⟨es,c,J⟩:=i.isMap;rw [← e] at J;have:some (Obj.cells _ _ _)=some (Obj.map es c):=t.symm.trans J;simp at this)).trans t
 have I:w3.heap[w.heap.size]?=some (.cells #[.int .i64 p.1,.int .i64 p.2.1,.int .i64 p.2.2] 150 (0,0)):=(d.block w.heap.size (zi z) (fun e=>by
  simp only [zr] at e;obtain⟨es,c,J⟩:=i.isMap;rw [← e] at J;have:some (Obj.cells _ _ _)=some (Obj.map es c):=z.symm.trans J;simp at this)).trans z
 obtain⟨c1,-⟩:=zw R 1 _ rfl;obtain⟨d0,-⟩:=zw I 0 _ rfl;obtain⟨d1,-⟩:=zw I 1 _ rfl;obtain⟨d2,-⟩:=zw I 2 _ rfl;have ai:=zf C;have Y:=zf R;have V:Hid (S.grownBy w3 (some B)):=⟨d.os,d.tape,d.output,d.size,d.block⟩;have ah:=zf i;clear Q t z R I i C d;go_wp2_with fail
 go_region_held3 (fun F=>F.cell? ⟨E,1,none⟩=some (.map (some B))∧F.cell? ⟨w.heap.size,0,none⟩=some (.int .i64 p.1)∧F.cell? ⟨w.heap.size,1,none⟩=some (.int .i64 p.2.1)∧F.cell? ⟨w.heap.size,2,none⟩=some (.int .i64 p.2.2)) (go_keep) (fail)
 go_wp2_with fail
 go_end0
 have ad:∀ x∈L.drop p,x∈L:=fun x A=>(zfd.1 A).1;have t:zb6 S B L.ks:=ah.o.same rfl;refine⟨rfl,Z.o.1.map (.inl l.o.own.2.1) t V.o,B,T,upd f (g b) (f b),upd g (f b) (g b),⟨l.o.own.1,l.o.own.2.1,l.o.own.2.2.1,fun x A=>l.o.own.2.2.2 x (ad x A)⟩,Y.o,?_,?_,fun x A=>l.o.ok x (ad x A)⟩
 ·exact Z.o.2.1.same fun k c e=>V.o.block k (zi e) (t.not e)
 ·rw [yhi];exact ai.o
theorem ygi (O:Nat→Prop)(b:Nat)(c:Int)(L:LsN)(p:Pl)(g:zip p)(w:World)(h:zen w O b c L)(e:L.get p=none):
  Calls prog 223 #[yx b,plV p] w fun r j=>r= .returned (.tuple #[])∧Below w.heap.size w j:=by
 obtain⟨d,l,m,q,h⟩:=h;have f:L.ks.get p=none:=by rw [zrs,e];rfl
 obtain⟨i,-⟩:=zw h.mem 1 _ rfl;have a:=fun n o=>(h.map.same (w':=(w.alloc o).drewN n) (zia w o d h.map.lt)).look underlying208 zu4 g;rw [f] at a;simp only [zx9,zoe] at a;have k:b < w.heap.size:=zi h.mem;have s:∀ o,(w.alloc o).cell? ⟨b,1,none⟩=some (.map (some d)):=fun o=>by rw [yp _ _ ⟨b,1,none⟩ k];exact i
 unfold plV at a ⊢;unfold yx;clear i f e g h;go_enter func223,ntmps223;go_wp2_with fail
 go_quiet (fail)
 go_wp2_with fail
 first | go_end0 | refine z8 (zcg rfl _ _ _) rfl ?_
 exact⟨rfl,zhz (zk w _) _⟩
theorem zen.stay {b:Int}{L:LsN}(h:zen w O mb b L)(m:zq O1 T w w')(i:∀ k,O k→¬ O1 k)(d:∀ k,O k→O' k):zen w' O' mb b L:=by
 obtain⟨j,g,n,o,h⟩:=h;have a:∀ k,O k→k < w.heap.size→w'.heap[k]?=w.heap[k]?:=fun k l f=>by
  rcases m.block k f with e | ⟨e,-⟩
  ·exact e
  ·exact absurd e (i k l)
 refine⟨j,g,n,o,⟨d _ h.own.1,d _ h.own.2.1,d _ h.own.2.2.1,fun x c=>d _ (h.own.2.2.2 x c)⟩,(a _ h.own.1 (zi h.mem)).trans h.mem,?_,h.map.same (a _ h.own.2.1 h.map.lt),h.ok⟩;exact⟨(a _ h.own.2.2.1 (zi h.ring.ends)).trans h.ring.ends,fun x c=>(a _ (h.own.2.2.2 x c) (zi (h.ring.link x c))).trans (h.ring.link x c),h.ring.circ⟩
theorem zen.below {a:Int}{L:LsN}(h:zen w O mb a L)(c:Below w.heap.size w w')(b:∀ k,O k→O' k):zen w' O' mb a L :=
 h.stay (O1:=fun _=>False) (T:=[]) (.of_below c) (fun _ _ h=>h) b
theorem zyu (O:Nat→Prop)(b:Nat)(a:Int)(L:LsN)(p:Pl)(f:zip p)(w:World)(h:zen w O b a L):
  Calls prog 223 #[yx b,plV p] w fun r d=>r= .returned (.tuple #[])∧zq O [LkN] w d∧zen d O b a (L.drop p):=by
 cases c:L.get p with
 | some x=>exact yb0 O b a L p f w h x.1 x.2 c
 | none =>
  refine(ygi O b a L p f w h c).mono ?_;rintro r d ⟨rfl,e⟩;rw [LsN.drop_none c];exact⟨rfl,.of_below e,h.below e (fun _ h=>h)⟩
end Go.Proofs.YtlcllcgngjhoaaaGreatDoor
