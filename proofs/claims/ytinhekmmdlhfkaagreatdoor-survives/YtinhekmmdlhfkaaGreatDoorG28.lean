import Derived.Test.YtinhekmmdlhfkaaGreatDoorG06
import Derived.Test.YtinhekmmdlhfkaaGreatDoorG03
import Derived.Test.YtinhekmmdlhfkaaGreatDoorG04
import Derived.Deep.RegionLaw
import Derived.Deep.RegionHeld3
namespace Go.Proofs.YtinhekmmdlhfkaaGreatDoor
section
set_option maxHeartbeats 4000000
open Go.RowKit
set_option maxRecDepth 100000
def spv (ss:List (Nat×Nat)):List Value:=ss.flatMap fun s=>[.int .i64 (s.1:Int),.int .i64 (s.2:Int)]
theorem zjp (ss:List (Nat×Nat))(s:Nat×Nat):spv (ss++[s])=spv ss++[.int .i64 (s.1:Int),.int .i64 (s.2:Int)]:=by simp [spv]
def zas (B:Nat)(w:World)(x:Value)(ss:List (Nat×Nat)):Prop:=w.ownsRow B 208 2 x ss.length (spv ss)
theorem zl {w:World}{b:Nat}{c:Array Value}{t:TypeId}{x:Nat×Nat}(h:w.heap[b]?=some (.cells c t x))(i:Nat)(v:Value)(hv:c[i]?=some v):w.cell? ⟨b,i,none⟩=some v:=by
 simp [World.cell?,h,hv]
theorem zja:(Tryz.prog.info? 208).map (fun i=>(i.zero,i.size,i.bytes))=some (some (.agg #[.int .i64 0,.int .i64 0]),2,16):=by kernel_rfl
theorem zd9 (a n:Nat)(w:World)(h:a+n≤9223372036854775807):
  Calls Tryz.prog 141 #[.agg #[.int .i64 a,.int .i64 n]] w fun r w'=>r= .returned (.int .i64 ((a:Int)+(n:Int)))∧Below w.heap.size w w':=by
 have h1:(0:Int)≤(a:Int):=by omega
 have h2:(0:Int)≤(n:Int):=by omega
 have h3:(a:Int)+(n:Int)≤9223372036854775807:=by omega
 go_enter Tryz.func141,Tryz.ntmps141
 go_wp2
 go_ret
 exact⟨rfl,(Below.refl _ _).alloc (Nat.le_refl _) _⟩
theorem zdo (a n:Nat)(w:World)(h:a+n≤9223372036854775807)(h2:2≤n):
  Calls Tryz.prog 142 #[.agg #[.int .i64 a,.int .i64 n]] w fun r w'=>r= .returned (.tuple #[.agg #[.int .i64 a,.int .i64 (kOf n:Int)],.agg #[.int .i64 ((a:Int)+(kOf n:Int)),.int .i64 ((n:Int) - (kOf n:Int))]])∧Below w.heap.size w w':=by
 obtain⟨k1,k2,k3⟩:=jy n h2
 have hsp:=zdj n (((w.alloc (.cells #[.int .i64 a,.int .i64 n] 208)).alloc (.cells #[.int .i64 0,.int .i64 0] 208)).alloc (.cells #[.int .i64 0,.int .i64 0] 208)) h2 (by omega)
 have HS:=za hsp
 clear hsp
 generalize kOf n=k at *
 have g1:(0:Int)≤(a:Int):=by omega
 have g2:(a:Int)+(k:Int)≤9223372036854775807:=by omega
 have g3:(k:Int)≤(n:Int):=by omega
 have g4:(n:Int)≤9223372036854775807:=by omega
 have g5:(1:Int)≤(k:Int):=by omega
 go_enter Tryz.func142,Tryz.ntmps142
 go_wp2_with fail
 refine HS.o.mono ?_
 rintro e w' ⟨rfl,rfl⟩
 have c1:IntKind.i64.wrap ((a:Int)+(k:Int))=(a:Int)+(k:Int):=by rw [IntKind.wrap_i64];omega
 have c2:IntKind.i64.wrap ((n:Int) - (k:Int))=(n:Int) - (k:Int):=by rw [IntKind.wrap_i64];omega
 have hh:(((w.alloc (.cells #[.int .i64 a,.int .i64 n] 208)).alloc (.cells #[.int .i64 0,.int .i64 0] 208)).alloc (.cells #[.int .i64 0,.int .i64 0] 208)).heap[w.heap.size]?=some (.cells #[.int .i64 a,.int .i64 n] 208):=zc (zc (heap_alloc_last _ _))
 have q0:=zl hh 0 _ rfl
 have q1:=zl hh 1 _ rfl
 clear hh
 go_wp2_with fail
 go_region_held3 (fun w'=>w'.cell? ⟨w.heap.size,0,none⟩=some (.int .i64 a)∧w'.cell? ⟨w.heap.size,1,none⟩=some (.int .i64 n)) (go_keep) (fail)
 all_goals
  go_wp2_with fail
  exact bodyPost_ret (v:= .tuple #[.agg #[.int .i64 a,.int .i64 (k:Int)],.agg #[.int .i64 ((a:Int)+(k:Int)),.int .i64 ((n:Int) - (k:Int))]]) (by simp [results,Tryz.results142,go_sem]) rfl ⟨rfl,(((ze w _).alloc (by simp) _).alloc (by simp;omega) _).drew⟩
theorem vh {w:World}{B B':Nat}{e:TypeId}{s:Nat}{v:Value}{n:Nat}{xs:List Value}(h:w.ownsRow B' e s v n xs)(hb:B≤B'):w.ownsRow B e s v n xs:=by
 refine⟨h.1,?_⟩
 rcases h.2 with h | ⟨g',cap,cur,e1,e2,r⟩
 ·exact .inl h
 ·exact .inr ⟨g',cap,cur,e1,Nat.le_trans hb e2,r⟩
structure Two (w wc:World)(B5 B6 a k n:Nat):Prop where
 below:Below w.heap.size w wc
 h5:wc.heap[B5]?=some (.cells #[.int .i64 (a:Int),.int .i64 (k:Int)] 208 (0,0))
 h6:wc.heap[B6]?=some (.cells #[.int .i64 ((a:Int)+(k:Int)),.int .i64 ((n:Int) - (k:Int))] 208 (0,0))
theorem Two.later {w wc w':World}{B5 B6 a k n:Nat}(h:Two w wc B5 B6 a k n)(hb:Below wc.heap.size wc w'):Two w w' B5 B6 a k n :=
 ⟨h.below.trans (hb.mono h.below.size),(hb.block _ (xe h.h5)).trans h.h5,(hb.block _ (xe h.h6)).trans h.h6⟩
theorem zs4 (f a n i:Nat)(w:World)(h:a+n≤9223372036854775807)(h2:2≤n)(hf:n≤2 ^ (f+1))(hf6:f≤1000)(ha:a≤i)(hk:i < a+kOf n)
  (ih:∀(a n i:Nat) (w:World),a+n≤9223372036854775807→1≤n→n≤2 ^ f→a≤i→i < a+n→Calls Tryz.prog 102 #[.agg #[.int .i64 a,.int .i64 n],.int .i64 i] w fun r w'=>∃ x,r= .returned x∧Below w.heap.size w w'∧zas w.heap.size w' x (xp f a n i)) :
  Calls Tryz.prog 102 #[.agg #[.int .i64 a,.int .i64 n],.int .i64 i] w fun r w'=>∃ x,r= .returned x∧Below w.heap.size w w'∧zas w.heap.size w' x (xp (f+1) a n i):=by
 obtain⟨t,hi,hi'⟩:=Option.map_eq_some_iff.1 zja
 obtain⟨hz0,hz1,hz2⟩:t.zero=some (.agg #[.int .i64 0,.int .i64 0])∧t.size=2∧t.bytes=16:=by simpa using hi'
 clear hi'
 have HI:=za hi
 have HZ:=za (And.intro hz0 (And.intro hz1 hz2))
 clear hi hz0 hz1 hz2
 obtain⟨k1,k2,k3,k4,k5,k6⟩:=jl n f h2 hf
 rw [zdx f a n i h2 hk]
 have HH:=za (zdo a n (w.alloc (.cells #[.int .i64 a,.int .i64 n] 208)) h h2)
 have hcnt:=za3 f a (kOf n) i
 generalize kOf n=k at *
 have IH:=za (fun w=>ih a k i w (by omega) (by omega) k1 ha hk)
 have EN:=za (fun w:World=>zd9 a k w (by omega))
 generalize xp f a k i=P at *
 have HC:=za hcnt
 unfold zas at *
 rw [zjp,List.length_append,List.length_singleton]
 clear hcnt ih
 have n2:((n:Int)==1)=false:=beq_eq_false_iff_ne.2 (by omega)
 have c4:(i:Int) < (a:Int)+(k:Int):=by omega
 have HX:=za (show a+k=a+k∧(((a+k:Nat)):Int)=(a:Int)+(k:Int)∧(((n - k:Nat)):Int)=(n:Int) - (k:Int) by omega)
 go_enter Tryz.func102,Tryz.ntmps102
 go_wp2_with fail
 refine HH.o.mono ?_
 rintro e w1 ⟨rfl,hb1⟩
 have HB1:Hid (Below w.heap.size w w1):=(ze w _).trans (hb1.mono (by simp))
 clear hb1 HH
 go_wp2_with fail
 refine(EN.out _).mono ?_
 rintro e w2 ⟨rfl,hb2⟩
 have HT:Hid (Two w w2 w1.heap.size (w1.heap.size+1) a k n):=Two.later ⟨((HB1.o.alloc HB1.o.size _).alloc (by have:=HB1.o.size;simp;omega) _),zc (heap_alloc_last _ _),by have:=heap_alloc_last (w1.alloc (.cells #[.int .i64 (a:Int),.int .i64 (k:Int)] 208)) (.cells #[.int .i64 ((a:Int)+(k:Int)),.int .i64 ((n:Int) - (k:Int))] 208);simpa using this⟩ hb2
 clear hb2 EN
 generalize w1.heap.size+1=B6 at *
 generalize w1.heap.size=B5 at *
 clear HB1
 have q0:=zl HT.o.h5 0 _ rfl
 have q1:=zl HT.o.h5 1 _ rfl
 have q2:=zl HT.o.h6 0 _ rfl
 have q3:=zl HT.o.h6 1 _ rfl
 have l5:¬ B5=w2.heap.size:=by have:=xe HT.o.h5;omega
 have l6:¬ B6=w2.heap.size:=by have:=xe HT.o.h6;omega
 have hn0:Hid (∀ o,Below w2.heap.size w2 (w2.alloc o).drew):=fun o=>(ze _ _).drew
 go_wp2_with fail
 go_region_held3 (fun w'=>w'.cell? ⟨B5,0,none⟩=some (.int .i64 (a:Int))∧w'.cell? ⟨B5,1,none⟩=some (.int .i64 (k:Int))∧w'.cell? ⟨B6,0,none⟩=some (.int .i64 ((a:Int)+(k:Int)))∧w'.cell? ⟨B6,1,none⟩=some (.int .i64 ((n:Int) - (k:Int)))) (go_keep) (first
  | (go_at_call 102;refine(IH.out w2.drew).mono ?_;rintro e w3 ⟨y,rfl,hb3,ho3⟩;have hb4:Below w2.heap.size w2 w3:=(show Below w2.heap.size w2 w2.drew from (Below.refl _ _).drew).trans hb3;have HTA:=za (HT.o.later hb4);have p0:=zl HTA.o.h5 0 _ rfl;have p1:=zl HTA.o.h5 1 _ rfl;have p2:=zl HTA.o.h6 0 _ rfl;have p3:=zl HTA.o.h6 1 _ rfl;have l5:¬ B5=w3.heap.size:=(by have:=xe HTA.o.h5;omega);have l6:¬ B6=w3.heap.size:=(by have:=xe HTA.o.h6;omega);have HOA:Hid (w3.ownsRow w.heap.size 208 2 y P.length (spv P)):=(vh ho3 HT.o.below.size);have HOA2:Hid (∀ q,y.ownBlock=some q→w2.heap.size≤q):=(js ho3);have HBA:=za hb4;have hsz:Hid (w.heap.size≤w3.heap.size):=HTA.o.below.size;clear hb3 hb4 ho3)
  | (go_at_call 102;refine(IH.out (w2.alloc (.cells #[.int .i64 ((a:Int)+(k:Int)),.int .i64 ((n:Int) - (k:Int))] 208)).drew).mono ?_;rintro e w3 ⟨y,rfl,hb3,ho3⟩;have hb4:Below w2.heap.size w2 w3:=(hn0.out _).trans (hb3.mono (hn0.out _).size);have HTB:=za (HT.o.later hb4);have p0:=zl HTB.o.h5 0 _ rfl;have p1:=zl HTB.o.h5 1 _ rfl;have p2:=zl HTB.o.h6 0 _ rfl;have p3:=zl HTB.o.h6 1 _ rfl;have HNB:Hid (w3.heap[w2.heap.size]?=some (.cells #[.int .i64 ((a:Int)+(k:Int)),.int .i64 ((n:Int) - (k:Int))] 208 (0,0))):=(by show _=_;rw [hb3.block _ (by show w2.heap.size < (w2.heap.push _).size;simp)];exact heap_alloc_last w2 _);have HOB2:Hid (∀ q,y.ownBlock=some q→w2.heap.size≤q):=(fun q hq=>Nat.le_trans (hn0.out (.cells #[.int .i64 ((a:Int)+(k:Int)),.int .i64 ((n:Int) - (k:Int))] 208)).size (js ho3 q hq));have HBB:=za hb4;have HOB:Hid (w3.ownsRow w.heap.size 208 2 y P.length (spv P)):=(vh ho3 (Nat.le_trans HT.o.below.size (hn0.out (.cells #[.int .i64 ((a:Int)+(k:Int)),.int .i64 ((n:Int) - (k:Int))] 208)).size));have hsz:Hid (w.heap.size≤w3.heap.size):=HTB.o.below.size;clear hb3 hb4 ho3)
  | (refine step_append_lies _ (by rfl) _ _ _ (by rfl) w.heap.size 208 t (.agg #[.int .i64 0,.int .i64 0]) 2 16 Tryz.underlying205 HI.o HZ.o.1 HZ.o.2.1 HZ.o.2.2 rfl (by omega) y P.length (spv P) (by rfl) (by exact yd HOA.o (ze _ _)) ⟨w3.heap.size,0,none⟩ 1 1 [.int .i64 ((a:Int)+(k:Int)),.int .i64 ((n:Int) - (k:Int))] (by rfl) rfl (World.news_of_block (heap_alloc_last _ _)) (by simp [Value.oneCell']) (by omega) (by have:=HC.o;unfold maxLen;omega) (by have:=HC.o;omega) (by have:=hsz.out;simp;omega) (w3.heap.size+1) (by simp) ?_;intro g cap' w4 hown hgrow hat hltg;have HB5:=za ((HBA.o.trans ((ze w3 _).mono HBA.o.size)).grown hgrow (by have:=HBA.o.size;simp;omega) HOA2.o);have HT5:=za (HT.o.later HB5.o);have p0:=zl HT5.o.h5 0 _ rfl;have p1:=zl HT5.o.h5 1 _ rfl;have p2:=zl HT5.o.h6 0 _ rfl;have p3:=zl HT5.o.h6 1 _ rfl;have HO5:=za hown;clear hgrow hat hltg hown)
  | (refine step_append_lies _ (by rfl) _ _ _ (by rfl) w.heap.size 208 t (.agg #[.int .i64 0,.int .i64 0]) 2 16 Tryz.underlying205 HI.o HZ.o.1 HZ.o.2.1 HZ.o.2.2 rfl (by omega) y P.length (spv P) (by rfl) (by exact HOB.o) ⟨w2.heap.size,0,none⟩ 1 1 [.int .i64 ((a:Int)+(k:Int)),.int .i64 ((n:Int) - (k:Int))] (by rfl) rfl (World.news_of_block HNB.o) (by simp [Value.oneCell']) (by omega) (by have:=HC.o;unfold maxLen;omega) (by have:=HC.o;omega) (by have:=hsz.out;omega) w3.heap.size (by rfl) ?_;intro g cap' w4 hown hgrow hat hltg;have HB5:=za (HBB.o.grown hgrow HBB.o.size HOB2.o);have HT5:=za (HT.o.later HB5.o);have p0:=zl HT5.o.h5 0 _ rfl;have p1:=zl HT5.o.h5 1 _ rfl;have p2:=zl HT5.o.h6 0 _ rfl;have p3:=zl HT5.o.h6 1 _ rfl;have HO5:=za hown;clear hgrow hat hltg hown))
 all_goals
  go_wp2_with fail
  go_ret
  exact⟨_,rfl,HT5.o.below,by have:=HO5.o;rw [HX.o.2.1,HX.o.2.2];exact this⟩
theorem zqk (f a n i:Nat)(w:World)(h:a+n≤9223372036854775807)(h2:2≤n)(hf:n≤2 ^ (f+1))(hf6:f≤1000)(_:a≤i)(hin:i < a+n)(hk:¬ i < a+kOf n)
  (ih:∀(a n i:Nat) (w:World),a+n≤9223372036854775807→1≤n→n≤2 ^ f→a≤i→i < a+n→Calls Tryz.prog 102 #[.agg #[.int .i64 a,.int .i64 n],.int .i64 i] w fun r w'=>∃ x,r= .returned x∧Below w.heap.size w w'∧zas w.heap.size w' x (xp f a n i)) :
  Calls Tryz.prog 102 #[.agg #[.int .i64 a,.int .i64 n],.int .i64 i] w fun r w'=>∃ x,r= .returned x∧Below w.heap.size w w'∧zas w.heap.size w' x (xp (f+1) a n i):=by
 obtain⟨t,hi,hi'⟩:=Option.map_eq_some_iff.1 zja
 obtain⟨hz0,hz1,hz2⟩:t.zero=some (.agg #[.int .i64 0,.int .i64 0])∧t.size=2∧t.bytes=16:=by simpa using hi'
 clear hi'
 have HI:=za hi
 have HZ:=za (And.intro hz0 (And.intro hz1 hz2))
 clear hi hz0 hz1 hz2
 obtain⟨k1,k2,k3,k4,k5,k6⟩:=jl n f h2 hf
 rw [zcs f a n i h2 hk]
 have HH:=za (zdo a n (w.alloc (.cells #[.int .i64 a,.int .i64 n] 208)) h h2)
 have hcnt:=za3 f (a+kOf n) (n - kOf n) i
 generalize kOf n=k at *
 have ih':=fun w=>ih (a+k) (n - k) i w (by omega) (by omega) k2 (by omega) (by omega)
 rw [show(((a+k:Nat):Int))=(a:Int)+(k:Int) by omega,show(((n - k:Nat):Int))=(n:Int) - (k:Int) by omega] at ih'
 have IH:=za ih'
 clear ih'
 have EN:=za (fun w:World=>zd9 a k w (by omega))
 generalize xp f (a+k) (n - k) i=P at *
 have HC:=za hcnt
 unfold zas at *
 rw [zjp,List.length_append,List.length_singleton]
 clear hcnt ih
 have n2:((n:Int)==1)=false:=beq_eq_false_iff_ne.2 (by omega)
 have c4:¬(i:Int) < (a:Int)+(k:Int):=by omega
 go_enter Tryz.func102,Tryz.ntmps102
 go_wp2_with fail
 refine HH.o.mono ?_
 rintro e w1 ⟨rfl,hb1⟩
 have HB1:Hid (Below w.heap.size w w1):=(ze w _).trans (hb1.mono (by simp))
 clear hb1 HH
 go_wp2_with fail
 refine(EN.out _).mono ?_
 rintro e w2 ⟨rfl,hb2⟩
 have HT:Hid (Two w w2 w1.heap.size (w1.heap.size+1) a k n):=Two.later ⟨((HB1.o.alloc HB1.o.size _).alloc (by have:=HB1.o.size;simp;omega) _),zc (heap_alloc_last _ _),by have:=heap_alloc_last (w1.alloc (.cells #[.int .i64 (a:Int),.int .i64 (k:Int)] 208)) (.cells #[.int .i64 ((a:Int)+(k:Int)),.int .i64 ((n:Int) - (k:Int))] 208);simpa using this⟩ hb2
 clear hb2 EN
 generalize w1.heap.size+1=B6 at *
 generalize w1.heap.size=B5 at *
 clear HB1
 have q0:=zl HT.o.h5 0 _ rfl
 have q1:=zl HT.o.h5 1 _ rfl
 have q2:=zl HT.o.h6 0 _ rfl
 have q3:=zl HT.o.h6 1 _ rfl
 have l5:¬ B5=w2.heap.size:=by have:=xe HT.o.h5;omega
 have l6:¬ B6=w2.heap.size:=by have:=xe HT.o.h6;omega
 have hn0:Hid (∀ o,Below w2.heap.size w2 (w2.alloc o).drew):=fun o=>(ze _ _).drew
 go_wp2_with fail
 go_region_held3 (fun w'=>w'.cell? ⟨B5,0,none⟩=some (.int .i64 (a:Int))∧w'.cell? ⟨B5,1,none⟩=some (.int .i64 (k:Int))∧w'.cell? ⟨B6,0,none⟩=some (.int .i64 ((a:Int)+(k:Int)))∧w'.cell? ⟨B6,1,none⟩=some (.int .i64 ((n:Int) - (k:Int)))) (go_keep) (first
  | (go_at_call 102;refine(IH.out w2.drew).mono ?_;rintro e w3 ⟨y,rfl,hb3,ho3⟩;have hb4:Below w2.heap.size w2 w3:=(show Below w2.heap.size w2 w2.drew from (Below.refl _ _).drew).trans hb3;have HTA:=za (HT.o.later hb4);have p0:=zl HTA.o.h5 0 _ rfl;have p1:=zl HTA.o.h5 1 _ rfl;have p2:=zl HTA.o.h6 0 _ rfl;have p3:=zl HTA.o.h6 1 _ rfl;have l5:¬ B5=w3.heap.size:=(by have:=xe HTA.o.h5;omega);have l6:¬ B6=w3.heap.size:=(by have:=xe HTA.o.h6;omega);have HOA:Hid (w3.ownsRow w.heap.size 208 2 y P.length (spv P)):=(vh ho3 HT.o.below.size);have HOA2:Hid (∀ q,y.ownBlock=some q→w2.heap.size≤q):=(js ho3);have HBA:=za hb4;have hsz:Hid (w.heap.size≤w3.heap.size):=HTA.o.below.size;clear hb3 hb4 ho3)
  | (go_at_call 102;refine(IH.out (w2.alloc (.cells #[.int .i64 (a:Int),.int .i64 (k:Int)] 208)).drew).mono ?_;rintro e w3 ⟨y,rfl,hb3,ho3⟩;have hb4:Below w2.heap.size w2 w3:=(hn0.out _).trans (hb3.mono (hn0.out _).size);have HTB:=za (HT.o.later hb4);have p0:=zl HTB.o.h5 0 _ rfl;have p1:=zl HTB.o.h5 1 _ rfl;have p2:=zl HTB.o.h6 0 _ rfl;have p3:=zl HTB.o.h6 1 _ rfl;have HNB:Hid (w3.heap[w2.heap.size]?=some (.cells #[.int .i64 (a:Int),.int .i64 (k:Int)] 208 (0,0))):=(by show _=_;rw [hb3.block _ (by show w2.heap.size < (w2.heap.push _).size;simp)];exact heap_alloc_last w2 _);have HOB2:Hid (∀ q,y.ownBlock=some q→w2.heap.size≤q):=(fun q hq=>Nat.le_trans (hn0.out (.cells #[.int .i64 (a:Int),.int .i64 (k:Int)] 208)).size (js ho3 q hq));have HBB:=za hb4;have HOB:Hid (w3.ownsRow w.heap.size 208 2 y P.length (spv P)):=(vh ho3 (Nat.le_trans HT.o.below.size (hn0.out (.cells #[.int .i64 (a:Int),.int .i64 (k:Int)] 208)).size));have hsz:Hid (w.heap.size≤w3.heap.size):=HTB.o.below.size;clear hb3 hb4 ho3)
  | (refine step_append_lies _ (by rfl) _ _ _ (by rfl) w.heap.size 208 t (.agg #[.int .i64 0,.int .i64 0]) 2 16 Tryz.underlying205 HI.o HZ.o.1 HZ.o.2.1 HZ.o.2.2 rfl (by omega) y P.length (spv P) (by rfl) (by exact yd HOA.o (ze _ _)) ⟨w3.heap.size,0,none⟩ 1 1 [.int .i64 (a:Int),.int .i64 (k:Int)] (by rfl) rfl (World.news_of_block (heap_alloc_last _ _)) (by simp [Value.oneCell']) (by omega) (by have:=HC.o;unfold maxLen;omega) (by have:=HC.o;omega) (by have:=hsz.out;simp;omega) (w3.heap.size+1) (by simp) ?_;intro g cap' w4 hown hgrow hat hltg;have HB5:=za ((HBA.o.trans ((ze w3 _).mono HBA.o.size)).grown hgrow (by have:=HBA.o.size;simp;omega) HOA2.o);have HT5:=za (HT.o.later HB5.o);have p0:=zl HT5.o.h5 0 _ rfl;have p1:=zl HT5.o.h5 1 _ rfl;have p2:=zl HT5.o.h6 0 _ rfl;have p3:=zl HT5.o.h6 1 _ rfl;have HO5:=za hown;clear hgrow hat hltg hown)
  | (refine step_append_lies _ (by rfl) _ _ _ (by rfl) w.heap.size 208 t (.agg #[.int .i64 0,.int .i64 0]) 2 16 Tryz.underlying205 HI.o HZ.o.1 HZ.o.2.1 HZ.o.2.2 rfl (by omega) y P.length (spv P) (by rfl) (by exact HOB.o) ⟨w2.heap.size,0,none⟩ 1 1 [.int .i64 (a:Int),.int .i64 (k:Int)] (by rfl) rfl (World.news_of_block HNB.o) (by simp [Value.oneCell']) (by omega) (by have:=HC.o;unfold maxLen;omega) (by have:=HC.o;omega) (by have:=hsz.out;omega) w3.heap.size (by rfl) ?_;intro g cap' w4 hown hgrow hat hltg;have HB5:=za (HBB.o.grown hgrow HBB.o.size HOB2.o);have HT5:=za (HT.o.later HB5.o);have p0:=zl HT5.o.h5 0 _ rfl;have p1:=zl HT5.o.h5 1 _ rfl;have p2:=zl HT5.o.h6 0 _ rfl;have p3:=zl HT5.o.h6 1 _ rfl;have HO5:=za hown;clear hgrow hat hltg hown))
 all_goals
  go_wp2_with fail
  go_ret
  exact⟨_,rfl,HT5.o.below,HO5.o⟩
theorem zyr (f m a n:Nat)(whole:Bool)(w:World)(h:a+n≤9223372036854775807)(h2:2≤n)(hf:n≤2 ^ (f+1))(hf6:f≤1000)(ha:a < m)(hin:m < a+n)(hk:m≤a+kOf n)
  (ih:∀(m a n:Nat) (whole:Bool) (w:World),a+n≤9223372036854775807→1≤n→n≤2 ^ f→a < m→m≤a+n→Calls Tryz.prog 98 #[.int .i64 m,.agg #[.int .i64 a,.int .i64 n],.bool whole] w fun r w'=>∃ x,r= .returned x∧Below w.heap.size w w'∧zas w.heap.size w' x (xr f m a n whole)) :
  Calls Tryz.prog 98 #[.int .i64 m,.agg #[.int .i64 a,.int .i64 n],.bool whole] w fun r w'=>∃ x,r= .returned x∧Below w.heap.size w w'∧zas w.heap.size w' x (xr (f+1) m a n whole):=by
 obtain⟨t,hi,hi'⟩:=Option.map_eq_some_iff.1 zja
 obtain⟨hz0,hz1,hz2⟩:t.zero=some (.agg #[.int .i64 0,.int .i64 0])∧t.size=2∧t.bytes=16:=by simpa using hi'
 clear hi'
 have HI:=za hi
 have HZ:=za (And.intro hz0 (And.intro hz1 hz2))
 clear hi hz0 hz1 hz2
 obtain⟨k1,k2,k3,k4,k5,k6⟩:=jl n f h2 hf
 rw [zbl f m a n whole (by omega) hk]
 have HH:=za (fun w:World=>zdo a n w h h2)
 have EE:=za (fun w:World=>zd9 a n w h)
 have hcnt:=za2 f m a (kOf n) whole
 generalize kOf n=k at *
 have IH:=za (fun w=>ih m a k whole w (by omega) (by omega) k1 ha hk)
 have EN:=za (fun w:World=>zd9 a k w (by omega))
 generalize xr f m a k whole=P at *
 have HC:=za hcnt
 unfold zas at *
 rw [zjp,List.length_append,List.length_singleton]
 clear hcnt ih
 have n2:((m:Int)==(a:Int)+(n:Int))=false:=beq_eq_false_iff_ne.2 (by omega)
 have c4:(m:Int)≤(a:Int)+(k:Int):=by omega
 have HX:=za (show a+k=a+k∧(((a+k:Nat)):Int)=(a:Int)+(k:Int)∧(((n - k:Nat)):Int)=(n:Int) - (k:Int) by omega)
 go_enter Tryz.func98,Tryz.ntmps98
 go_wp2_with fail
 refine(EE.out _).mono ?_
 rintro e w0 ⟨rfl,hb0⟩
 have HB0:Hid (Below w.heap.size w w0):=(ze w _).trans (hb0.mono (by simp))
 have hbx:=(hb0.block w.heap.size (by simp)).trans (heap_alloc_last w _)
 have s0:=zl hbx 0 _ rfl
 have s1:=zl hbx 1 _ rfl
 clear hb0 EE hbx
 go_wp2_with fail
 refine(HH.o _).mono ?_
 rintro e w1 ⟨rfl,hb1⟩
 have HB1:Hid (Below w.heap.size w w1):=HB0.o.trans (hb1.mono HB0.o.size)
 clear s0 s1 HB0
 clear hb1 HH
 go_wp2_with fail
 refine(EN.out _).mono ?_
 rintro e w2 ⟨rfl,hb2⟩
 have HT:Hid (Two w w2 w1.heap.size (w1.heap.size+1) a k n):=Two.later ⟨((HB1.o.alloc HB1.o.size _).alloc (by have:=HB1.o.size;simp;omega) _),zc (heap_alloc_last _ _),by have:=heap_alloc_last (w1.alloc (.cells #[.int .i64 (a:Int),.int .i64 (k:Int)] 208)) (.cells #[.int .i64 ((a:Int)+(k:Int)),.int .i64 ((n:Int) - (k:Int))] 208);simpa using this⟩ hb2
 clear hb2 EN
 generalize w1.heap.size+1=B6 at *
 generalize w1.heap.size=B5 at *
 clear HB1
 have q0:=zl HT.o.h5 0 _ rfl
 have q1:=zl HT.o.h5 1 _ rfl
 have q2:=zl HT.o.h6 0 _ rfl
 have q3:=zl HT.o.h6 1 _ rfl
 have l5:¬ B5=w2.heap.size:=by have:=xe HT.o.h5;omega
 have l6:¬ B6=w2.heap.size:=by have:=xe HT.o.h6;omega
 have hn0:Hid (∀ o,Below w2.heap.size w2 (w2.alloc o).drew):=fun o=>(ze _ _).drew
 go_wp2_with fail
 go_region_held3 (fun w'=>w'.cell? ⟨B5,0,none⟩=some (.int .i64 (a:Int))∧w'.cell? ⟨B5,1,none⟩=some (.int .i64 (k:Int))∧w'.cell? ⟨B6,0,none⟩=some (.int .i64 ((a:Int)+(k:Int)))∧w'.cell? ⟨B6,1,none⟩=some (.int .i64 ((n:Int) - (k:Int)))) (go_keep) (first
  | (go_at_call 98;refine(IH.out w2.drew).mono ?_;rintro e w3 ⟨y,rfl,hb3,ho3⟩;have hb4:Below w2.heap.size w2 w3:=(show Below w2.heap.size w2 w2.drew from (Below.refl _ _).drew).trans hb3;have HTA:=za (HT.o.later hb4);have p0:=zl HTA.o.h5 0 _ rfl;have p1:=zl HTA.o.h5 1 _ rfl;have p2:=zl HTA.o.h6 0 _ rfl;have p3:=zl HTA.o.h6 1 _ rfl;have l5:¬ B5=w3.heap.size:=(by have:=xe HTA.o.h5;omega);have l6:¬ B6=w3.heap.size:=(by have:=xe HTA.o.h6;omega);have HOA:Hid (w3.ownsRow w.heap.size 208 2 y P.length (spv P)):=(vh ho3 HT.o.below.size);have HOA2:Hid (∀ q,y.ownBlock=some q→w2.heap.size≤q):=(js ho3);have HBA:=za hb4;have hsz:Hid (w.heap.size≤w3.heap.size):=HTA.o.below.size;clear hb3 hb4 ho3)
  | (go_at_call 98;refine(IH.out (w2.alloc (.cells #[.int .i64 ((a:Int)+(k:Int)),.int .i64 ((n:Int) - (k:Int))] 208)).drew).mono ?_;rintro e w3 ⟨y,rfl,hb3,ho3⟩;have hb4:Below w2.heap.size w2 w3:=(hn0.out _).trans (hb3.mono (hn0.out _).size);have HTB:=za (HT.o.later hb4);have p0:=zl HTB.o.h5 0 _ rfl;have p1:=zl HTB.o.h5 1 _ rfl;have p2:=zl HTB.o.h6 0 _ rfl;have p3:=zl HTB.o.h6 1 _ rfl;have HNB:Hid (w3.heap[w2.heap.size]?=some (.cells #[.int .i64 ((a:Int)+(k:Int)),.int .i64 ((n:Int) - (k:Int))] 208 (0,0))):=(by show _=_;rw [hb3.block _ (by show w2.heap.size < (w2.heap.push _).size;simp)];exact heap_alloc_last w2 _);have HOB2:Hid (∀ q,y.ownBlock=some q→w2.heap.size≤q):=(fun q hq=>Nat.le_trans (hn0.out (.cells #[.int .i64 ((a:Int)+(k:Int)),.int .i64 ((n:Int) - (k:Int))] 208)).size (js ho3 q hq));have HBB:=za hb4;have HOB:Hid (w3.ownsRow w.heap.size 208 2 y P.length (spv P)):=(vh ho3 (Nat.le_trans HT.o.below.size (hn0.out (.cells #[.int .i64 ((a:Int)+(k:Int)),.int .i64 ((n:Int) - (k:Int))] 208)).size));have hsz:Hid (w.heap.size≤w3.heap.size):=HTB.o.below.size;clear hb3 hb4 ho3)
  | (refine step_append_lies _ (by rfl) _ _ _ (by rfl) w.heap.size 208 t (.agg #[.int .i64 0,.int .i64 0]) 2 16 Tryz.underlying205 HI.o HZ.o.1 HZ.o.2.1 HZ.o.2.2 rfl (by omega) y P.length (spv P) (by rfl) (by exact yd HOA.o (ze _ _)) ⟨w3.heap.size,0,none⟩ 1 1 [.int .i64 ((a:Int)+(k:Int)),.int .i64 ((n:Int) - (k:Int))] (by rfl) rfl (World.news_of_block (heap_alloc_last _ _)) (by simp [Value.oneCell']) (by omega) (by have:=HC.o;unfold maxLen;omega) (by have:=HC.o;omega) (by have:=hsz.out;simp;omega) (w3.heap.size+1) (by simp) ?_;intro g cap' w4 hown hgrow hat hltg;have HB5:=za ((HBA.o.trans ((ze w3 _).mono HBA.o.size)).grown hgrow (by have:=HBA.o.size;simp;omega) HOA2.o);have HT5:=za (HT.o.later HB5.o);have p0:=zl HT5.o.h5 0 _ rfl;have p1:=zl HT5.o.h5 1 _ rfl;have p2:=zl HT5.o.h6 0 _ rfl;have p3:=zl HT5.o.h6 1 _ rfl;have HO5:=za hown;clear hgrow hat hltg hown)
  | (refine step_append_lies _ (by rfl) _ _ _ (by rfl) w.heap.size 208 t (.agg #[.int .i64 0,.int .i64 0]) 2 16 Tryz.underlying205 HI.o HZ.o.1 HZ.o.2.1 HZ.o.2.2 rfl (by omega) y P.length (spv P) (by rfl) (by exact HOB.o) ⟨w2.heap.size,0,none⟩ 1 1 [.int .i64 ((a:Int)+(k:Int)),.int .i64 ((n:Int) - (k:Int))] (by rfl) rfl (World.news_of_block HNB.o) (by simp [Value.oneCell']) (by omega) (by have:=HC.o;unfold maxLen;omega) (by have:=HC.o;omega) (by have:=hsz.out;omega) w3.heap.size (by rfl) ?_;intro g cap' w4 hown hgrow hat hltg;have HB5:=za (HBB.o.grown hgrow HBB.o.size HOB2.o);have HT5:=za (HT.o.later HB5.o);have p0:=zl HT5.o.h5 0 _ rfl;have p1:=zl HT5.o.h5 1 _ rfl;have p2:=zl HT5.o.h6 0 _ rfl;have p3:=zl HT5.o.h6 1 _ rfl;have HO5:=za hown;clear hgrow hat hltg hown))
 all_goals
  go_wp2_with fail
  go_ret
  exact⟨_,rfl,HT5.o.below,by have:=HO5.o;rw [HX.o.2.1,HX.o.2.2];exact this⟩
theorem zt6 (f m a n:Nat)(whole:Bool)(w:World)(h:a+n≤9223372036854775807)(h2:2≤n)(hf:n≤2 ^ (f+1))(hf6:f≤1000)(_:a < m)(hin:m < a+n)(hk:¬ m≤a+kOf n)
  (ih:∀(m a n:Nat) (whole:Bool) (w:World),a+n≤9223372036854775807→1≤n→n≤2 ^ f→a < m→m≤a+n→Calls Tryz.prog 98 #[.int .i64 m,.agg #[.int .i64 a,.int .i64 n],.bool whole] w fun r w'=>∃ x,r= .returned x∧Below w.heap.size w w'∧zas w.heap.size w' x (xr f m a n whole)) :
  Calls Tryz.prog 98 #[.int .i64 m,.agg #[.int .i64 a,.int .i64 n],.bool whole] w fun r w'=>∃ x,r= .returned x∧Below w.heap.size w w'∧zas w.heap.size w' x (xr (f+1) m a n whole):=by
 obtain⟨t,hi,hi'⟩:=Option.map_eq_some_iff.1 zja
 obtain⟨hz0,hz1,hz2⟩:t.zero=some (.agg #[.int .i64 0,.int .i64 0])∧t.size=2∧t.bytes=16:=by simpa using hi'
 clear hi'
 have HI:=za hi
 have HZ:=za (And.intro hz0 (And.intro hz1 hz2))
 clear hi hz0 hz1 hz2
 obtain⟨k1,k2,k3,k4,k5,k6⟩:=jl n f h2 hf
 rw [zbx f m a n whole (by omega) hk]
 have HH:=za (fun w:World=>zdo a n w h h2)
 have EE:=za (fun w:World=>zd9 a n w h)
 have hcnt:=za2 f m (a+kOf n) (n - kOf n) false
 generalize kOf n=k at *
 have ih':=fun w=>ih m (a+k) (n - k) false w (by omega) (by omega) k2 (by omega) (by omega)
 rw [show(((a+k:Nat):Int))=(a:Int)+(k:Int) by omega,show(((n - k:Nat):Int))=(n:Int) - (k:Int) by omega] at ih'
 have IH:=za ih'
 clear ih'
 have EN:=za (fun w:World=>zd9 a k w (by omega))
 generalize xr f m (a+k) (n - k) false=P at *
 have HC:=za hcnt
 unfold zas at *
 rw [zjp,List.length_append,List.length_singleton]
 clear hcnt ih
 have n2:((m:Int)==(a:Int)+(n:Int))=false:=beq_eq_false_iff_ne.2 (by omega)
 have c4:¬(m:Int)≤(a:Int)+(k:Int):=by omega
 go_enter Tryz.func98,Tryz.ntmps98
 go_wp2_with fail
 refine(EE.out _).mono ?_
 rintro e w0 ⟨rfl,hb0⟩
 have HB0:Hid (Below w.heap.size w w0):=(ze w _).trans (hb0.mono (by simp))
 have hbx:=(hb0.block w.heap.size (by simp)).trans (heap_alloc_last w _)
 have s0:=zl hbx 0 _ rfl
 have s1:=zl hbx 1 _ rfl
 clear hb0 EE hbx
 go_wp2_with fail
 refine(HH.o _).mono ?_
 rintro e w1 ⟨rfl,hb1⟩
 have HB1:Hid (Below w.heap.size w w1):=HB0.o.trans (hb1.mono HB0.o.size)
 clear s0 s1 HB0
 clear hb1 HH
 go_wp2_with fail
 refine(EN.out _).mono ?_
 rintro e w2 ⟨rfl,hb2⟩
 have HT:Hid (Two w w2 w1.heap.size (w1.heap.size+1) a k n):=Two.later ⟨((HB1.o.alloc HB1.o.size _).alloc (by have:=HB1.o.size;simp;omega) _),zc (heap_alloc_last _ _),by have:=heap_alloc_last (w1.alloc (.cells #[.int .i64 (a:Int),.int .i64 (k:Int)] 208)) (.cells #[.int .i64 ((a:Int)+(k:Int)),.int .i64 ((n:Int) - (k:Int))] 208);simpa using this⟩ hb2
 clear hb2 EN
 generalize w1.heap.size+1=B6 at *
 generalize w1.heap.size=B5 at *
 clear HB1
 have q0:=zl HT.o.h5 0 _ rfl
 have q1:=zl HT.o.h5 1 _ rfl
 have q2:=zl HT.o.h6 0 _ rfl
 have q3:=zl HT.o.h6 1 _ rfl
 have l5:¬ B5=w2.heap.size:=by have:=xe HT.o.h5;omega
 have l6:¬ B6=w2.heap.size:=by have:=xe HT.o.h6;omega
 have hn0:Hid (∀ o,Below w2.heap.size w2 (w2.alloc o).drew):=fun o=>(ze _ _).drew
 go_wp2_with fail
 go_region_held3 (fun w'=>w'.cell? ⟨B5,0,none⟩=some (.int .i64 (a:Int))∧w'.cell? ⟨B5,1,none⟩=some (.int .i64 (k:Int))∧w'.cell? ⟨B6,0,none⟩=some (.int .i64 ((a:Int)+(k:Int)))∧w'.cell? ⟨B6,1,none⟩=some (.int .i64 ((n:Int) - (k:Int)))) (go_keep) (first
  | (go_at_call 98;refine(IH.out w2.drew).mono ?_;rintro e w3 ⟨y,rfl,hb3,ho3⟩;have hb4:Below w2.heap.size w2 w3:=(show Below w2.heap.size w2 w2.drew from (Below.refl _ _).drew).trans hb3;have HTA:=za (HT.o.later hb4);have p0:=zl HTA.o.h5 0 _ rfl;have p1:=zl HTA.o.h5 1 _ rfl;have p2:=zl HTA.o.h6 0 _ rfl;have p3:=zl HTA.o.h6 1 _ rfl;have l5:¬ B5=w3.heap.size:=(by have:=xe HTA.o.h5;omega);have l6:¬ B6=w3.heap.size:=(by have:=xe HTA.o.h6;omega);have HOA:Hid (w3.ownsRow w.heap.size 208 2 y P.length (spv P)):=(vh ho3 HT.o.below.size);have HOA2:Hid (∀ q,y.ownBlock=some q→w2.heap.size≤q):=(js ho3);have HBA:=za hb4;have hsz:Hid (w.heap.size≤w3.heap.size):=HTA.o.below.size;clear hb3 hb4 ho3)
  | (go_at_call 98;refine(IH.out (w2.alloc (.cells #[.int .i64 (a:Int),.int .i64 (k:Int)] 208)).drew).mono ?_;rintro e w3 ⟨y,rfl,hb3,ho3⟩;have hb4:Below w2.heap.size w2 w3:=(hn0.out _).trans (hb3.mono (hn0.out _).size);have HTB:=za (HT.o.later hb4);have p0:=zl HTB.o.h5 0 _ rfl;have p1:=zl HTB.o.h5 1 _ rfl;have p2:=zl HTB.o.h6 0 _ rfl;have p3:=zl HTB.o.h6 1 _ rfl;have HNB:Hid (w3.heap[w2.heap.size]?=some (.cells #[.int .i64 (a:Int),.int .i64 (k:Int)] 208 (0,0))):=(by show _=_;rw [hb3.block _ (by show w2.heap.size < (w2.heap.push _).size;simp)];exact heap_alloc_last w2 _);have HOB2:Hid (∀ q,y.ownBlock=some q→w2.heap.size≤q):=(fun q hq=>Nat.le_trans (hn0.out (.cells #[.int .i64 (a:Int),.int .i64 (k:Int)] 208)).size (js ho3 q hq));have HBB:=za hb4;have HOB:Hid (w3.ownsRow w.heap.size 208 2 y P.length (spv P)):=(vh ho3 (Nat.le_trans HT.o.below.size (hn0.out (.cells #[.int .i64 (a:Int),.int .i64 (k:Int)] 208)).size));have hsz:Hid (w.heap.size≤w3.heap.size):=HTB.o.below.size;clear hb3 hb4 ho3)
  | (refine step_append_lies _ (by rfl) _ _ _ (by rfl) w.heap.size 208 t (.agg #[.int .i64 0,.int .i64 0]) 2 16 Tryz.underlying205 HI.o HZ.o.1 HZ.o.2.1 HZ.o.2.2 rfl (by omega) y P.length (spv P) (by rfl) (by exact yd HOA.o (ze _ _)) ⟨w3.heap.size,0,none⟩ 1 1 [.int .i64 (a:Int),.int .i64 (k:Int)] (by rfl) rfl (World.news_of_block (heap_alloc_last _ _)) (by simp [Value.oneCell']) (by omega) (by have:=HC.o;unfold maxLen;omega) (by have:=HC.o;omega) (by have:=hsz.out;simp;omega) (w3.heap.size+1) (by simp) ?_;intro g cap' w4 hown hgrow hat hltg;have HB5:=za ((HBA.o.trans ((ze w3 _).mono HBA.o.size)).grown hgrow (by have:=HBA.o.size;simp;omega) HOA2.o);have HT5:=za (HT.o.later HB5.o);have p0:=zl HT5.o.h5 0 _ rfl;have p1:=zl HT5.o.h5 1 _ rfl;have p2:=zl HT5.o.h6 0 _ rfl;have p3:=zl HT5.o.h6 1 _ rfl;have HO5:=za hown;clear hgrow hat hltg hown)
  | (refine step_append_lies _ (by rfl) _ _ _ (by rfl) w.heap.size 208 t (.agg #[.int .i64 0,.int .i64 0]) 2 16 Tryz.underlying205 HI.o HZ.o.1 HZ.o.2.1 HZ.o.2.2 rfl (by omega) y P.length (spv P) (by rfl) (by exact HOB.o) ⟨w2.heap.size,0,none⟩ 1 1 [.int .i64 (a:Int),.int .i64 (k:Int)] (by rfl) rfl (World.news_of_block HNB.o) (by simp [Value.oneCell']) (by omega) (by have:=HC.o;unfold maxLen;omega) (by have:=HC.o;omega) (by have:=hsz.out;omega) w3.heap.size (by rfl) ?_;intro g cap' w4 hown hgrow hat hltg;have HB5:=za (HBB.o.grown hgrow HBB.o.size HOB2.o);have HT5:=za (HT.o.later HB5.o);have p0:=zl HT5.o.h5 0 _ rfl;have p1:=zl HT5.o.h5 1 _ rfl;have p2:=zl HT5.o.h6 0 _ rfl;have p3:=zl HT5.o.h6 1 _ rfl;have HO5:=za hown;clear hgrow hat hltg hown))
 all_goals
  go_wp2_with fail
  go_ret
  exact⟨_,rfl,HT5.o.below,HO5.o⟩
theorem zuy (a i:Nat)(w:World):
  Calls Tryz.prog 102 #[.agg #[.int .i64 a,.int .i64 1],.int .i64 i] w fun r w'=>r= .returned (.slice none 0 0)∧Below w.heap.size w w':=by
 go_enter Tryz.func102,Tryz.ntmps102
 go_wp2
 go_ret
 exact⟨rfl,ze _ _⟩
theorem zmk (B:Nat)(w:World):zas B w (.slice none 0 0) []:=⟨rfl,.inl ⟨rfl,rfl⟩⟩
theorem zt5 (f:Nat)(hf6:f≤1000):∀(a n i:Nat) (w:World),a+n≤9223372036854775807→1≤n→n≤2 ^ f→a≤i→i < a+n→Calls Tryz.prog 102 #[.agg #[.int .i64 a,.int .i64 n],.int .i64 i] w fun r w'=>∃ x,r= .returned x∧Below w.heap.size w w'∧zas w.heap.size w' x (xp f a n i):=by
 have one:∀(f a n i:Nat) (w:World),n=1→Calls Tryz.prog 102 #[.agg #[.int .i64 a,.int .i64 n],.int .i64 i] w fun r w'=>∃ x,r= .returned x∧Below w.heap.size w w'∧zas w.heap.size w' x (xp f a n i):=by
  rintro f a n i w rfl
  refine(zuy a i w).mono ?_
  rintro r w' ⟨rfl,hb⟩
  rw [ze0 _ _ _ _ (Nat.le_refl _)]
  exact⟨_,rfl,hb,zmk _ _⟩
 induction f with
 | zero =>
  intro a n i w h h1 h2 _ _
  exact one 0 a n i w (by simpa using Nat.le_antisymm h2 h1)
 | succ f ih =>
  intro a n i w h h1 h2 ha hi
  by_cases hn:n=1
  ·exact one (f+1) a n i w hn
  by_cases hk:i < a+kOf n
  ·exact zs4 f a n i w h (by omega) h2 (by omega) ha hk (ih (by omega))
  ·exact zqk f a n i w h (by omega) h2 (by omega) ha hi hk (ih (by omega))
theorem zvf (m a n:Nat)(w:World)(h:a+n≤9223372036854775807)(hm:m=a+n):
  Calls Tryz.prog 98 #[.int .i64 m,.agg #[.int .i64 a,.int .i64 n],.bool true] w fun r w'=>r= .returned (.slice none 0 0)∧Below w.heap.size w w':=by
 have EE:=za (fun w:World=>zd9 a n w h)
 have n2:((m:Int)==(a:Int)+(n:Int))=true:=beq_iff_eq.2 (by omega)
 clear hm
 go_enter Tryz.func98,Tryz.ntmps98
 go_wp2_with fail
 refine(EE.out _).mono ?_
 rintro e w0 ⟨rfl,hb0⟩
 go_wp2_with fail
 go_ret
 exact⟨rfl,(ze w _).trans (hb0.mono (by simp))⟩
theorem z1x (m a n:Nat)(w:World)(h:a+n≤9223372036854775807)(hm:m=a+n):
  Calls Tryz.prog 98 #[.int .i64 m,.agg #[.int .i64 a,.int .i64 n],.bool false] w fun r w'=>∃ x,r= .returned x∧Below w.heap.size w w'∧zas w.heap.size w' x [(a,n)]:=by
 have EE:=za (fun w:World=>zd9 a n w h)
 have n2:((m:Int)==(a:Int)+(n:Int))=true:=beq_iff_eq.2 (by omega)
 clear hm
 go_enter Tryz.func98,Tryz.ntmps98
 go_wp2_with fail
 refine(EE.out _).mono ?_
 rintro e w0 ⟨rfl,hb0⟩
 have HB0:Hid (Below w.heap.size w w0):=(ze w _).trans (hb0.mono (by simp))
 have hbx:=(hb0.block w.heap.size (by simp)).trans (heap_alloc_last w _)
 have s0:=zl hbx 0 _ rfl
 have s1:=zl hbx 1 _ rfl
 clear hb0 EE hbx
 go_wp2_with fail
 go_ret
 refine⟨_,rfl,HB0.o.alloc HB0.o.size _,⟨by simp [spv],.inr ⟨w0.heap.size,1,#[.int .i64 (a:Int),.int .i64 (n:Int)],rfl,HB0.o.size,heap_alloc_last _ _,by simp,by unfold maxLen;simp,by simp,?_⟩⟩⟩
 simp [spv]
theorem z2v (f:Nat)(hf6:f≤1000):∀(m a n:Nat) (whole:Bool) (w:World),a+n≤9223372036854775807→1≤n→n≤2 ^ f→a < m→m≤a+n→Calls Tryz.prog 98 #[.int .i64 m,.agg #[.int .i64 a,.int .i64 n],.bool whole] w fun r w'=>∃ x,r= .returned x∧Below w.heap.size w w'∧zas w.heap.size w' x (xr f m a n whole):=by
 have one:∀(f m a n:Nat) (whole:Bool) (w:World),a+n≤9223372036854775807→m=a+n→Calls Tryz.prog 98 #[.int .i64 m,.agg #[.int .i64 a,.int .i64 n],.bool whole] w fun r w'=>∃ x,r= .returned x∧Below w.heap.size w w'∧zas w.heap.size w' x (xr f m a n whole):=by
  intro f m a n whole w h hm
  rw [zam f m a n whole hm]
  cases whole with
  | true =>
   refine(zvf m a n w h hm).mono ?_
   rintro r w' ⟨rfl,hb⟩
   exact⟨_,rfl,hb,zmk _ _⟩
  | false =>
   refine(z1x m a n w h hm).mono ?_
   rintro r w' ⟨x,rfl,hb,ho⟩
   exact⟨x,rfl,hb,ho⟩
 induction f with
 | zero =>
  intro m a n whole w h h1 h2 hm1 hm2
  have:n≤1:=by simpa using h2
  exact one 0 m a n whole w h (by omega)
 | succ f ih =>
  intro m a n whole w h h1 h2 hm1 hm2
  by_cases hm:m=a+n
  ·exact one (f+1) m a n whole w h hm
  by_cases hk:m≤a+kOf n
  ·exact zyr f m a n whole w h (by omega) h2 (by omega) hm1 (by omega) hk (ih (by omega))
  ·exact zt6 f m a n whole w h (by omega) h2 (by omega) hm1 (by omega) hk (ih (by omega))
end
end Go.Proofs.YtinhekmmdlhfkaaGreatDoor
