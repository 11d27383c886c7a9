import Derived.Test.YtinhekmmdlhfkaaGreatDoorG07
import Derived.Test.YtinhekmmdlhfkaaGreatDoorG03
import Derived.Test.YtinhekmmdlhfkaaGreatDoorG04
import Derived.Deep.RegionLaw
import Derived.Deep.RegionHeld3
namespace Go.Proofs.YtinhekmmdlhfkaaGreatDoor
section
set_option maxHeartbeats 4000000
open Go.RowKit
set_option maxRecDepth 100000
def spv (ss:List (Nat×Nat)):List Value:=ss.flatMap fun s=>[.int .i64 (s.1:Int),.int .i64 (s.2:Int)]
theorem spv_snoc (ss:List (Nat×Nat))(s:Nat×Nat):spv (ss++[s])=spv ss++[.int .i64 (s.1:Int),.int .i64 (s.2:Int)]:=by simp [spv]
def OwnSp (B:Nat)(w:World)(x:Value)(ss:List (Nat×Nat)):Prop:=w.ownsRow B 208 2 x ss.length (spv ss)
theorem blk_cell {w:World}{b:Nat}{c:Array Value}{t:TypeId}{x:Nat×Nat}(h:w.heap[b]?=some (.cells c t x))(i:Nat)(v:Value)(hv:c[i]?=some v):w.cell? ⟨b,i,none⟩=some v:=by
 simp [World.cell?,h,hv]
theorem infoSpan:(Tryz.prog.info? 208).map (fun i=>(i.zero,i.size,i.bytes))=some (some (.agg #[.int .i64 0,.int .i64 0]),2,16):=by kernel_rfl
theorem end_any (a n:Nat)(w:World)(h:a+n≤9223372036854775807):
  Calls Tryz.prog 141 #[.agg #[.int .i64 a,.int .i64 n]] w fun r w'=>r= .returned (.int .i64 ((a:Int)+(n:Int)))∧Below w.heap.size w w':=by
 have h1:(0:Int)≤(a:Int):=by omega
 have h2:(0:Int)≤(n:Int):=by omega
 have h3:(a:Int)+(n:Int)≤9223372036854775807:=by omega
 go_enter Tryz.func141,Tryz.ntmps141
 go_wp2
 go_ret
 exact⟨rfl,(Below.refl _ _).alloc (Nat.le_refl _) _⟩
theorem halves_any (a n:Nat)(w:World)(h:a+n≤9223372036854775807)(h2:2≤n):
  Calls Tryz.prog 142 #[.agg #[.int .i64 a,.int .i64 n]] w fun r w'=>r= .returned (.tuple #[.agg #[.int .i64 a,.int .i64 (kOf n:Int)],.agg #[.int .i64 ((a:Int)+(kOf n:Int)),.int .i64 ((n:Int) - (kOf n:Int))]])∧Below w.heap.size w w':=by
 obtain⟨k1,k2,k3⟩:=kOf_spec n h2
 have hsp:=split_any n (((w.alloc (.cells #[.int .i64 a,.int .i64 n] 208)).alloc (.cells #[.int .i64 0,.int .i64 0] 208)).alloc (.cells #[.int .i64 0,.int .i64 0] 208)) h2 (by omega)
 have HS:=hide hsp
 clear hsp
 generalize kOf n=k at *
 have g1:(0:Int)≤(a:Int):=by omega
 have g2:(a:Int)+(k:Int)≤9223372036854775807:=by omega
 have g3:(k:Int)≤(n:Int):=by omega
 have g4:(n:Int)≤9223372036854775807:=by omega
 have g5:(1:Int)≤(k:Int):=by omega
 go_enter Tryz.func142,Tryz.ntmps142
 go_wp2_with fail
 refine HS.out.mono ?_
 rintro e w' ⟨rfl,rfl⟩
 have c1:IntKind.i64.wrap ((a:Int)+(k:Int))=(a:Int)+(k:Int):=by rw [IntKind.wrap_i64];omega
 have c2:IntKind.i64.wrap ((n:Int) - (k:Int))=(n:Int) - (k:Int):=by rw [IntKind.wrap_i64];omega
 have hh:(((w.alloc (.cells #[.int .i64 a,.int .i64 n] 208)).alloc (.cells #[.int .i64 0,.int .i64 0] 208)).alloc (.cells #[.int .i64 0,.int .i64 0] 208)).heap[w.heap.size]?=some (.cells #[.int .i64 a,.int .i64 n] 208):=heap_alloc_old (heap_alloc_old (heap_alloc_last _ _))
 have q0:=blk_cell hh 0 _ rfl
 have q1:=blk_cell hh 1 _ rfl
 clear hh
 go_wp2_with fail
 go_region_held3 (fun w'=>w'.cell? ⟨w.heap.size,0,none⟩=some (.int .i64 a)∧w'.cell? ⟨w.heap.size,1,none⟩=some (.int .i64 n)) (go_keep) (fail)
 all_goals
  go_wp2_with fail
  exact bodyPost_ret (v:= .tuple #[.agg #[.int .i64 a,.int .i64 (k:Int)],.agg #[.int .i64 ((a:Int)+(k:Int)),.int .i64 ((n:Int) - (k:Int))]]) (by simp [results,Tryz.results142,go_sem]) rfl ⟨rfl,(((below_alloc w _).alloc (by simp) _).alloc (by simp;omega) _).drew⟩
theorem ownsRow_from {w:World}{B B':Nat}{e:TypeId}{s:Nat}{v:Value}{n:Nat}{xs:List Value}(h:w.ownsRow B' e s v n xs)(hb:B≤B'):w.ownsRow B e s v n xs:=by
 refine⟨h.1,?_⟩
 rcases h.2 with h | ⟨g',cap,cur,e1,e2,r⟩
 ·exact .inl h
 ·exact .inr ⟨g',cap,cur,e1,Nat.le_trans hb e2,r⟩
structure Two (w wc:World)(B5 B6 a k n:Nat):Prop where
 below:Below w.heap.size w wc
 h5:wc.heap[B5]?=some (.cells #[.int .i64 (a:Int),.int .i64 (k:Int)] 208 (0,0))
 h6:wc.heap[B6]?=some (.cells #[.int .i64 ((a:Int)+(k:Int)),.int .i64 ((n:Int) - (k:Int))] 208 (0,0))
theorem Two.later {w wc w':World}{B5 B6 a k n:Nat}(h:Two w wc B5 B6 a k n)(hb:Below wc.heap.size wc w'):Two w w' B5 B6 a k n :=
 ⟨h.below.trans (hb.mono h.below.size),(hb.block _ (heap_lt h.h5)).trans h.h5,(hb.block _ (heap_lt h.h6)).trans h.h6⟩
theorem pathTo_left (f a n i:Nat)(w:World)(h:a+n≤9223372036854775807)(h2:2≤n)(hf:n≤2 ^ (f+1))(hf6:f≤1000)(ha:a≤i)(hk:i < a+kOf n)
  (ih:∀(a n i:Nat) (w:World),a+n≤9223372036854775807→1≤n→n≤2 ^ f→a≤i→i < a+n→Calls Tryz.prog 102 #[.agg #[.int .i64 a,.int .i64 n],.int .i64 i] w fun r w'=>∃ x,r= .returned x∧Below w.heap.size w w'∧OwnSp w.heap.size w' x (pathS f a n i)) :
  Calls Tryz.prog 102 #[.agg #[.int .i64 a,.int .i64 n],.int .i64 i] w fun r w'=>∃ x,r= .returned x∧Below w.heap.size w w'∧OwnSp w.heap.size w' x (pathS (f+1) a n i):=by
 obtain⟨t,hi,hi'⟩:=Option.map_eq_some_iff.1 infoSpan
 obtain⟨hz0,hz1,hz2⟩:t.zero=some (.agg #[.int .i64 0,.int .i64 0])∧t.size=2∧t.bytes=16:=by simpa using hi'
 clear hi'
 have HI:=hide hi
 have HZ:=hide (And.intro hz0 (And.intro hz1 hz2))
 clear hi hz0 hz1 hz2
 obtain⟨k1,k2,k3,k4,k5,k6⟩:=kOf_half n f h2 hf
 rw [pathS_left f a n i h2 hk]
 have HH:=hide (halves_any a n (w.alloc (.cells #[.int .i64 a,.int .i64 n] 208)) h h2)
 have hcnt:=pathS_count f a (kOf n) i
 generalize kOf n=k at *
 have IH:=hide (fun w=>ih a k i w (by omega) (by omega) k1 ha hk)
 have EN:=hide (fun w:World=>end_any a k w (by omega))
 generalize pathS f a k i=P at *
 have HC:=hide hcnt
 unfold OwnSp at *
 rw [spv_snoc,List.length_append,List.length_singleton]
 clear hcnt ih
 have n2:((n:Int)==1)=false:=beq_eq_false_iff_ne.2 (by omega)
 have c4:(i:Int) < (a:Int)+(k:Int):=by omega
 have HX:=hide (show a+k=a+k∧(((a+k:Nat)):Int)=(a:Int)+(k:Int)∧(((n - k:Nat)):Int)=(n:Int) - (k:Int) by omega)
 go_enter Tryz.func102,Tryz.ntmps102
 go_wp2_with fail
 refine HH.out.mono ?_
 rintro e w1 ⟨rfl,hb1⟩
 have HB1:Hid (Below w.heap.size w w1):=(below_alloc w _).trans (hb1.mono (by simp))
 clear hb1 HH
 go_wp2_with fail
 refine(EN.out _).mono ?_
 rintro e w2 ⟨rfl,hb2⟩
 have HT:Hid (Two w w2 w1.heap.size (w1.heap.size+1) a k n):=Two.later ⟨((HB1.out.alloc HB1.out.size _).alloc (by have:=HB1.out.size;simp;omega) _),heap_alloc_old (heap_alloc_last _ _),by have:=heap_alloc_last (w1.alloc (.cells #[.int .i64 (a:Int),.int .i64 (k:Int)] 208)) (.cells #[.int .i64 ((a:Int)+(k:Int)),.int .i64 ((n:Int) - (k:Int))] 208);simpa using this⟩ hb2
 clear hb2 EN
 generalize w1.heap.size+1=B6 at *
 generalize w1.heap.size=B5 at *
 clear HB1
 have q0:=blk_cell HT.out.h5 0 _ rfl
 have q1:=blk_cell HT.out.h5 1 _ rfl
 have q2:=blk_cell HT.out.h6 0 _ rfl
 have q3:=blk_cell HT.out.h6 1 _ rfl
 have l5:¬ B5=w2.heap.size:=by have:=heap_lt HT.out.h5;omega
 have l6:¬ B6=w2.heap.size:=by have:=heap_lt HT.out.h6;omega
 have hn0:Hid (∀ o,Below w2.heap.size w2 (w2.alloc o).drew):=fun o=>(below_alloc _ _).drew
 go_wp2_with fail
 go_region_held3 (fun w'=>w'.cell? ⟨B5,0,none⟩=some (.int .i64 (a:Int))∧w'.cell? ⟨B5,1,none⟩=some (.int .i64 (k:Int))∧w'.cell? ⟨B6,0,none⟩=some (.int .i64 ((a:Int)+(k:Int)))∧w'.cell? ⟨B6,1,none⟩=some (.int .i64 ((n:Int) - (k:Int)))) (go_keep) (first
  | (go_at_call 102;refine(IH.out w2.drew).mono ?_;rintro e w3 ⟨y,rfl,hb3,ho3⟩;have hb4:Below w2.heap.size w2 w3:=(show Below w2.heap.size w2 w2.drew from (Below.refl _ _).drew).trans hb3;have HTA:=hide (HT.out.later hb4);have p0:=blk_cell HTA.out.h5 0 _ rfl;have p1:=blk_cell HTA.out.h5 1 _ rfl;have p2:=blk_cell HTA.out.h6 0 _ rfl;have p3:=blk_cell HTA.out.h6 1 _ rfl;have l5:¬ B5=w3.heap.size:=(by have:=heap_lt HTA.out.h5;omega);have l6:¬ B6=w3.heap.size:=(by have:=heap_lt HTA.out.h6;omega);have HOA:Hid (w3.ownsRow w.heap.size 208 2 y P.length (spv P)):=(ownsRow_from ho3 HT.out.below.size);have HOA2:Hid (∀ q,y.ownBlock=some q→w2.heap.size≤q):=(own_base ho3);have HBA:=hide hb4;have hsz:Hid (w.heap.size≤w3.heap.size):=HTA.out.below.size;clear hb3 hb4 ho3)
  | (go_at_call 102;refine(IH.out (w2.alloc (.cells #[.int .i64 ((a:Int)+(k:Int)),.int .i64 ((n:Int) - (k:Int))] 208)).drew).mono ?_;rintro e w3 ⟨y,rfl,hb3,ho3⟩;have hb4:Below w2.heap.size w2 w3:=(hn0.out _).trans (hb3.mono (hn0.out _).size);have HTB:=hide (HT.out.later hb4);have p0:=blk_cell HTB.out.h5 0 _ rfl;have p1:=blk_cell HTB.out.h5 1 _ rfl;have p2:=blk_cell HTB.out.h6 0 _ rfl;have p3:=blk_cell HTB.out.h6 1 _ rfl;have HNB:Hid (w3.heap[w2.heap.size]?=some (.cells #[.int .i64 ((a:Int)+(k:Int)),.int .i64 ((n:Int) - (k:Int))] 208 (0,0))):=(by show _=_;rw [hb3.block _ (by show w2.heap.size < (w2.heap.push _).size;simp)];exact heap_alloc_last w2 _);have HOB2:Hid (∀ q,y.ownBlock=some q→w2.heap.size≤q):=(fun q hq=>Nat.le_trans (hn0.out (.cells #[.int .i64 ((a:Int)+(k:Int)),.int .i64 ((n:Int) - (k:Int))] 208)).size (own_base ho3 q hq));have HBB:=hide hb4;have HOB:Hid (w3.ownsRow w.heap.size 208 2 y P.length (spv P)):=(ownsRow_from ho3 (Nat.le_trans HT.out.below.size (hn0.out (.cells #[.int .i64 ((a:Int)+(k:Int)),.int .i64 ((n:Int) - (k:Int))] 208)).size));have hsz:Hid (w.heap.size≤w3.heap.size):=HTB.out.below.size;clear hb3 hb4 ho3)
  | (refine step_append_lies _ (by rfl) _ _ _ (by rfl) w.heap.size 208 t (.agg #[.int .i64 0,.int .i64 0]) 2 16 Tryz.underlying205 HI.out HZ.out.1 HZ.out.2.1 HZ.out.2.2 rfl (by omega) y P.length (spv P) (by rfl) (by exact ownsRow_below HOA.out (below_alloc _ _)) ⟨w3.heap.size,0,none⟩ 1 1 [.int .i64 ((a:Int)+(k:Int)),.int .i64 ((n:Int) - (k:Int))] (by rfl) rfl (World.news_of_block (heap_alloc_last _ _)) (by simp [Value.oneCell']) (by omega) (by have:=HC.out;unfold maxLen;omega) (by have:=HC.out;omega) (by have:=hsz.out;simp;omega) (w3.heap.size+1) (by simp) ?_;intro g cap' w4 hown hgrow hat hltg;have HB5:=hide ((HBA.out.trans ((below_alloc w3 _).mono HBA.out.size)).grown hgrow (by have:=HBA.out.size;simp;omega) HOA2.out);have HT5:=hide (HT.out.later HB5.out);have p0:=blk_cell HT5.out.h5 0 _ rfl;have p1:=blk_cell HT5.out.h5 1 _ rfl;have p2:=blk_cell HT5.out.h6 0 _ rfl;have p3:=blk_cell HT5.out.h6 1 _ rfl;have HO5:=hide hown;clear hgrow hat hltg hown)
  | (refine step_append_lies _ (by rfl) _ _ _ (by rfl) w.heap.size 208 t (.agg #[.int .i64 0,.int .i64 0]) 2 16 Tryz.underlying205 HI.out HZ.out.1 HZ.out.2.1 HZ.out.2.2 rfl (by omega) y P.length (spv P) (by rfl) (by exact HOB.out) ⟨w2.heap.size,0,none⟩ 1 1 [.int .i64 ((a:Int)+(k:Int)),.int .i64 ((n:Int) - (k:Int))] (by rfl) rfl (World.news_of_block HNB.out) (by simp [Value.oneCell']) (by omega) (by have:=HC.out;unfold maxLen;omega) (by have:=HC.out;omega) (by have:=hsz.out;omega) w3.heap.size (by rfl) ?_;intro g cap' w4 hown hgrow hat hltg;have HB5:=hide (HBB.out.grown hgrow HBB.out.size HOB2.out);have HT5:=hide (HT.out.later HB5.out);have p0:=blk_cell HT5.out.h5 0 _ rfl;have p1:=blk_cell HT5.out.h5 1 _ rfl;have p2:=blk_cell HT5.out.h6 0 _ rfl;have p3:=blk_cell HT5.out.h6 1 _ rfl;have HO5:=hide hown;clear hgrow hat hltg hown))
 all_goals
  go_wp2_with fail
  go_ret
  exact⟨_,rfl,HT5.out.below,by have:=HO5.out;rw [HX.out.2.1,HX.out.2.2];exact this⟩
theorem pathTo_right (f a n i:Nat)(w:World)(h:a+n≤9223372036854775807)(h2:2≤n)(hf:n≤2 ^ (f+1))(hf6:f≤1000)(_:a≤i)(hin:i < a+n)(hk:¬ i < a+kOf n)
  (ih:∀(a n i:Nat) (w:World),a+n≤9223372036854775807→1≤n→n≤2 ^ f→a≤i→i < a+n→Calls Tryz.prog 102 #[.agg #[.int .i64 a,.int .i64 n],.int .i64 i] w fun r w'=>∃ x,r= .returned x∧Below w.heap.size w w'∧OwnSp w.heap.size w' x (pathS f a n i)) :
  Calls Tryz.prog 102 #[.agg #[.int .i64 a,.int .i64 n],.int .i64 i] w fun r w'=>∃ x,r= .returned x∧Below w.heap.size w w'∧OwnSp w.heap.size w' x (pathS (f+1) a n i):=by
 obtain⟨t,hi,hi'⟩:=Option.map_eq_some_iff.1 infoSpan
 obtain⟨hz0,hz1,hz2⟩:t.zero=some (.agg #[.int .i64 0,.int .i64 0])∧t.size=2∧t.bytes=16:=by simpa using hi'
 clear hi'
 have HI:=hide hi
 have HZ:=hide (And.intro hz0 (And.intro hz1 hz2))
 clear hi hz0 hz1 hz2
 obtain⟨k1,k2,k3,k4,k5,k6⟩:=kOf_half n f h2 hf
 rw [pathS_right f a n i h2 hk]
 have HH:=hide (halves_any a n (w.alloc (.cells #[.int .i64 a,.int .i64 n] 208)) h h2)
 have hcnt:=pathS_count f (a+kOf n) (n - kOf n) i
 generalize kOf n=k at *
 have ih':=fun w=>ih (a+k) (n - k) i w (by omega) (by omega) k2 (by omega) (by omega)
 rw [show(((a+k:Nat):Int))=(a:Int)+(k:Int) by omega,show(((n - k:Nat):Int))=(n:Int) - (k:Int) by omega] at ih'
 have IH:=hide ih'
 clear ih'
 have EN:=hide (fun w:World=>end_any a k w (by omega))
 generalize pathS f (a+k) (n - k) i=P at *
 have HC:=hide hcnt
 unfold OwnSp at *
 rw [spv_snoc,List.length_append,List.length_singleton]
 clear hcnt ih
 have n2:((n:Int)==1)=false:=beq_eq_false_iff_ne.2 (by omega)
 have c4:¬(i:Int) < (a:Int)+(k:Int):=by omega
 go_enter Tryz.func102,Tryz.ntmps102
 go_wp2_with fail
 refine HH.out.mono ?_
 rintro e w1 ⟨rfl,hb1⟩
 have HB1:Hid (Below w.heap.size w w1):=(below_alloc w _).trans (hb1.mono (by simp))
 clear hb1 HH
 go_wp2_with fail
 refine(EN.out _).mono ?_
 rintro e w2 ⟨rfl,hb2⟩
 have HT:Hid (Two w w2 w1.heap.size (w1.heap.size+1) a k n):=Two.later ⟨((HB1.out.alloc HB1.out.size _).alloc (by have:=HB1.out.size;simp;omega) _),heap_alloc_old (heap_alloc_last _ _),by have:=heap_alloc_last (w1.alloc (.cells #[.int .i64 (a:Int),.int .i64 (k:Int)] 208)) (.cells #[.int .i64 ((a:Int)+(k:Int)),.int .i64 ((n:Int) - (k:Int))] 208);simpa using this⟩ hb2
 clear hb2 EN
 generalize w1.heap.size+1=B6 at *
 generalize w1.heap.size=B5 at *
 clear HB1
 have q0:=blk_cell HT.out.h5 0 _ rfl
 have q1:=blk_cell HT.out.h5 1 _ rfl
 have q2:=blk_cell HT.out.h6 0 _ rfl
 have q3:=blk_cell HT.out.h6 1 _ rfl
 have l5:¬ B5=w2.heap.size:=by have:=heap_lt HT.out.h5;omega
 have l6:¬ B6=w2.heap.size:=by have:=heap_lt HT.out.h6;omega
 have hn0:Hid (∀ o,Below w2.heap.size w2 (w2.alloc o).drew):=fun o=>(below_alloc _ _).drew
 go_wp2_with fail
 go_region_held3 (fun w'=>w'.cell? ⟨B5,0,none⟩=some (.int .i64 (a:Int))∧w'.cell? ⟨B5,1,none⟩=some (.int .i64 (k:Int))∧w'.cell? ⟨B6,0,none⟩=some (.int .i64 ((a:Int)+(k:Int)))∧w'.cell? ⟨B6,1,none⟩=some (.int .i64 ((n:Int) - (k:Int)))) (go_keep) (first
  | (go_at_call 102;refine(IH.out w2.drew).mono ?_;rintro e w3 ⟨y,rfl,hb3,ho3⟩;have hb4:Below w2.heap.size w2 w3:=(show Below w2.heap.size w2 w2.drew from (Below.refl _ _).drew).trans hb3;have HTA:=hide (HT.out.later hb4);have p0:=blk_cell HTA.out.h5 0 _ rfl;have p1:=blk_cell HTA.out.h5 1 _ rfl;have p2:=blk_cell HTA.out.h6 0 _ rfl;have p3:=blk_cell HTA.out.h6 1 _ rfl;have l5:¬ B5=w3.heap.size:=(by have:=heap_lt HTA.out.h5;omega);have l6:¬ B6=w3.heap.size:=(by have:=heap_lt HTA.out.h6;omega);have HOA:Hid (w3.ownsRow w.heap.size 208 2 y P.length (spv P)):=(ownsRow_from ho3 HT.out.below.size);have HOA2:Hid (∀ q,y.ownBlock=some q→w2.heap.size≤q):=(own_base ho3);have HBA:=hide hb4;have hsz:Hid (w.heap.size≤w3.heap.size):=HTA.out.below.size;clear hb3 hb4 ho3)
  | (go_at_call 102;refine(IH.out (w2.alloc (.cells #[.int .i64 (a:Int),.int .i64 (k:Int)] 208)).drew).mono ?_;rintro e w3 ⟨y,rfl,hb3,ho3⟩;have hb4:Below w2.heap.size w2 w3:=(hn0.out _).trans (hb3.mono (hn0.out _).size);have HTB:=hide (HT.out.later hb4);have p0:=blk_cell HTB.out.h5 0 _ rfl;have p1:=blk_cell HTB.out.h5 1 _ rfl;have p2:=blk_cell HTB.out.h6 0 _ rfl;have p3:=blk_cell HTB.out.h6 1 _ rfl;have HNB:Hid (w3.heap[w2.heap.size]?=some (.cells #[.int .i64 (a:Int),.int .i64 (k:Int)] 208 (0,0))):=(by show _=_;rw [hb3.block _ (by show w2.heap.size < (w2.heap.push _).size;simp)];exact heap_alloc_last w2 _);have HOB2:Hid (∀ q,y.ownBlock=some q→w2.heap.size≤q):=(fun q hq=>Nat.le_trans (hn0.out (.cells #[.int .i64 (a:Int),.int .i64 (k:Int)] 208)).size (own_base ho3 q hq));have HBB:=hide hb4;have HOB:Hid (w3.ownsRow w.heap.size 208 2 y P.length (spv P)):=(ownsRow_from ho3 (Nat.le_trans HT.out.below.size (hn0.out (.cells #[.int .i64 (a:Int),.int .i64 (k:Int)] 208)).size));have hsz:Hid (w.heap.size≤w3.heap.size):=HTB.out.below.size;clear hb3 hb4 ho3)
  | (refine step_append_lies _ (by rfl) _ _ _ (by rfl) w.heap.size 208 t (.agg #[.int .i64 0,.int .i64 0]) 2 16 Tryz.underlying205 HI.out HZ.out.1 HZ.out.2.1 HZ.out.2.2 rfl (by omega) y P.length (spv P) (by rfl) (by exact ownsRow_below HOA.out (below_alloc _ _)) ⟨w3.heap.size,0,none⟩ 1 1 [.int .i64 (a:Int),.int .i64 (k:Int)] (by rfl) rfl (World.news_of_block (heap_alloc_last _ _)) (by simp [Value.oneCell']) (by omega) (by have:=HC.out;unfold maxLen;omega) (by have:=HC.out;omega) (by have:=hsz.out;simp;omega) (w3.heap.size+1) (by simp) ?_;intro g cap' w4 hown hgrow hat hltg;have HB5:=hide ((HBA.out.trans ((below_alloc w3 _).mono HBA.out.size)).grown hgrow (by have:=HBA.out.size;simp;omega) HOA2.out);have HT5:=hide (HT.out.later HB5.out);have p0:=blk_cell HT5.out.h5 0 _ rfl;have p1:=blk_cell HT5.out.h5 1 _ rfl;have p2:=blk_cell HT5.out.h6 0 _ rfl;have p3:=blk_cell HT5.out.h6 1 _ rfl;have HO5:=hide hown;clear hgrow hat hltg hown)
  | (refine step_append_lies _ (by rfl) _ _ _ (by rfl) w.heap.size 208 t (.agg #[.int .i64 0,.int .i64 0]) 2 16 Tryz.underlying205 HI.out HZ.out.1 HZ.out.2.1 HZ.out.2.2 rfl (by omega) y P.length (spv P) (by rfl) (by exact HOB.out) ⟨w2.heap.size,0,none⟩ 1 1 [.int .i64 (a:Int),.int .i64 (k:Int)] (by rfl) rfl (World.news_of_block HNB.out) (by simp [Value.oneCell']) (by omega) (by have:=HC.out;unfold maxLen;omega) (by have:=HC.out;omega) (by have:=hsz.out;omega) w3.heap.size (by rfl) ?_;intro g cap' w4 hown hgrow hat hltg;have HB5:=hide (HBB.out.grown hgrow HBB.out.size HOB2.out);have HT5:=hide (HT.out.later HB5.out);have p0:=blk_cell HT5.out.h5 0 _ rfl;have p1:=blk_cell HT5.out.h5 1 _ rfl;have p2:=blk_cell HT5.out.h6 0 _ rfl;have p3:=blk_cell HT5.out.h6 1 _ rfl;have HO5:=hide hown;clear hgrow hat hltg hown))
 all_goals
  go_wp2_with fail
  go_ret
  exact⟨_,rfl,HT5.out.below,HO5.out⟩
theorem part_left (f m a n:Nat)(whole:Bool)(w:World)(h:a+n≤9223372036854775807)(h2:2≤n)(hf:n≤2 ^ (f+1))(hf6:f≤1000)(ha:a < m)(hin:m < a+n)(hk:m≤a+kOf n)
  (ih:∀(m a n:Nat) (whole:Bool) (w:World),a+n≤9223372036854775807→1≤n→n≤2 ^ f→a < m→m≤a+n→Calls Tryz.prog 98 #[.int .i64 m,.agg #[.int .i64 a,.int .i64 n],.bool whole] w fun r w'=>∃ x,r= .returned x∧Below w.heap.size w w'∧OwnSp w.heap.size w' x (partS f m a n whole)) :
  Calls Tryz.prog 98 #[.int .i64 m,.agg #[.int .i64 a,.int .i64 n],.bool whole] w fun r w'=>∃ x,r= .returned x∧Below w.heap.size w w'∧OwnSp w.heap.size w' x (partS (f+1) m a n whole):=by
 obtain⟨t,hi,hi'⟩:=Option.map_eq_some_iff.1 infoSpan
 obtain⟨hz0,hz1,hz2⟩:t.zero=some (.agg #[.int .i64 0,.int .i64 0])∧t.size=2∧t.bytes=16:=by simpa using hi'
 clear hi'
 have HI:=hide hi
 have HZ:=hide (And.intro hz0 (And.intro hz1 hz2))
 clear hi hz0 hz1 hz2
 obtain⟨k1,k2,k3,k4,k5,k6⟩:=kOf_half n f h2 hf
 rw [partS_left f m a n whole (by omega) hk]
 have HH:=hide (fun w:World=>halves_any a n w h h2)
 have EE:=hide (fun w:World=>end_any a n w h)
 have hcnt:=partS_count f m a (kOf n) whole
 generalize kOf n=k at *
 have IH:=hide (fun w=>ih m a k whole w (by omega) (by omega) k1 ha hk)
 have EN:=hide (fun w:World=>end_any a k w (by omega))
 generalize partS f m a k whole=P at *
 have HC:=hide hcnt
 unfold OwnSp at *
 rw [spv_snoc,List.length_append,List.length_singleton]
 clear hcnt ih
 have n2:((m:Int)==(a:Int)+(n:Int))=false:=beq_eq_false_iff_ne.2 (by omega)
 have c4:(m:Int)≤(a:Int)+(k:Int):=by omega
 have HX:=hide (show a+k=a+k∧(((a+k:Nat)):Int)=(a:Int)+(k:Int)∧(((n - k:Nat)):Int)=(n:Int) - (k:Int) by omega)
 go_enter Tryz.func98,Tryz.ntmps98
 go_wp2_with fail
 refine(EE.out _).mono ?_
 rintro e w0 ⟨rfl,hb0⟩
 have HB0:Hid (Below w.heap.size w w0):=(below_alloc w _).trans (hb0.mono (by simp))
 have hbx:=(hb0.block w.heap.size (by simp)).trans (heap_alloc_last w _)
 have s0:=blk_cell hbx 0 _ rfl
 have s1:=blk_cell hbx 1 _ rfl
 clear hb0 EE hbx
 go_wp2_with fail
 refine(HH.out _).mono ?_
 rintro e w1 ⟨rfl,hb1⟩
 have HB1:Hid (Below w.heap.size w w1):=HB0.out.trans (hb1.mono HB0.out.size)
 clear s0 s1 HB0
 clear hb1 HH
 go_wp2_with fail
 refine(EN.out _).mono ?_
 rintro e w2 ⟨rfl,hb2⟩
 have HT:Hid (Two w w2 w1.heap.size (w1.heap.size+1) a k n):=Two.later ⟨((HB1.out.alloc HB1.out.size _).alloc (by have:=HB1.out.size;simp;omega) _),heap_alloc_old (heap_alloc_last _ _),by have:=heap_alloc_last (w1.alloc (.cells #[.int .i64 (a:Int),.int .i64 (k:Int)] 208)) (.cells #[.int .i64 ((a:Int)+(k:Int)),.int .i64 ((n:Int) - (k:Int))] 208);simpa using this⟩ hb2
 clear hb2 EN
 generalize w1.heap.size+1=B6 at *
 generalize w1.heap.size=B5 at *
 clear HB1
 have q0:=blk_cell HT.out.h5 0 _ rfl
 have q1:=blk_cell HT.out.h5 1 _ rfl
 have q2:=blk_cell HT.out.h6 0 _ rfl
 have q3:=blk_cell HT.out.h6 1 _ rfl
 have l5:¬ B5=w2.heap.size:=by have:=heap_lt HT.out.h5;omega
 have l6:¬ B6=w2.heap.size:=by have:=heap_lt HT.out.h6;omega
 have hn0:Hid (∀ o,Below w2.heap.size w2 (w2.alloc o).drew):=fun o=>(below_alloc _ _).drew
 go_wp2_with fail
 go_region_held3 (fun w'=>w'.cell? ⟨B5,0,none⟩=some (.int .i64 (a:Int))∧w'.cell? ⟨B5,1,none⟩=some (.int .i64 (k:Int))∧w'.cell? ⟨B6,0,none⟩=some (.int .i64 ((a:Int)+(k:Int)))∧w'.cell? ⟨B6,1,none⟩=some (.int .i64 ((n:Int) - (k:Int)))) (go_keep) (first
  | (go_at_call 98;refine(IH.out w2.drew).mono ?_;rintro e w3 ⟨y,rfl,hb3,ho3⟩;have hb4:Below w2.heap.size w2 w3:=(show Below w2.heap.size w2 w2.drew from (Below.refl _ _).drew).trans hb3;have HTA:=hide (HT.out.later hb4);have p0:=blk_cell HTA.out.h5 0 _ rfl;have p1:=blk_cell HTA.out.h5 1 _ rfl;have p2:=blk_cell HTA.out.h6 0 _ rfl;have p3:=blk_cell HTA.out.h6 1 _ rfl;have l5:¬ B5=w3.heap.size:=(by have:=heap_lt HTA.out.h5;omega);have l6:¬ B6=w3.heap.size:=(by have:=heap_lt HTA.out.h6;omega);have HOA:Hid (w3.ownsRow w.heap.size 208 2 y P.length (spv P)):=(ownsRow_from ho3 HT.out.below.size);have HOA2:Hid (∀ q,y.ownBlock=some q→w2.heap.size≤q):=(own_base ho3);have HBA:=hide hb4;have hsz:Hid (w.heap.size≤w3.heap.size):=HTA.out.below.size;clear hb3 hb4 ho3)
  | (go_at_call 98;refine(IH.out (w2.alloc (.cells #[.int .i64 ((a:Int)+(k:Int)),.int .i64 ((n:Int) - (k:Int))] 208)).drew).mono ?_;rintro e w3 ⟨y,rfl,hb3,ho3⟩;have hb4:Below w2.heap.size w2 w3:=(hn0.out _).trans (hb3.mono (hn0.out _).size);have HTB:=hide (HT.out.later hb4);have p0:=blk_cell HTB.out.h5 0 _ rfl;have p1:=blk_cell HTB.out.h5 1 _ rfl;have p2:=blk_cell HTB.out.h6 0 _ rfl;have p3:=blk_cell HTB.out.h6 1 _ rfl;have HNB:Hid (w3.heap[w2.heap.size]?=some (.cells #[.int .i64 ((a:Int)+(k:Int)),.int .i64 ((n:Int) - (k:Int))] 208 (0,0))):=(by show _=_;rw [hb3.block _ (by show w2.heap.size < (w2.heap.push _).size;simp)];exact heap_alloc_last w2 _);have HOB2:Hid (∀ q,y.ownBlock=some q→w2.heap.size≤q):=(fun q hq=>Nat.le_trans (hn0.out (.cells #[.int .i64 ((a:Int)+(k:Int)),.int .i64 ((n:Int) - (k:Int))] 208)).size (own_base ho3 q hq));have HBB:=hide hb4;have HOB:Hid (w3.ownsRow w.heap.size 208 2 y P.length (spv P)):=(ownsRow_from ho3 (Nat.le_trans HT.out.below.size (hn0.out (.cells #[.int .i64 ((a:Int)+(k:Int)),.int .i64 ((n:Int) - (k:Int))] 208)).size));have hsz:Hid (w.heap.size≤w3.heap.size):=HTB.out.below.size;clear hb3 hb4 ho3)
  | (refine step_append_lies _ (by rfl) _ _ _ (by rfl) w.heap.size 208 t (.agg #[.int .i64 0,.int .i64 0]) 2 16 Tryz.underlying205 HI.out HZ.out.1 HZ.out.2.1 HZ.out.2.2 rfl (by omega) y P.length (spv P) (by rfl) (by exact ownsRow_below HOA.out (below_alloc _ _)) ⟨w3.heap.size,0,none⟩ 1 1 [.int .i64 ((a:Int)+(k:Int)),.int .i64 ((n:Int) - (k:Int))] (by rfl) rfl (World.news_of_block (heap_alloc_last _ _)) (by simp [Value.oneCell']) (by omega) (by have:=HC.out;unfold maxLen;omega) (by have:=HC.out;omega) (by have:=hsz.out;simp;omega) (w3.heap.size+1) (by simp) ?_;intro g cap' w4 hown hgrow hat hltg;have HB5:=hide ((HBA.out.trans ((below_alloc w3 _).mono HBA.out.size)).grown hgrow (by have:=HBA.out.size;simp;omega) HOA2.out);have HT5:=hide (HT.out.later HB5.out);have p0:=blk_cell HT5.out.h5 0 _ rfl;have p1:=blk_cell HT5.out.h5 1 _ rfl;have p2:=blk_cell HT5.out.h6 0 _ rfl;have p3:=blk_cell HT5.out.h6 1 _ rfl;have HO5:=hide hown;clear hgrow hat hltg hown)
  | (refine step_append_lies _ (by rfl) _ _ _ (by rfl) w.heap.size 208 t (.agg #[.int .i64 0,.int .i64 0]) 2 16 Tryz.underlying205 HI.out HZ.out.1 HZ.out.2.1 HZ.out.2.2 rfl (by omega) y P.length (spv P) (by rfl) (by exact HOB.out) ⟨w2.heap.size,0,none⟩ 1 1 [.int .i64 ((a:Int)+(k:Int)),.int .i64 ((n:Int) - (k:Int))] (by rfl) rfl (World.news_of_block HNB.out) (by simp [Value.oneCell']) (by omega) (by have:=HC.out;unfold maxLen;omega) (by have:=HC.out;omega) (by have:=hsz.out;omega) w3.heap.size (by rfl) ?_;intro g cap' w4 hown hgrow hat hltg;have HB5:=hide (HBB.out.grown hgrow HBB.out.size HOB2.out);have HT5:=hide (HT.out.later HB5.out);have p0:=blk_cell HT5.out.h5 0 _ rfl;have p1:=blk_cell HT5.out.h5 1 _ rfl;have p2:=blk_cell HT5.out.h6 0 _ rfl;have p3:=blk_cell HT5.out.h6 1 _ rfl;have HO5:=hide hown;clear hgrow hat hltg hown))
 all_goals
  go_wp2_with fail
  go_ret
  exact⟨_,rfl,HT5.out.below,by have:=HO5.out;rw [HX.out.2.1,HX.out.2.2];exact this⟩
theorem part_right (f m a n:Nat)(whole:Bool)(w:World)(h:a+n≤9223372036854775807)(h2:2≤n)(hf:n≤2 ^ (f+1))(hf6:f≤1000)(_:a < m)(hin:m < a+n)(hk:¬ m≤a+kOf n)
  (ih:∀(m a n:Nat) (whole:Bool) (w:World),a+n≤9223372036854775807→1≤n→n≤2 ^ f→a < m→m≤a+n→Calls Tryz.prog 98 #[.int .i64 m,.agg #[.int .i64 a,.int .i64 n],.bool whole] w fun r w'=>∃ x,r= .returned x∧Below w.heap.size w w'∧OwnSp w.heap.size w' x (partS f m a n whole)) :
  Calls Tryz.prog 98 #[.int .i64 m,.agg #[.int .i64 a,.int .i64 n],.bool whole] w fun r w'=>∃ x,r= .returned x∧Below w.heap.size w w'∧OwnSp w.heap.size w' x (partS (f+1) m a n whole):=by
 obtain⟨t,hi,hi'⟩:=Option.map_eq_some_iff.1 infoSpan
 obtain⟨hz0,hz1,hz2⟩:t.zero=some (.agg #[.int .i64 0,.int .i64 0])∧t.size=2∧t.bytes=16:=by simpa using hi'
 clear hi'
 have HI:=hide hi
 have HZ:=hide (And.intro hz0 (And.intro hz1 hz2))
 clear hi hz0 hz1 hz2
 obtain⟨k1,k2,k3,k4,k5,k6⟩:=kOf_half n f h2 hf
 rw [partS_right f m a n whole (by omega) hk]
 have HH:=hide (fun w:World=>halves_any a n w h h2)
 have EE:=hide (fun w:World=>end_any a n w h)
 have hcnt:=partS_count f m (a+kOf n) (n - kOf n) false
 generalize kOf n=k at *
 have ih':=fun w=>ih m (a+k) (n - k) false w (by omega) (by omega) k2 (by omega) (by omega)
 rw [show(((a+k:Nat):Int))=(a:Int)+(k:Int) by omega,show(((n - k:Nat):Int))=(n:Int) - (k:Int) by omega] at ih'
 have IH:=hide ih'
 clear ih'
 have EN:=hide (fun w:World=>end_any a k w (by omega))
 generalize partS f m (a+k) (n - k) false=P at *
 have HC:=hide hcnt
 unfold OwnSp at *
 rw [spv_snoc,List.length_append,List.length_singleton]
 clear hcnt ih
 have n2:((m:Int)==(a:Int)+(n:Int))=false:=beq_eq_false_iff_ne.2 (by omega)
 have c4:¬(m:Int)≤(a:Int)+(k:Int):=by omega
 go_enter Tryz.func98,Tryz.ntmps98
 go_wp2_with fail
 refine(EE.out _).mono ?_
 rintro e w0 ⟨rfl,hb0⟩
 have HB0:Hid (Below w.heap.size w w0):=(below_alloc w _).trans (hb0.mono (by simp))
 have hbx:=(hb0.block w.heap.size (by simp)).trans (heap_alloc_last w _)
 have s0:=blk_cell hbx 0 _ rfl
 have s1:=blk_cell hbx 1 _ rfl
 clear hb0 EE hbx
 go_wp2_with fail
 refine(HH.out _).mono ?_
 rintro e w1 ⟨rfl,hb1⟩
 have HB1:Hid (Below w.heap.size w w1):=HB0.out.trans (hb1.mono HB0.out.size)
 clear s0 s1 HB0
 clear hb1 HH
 go_wp2_with fail
 refine(EN.out _).mono ?_
 rintro e w2 ⟨rfl,hb2⟩
 have HT:Hid (Two w w2 w1.heap.size (w1.heap.size+1) a k n):=Two.later ⟨((HB1.out.alloc HB1.out.size _).alloc (by have:=HB1.out.size;simp;omega) _),heap_alloc_old (heap_alloc_last _ _),by have:=heap_alloc_last (w1.alloc (.cells #[.int .i64 (a:Int),.int .i64 (k:Int)] 208)) (.cells #[.int .i64 ((a:Int)+(k:Int)),.int .i64 ((n:Int) - (k:Int))] 208);simpa using this⟩ hb2
 clear hb2 EN
 generalize w1.heap.size+1=B6 at *
 generalize w1.heap.size=B5 at *
 clear HB1
 have q0:=blk_cell HT.out.h5 0 _ rfl
 have q1:=blk_cell HT.out.h5 1 _ rfl
 have q2:=blk_cell HT.out.h6 0 _ rfl
 have q3:=blk_cell HT.out.h6 1 _ rfl
 have l5:¬ B5=w2.heap.size:=by have:=heap_lt HT.out.h5;omega
 have l6:¬ B6=w2.heap.size:=by have:=heap_lt HT.out.h6;omega
 have hn0:Hid (∀ o,Below w2.heap.size w2 (w2.alloc o).drew):=fun o=>(below_alloc _ _).drew
 go_wp2_with fail
 go_region_held3 (fun w'=>w'.cell? ⟨B5,0,none⟩=some (.int .i64 (a:Int))∧w'.cell? ⟨B5,1,none⟩=some (.int .i64 (k:Int))∧w'.cell? ⟨B6,0,none⟩=some (.int .i64 ((a:Int)+(k:Int)))∧w'.cell? ⟨B6,1,none⟩=some (.int .i64 ((n:Int) - (k:Int)))) (go_keep) (first
  | (go_at_call 98;refine(IH.out w2.drew).mono ?_;rintro e w3 ⟨y,rfl,hb3,ho3⟩;have hb4:Below w2.heap.size w2 w3:=(show Below w2.heap.size w2 w2.drew from (Below.refl _ _).drew).trans hb3;have HTA:=hide (HT.out.later hb4);have p0:=blk_cell HTA.out.h5 0 _ rfl;have p1:=blk_cell HTA.out.h5 1 _ rfl;have p2:=blk_cell HTA.out.h6 0 _ rfl;have p3:=blk_cell HTA.out.h6 1 _ rfl;have l5:¬ B5=w3.heap.size:=(by have:=heap_lt HTA.out.h5;omega);have l6:¬ B6=w3.heap.size:=(by have:=heap_lt HTA.out.h6;omega);have HOA:Hid (w3.ownsRow w.heap.size 208 2 y P.length (spv P)):=(ownsRow_from ho3 HT.out.below.size);have HOA2:Hid (∀ q,y.ownBlock=some q→w2.heap.size≤q):=(own_base ho3);have HBA:=hide hb4;have hsz:Hid (w.heap.size≤w3.heap.size):=HTA.out.below.size;clear hb3 hb4 ho3)
  | (go_at_call 98;refine(IH.out (w2.alloc (.cells #[.int .i64 (a:Int),.int .i64 (k:Int)] 208)).drew).mono ?_;rintro e w3 ⟨y,rfl,hb3,ho3⟩;have hb4:Below w2.heap.size w2 w3:=(hn0.out _).trans (hb3.mono (hn0.out _).size);have HTB:=hide (HT.out.later hb4);have p0:=blk_cell HTB.out.h5 0 _ rfl;have p1:=blk_cell HTB.out.h5 1 _ rfl;have p2:=blk_cell HTB.out.h6 0 _ rfl;have p3:=blk_cell HTB.out.h6 1 _ rfl;have HNB:Hid (w3.heap[w2.heap.size]?=some (.cells #[.int .i64 (a:Int),.int .i64 (k:Int)] 208 (0,0))):=(by show _=_;rw [hb3.block _ (by show w2.heap.size < (w2.heap.push _).size;simp)];exact heap_alloc_last w2 _);have HOB2:Hid (∀ q,y.ownBlock=some q→w2.heap.size≤q):=(fun q hq=>Nat.le_trans (hn0.out (.cells #[.int .i64 (a:Int),.int .i64 (k:Int)] 208)).size (own_base ho3 q hq));have HBB:=hide hb4;have HOB:Hid (w3.ownsRow w.heap.size 208 2 y P.length (spv P)):=(ownsRow_from ho3 (Nat.le_trans HT.out.below.size (hn0.out (.cells #[.int .i64 (a:Int),.int .i64 (k:Int)] 208)).size));have hsz:Hid (w.heap.size≤w3.heap.size):=HTB.out.below.size;clear hb3 hb4 ho3)
  | (refine step_append_lies _ (by rfl) _ _ _ (by rfl) w.heap.size 208 t (.agg #[.int .i64 0,.int .i64 0]) 2 16 Tryz.underlying205 HI.out HZ.out.1 HZ.out.2.1 HZ.out.2.2 rfl (by omega) y P.length (spv P) (by rfl) (by exact ownsRow_below HOA.out (below_alloc _ _)) ⟨w3.heap.size,0,none⟩ 1 1 [.int .i64 (a:Int),.int .i64 (k:Int)] (by rfl) rfl (World.news_of_block (heap_alloc_last _ _)) (by simp [Value.oneCell']) (by omega) (by have:=HC.out;unfold maxLen;omega) (by have:=HC.out;omega) (by have:=hsz.out;simp;omega) (w3.heap.size+1) (by simp) ?_;intro g cap' w4 hown hgrow hat hltg;have HB5:=hide ((HBA.out.trans ((below_alloc w3 _).mono HBA.out.size)).grown hgrow (by have:=HBA.out.size;simp;omega) HOA2.out);have HT5:=hide (HT.out.later HB5.out);have p0:=blk_cell HT5.out.h5 0 _ rfl;have p1:=blk_cell HT5.out.h5 1 _ rfl;have p2:=blk_cell HT5.out.h6 0 _ rfl;have p3:=blk_cell HT5.out.h6 1 _ rfl;have HO5:=hide hown;clear hgrow hat hltg hown)
  | (refine step_append_lies _ (by rfl) _ _ _ (by rfl) w.heap.size 208 t (.agg #[.int .i64 0,.int .i64 0]) 2 16 Tryz.underlying205 HI.out HZ.out.1 HZ.out.2.1 HZ.out.2.2 rfl (by omega) y P.length (spv P) (by rfl) (by exact HOB.out) ⟨w2.heap.size,0,none⟩ 1 1 [.int .i64 (a:Int),.int .i64 (k:Int)] (by rfl) rfl (World.news_of_block HNB.out) (by simp [Value.oneCell']) (by omega) (by have:=HC.out;unfold maxLen;omega) (by have:=HC.out;omega) (by have:=hsz.out;omega) w3.heap.size (by rfl) ?_;intro g cap' w4 hown hgrow hat hltg;have HB5:=hide (HBB.out.grown hgrow HBB.out.size HOB2.out);have HT5:=hide (HT.out.later HB5.out);have p0:=blk_cell HT5.out.h5 0 _ rfl;have p1:=blk_cell HT5.out.h5 1 _ rfl;have p2:=blk_cell HT5.out.h6 0 _ rfl;have p3:=blk_cell HT5.out.h6 1 _ rfl;have HO5:=hide hown;clear hgrow hat hltg hown))
 all_goals
  go_wp2_with fail
  go_ret
  exact⟨_,rfl,HT5.out.below,HO5.out⟩
theorem pathTo_one (a i:Nat)(w:World):
  Calls Tryz.prog 102 #[.agg #[.int .i64 a,.int .i64 1],.int .i64 i] w fun r w'=>r= .returned (.slice none 0 0)∧Below w.heap.size w w':=by
 go_enter Tryz.func102,Tryz.ntmps102
 go_wp2
 go_ret
 exact⟨rfl,below_alloc _ _⟩
theorem ownSp_none (B:Nat)(w:World):OwnSp B w (.slice none 0 0) []:=⟨rfl,.inl ⟨rfl,rfl⟩⟩
theorem pathTo_any (f:Nat)(hf6:f≤1000):∀(a n i:Nat) (w:World),a+n≤9223372036854775807→1≤n→n≤2 ^ f→a≤i→i < a+n→Calls Tryz.prog 102 #[.agg #[.int .i64 a,.int .i64 n],.int .i64 i] w fun r w'=>∃ x,r= .returned x∧Below w.heap.size w w'∧OwnSp w.heap.size w' x (pathS f a n i):=by
 have one:∀(f a n i:Nat) (w:World),n=1→Calls Tryz.prog 102 #[.agg #[.int .i64 a,.int .i64 n],.int .i64 i] w fun r w'=>∃ x,r= .returned x∧Below w.heap.size w w'∧OwnSp w.heap.size w' x (pathS f a n i):=by
  rintro f a n i w rfl
  refine(pathTo_one a i w).mono ?_
  rintro r w' ⟨rfl,hb⟩
  rw [pathS_one _ _ _ _ (Nat.le_refl _)]
  exact⟨_,rfl,hb,ownSp_none _ _⟩
 induction f with
 | zero =>
  intro a n i w h h1 h2 _ _
  exact one 0 a n i w (by simpa using Nat.le_antisymm h2 h1)
 | succ f ih =>
  intro a n i w h h1 h2 ha hi
  by_cases hn:n=1
  ·exact one (f+1) a n i w hn
  by_cases hk:i < a+kOf n
  ·exact pathTo_left f a n i w h (by omega) h2 (by omega) ha hk (ih (by omega))
  ·exact pathTo_right f a n i w h (by omega) h2 (by omega) ha hi hk (ih (by omega))
theorem part_whole (m a n:Nat)(w:World)(h:a+n≤9223372036854775807)(hm:m=a+n):
  Calls Tryz.prog 98 #[.int .i64 m,.agg #[.int .i64 a,.int .i64 n],.bool true] w fun r w'=>r= .returned (.slice none 0 0)∧Below w.heap.size w w':=by
 have EE:=hide (fun w:World=>end_any a n w h)
 have n2:((m:Int)==(a:Int)+(n:Int))=true:=beq_iff_eq.2 (by omega)
 clear hm
 go_enter Tryz.func98,Tryz.ntmps98
 go_wp2_with fail
 refine(EE.out _).mono ?_
 rintro e w0 ⟨rfl,hb0⟩
 go_wp2_with fail
 go_ret
 exact⟨rfl,(below_alloc w _).trans (hb0.mono (by simp))⟩
theorem part_not (m a n:Nat)(w:World)(h:a+n≤9223372036854775807)(hm:m=a+n):
  Calls Tryz.prog 98 #[.int .i64 m,.agg #[.int .i64 a,.int .i64 n],.bool false] w fun r w'=>∃ x,r= .returned x∧Below w.heap.size w w'∧OwnSp w.heap.size w' x [(a,n)]:=by
 have EE:=hide (fun w:World=>end_any a n w h)
 have n2:((m:Int)==(a:Int)+(n:Int))=true:=beq_iff_eq.2 (by omega)
 clear hm
 go_enter Tryz.func98,Tryz.ntmps98
 go_wp2_with fail
 refine(EE.out _).mono ?_
 rintro e w0 ⟨rfl,hb0⟩
 have HB0:Hid (Below w.heap.size w w0):=(below_alloc w _).trans (hb0.mono (by simp))
 have hbx:=(hb0.block w.heap.size (by simp)).trans (heap_alloc_last w _)
 have s0:=blk_cell hbx 0 _ rfl
 have s1:=blk_cell hbx 1 _ rfl
 clear hb0 EE hbx
 go_wp2_with fail
 go_ret
 refine⟨_,rfl,HB0.out.alloc HB0.out.size _,⟨by simp [spv],.inr ⟨w0.heap.size,1,#[.int .i64 (a:Int),.int .i64 (n:Int)],rfl,HB0.out.size,heap_alloc_last _ _,by simp,by unfold maxLen;simp,by simp,?_⟩⟩⟩
 simp [spv]
theorem part_any (f:Nat)(hf6:f≤1000):∀(m a n:Nat) (whole:Bool) (w:World),a+n≤9223372036854775807→1≤n→n≤2 ^ f→a < m→m≤a+n→Calls Tryz.prog 98 #[.int .i64 m,.agg #[.int .i64 a,.int .i64 n],.bool whole] w fun r w'=>∃ x,r= .returned x∧Below w.heap.size w w'∧OwnSp w.heap.size w' x (partS f m a n whole):=by
 have one:∀(f m a n:Nat) (whole:Bool) (w:World),a+n≤9223372036854775807→m=a+n→Calls Tryz.prog 98 #[.int .i64 m,.agg #[.int .i64 a,.int .i64 n],.bool whole] w fun r w'=>∃ x,r= .returned x∧Below w.heap.size w w'∧OwnSp w.heap.size w' x (partS f m a n whole):=by
  intro f m a n whole w h hm
  rw [partS_end f m a n whole hm]
  cases whole with
  | true =>
   refine(part_whole m a n w h hm).mono ?_
   rintro r w' ⟨rfl,hb⟩
   exact⟨_,rfl,hb,ownSp_none _ _⟩
  | false =>
   refine(part_not m a n w h hm).mono ?_
   rintro r w' ⟨x,rfl,hb,ho⟩
   exact⟨x,rfl,hb,ho⟩
 induction f with
 | zero =>
  intro m a n whole w h h1 h2 hm1 hm2
  have:n≤1:=by simpa using h2
  exact one 0 m a n whole w h (by omega)
 | succ f ih =>
  intro m a n whole w h h1 h2 hm1 hm2
  by_cases hm:m=a+n
  ·exact one (f+1) m a n whole w h hm
  by_cases hk:m≤a+kOf n
  ·exact part_left f m a n whole w h (by omega) h2 (by omega) hm1 (by omega) hk (ih (by omega))
  ·exact part_right f m a n whole w h (by omega) h2 (by omega) hm1 (by omega) hk (ih (by omega))
end
end Go.Proofs.YtinhekmmdlhfkaaGreatDoor
