import Derived.Test.YtinhekmmdlhfkaaGreatDoorG23
import Derived.Test.YtinhekmmdlhfkaaGreatDoorG21
import Derived.Test.YtinhekmmdlhfkaaGreatDoorG33
import Derived.Test.YtinhekmmdlhfkaaGreatDoorG35
import Derived.Test.YtinhekmmdlhfkaaGreatDoorG36
namespace Go.Proofs.YtinhekmmdlhfkaaGreatDoor
section
theorem rootPl_two (size:Nat):∀(q f a:Nat),q < 64→q≤f→(rootPl size (f+1) a (2 ^ q)).length≤2:=by
 have even:∀(l f a:Nat),2*l < 64→(rootPl size (f+1) a (2 ^ (2*l))).length=1:=by
  intro l f a hl
  have e:2 ^ (2*l) / 4 ^ lvl (2 ^ (2*l))=1:=by
   rw [lvl_two _ hl,four_pow,show 2*(2*l / 2)=2*l by omega,Nat.div_self (Nat.pow_pos (by omega))]
  rw [rootPl,if_pos e]
  rfl
 intro q f a hq hf
 by_cases h:q % 2=0
 ·have e:q=2*(q / 2):=by omega
  rw [e,even (q / 2) f a (by omega)]
  omega
 ·obtain⟨l,rfl⟩:∃ l,q=2*l+1:=⟨q / 2,by omega⟩
  obtain⟨f,rfl⟩:∃ g,f=g+1:=⟨f - 1,by omega⟩
  rw [rootPl]
  split
  ·simp
  ·rw [kOf_pow,List.length_append,even l f a (by omega),show 2 ^ (2*l+1) - 2 ^ (2*l)=2 ^ (2*l) by rw [Nat.pow_succ];omega,even l f _ (by omega)]
   omega
theorem rootPl_len (size:Nat):∀(f a n:Nat),f < 64→1≤n→n≤2 ^ f→(rootPl size (f+1) a n).length≤2*(f+1):=by
 intro f
 induction f with
 | zero =>
  intro a n _ h1 h2
  obtain rfl:n=2 ^ 0:=by simp at h2 ⊢;omega
  exact rootPl_two size 0 0 a (by omega) (by omega)
 | succ f ih =>
  intro a n hf h1 h2
  rw [rootPl]
  split
  ·simp;omega
  ·rename_i hne
   by_cases hn:2≤n
   ·obtain⟨k1,k2,k3,k4,k5,k6⟩:=kOf_half n f hn h2
    obtain⟨q,hq⟩:=kOf_two n
    have hqf:q≤f:=by
     rw [hq] at k1
     exact(Nat.pow_le_pow_iff_right (by omega)).1 k1
    rw [List.length_append]
    have a1:(rootPl size (f+1) a (kOf n)).length≤2:=by rw [hq];exact rootPl_two size q f a (by omega) hqf
    have a2:=ih (a+kOf n) (n - kOf n) (by omega) k4 k2
    omega
   ·obtain rfl:n=2 ^ 0:=by simp;omega
    exact absurd (by rw [lvl_two 0 (by omega)]) hne
theorem roots_len (size:Nat):∀(ss:List (Nat×Nat)),(∀ s∈ss,1≤s.2∧s.2≤2 ^ 63)→(ss.flatMap fun s=>rootPl size 64 s.1 s.2).length≤128*ss.length
 | [],_=>by simp
 | s::r,h=>by
  have ih:=roots_len size r (fun x hx=>h x (List.mem_cons_of_mem _ hx))
  have hs:=h s List.mem_cons_self
  have:(rootPl size 64 s.1 s.2).length≤128:=rootPl_len size 63 s.1 s.2 (by omega) hs.1 hs.2
  rw [List.flatMap_cons,List.length_append,List.length_cons]
  omega
theorem path_cost (size i:Nat)(hs:size < 2 ^ 63):((pathS 64 0 size i).flatMap fun s=>rootPl size 64 s.1 s.2).length≤8400:=by
 have h:=roots_len size (pathS 64 0 size i) (fun s hs'=>by have:=pathS_in 64 0 size i (by omega) s hs';omega)
 have:=pathS_count 64 0 size i
 omega
theorem part_cost (size n:Nat)(hs:n < 2 ^ 63)(h1:0 < size)(h2:size≤n):((partS 64 size 0 n true).flatMap fun s=>rootPl n 64 s.1 s.2).length≤8400:=by
 have h:=roots_len n (partS 64 size 0 n true) (fun s hs'=>by have:=partS_in 64 size 0 n true (by omega) (by omega) (by omega) (by omega) s hs';omega)
 have:=partS_count 64 size 0 n true
 omega
end
section
set_option maxHeartbeats 4000000
open Go.RowKit
set_option maxRecDepth 100000
def loadT (a:Value):Sem Value:=Instr.loadAt 93 a
theorem loadT_fold (a:Value):Instr.loadAt 93 a=loadT a:=rfl
def storeT (a v:Value):Sem Unit:=Instr.storeAt 93 a v
theorem storeT_fold (a v:Value):Instr.storeAt 93 a v=storeT a v:=rfl
attribute [local go_sem ↓] loadM_fold storeM_fold loadP_fold storeP_fold buildP_fold buildF_fold loadH_fold storeH_fold loadT_fold storeT_fold
theorem infoT9:(Tryz.prog.info? 93).map (·.size)=some 9:=by kernel_rfl
theorem trC_len (n:Nat){root:List UInt8}(h:root.length=8):(trC n root).length=9:=by simp [trC,h]
theorem trC_one (n:Nat)(root:List UInt8):∀ v∈trC n root,v.oneCell'=true:=fun v hv=>by
 rcases List.mem_cons.1 hv with rfl | hv
 ·rfl
 ·exact bvu_one v hv
theorem loadT_of {w:World}{b o n:Nat}{root:List UInt8}(hr:w.rangeAt b o (trC n root))(h:root.length=8):(loadT (.pointer (some ⟨b,o,none⟩))).run Tryz.prog w= .ok (.agg (trC n root).toArray) w :=
 run_loadAt_mid w b o _ (trC n root) _ hr Tryz.underlying93 rfl (by rw [infoT9,trC_len n h])
theorem storeT_of {w:World}{b o n:Nat}{root:List UInt8}(ht:w.there b o 9)(h:root.length=8):(storeT (.pointer (some ⟨b,o,none⟩)) (.agg (trC n root).toArray)).run Tryz.prog w= .ok () (w.setCells b o (trC n root)):=by
 have:=run_storeAt_mid (P:=Tryz.prog) w b o 93 (trC n root).toArray (by rw [List.size_toArray,trC_len n h];exact ht) (by rw [infoT9,List.size_toArray,trC_len n h]) (all_oneCell_toArray (trC_one n root))
 simpa [storeT] using this
theorem CNum.range {C:Array Value}{size:Nat}{root:List UInt8}(h:CNum C size root){w:World}{cb:Nat}{t:TypeId}(hc:w.heap[cb]?=some (.cells C t (0,0))):w.rangeAt cb 4 (trC size root):=by
 intro j v hv
 cases j with
 | zero =>
  simp only [trC,List.getElem?_cons_zero,Option.some.injEq] at hv
  subst hv
  exact(dcell hc 4 _ h.sz).1
 | succ j =>
  simp only [trC,List.getElem?_cons_succ] at hv
  have:=h.rt j v hv
  rw [show 4+(j+1)=5+j by omega]
  exact(dcell hc (5+j) v this).1
def conC (m n:Nat)(a b:List UInt8)(ps:List (List UInt8)):Bool:=conB 1001 m n a b ps
def ProveR (at_:Nat→Addr)(B:Nat)(w':World)(o:Sum Er (List (List UInt8)))(r:Ending):Prop :=
 (∃ ps v,o= .inr ps∧OwnHs B w' v ps∧(∀ p∈ps,p.length=8)∧r= .returned (.tuple #[v,.nilIface])) ∨
 (∃ p g,o= .inl (.tile p)∧w'.heap[g]?=some (.cells #[txv p,errS at_ 5] 115 (0,0))∧r= .returned (.tuple #[.slice none 0 0,pathE g])) ∨
 (o= .inl .proof∧r= .returned (.tuple #[.slice none 0 0,errS at_ 4])) ∨
 (o= .inl .old∧r= .returned (.tuple #[.slice none 0 0,errS at_ 3]))
section
variable {σ : Type} {fe : σ → List UInt8 → (List UInt8 × Bool) × σ} {con : Nat → Nat → List UInt8 → List UInt8 → List (List UInt8) → Bool} {c : Cl} {s : σ} {n : Nat} {r : List UInt8}
theorem proveC_old (h:n < c.size):proveC fe con c s n r=(.inl .old,c.proved,s):=by unfold proveC;rw [if_pos h]
theorem proveC_same (h:n=c.size)(h2:r=c.root):proveC fe con c s n r=(.inr [],c.proved,s):=by unfold proveC;rw [if_neg (by omega),if_pos h,if_pos h2]
theorem proveC_other (h:n=c.size)(h2:r≠c.root):proveC fe con c s n r=(.inl .proof,c.proved,s):=by unfold proveC;rw [if_neg (by omega),if_pos h,if_neg h2]
theorem proveC_zero (h:c.size < n)(h2:c.size=0):proveC fe con c s n r=(.inr [],c.proved,s):=by unfold proveC;rw [if_neg (by omega),if_neg (by omega),if_pos h2]
theorem proveC_1 (h:c.size < n)(h2:c.size≠0){p:List UInt8}{m:Ms σ}(h3:rootsM fe c.proved n ⟨s,[]⟩ (partS 64 c.size 0 n true)=(.inl p,m)):proveC fe con c s n r=(.inl (.tile p),c.proved,m.net):=by unfold proveC;rw [if_neg (by omega),if_neg (by omega),if_neg h2,h3]
theorem proveC_2 (h:c.size < n)(h2:c.size≠0){ps:List (List UInt8)}{m:Ms σ}(h3:rootsM fe c.proved n ⟨s,[]⟩ (partS 64 c.size 0 n true)=(.inr ps,m))(h4:con c.size n c.root r ps=false):proveC fe con c s n r=(.inl .proof,c.proved,m.net):=by unfold proveC;rw [if_neg (by omega),if_neg (by omega),if_neg h2,h3];simp only [h4,Bool.false_eq_true,if_false]
theorem proveC_3 (h:c.size < n)(h2:c.size≠0){ps:List (List UInt8)}{m:Ms σ}(h3:rootsM fe c.proved n ⟨s,[]⟩ (partS 64 c.size 0 n true)=(.inr ps,m))(h4:con c.size n c.root r ps=true):proveC fe con c s n r=(.inr ps,rememberM c.room c.proved (settleO n m.needed c.size c.root),m.net):=by unfold proveC;rw [if_neg (by omega),if_neg (by omega),if_neg h2,h3];simp only [h4,if_true]
end
theorem RootsR.join {at_:Nat→Addr}{B:Nat}{w':World}{o:Sum (List UInt8) (List (List UInt8))}{r:Ending}(h:RootsR at_ B w' o r):∃ v e,r= .returned (.tuple #[v,e])∧((∃ xs,o= .inr xs∧OwnHs B w' v xs∧(∀ p∈xs,p.length=8)∧e= .nilIface)∨(∃ p g,o= .inl p∧w'.heap[g]?=some (.cells #[txv p,errS at_ 5] 115 (0,0))∧v= .slice none 0 0∧e=pathE g)):=by
 rcases h with ⟨xs,x,h1,h2,h3,h4⟩ | ⟨p,g,h1,h2,h3⟩
 ·exact⟨x,.nilIface,h4,.inl ⟨xs,h1,h2,h3,rfl⟩⟩
 ·exact⟨_,_,h3,.inr ⟨p,g,h1,h2,rfl,rfl⟩⟩
theorem out_same {W0 w V:World}{O A OP:Nat→Prop}{cb nb db pm nm:Nat}{C:Array Value}{d:Dk}{room:Int}{pr:Mm}{n:Nt}{k k0:Nat}(h:CS W0 w O A OP cb nb db pm nm C d room pr ⟨n,[]⟩ k0)(hb:Below w.heap.size w V)(hk:k≤k0):Out W0 w V O A OP cb nb db pm nm C d room pr n k (fun _=>True) :=
 ⟨.of_below hb,A,OP,AInc.refl _ _ _,AInc.refl _ _ _,(h.below hb).less hk,trivial⟩
theorem trC_hash {w:World}{b n:Nat}{root:List UInt8}{t:TypeId}(h:w.heap[b]?=some (.cells (trC n root).toArray t (0,0))):w.rangeAt b 1 (root.map bv):=by
 intro j v hv
 refine(dcell h (1+j) v ?_).1
 rw [Nat.add_comm,List.getElem?_toArray]
 exact hv
theorem prove_any (W0:World)(at_:Nat→Addr)(O A OP:Nat→Prop)(cb nb db pm nm:Nat)(C:Array Value)(d:Dk)(room:Int)(pr:Mm)(n:Nt)(k size new:Nat)(root root2:List UInt8)(hsz:size < 9223372036854775808)(hnew:new < 9223372036854775808)(h82:root2.length=8)(hC:CNum C size root)(hE:Env W0)(hS:Sents W0 at_)(hTb:Tabs W0)(hpl:pr.length≤100000000000)(hwf:WfM pr)(hop:∀ b,OP b→W0.heap.size≤b)(w:World)(h:CS W0 w O A OP cb nb db pm nm C d room pr ⟨n,[]⟩ (8400+k)):
  Calls Tryz.prog 58 #[ptrV cb,.agg (trC new root2).toArray] w fun r w' =>
   Out W0 w w' O A OP cb nb db pm nm C d room (proveC (netF d.fs) conC (clOf size root room pr) n new root2).2.1 (proveC (netF d.fs) conC (clOf size root room pr) n new root2).2.2 k (fun _=>True)∧ProveR at_ w.heap.size w' (proveC (netF d.fs) conC (clOf size root room pr) n new root2).1 r:=by
 have HH:=hide h
 have HC:=hide hC
 have HE:=hide hE
 have HS:=hide hS
 have HTB:=hide hTb
 have HPL:=hide hpl
 have HWF:=hide hwf
 have HOP:=hide hop
 have H82:=hide h82
 clear h hC hE hS hTb hpl hwf hop h82
 have HD:Hid (new < size∨(new=size∧root2≠root)∨(new=size∧root2=root)∨(size < new∧size=0)∨(size < new∧1≤size)):=by
  show _∨_
  by_cases h:root2=root
  ·by_cases h2:new < size
   ·exact .inl h2
   ·by_cases h3:new=size
    ·exact .inr (.inr (.inl ⟨h3,h⟩))
    ·by_cases h4:size=0
     ·exact .inr (.inr (.inr (.inl ⟨by omega,h4⟩)))
     ·exact .inr (.inr (.inr (.inr ⟨by omega,by omega⟩)))
  ·by_cases h2:new < size
   ·exact .inl h2
   ·by_cases h3:new=size
    ·exact .inr (.inl ⟨h3,h⟩)
    ·by_cases h4:size=0
     ·exact .inr (.inr (.inr (.inl ⟨by omega,h4⟩)))
     ·exact .inr (.inr (.inr (.inr ⟨by omega,by omega⟩)))
 have HP0:Hid (∀(h:new < size),proveC (netF d.fs) conC (clOf size root room pr) n new root2=(.inl .old,pr,n)):=fun h=>proveC_old (c:=clOf size root room pr) h
 have HP1:Hid (∀(h:new=size) (h':root2≠root),proveC (netF d.fs) conC (clOf size root room pr) n new root2=(.inl .proof,pr,n)):=fun h h'=>proveC_other (c:=clOf size root room pr) h h'
 have HP2:Hid (∀(h:new=size) (h':root2=root),proveC (netF d.fs) conC (clOf size root room pr) n new root2=(.inr [],pr,n)):=fun h h'=>proveC_same (c:=clOf size root room pr) h h'
 have HP3:Hid (∀(h:size < new) (h':size=0),proveC (netF d.fs) conC (clOf size root room pr) n new root2=(.inr [],pr,n)):=fun h h'=>proveC_zero (c:=clOf size root room pr) h h'
 unfold ptrV
 go_enter_defers Tryz.func58,Tryz.ntmps58
 have hldc:(loadT (.pointer (some ⟨cb,4,none⟩))).run Tryz.prog (w.alloc (.cells (trC new root2).toArray 93))= .ok (.agg (trC size root).toArray) (w.alloc (.cells (trC new root2).toArray 93)):=loadT_of (HC.out.range (heap_alloc_old HH.out.cli)) HC.out.r8
 have hz:(w.alloc (.cells (trC new root2).toArray 93)).heap.size=w.heap.size+1:=by simp
 have hA1:((w.alloc (.cells (trC new root2).toArray 93)).alloc (.cells #[.int .i64 0,.int .u8 0,.int .u8 0,.int .u8 0,.int .u8 0,.int .u8 0,.int .u8 0,.int .u8 0,.int .u8 0] 93)).heap[w.heap.size+1]?=some (.cells (trC 0 none8).toArray 93 (0,0)):=by
  have:=heap_alloc_last (w.alloc (.cells (trC new root2).toArray 93)) (.cells #[.int .i64 0,.int .u8 0,.int .u8 0,.int .u8 0,.int .u8 0,.int .u8 0,.int .u8 0,.int .u8 0,.int .u8 0] 93)
  rw [hz] at this
  exact this
 have hst:(storeT (.pointer (some ⟨w.heap.size+1,0,none⟩)) (.agg (trC size root).toArray)).run Tryz.prog ((w.alloc (.cells (trC new root2).toArray 93)).alloc (.cells #[.int .i64 0,.int .u8 0,.int .u8 0,.int .u8 0,.int .u8 0,.int .u8 0,.int .u8 0,.int .u8 0,.int .u8 0] 93))= .ok () (((w.alloc (.cells (trC new root2).toArray 93)).alloc (.cells #[.int .i64 0,.int .u8 0,.int .u8 0,.int .u8 0,.int .u8 0,.int .u8 0,.int .u8 0,.int .u8 0,.int .u8 0] 93)).setCells (w.heap.size+1) 0 (trC size root)):=storeT_of (row_there hA1) HC.out.r8
 have HBL:Hid ((((w.alloc (.cells (trC new root2).toArray 93)).alloc (.cells #[.int .i64 0,.int .u8 0,.int .u8 0,.int .u8 0,.int .u8 0,.int .u8 0,.int .u8 0,.int .u8 0,.int .u8 0] 93)).setCells (w.heap.size+1) 0 (trC size root)).heap[w.heap.size]?=some (.cells (trC new root2).toArray 93 (0,0))∧(((w.alloc (.cells (trC new root2).toArray 93)).alloc (.cells #[.int .i64 0,.int .u8 0,.int .u8 0,.int .u8 0,.int .u8 0,.int .u8 0,.int .u8 0,.int .u8 0,.int .u8 0] 93)).setCells (w.heap.size+1) 0 (trC size root)).heap[w.heap.size+1]?=some (.cells (trC size root).toArray 93 (0,0))):=by
  refine⟨?_,row_whole hA1 (by rw [trC_len _ HC.out.r8];rfl)⟩
  rw [setCells_away _ _ (by omega)]
  exact heap_alloc_old (heap_alloc_last _ _)
 have HB0:Hid (Below w.heap.size w (((w.alloc (.cells (trC new root2).toArray 93)).alloc (.cells #[.int .i64 0,.int .u8 0,.int .u8 0,.int .u8 0,.int .u8 0,.int .u8 0,.int .u8 0,.int .u8 0,.int .u8 0] 93)).setCells (w.heap.size+1) 0 (trC size root))):=below_setCells (below_alloc2 w _ _) (Nat.le_succ _) _ _
 clear hA1 hz
 generalize ((w.alloc (.cells (trC new root2).toArray 93)).alloc (.cells #[.int .i64 0,.int .u8 0,.int .u8 0,.int .u8 0,.int .u8 0,.int .u8 0,.int .u8 0,.int .u8 0,.int .u8 0] 93)).setCells (w.heap.size+1) 0 (trC size root)=V at *
 have HKP:Hid (∀ X:World,X.heap[w.heap.size]?=some (.cells (trC new root2).toArray 93 (0,0))∧X.heap[w.heap.size+1]?=some (.cells (trC size root).toArray 93 (0,0))→X.cell? ⟨w.heap.size,0,none⟩=some (.int .i64 new)∧X.cell? ⟨w.heap.size+1,0,none⟩=some (.int .i64 size)∧(loadH (.pointer (some ⟨w.heap.size,1,none⟩))).run Tryz.prog X= .ok (.agg (hv root2)) X∧(loadH (.pointer (some ⟨w.heap.size+1,1,none⟩))).run Tryz.prog X= .ok (.agg (hv root)) X∧(loadT (.pointer (some ⟨w.heap.size+1,0,none⟩))).run Tryz.prog X= .ok (.agg (trC size root).toArray) X):=by
  rintro X ⟨h1,h2⟩
  exact⟨(dcell h1 0 _ rfl).1,(dcell h2 0 _ rfl).1,loadH_of (trC_hash h1) H82.out,loadH_of (trC_hash h2) HC.out.r8,loadT_of (range_row h2) HC.out.r8⟩
 obtain⟨q0,q1,hl1,hl2,hl3⟩:=HKP.out V HBL.out
 have hneq:=fun X=>neq_hash root2 root H82.out HC.out.r8 X
 have HRW:Hid (∀ X:World,Below w.heap.size w X→Out W0 w X O A OP cb nb db pm nm C d room pr n k (fun _=>True)):=fun X hX=>out_same HH.out hX (by omega)
 rcases HD.out with h | ⟨h,h'⟩ | ⟨h,h'⟩ | ⟨h,h'⟩ | ⟨h,h'⟩
 ·have hlt:(new:Int) < (size:Int):=by omega
  have hR:=hide (HP0.out h)
  have qe:V.cell? ⟨4,0,none⟩=some (.iface 326 (.pointer (some (at_ 3)))):=base_cell (HH.out.below HB0.out).base HS.out.old
  clear HD HP0 HP1 HP2 HP3 hneq
  go_wp2_with fail
  go_region_held3 (fun w'=>w'.cell? ⟨4,0,none⟩=some (.iface 326 (.pointer (some (at_ 3))))) (go_keep) (fail)
  go_wp2_with fail
  refine⟨.tuple #[.slice none 0 0,errS at_ 3],by simp [results,Tryz.results58,go_sem,errS],?_⟩
  rw [hR.out]
  exact⟨HRW.out _ HB0.out.drew,.inr (.inr (.inr ⟨rfl,rfl⟩))⟩
 ·have hR:=hide (HP1.out h h')
  have hqh:eqH root2 root=false:=by unfold eqH;simp [h']
  subst h
  have qe:V.cell? ⟨5,0,none⟩=some (.iface 326 (.pointer (some (at_ 4)))):=base_cell (HH.out.below HB0.out).base HS.out.proof
  clear HD HP0 HP1 HP2 HP3 h'
  rw [hqh] at hneq
  clear hqh
  go_wp2_with fail
  go_region_held3 (fun w'=>w'.cell? ⟨5,0,none⟩=some (.iface 326 (.pointer (some (at_ 4))))) (go_keep) (fail)
  go_wp2_with fail
  refine⟨.tuple #[.slice none 0 0,errS at_ 4],by simp [results,Tryz.results58,go_sem,errS],?_⟩
  rw [hR.out]
  exact⟨HRW.out _ HB0.out.drew,.inr (.inr (.inl ⟨rfl,rfl⟩))⟩
 ·have hR:=hide (HP2.out h h')
  have hqh:eqH root2 root=true:=by unfold eqH;simp [h']
  subst h h'
  clear HD HP0 HP1 HP2 HP3
  rw [hqh] at hneq
  clear hqh
  go_wp2_with fail
  refine⟨.tuple #[.slice none 0 0,.nilIface],by simp [results,Tryz.results58,go_sem],?_⟩
  rw [hR.out]
  exact⟨HRW.out _ HB0.out,.inl ⟨[],_,rfl,World.ownsRow_nil _ _ _ _,by simp,rfl⟩⟩
 ·have hR:=hide (HP3.out h h')
  have hlt:¬(new:Int) < (size:Int):=by omega
  have hne:((new:Int)==(size:Int))=false:=by simp;omega
  have hne':((size:Int)==0)=true:=by simp [h']
  have HZ:=hide h'
  clear HD HP0 HP1 HP2 HP3 h h'
  go_wp2_with fail
  refine⟨.tuple #[.slice none 0 0,.nilIface],by simp [results,Tryz.results58,go_sem],?_⟩
  rw [hR.out]
  exact⟨HRW.out _ HB0.out,.inl ⟨[],_,rfl,World.ownsRow_nil _ _ _ _,by simp,rfl⟩⟩
 ·have hlt:¬(new:Int) < (size:Int):=by omega
  have hne:((new:Int)==(size:Int))=false:=by simp;omega
  have hne':((size:Int)==0)=false:=by simp;omega
  clear HD HP0 HP1 HP2 HP3 HRW
  have HSP:=hide (And.intro h h')
  have HP1:Hid (∀ p m,rootsM (netF d.fs) pr new ⟨n,[]⟩ (partS 64 size 0 new true)=(.inl p,m)→proveC (netF d.fs) conC (clOf size root room pr) n new root2=(.inl (.tile p),pr,m.net)):=fun p m e=>proveC_1 (c:=clOf size root room pr) h (by show size≠0;omega) e
  have HP2:Hid (∀ ps m,rootsM (netF d.fs) pr new ⟨n,[]⟩ (partS 64 size 0 new true)=(.inr ps,m)→conB 1001 (size:Int) (new:Int) root root2 ps=false→proveC (netF d.fs) conC (clOf size root room pr) n new root2=(.inl .proof,pr,m.net)):=fun ps m e e'=>proveC_2 (c:=clOf size root room pr) h (by show size≠0;omega) e e'
  have HP3:Hid (∀ ps m,rootsM (netF d.fs) pr new ⟨n,[]⟩ (partS 64 size 0 new true)=(.inr ps,m)→conB 1001 (size:Int) (new:Int) root root2 ps=true→proveC (netF d.fs) conC (clOf size root room pr) n new root2=(.inr ps,rememberM room pr (settleO new m.needed size root),m.net)):=fun ps m e e'=>proveC_3 (c:=clOf size root room pr) h (by show size≠0;omega) e e'
  have HSIN:Hid (∀ s∈partS 64 size 0 new true,s.1+s.2≤new∧1≤s.2):=fun s hs=>by have:=partS_in 64 size 0 new true (by omega) (by omega) (by omega) (by omega) s hs;omega
  have HWD:Hid (∀ ps m,rootsM (netF d.fs) pr new ⟨n,[]⟩ (partS 64 size 0 new true)=(.inr ps,m)→WdN m.needed∧ps.length≤65):=fun ps m e=>⟨(rootsM_seq (by omega) _ _ _ _ HSIN.out e).wdN HWF.out rfl,by rw [rootsM_len e];exact partS_count 64 size 0 new true⟩
  have HPART:Hid (∀ X,Calls Tryz.prog 98 #[.int .i64 size,.agg #[.int .i64 0,.int .i64 new],.bool true] X fun r w'=>∃ x,r= .returned x∧Below X.heap.size X w'∧OwnSp X.heap.size w' x (partS 64 size 0 new true)):=fun X=>part_any 64 (by omega) size 0 new true X (by omega) (by omega) (by omega) (by omega) (by omega)
  have HCV:=hide (HH.out.below HB0.out)
  have HROOTS:Hid (∀ V2 sv,Below V.heap.size V V2→OwnSp V.heap.size V2 sv (partS 64 size 0 new true)→Calls Tryz.prog 97 #[ptrV cb,.int .i64 new,sv] V2 fun r w'=>∃ v e,r= .returned (.tuple #[v,e])∧Turn (fun b=>O b∨A b) qT V2 w'∧CS W0 w' O (Ext A V2 w') OP cb nb db pm nm C d room pr (rootsM (netF d.fs) pr new ⟨n,[]⟩ (partS 64 size 0 new true)).2 k∧((∃ xs,(rootsM (netF d.fs) pr new ⟨n,[]⟩ (partS 64 size 0 new true)).1= .inr xs∧OwnHs V2.heap.size w' v xs∧(∀ p∈xs,p.length=8)∧e= .nilIface)∨(∃ p g,(rootsM (netF d.fs) pr new ⟨n,[]⟩ (partS 64 size 0 new true)).1= .inl p∧w'.heap[g]?=some (.cells #[txv p,errS at_ 5] 115 (0,0))∧v= .slice none 0 0∧e=pathE g))):=by
   intro V2 sv hb hsp
   refine(roots_any W0 at_ O A OP cb nb db pm nm C d room pr ⟨n,[]⟩ k new hnew HE.out HS.out HTB.out sv _ V.heap.size V2 hsp (by have:=partS_count 64 size 0 new true;omega) HSIN.out ((HCV.out.below hb).less (by have:=part_cost size new (by omega) (by have:=HSP.out;omega) (by have:=HSP.out;omega);unfold rPl;omega))).mono ?_
   rintro r w' ⟨h1,h2,h3⟩
   obtain⟨v,e,e1,h4⟩:=h3.join
   exact⟨v,e,e1,h1,h2,h4⟩
  unfold ptrV at HROOTS
  have c14:V.cell? ⟨cb,14,none⟩=some (.pointer (some ⟨nm,0,none⟩)):=(dcell HCV.out.cli 14 _ HCV.out.cells.nee).1
  have hcur:V.heap[w.heap.size]?=some (.cells (trC new root2).toArray 93 (0,0))∧V.heap[w.heap.size+1]?=some (.cells (trC size root).toArray 93 (0,0)):=HBL.out
  have HTV:Hid (Turn (fun b=>O b∨A b∨OP b) clT w V):= .of_below HB0.out
  clear h h'
  go_wp2_with fail
  clear hlt hne hne' hneq hl1 hl2 hl3
  go_region_held3 (fun X=>X.cell? ⟨w.heap.size,0,none⟩=some (.int .i64 new)∧X.cell? ⟨w.heap.size+1,0,none⟩=some (.int .i64 size)) (exact⟨(HKP.out _ hcur).1,(HKP.out _ hcur).2.1⟩) (first
   | (go_at_call 98;refine(HPART.out _).mono ?_;rintro r V2 ⟨sv,rfl,hb3,hsp⟩;have HB3:=hide (below_undrew hb3);have HSV:=hide hsp;have hnew:V2.heap[w.heap.size]?=some (.cells (trC new root2).toArray 93 (0,0))∧V2.heap[w.heap.size+1]?=some (.cells (trC size root).toArray 93 (0,0)):=⟨(HB3.out.block _ (heap_some_lt hcur.1)).trans hcur.1,(HB3.out.block _ (heap_some_lt hcur.2)).trans hcur.2⟩;clear hcur hb3 hsp;have hcur:=hnew;clear hnew)
   | (go_at_call 97;refine(HROOTS.out V2 sv HB3.out HSV.out).mono ?_;rintro r w3 ⟨pv,ev,rfl,ht3,hcs3,hr3⟩;have HT3:=hide ht3;have HC3:=hide hcs3;have hnew:w3.heap[w.heap.size]?=some (.cells (trC new root2).toArray 93 (0,0))∧w3.heap[w.heap.size+1]?=some (.cells (trC size root).toArray 93 (0,0)):=⟨ht3.keep hcur.1 (by decide),ht3.keep hcur.2 (by decide)⟩;clear hcur ht3 hcs3;have hcur:=hnew;clear hnew;have HR:=hide hr3;clear hr3))
  rename_i hheld
  clear hheld
  have HT4:Hid (Turn (fun b=>O b∨A b∨OP b) clT w w3):=turn_on (HTV.out.then_below HB3.out) (AInc.refl A w V2) HT3.out
  have HA4:Hid (AInc A (Ext A V2 w3) w w3):=(AInc.refl A w V2).ext (Nat.le_trans HB0.out.size HB3.out.size) HT3.out.size
  have HSZ:Hid (w.heap.size≤V2.heap.size):=Nat.le_trans HB0.out.size HB3.out.size
  have HBL3:=hide hcur
  clear hcur HTV HT3 HPART HROOTS HCV HBL HB3 HSV HB0 HSIN q0 q1 c14 hldc hst
  generalize rootsM (netF d.fs) pr new ⟨n,[]⟩ (partS 64 size 0 new true)=RM at *
  obtain⟨o,m2⟩:=RM
  simp only at *
  rcases HR.out with ⟨ps,rfl,hown,h8,rfl⟩ | ⟨p,g,rfl,hgb,rfl,rfl⟩
  ·have HOWN:=hide hown
   have H8:=hide h8
   have HW:=hide (HWD.out ps m2 rfl)
   have HP2b:=hide (HP2.out ps m2 rfl)
   have HP3b:=hide (HP3.out ps m2 rfl)
   have HCON:=hide (con_any 1001 root root2 size new (by omega) pv ps w3 (by have:=HW.out.2;omega) (by have:=HW.out.2;omega) HC.out.r8 H82.out (Hss.of_owns h8 hown))
   obtain⟨q0,q1,hl1,hl2,hl3⟩:=HKP.out w3 HBL3.out
   clear hown h8 HR HP1 HP2 HP3 HWD hl3
   go_wp2_with fail
   refine HCON.out.mono ?_
   rintro r w4 ⟨rfl,hb4⟩
   have HB4:=hide hb4
   have HC5:=hide (HC3.out.below hb4)
   have HT5:=hide (HT4.out.then_below hb4)
   have HA5:=hide (HA4.out.below hb4.size)
   have HOWN5:Hid (OwnHs V2.heap.size w4 pv ps):=ownsRow_turn (O:=fun _=>False) (T:=[]) HOWN.out (.of_below hb4) (by decide)
   have HBL5:Hid (w4.heap[w.heap.size]?=some (.cells (trC new root2).toArray 93 (0,0))∧w4.heap[w.heap.size+1]?=some (.cells (trC size root).toArray 93 (0,0))):=⟨(hb4.block _ (heap_some_lt HBL3.out.1)).trans HBL3.out.1,(hb4.block _ (heap_some_lt HBL3.out.2)).trans HBL3.out.2⟩
   clear hb4 HC3 HT4 HA4 HOWN HCON q0 q1 hl1 hl2 HBL3
   generalize conB 1001 (size:Int) (new:Int) root root2 ps=B at *
   cases B with
   | false =>
    have HRR:=hide (HP2b.out rfl)
    have qe:w4.cell? ⟨5,0,none⟩=some (.iface 326 (.pointer (some (at_ 4)))):=base_cell HC5.out.base HS.out.proof
    have HC6:=hide (HC5.out.below (Below.refl _ w4).drew)
    obtain⟨L2,hm2⟩:=HC6.out.mem
    have HFG:=hide (forgetN_def .returning _ nm maxI L2 _ hm2)
    clear hm2 HP2b HP3b
    unfold ptrV at HFG
    go_wp2_with fail
    go_region_held3 (fun w'=>w'.cell? ⟨5,0,none⟩=some (.iface 326 (.pointer (some (at_ 4))))) (go_keep) (fail)
    rename_i hheld
    clear hheld
    go_wp2_with fail
    refine leaves_cons (f:=88) (args:=#[.pointer (some ⟨nm,0,none⟩)]) (by simp) (by simp [go_sem]) ?_
    refine HFG.out.mono ?_
    rintro e u' w9 ⟨rfl,rfl,ht9,hm9,hs9⟩
    simp only [Leaves,settle]
    refine⟨.tuple #[.slice none 0 0,errS at_ 4],by simp [results,Tryz.results58,go_sem,errS],?_⟩
    rw [HRR.out]
    exact⟨out_end (HT5.out.then_below (Below.refl _ w4).drew) (HA5.out.below (Nat.le_refl _)) (AInc.refl _ _ _) HC6.out ht9 hm9 (Nat.le_refl _) (fun _=>trivial),.inr (.inr (.inl ⟨rfl,rfl⟩))⟩
   | true =>
    have HRR:=hide (HP3b.out rfl)
    obtain⟨q0,q1,hl1,hl2,hl3⟩:=HKP.out w4 HBL5.out
    have HSET:=hide (settleOlder_any W0 O (Ext A V2 w3) OP cb nb db pm nm C d room pr new k size hnew HSP.out.2 hsz root HC.out.r8 m2 w4 HTB.out HW.out.1 HC5.out)
    clear hl1 hl2 HP2b HP3b
    unfold ptrV at HSET
    go_wp2_with fail
    refine HSET.out.mono ?_
    rintro r w6 ⟨rfl,ht6,hcs6⟩
    have HT6:Hid (Turn (fun b=>O b∨A b∨OP b) clT w w6):=turn_on HT5.out HA5.out (ht6.mono (fun _ h=> .inr h) (by decide))
    have HA6:=hide (HA5.out.below ht6.size)
    have HC6:=hide hcs6
    have HOWN6:Hid (OwnHs V2.heap.size w6 pv ps):=ownsRow_turn HOWN5.out ht6 (by decide)
    clear ht6 hcs6 HSET HT5 HA5 HC5 HOWN5 q0 q1 hl3
    have HRM:=hide (remember_any W0 O (Ext A V2 w3) OP cb nb db pm nm C d room pr k _ w6 HPL.out HOP.out HC6.out)
    unfold ptrV at HRM
    go_wp2_with fail
    refine HRM.out.mono ?_
    rintro r w7 ⟨rfl,ht7,hcs7⟩
    have HT7:Hid (Turn (fun b=>O b∨A b∨OP b) clT w w7):=HT6.out.trans (ht7.mono (fun b h=> .inl (.inr (.inr h))) (by decide))
    have HA7:=hide (HA6.out.below ht7.size)
    have HP7:Hid (AInc OP (Ext OP w6 w7) w w7):=⟨fun _ h=> .inl h,fun b hb=>hb.imp id (fun h=>⟨Nat.le_trans HT6.out.size h.1,h.2⟩)⟩
    have HC7:=hide hcs7
    have HOWN7:Hid (OwnHs V2.heap.size w7 pv ps):=ownsRow_turn HOWN6.out ht7 (by decide)
    clear ht7 hcs7 HRM HT6 HA6 HC6 HOWN6
    obtain⟨L2,hm2⟩:=HC7.out.mem
    have HFG:=hide (forgetN_def .returning _ nm maxI L2 _ hm2)
    clear hm2
    unfold ptrV at HFG
    go_wp2_with fail
    refine leaves_cons (f:=88) (args:=#[.pointer (some ⟨nm,0,none⟩)]) (by simp) (by simp [go_sem]) ?_
    refine HFG.out.mono ?_
    rintro e u' w9 ⟨rfl,rfl,ht9,hm9,hs9⟩
    simp only [Leaves,settle]
    refine⟨.tuple #[pv,.nilIface],by simp [results,Tryz.results58,go_sem],?_⟩
    rw [HRR.out]
    have hout:=out_end (P:=fun _=>True) HT7.out HA7.out HP7.out HC7.out ht9 hm9 (Nat.le_refl _) (fun _=>trivial)
    exact⟨hout,.inl ⟨ps,pv,rfl,owns_low (ownsRow_turn HOWN7.out ht9 (by decide)) HSZ.out,H8.out,rfl⟩⟩
  ·have HGB:=hide hgb
   have HRR:=hide (HP1.out p m2 rfl)
   obtain⟨L2,hm2⟩:=HC3.out.mem
   have HFG:=hide (forgetN_def .returning _ nm maxI L2 _ hm2)
   clear hgb hm2 HR HP1 HP2 HP3 HWD
   unfold pathE
   unfold ptrV at HFG
   go_wp2_with fail
   refine leaves_cons (f:=88) (args:=#[.pointer (some ⟨nm,0,none⟩)]) (by simp) (by simp [go_sem]) ?_
   refine HFG.out.mono ?_
   rintro e u' w9 ⟨rfl,rfl,ht9,hm9,hs9⟩
   simp only [Leaves,settle]
   refine⟨.tuple #[.slice none 0 0,pathE g],by simp [results,Tryz.results58,go_sem,pathE],?_⟩
   rw [HRR.out]
   exact⟨out_end HT4.out HA4.out (AInc.refl _ _ _) HC3.out ht9 hm9 (Nat.le_refl _) (fun _=>trivial),.inr (.inl ⟨p,g,rfl,ht9.keep HGB.out (by decide),rfl⟩)⟩
end
end Go.Proofs.YtinhekmmdlhfkaaGreatDoor
