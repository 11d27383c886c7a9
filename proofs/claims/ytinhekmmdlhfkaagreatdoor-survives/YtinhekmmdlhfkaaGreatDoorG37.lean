import Derived.Test.YtinhekmmdlhfkaaGreatDoorG24
import Derived.Test.YtinhekmmdlhfkaaGreatDoorG22
import Derived.Test.YtinhekmmdlhfkaaGreatDoorG33
import Derived.Test.YtinhekmmdlhfkaaGreatDoorG35
import Derived.Test.YtinhekmmdlhfkaaGreatDoorG36
namespace Go.Proofs.YtinhekmmdlhfkaaGreatDoor
section
theorem zm0 (size:Nat):∀(q f a:Nat),q < 64→q≤f→(yi size (f+1) a (2 ^ q)).length≤2:=by
 have even:∀(l f a:Nat),2*l < 64→(yi size (f+1) a (2 ^ (2*l))).length=1:=by
  intro l f a hl
  have e:2 ^ (2*l) / 4 ^ lvl (2 ^ (2*l))=1:=by
   rw [ziz _ hl,vj,show 2*(2*l / 2)=2*l by omega,Nat.div_self (Nat.pow_pos (by omega))]
  rw [yi,if_pos e]
  rfl
 intro q f a hq hf
 by_cases h:q % 2=0
 ·have e:q=2*(q / 2):=by omega
  rw [e,even (q / 2) f a (by omega)]
  omega
 ·obtain⟨l,rfl⟩:∃ l,q=2*l+1:=⟨q / 2,by omega⟩
  obtain⟨f,rfl⟩:∃ g,f=g+1:=⟨f - 1,by omega⟩
  rw [yi]
  split
  ·simp
  ·rw [zp7,List.length_append,even l f a (by omega),show 2 ^ (2*l+1) - 2 ^ (2*l)=2 ^ (2*l) by rw [Nat.pow_succ];omega,even l f _ (by omega)]
   omega
theorem ztu (size:Nat):∀(f a n:Nat),f < 64→1≤n→n≤2 ^ f→(yi size (f+1) a n).length≤2*(f+1):=by
 intro f
 induction f with
 | zero =>
  intro a n _ h1 h2
  obtain rfl:n=2 ^ 0:=by simp at h2 ⊢;omega
  exact zm0 size 0 0 a (by omega) (by omega)
 | succ f ih =>
  intro a n hf h1 h2
  rw [yi]
  split
  ·simp;omega
  ·rename_i hne
   by_cases hn:2≤n
   ·obtain⟨k1,k2,k3,k4,k5,k6⟩:=jl n f hn h2
    obtain⟨q,hq⟩:=zli n
    have hqf:q≤f:=by
     rw [hq] at k1
     exact(Nat.pow_le_pow_iff_right (by omega)).1 k1
    rw [List.length_append]
    have a1:(yi size (f+1) a (kOf n)).length≤2:=by rw [hq];exact zm0 size q f a (by omega) hqf
    have a2:=ih (a+kOf n) (n - kOf n) (by omega) k4 k2
    omega
   ·obtain rfl:n=2 ^ 0:=by simp;omega
    exact absurd (by rw [ziz 0 (by omega)]) hne
theorem zkd (size:Nat):∀(ss:List (Nat×Nat)),(∀ s∈ss,1≤s.2∧s.2≤2 ^ 63)→(ss.flatMap fun s=>yi size 64 s.1 s.2).length≤128*ss.length
 | [],_=>by simp
 | s::r,h=>by
  have ih:=zkd size r (fun x hx=>h x (List.mem_cons_of_mem _ hx))
  have hs:=h s List.mem_cons_self
  have:(yi size 64 s.1 s.2).length≤128:=ztu size 63 s.1 s.2 (by omega) hs.1 hs.2
  rw [List.flatMap_cons,List.length_append,List.length_cons]
  omega
theorem zkk (size i:Nat)(hs:size < 2 ^ 63):((xp 64 0 size i).flatMap fun s=>yi size 64 s.1 s.2).length≤8400:=by
 have h:=zkd size (xp 64 0 size i) (fun s hs'=>by have:=zgp 64 0 size i (by omega) s hs';omega)
 have:=za3 64 0 size i
 omega
theorem zj5 (size n:Nat)(hs:n < 2 ^ 63)(h1:0 < size)(h2:size≤n):((xr 64 size 0 n true).flatMap fun s=>yi n 64 s.1 s.2).length≤8400:=by
 have h:=zkd n (xr 64 size 0 n true) (fun s hs'=>by have:=zgg 64 size 0 n true (by omega) (by omega) (by omega) (by omega) s hs';omega)
 have:=za2 64 size 0 n true
 omega
end
section
set_option maxHeartbeats 4000000
open Go.RowKit
set_option maxRecDepth 100000
def zmh (a:Value):Sem Value:=Instr.loadAt 93 a
theorem zay (a:Value):Instr.loadAt 93 a=zmh a:=rfl
def ze6 (a v:Value):Sem Unit:=Instr.storeAt 93 a v
theorem zae (a v:Value):Instr.storeAt 93 a v=ze6 a v:=rfl
attribute [local go_sem ↓] yq yk yt yp yn yo yu yl zay zae
theorem zt4:(Tryz.prog.info? 93).map (·.size)=some 9:=by kernel_rfl
theorem zb7 (n:Nat){root:List UInt8}(h:root.length=8):(trC n root).length=9:=by simp [trC,h]
theorem z7f (n:Nat)(root:List UInt8):∀ v∈trC n root,v.oneCell'=true:=fun v hv=>by
 rcases List.mem_cons.1 hv with rfl | hv
 ·rfl
 ·exact zxa v hv
theorem zf2 {w:World}{b o n:Nat}{root:List UInt8}(hr:w.rangeAt b o (trC n root))(h:root.length=8):(zmh (.pointer (some ⟨b,o,none⟩))).run Tryz.prog w= .ok (.agg (trC n root).toArray) w :=
 run_loadAt_mid w b o _ (trC n root) _ hr Tryz.underlying93 rfl (by rw [zt4,zb7 n h])
theorem zdd {w:World}{b o n:Nat}{root:List UInt8}(ht:w.there b o 9)(h:root.length=8):(ze6 (.pointer (some ⟨b,o,none⟩)) (.agg (trC n root).toArray)).run Tryz.prog w= .ok () (w.setCells b o (trC n root)):=by
 have:=run_storeAt_mid (P:=Tryz.prog) w b o 93 (trC n root).toArray (by rw [List.size_toArray,zb7 n h];exact ht) (by rw [zt4,List.size_toArray,zb7 n h]) (all_oneCell_toArray (z7f n root))
 simpa [ze6] using this
theorem zjj.range {C:Array Value}{size:Nat}{root:List UInt8}(h:zjj C size root){w:World}{cb:Nat}{t:TypeId}(hc:w.heap[cb]?=some (.cells C t (0,0))):w.rangeAt cb 4 (trC size root):=by
 intro j v hv
 cases j with
 | zero =>
  simp only [trC,List.getElem?_cons_zero,Option.some.injEq] at hv
  subst hv
  exact(zg hc 4 _ h.sz).1
 | succ j =>
  simp only [trC,List.getElem?_cons_succ] at hv
  have:=h.rt j v hv
  rw [show 4+(j+1)=5+j by omega]
  exact(zg hc (5+j) v this).1
def za5 (m n:Nat)(a b:List UInt8)(ps:List (List UInt8)):Bool:=zpw 1001 m n a b ps
def zgw (at_:Nat→Addr)(B:Nat)(w':World)(o:Sum Er (List (List UInt8)))(r:Ending):Prop :=
 (∃ ps v,o= .inr ps∧zbh B w' v ps∧(∀ p∈ps,p.length=8)∧r= .returned (.tuple #[v,.nilIface])) ∨
 (∃ p g,o= .inl (.tile p)∧w'.heap[g]?=some (.cells #[txv p,jo at_ 5] 115 (0,0))∧r= .returned (.tuple #[.slice none 0 0,xm g])) ∨
 (o= .inl .proof∧r= .returned (.tuple #[.slice none 0 0,jo at_ 4])) ∨
 (o= .inl .old∧r= .returned (.tuple #[.slice none 0 0,jo at_ 3]))
section
variable {σ : Type} {fe : σ → List UInt8 → (List UInt8 × Bool) × σ} {con : Nat → Nat → List UInt8 → List UInt8 → List (List UInt8) → Bool} {c : Cl} {s : σ} {n : Nat} {r : List UInt8}
theorem zfi (h:n < c.size):qi fe con c s n r=(.inl .old,c.proved,s):=by unfold qi;rw [if_pos h]
theorem zec (h:n=c.size)(h2:r=c.root):qi fe con c s n r=(.inr [],c.proved,s):=by unfold qi;rw [if_neg (by omega),if_pos h,if_pos h2]
theorem zc3 (h:n=c.size)(h2:r≠c.root):qi fe con c s n r=(.inl .proof,c.proved,s):=by unfold qi;rw [if_neg (by omega),if_pos h,if_neg h2]
theorem zed (h:c.size < n)(h2:c.size=0):qi fe con c s n r=(.inr [],c.proved,s):=by unfold qi;rw [if_neg (by omega),if_neg (by omega),if_pos h2]
theorem zjd (h:c.size < n)(h2:c.size≠0){p:List UInt8}{m:Ms σ}(h3:yh fe c.proved n ⟨s,[]⟩ (xr 64 c.size 0 n true)=(.inl p,m)):qi fe con c s n r=(.inl (.tile p),c.proved,m.net):=by unfold qi;rw [if_neg (by omega),if_neg (by omega),if_neg h2,h3]
theorem ziw (h:c.size < n)(h2:c.size≠0){ps:List (List UInt8)}{m:Ms σ}(h3:yh fe c.proved n ⟨s,[]⟩ (xr 64 c.size 0 n true)=(.inr ps,m))(h4:con c.size n c.root r ps=false):qi fe con c s n r=(.inl .proof,c.proved,m.net):=by unfold qi;rw [if_neg (by omega),if_neg (by omega),if_neg h2,h3];simp only [h4,Bool.false_eq_true,if_false]
theorem zi8 (h:c.size < n)(h2:c.size≠0){ps:List (List UInt8)}{m:Ms σ}(h3:yh fe c.proved n ⟨s,[]⟩ (xr 64 c.size 0 n true)=(.inr ps,m))(h4:con c.size n c.root r ps=true):qi fe con c s n r=(.inr ps,ym c.room c.proved (zaq n m.needed c.size c.root),m.net):=by unfold qi;rw [if_neg (by omega),if_neg (by omega),if_neg h2,h3];simp only [h4,if_true]
end
theorem zve.join {at_:Nat→Addr}{B:Nat}{w':World}{o:Sum (List UInt8) (List (List UInt8))}{r:Ending}(h:zve at_ B w' o r):∃ v e,r= .returned (.tuple #[v,e])∧((∃ xs,o= .inr xs∧zbh B w' v xs∧(∀ p∈xs,p.length=8)∧e= .nilIface)∨(∃ p g,o= .inl p∧w'.heap[g]?=some (.cells #[txv p,jo at_ 5] 115 (0,0))∧v= .slice none 0 0∧e=xm g)):=by
 rcases h with ⟨xs,x,h1,h2,h3,h4⟩ | ⟨p,g,h1,h2,h3⟩
 ·exact⟨x,.nilIface,h4,.inl ⟨xs,h1,h2,h3,rfl⟩⟩
 ·exact⟨_,_,h3,.inr ⟨p,g,h1,h2,rfl,rfl⟩⟩
theorem z0v {W0 w V:World}{O A OP:Nat→Prop}{cb nb db pm nm:Nat}{C:Array Value}{d:Dk}{room:Int}{pr:Mm}{n:Nt}{k k0:Nat}(h:CS W0 w O A OP cb nb db pm nm C d room pr ⟨n,[]⟩ k0)(hb:Below w.heap.size w V)(hk:k≤k0):Out W0 w V O A OP cb nb db pm nm C d room pr n k (fun _=>True) :=
 ⟨.of_below hb,A,OP,vf.refl _ _ _,vf.refl _ _ _,(h.below hb).less hk,trivial⟩
theorem zl2 {w:World}{b n:Nat}{root:List UInt8}{t:TypeId}(h:w.heap[b]?=some (.cells (trC n root).toArray t (0,0))):w.rangeAt b 1 (root.map bv):=by
 intro j v hv
 refine(zg h (1+j) v ?_).1
 rw [Nat.add_comm,List.getElem?_toArray]
 exact hv
theorem zyi (W0:World)(at_:Nat→Addr)(O A OP:Nat→Prop)(cb nb db pm nm:Nat)(C:Array Value)(d:Dk)(room:Int)(pr:Mm)(n:Nt)(k size new:Nat)(root root2:List UInt8)(hsz:size < 9223372036854775808)(hnew:new < 9223372036854775808)(h82:root2.length=8)(hC:zjj C size root)(hE:Env W0)(hS:qm W0 at_)(hTb:zdn W0)(hpl:pr.length≤100000000000)(hwf:WfM pr)(hop:∀ b,OP b→W0.heap.size≤b)(w:World)(h:CS W0 w O A OP cb nb db pm nm C d room pr ⟨n,[]⟩ (8400+k)):
  Calls Tryz.prog 58 #[zt cb,.agg (trC new root2).toArray] w fun r w' =>
   Out W0 w w' O A OP cb nb db pm nm C d room (qi (zq d.fs) za5 (ju size root room pr) n new root2).2.1 (qi (zq d.fs) za5 (ju size root room pr) n new root2).2.2 k (fun _=>True)∧zgw at_ w.heap.size w' (qi (zq d.fs) za5 (ju size root room pr) n new root2).1 r:=by
 have HH:=za h
 have HC:=za hC
 have HE:=za hE
 have HS:=za hS
 have HTB:=za hTb
 have HPL:=za hpl
 have HWF:=za hwf
 have HOP:=za hop
 have H82:=za h82
 clear h hC hE hS hTb hpl hwf hop h82
 have HD:Hid (new < size∨(new=size∧root2≠root)∨(new=size∧root2=root)∨(size < new∧size=0)∨(size < new∧1≤size)):=by
  show _∨_
  by_cases h:root2=root
  ·by_cases h2:new < size
   ·exact .inl h2
   ·by_cases h3:new=size
    ·exact .inr (.inr (.inl ⟨h3,h⟩))
    ·by_cases h4:size=0
     ·exact .inr (.inr (.inr (.inl ⟨by omega,h4⟩)))
     ·exact .inr (.inr (.inr (.inr ⟨by omega,by omega⟩)))
  ·by_cases h2:new < size
   ·exact .inl h2
   ·by_cases h3:new=size
    ·exact .inr (.inl ⟨h3,h⟩)
    ·by_cases h4:size=0
     ·exact .inr (.inr (.inr (.inl ⟨by omega,h4⟩)))
     ·exact .inr (.inr (.inr (.inr ⟨by omega,by omega⟩)))
 have HP0:Hid (∀(h:new < size),qi (zq d.fs) za5 (ju size root room pr) n new root2=(.inl .old,pr,n)):=fun h=>zfi (c:=ju size root room pr) h
 have HP1:Hid (∀(h:new=size) (h':root2≠root),qi (zq d.fs) za5 (ju size root room pr) n new root2=(.inl .proof,pr,n)):=fun h h'=>zc3 (c:=ju size root room pr) h h'
 have HP2:Hid (∀(h:new=size) (h':root2=root),qi (zq d.fs) za5 (ju size root room pr) n new root2=(.inr [],pr,n)):=fun h h'=>zec (c:=ju size root room pr) h h'
 have HP3:Hid (∀(h:size < new) (h':size=0),qi (zq d.fs) za5 (ju size root room pr) n new root2=(.inr [],pr,n)):=fun h h'=>zed (c:=ju size root room pr) h h'
 unfold zt
 go_enter_defers Tryz.func58,Tryz.ntmps58
 have hldc:(zmh (.pointer (some ⟨cb,4,none⟩))).run Tryz.prog (w.alloc (.cells (trC new root2).toArray 93))= .ok (.agg (trC size root).toArray) (w.alloc (.cells (trC new root2).toArray 93)):=zf2 (HC.o.range (zc HH.o.cli)) HC.o.r8
 have hz:(w.alloc (.cells (trC new root2).toArray 93)).heap.size=w.heap.size+1:=by simp
 have hA1:((w.alloc (.cells (trC new root2).toArray 93)).alloc (.cells #[.int .i64 0,.int .u8 0,.int .u8 0,.int .u8 0,.int .u8 0,.int .u8 0,.int .u8 0,.int .u8 0,.int .u8 0] 93)).heap[w.heap.size+1]?=some (.cells (trC 0 xd).toArray 93 (0,0)):=by
  have:=heap_alloc_last (w.alloc (.cells (trC new root2).toArray 93)) (.cells #[.int .i64 0,.int .u8 0,.int .u8 0,.int .u8 0,.int .u8 0,.int .u8 0,.int .u8 0,.int .u8 0,.int .u8 0] 93)
  rw [hz] at this
  exact this
 have hst:(ze6 (.pointer (some ⟨w.heap.size+1,0,none⟩)) (.agg (trC size root).toArray)).run Tryz.prog ((w.alloc (.cells (trC new root2).toArray 93)).alloc (.cells #[.int .i64 0,.int .u8 0,.int .u8 0,.int .u8 0,.int .u8 0,.int .u8 0,.int .u8 0,.int .u8 0,.int .u8 0] 93))= .ok () (((w.alloc (.cells (trC new root2).toArray 93)).alloc (.cells #[.int .i64 0,.int .u8 0,.int .u8 0,.int .u8 0,.int .u8 0,.int .u8 0,.int .u8 0,.int .u8 0,.int .u8 0] 93)).setCells (w.heap.size+1) 0 (trC size root)):=zdd (jb hA1) HC.o.r8
 have HBL:Hid ((((w.alloc (.cells (trC new root2).toArray 93)).alloc (.cells #[.int .i64 0,.int .u8 0,.int .u8 0,.int .u8 0,.int .u8 0,.int .u8 0,.int .u8 0,.int .u8 0,.int .u8 0] 93)).setCells (w.heap.size+1) 0 (trC size root)).heap[w.heap.size]?=some (.cells (trC new root2).toArray 93 (0,0))∧(((w.alloc (.cells (trC new root2).toArray 93)).alloc (.cells #[.int .i64 0,.int .u8 0,.int .u8 0,.int .u8 0,.int .u8 0,.int .u8 0,.int .u8 0,.int .u8 0,.int .u8 0] 93)).setCells (w.heap.size+1) 0 (trC size root)).heap[w.heap.size+1]?=some (.cells (trC size root).toArray 93 (0,0))):=by
  refine⟨?_,qz hA1 (by rw [zb7 _ HC.o.r8];rfl)⟩
  rw [xy _ _ (by omega)]
  exact zc (heap_alloc_last _ _)
 have HB0:Hid (Below w.heap.size w (((w.alloc (.cells (trC new root2).toArray 93)).alloc (.cells #[.int .i64 0,.int .u8 0,.int .u8 0,.int .u8 0,.int .u8 0,.int .u8 0,.int .u8 0,.int .u8 0,.int .u8 0] 93)).setCells (w.heap.size+1) 0 (trC size root))):=zu (zw w _ _) (Nat.le_succ _) _ _
 clear hA1 hz
 generalize ((w.alloc (.cells (trC new root2).toArray 93)).alloc (.cells #[.int .i64 0,.int .u8 0,.int .u8 0,.int .u8 0,.int .u8 0,.int .u8 0,.int .u8 0,.int .u8 0,.int .u8 0] 93)).setCells (w.heap.size+1) 0 (trC size root)=V at *
 have HKP:Hid (∀ X:World,X.heap[w.heap.size]?=some (.cells (trC new root2).toArray 93 (0,0))∧X.heap[w.heap.size+1]?=some (.cells (trC size root).toArray 93 (0,0))→X.cell? ⟨w.heap.size,0,none⟩=some (.int .i64 new)∧X.cell? ⟨w.heap.size+1,0,none⟩=some (.int .i64 size)∧(vx (.pointer (some ⟨w.heap.size,1,none⟩))).run Tryz.prog X= .ok (.agg (hv root2)) X∧(vx (.pointer (some ⟨w.heap.size+1,1,none⟩))).run Tryz.prog X= .ok (.agg (hv root)) X∧(zmh (.pointer (some ⟨w.heap.size+1,0,none⟩))).run Tryz.prog X= .ok (.agg (trC size root).toArray) X):=by
  rintro X ⟨h1,h2⟩
  exact⟨(zg h1 0 _ rfl).1,(zg h2 0 _ rfl).1,qg (zl2 h1) H82.o,qg (zl2 h2) HC.o.r8,zf2 (yv h2) HC.o.r8⟩
 obtain⟨q0,q1,hl1,hl2,hl3⟩:=HKP.o V HBL.o
 have hneq:=fun X=>znr root2 root H82.o HC.o.r8 X
 have HRW:Hid (∀ X:World,Below w.heap.size w X→Out W0 w X O A OP cb nb db pm nm C d room pr n k (fun _=>True)):=fun X hX=>z0v HH.o hX (by omega)
 rcases HD.o with h | ⟨h,h'⟩ | ⟨h,h'⟩ | ⟨h,h'⟩ | ⟨h,h'⟩
 ·have hlt:(new:Int) < (size:Int):=by omega
  have hR:=za (HP0.o h)
  have qe:V.cell? ⟨4,0,none⟩=some (.iface 326 (.pointer (some (at_ 3)))):=zde (HH.o.below HB0.o).base HS.o.old
  clear HD HP0 HP1 HP2 HP3 hneq
  go_wp2_with fail
  go_region_held3 (fun w'=>w'.cell? ⟨4,0,none⟩=some (.iface 326 (.pointer (some (at_ 3))))) (go_keep) (fail)
  go_wp2_with fail
  refine⟨.tuple #[.slice none 0 0,jo at_ 3],by simp [results,Tryz.results58,go_sem,jo],?_⟩
  rw [hR.out]
  exact⟨HRW.o _ HB0.o.drew,.inr (.inr (.inr ⟨rfl,rfl⟩))⟩
 ·have hR:=za (HP1.o h h')
  have hqh:eqH root2 root=false:=by unfold eqH;simp [h']
  subst h
  have qe:V.cell? ⟨5,0,none⟩=some (.iface 326 (.pointer (some (at_ 4)))):=zde (HH.o.below HB0.o).base HS.o.proof
  clear HD HP0 HP1 HP2 HP3 h'
  rw [hqh] at hneq
  clear hqh
  go_wp2_with fail
  go_region_held3 (fun w'=>w'.cell? ⟨5,0,none⟩=some (.iface 326 (.pointer (some (at_ 4))))) (go_keep) (fail)
  go_wp2_with fail
  refine⟨.tuple #[.slice none 0 0,jo at_ 4],by simp [results,Tryz.results58,go_sem,jo],?_⟩
  rw [hR.out]
  exact⟨HRW.o _ HB0.o.drew,.inr (.inr (.inl ⟨rfl,rfl⟩))⟩
 ·have hR:=za (HP2.o h h')
  have hqh:eqH root2 root=true:=by unfold eqH;simp [h']
  subst h h'
  clear HD HP0 HP1 HP2 HP3
  rw [hqh] at hneq
  clear hqh
  go_wp2_with fail
  refine⟨.tuple #[.slice none 0 0,.nilIface],by simp [results,Tryz.results58,go_sem],?_⟩
  rw [hR.out]
  exact⟨HRW.o _ HB0.o,.inl ⟨[],_,rfl,World.ownsRow_nil _ _ _ _,by simp,rfl⟩⟩
 ·have hR:=za (HP3.o h h')
  have hlt:¬(new:Int) < (size:Int):=by omega
  have hne:((new:Int)==(size:Int))=false:=by simp;omega
  have hne':((size:Int)==0)=true:=by simp [h']
  have HZ:=za h'
  clear HD HP0 HP1 HP2 HP3 h h'
  go_wp2_with fail
  refine⟨.tuple #[.slice none 0 0,.nilIface],by simp [results,Tryz.results58,go_sem],?_⟩
  rw [hR.out]
  exact⟨HRW.o _ HB0.o,.inl ⟨[],_,rfl,World.ownsRow_nil _ _ _ _,by simp,rfl⟩⟩
 ·have hlt:¬(new:Int) < (size:Int):=by omega
  have hne:((new:Int)==(size:Int))=false:=by simp;omega
  have hne':((size:Int)==0)=false:=by simp;omega
  clear HD HP0 HP1 HP2 HP3 HRW
  have HSP:=za (And.intro h h')
  have HP1:Hid (∀ p m,yh (zq d.fs) pr new ⟨n,[]⟩ (xr 64 size 0 new true)=(.inl p,m)→qi (zq d.fs) za5 (ju size root room pr) n new root2=(.inl (.tile p),pr,m.net)):=fun p m e=>zjd (c:=ju size root room pr) h (by show size≠0;omega) e
  have HP2:Hid (∀ ps m,yh (zq d.fs) pr new ⟨n,[]⟩ (xr 64 size 0 new true)=(.inr ps,m)→zpw 1001 (size:Int) (new:Int) root root2 ps=false→qi (zq d.fs) za5 (ju size root room pr) n new root2=(.inl .proof,pr,m.net)):=fun ps m e e'=>ziw (c:=ju size root room pr) h (by show size≠0;omega) e e'
  have HP3:Hid (∀ ps m,yh (zq d.fs) pr new ⟨n,[]⟩ (xr 64 size 0 new true)=(.inr ps,m)→zpw 1001 (size:Int) (new:Int) root root2 ps=true→qi (zq d.fs) za5 (ju size root room pr) n new root2=(.inr ps,ym room pr (zaq new m.needed size root),m.net)):=fun ps m e e'=>zi8 (c:=ju size root room pr) h (by show size≠0;omega) e e'
  have HSIN:Hid (∀ s∈xr 64 size 0 new true,s.1+s.2≤new∧1≤s.2):=fun s hs=>by have:=zgg 64 size 0 new true (by omega) (by omega) (by omega) (by omega) s hs;omega
  have HWD:Hid (∀ ps m,yh (zq d.fs) pr new ⟨n,[]⟩ (xr 64 size 0 new true)=(.inr ps,m)→WdN m.needed∧ps.length≤65):=fun ps m e=>⟨(zdv (by omega) _ _ _ _ HSIN.o e).wdN HWF.o rfl,by rw [zfj e];exact za2 64 size 0 new true⟩
  have HPART:Hid (∀ X,Calls Tryz.prog 98 #[.int .i64 size,.agg #[.int .i64 0,.int .i64 new],.bool true] X fun r w'=>∃ x,r= .returned x∧Below X.heap.size X w'∧zas X.heap.size w' x (xr 64 size 0 new true)):=fun X=>z2v 64 (by omega) size 0 new true X (by omega) (by omega) (by omega) (by omega) (by omega)
  have HCV:=za (HH.o.below HB0.o)
  have HROOTS:Hid (∀ V2 sv,Below V.heap.size V V2→zas V.heap.size V2 sv (xr 64 size 0 new true)→Calls Tryz.prog 97 #[zt cb,.int .i64 new,sv] V2 fun r w'=>∃ v e,r= .returned (.tuple #[v,e])∧zf (fun b=>O b∨A b) qT V2 w'∧CS W0 w' O (Ext A V2 w') OP cb nb db pm nm C d room pr (yh (zq d.fs) pr new ⟨n,[]⟩ (xr 64 size 0 new true)).2 k∧((∃ xs,(yh (zq d.fs) pr new ⟨n,[]⟩ (xr 64 size 0 new true)).1= .inr xs∧zbh V2.heap.size w' v xs∧(∀ p∈xs,p.length=8)∧e= .nilIface)∨(∃ p g,(yh (zq d.fs) pr new ⟨n,[]⟩ (xr 64 size 0 new true)).1= .inl p∧w'.heap[g]?=some (.cells #[txv p,jo at_ 5] 115 (0,0))∧v= .slice none 0 0∧e=xm g))):=by
   intro V2 sv hb hsp
   refine(zpk W0 at_ O A OP cb nb db pm nm C d room pr ⟨n,[]⟩ k new hnew HE.o HS.o HTB.o sv _ V.heap.size V2 hsp (by have:=za2 64 size 0 new true;omega) HSIN.o ((HCV.o.below hb).less (by have:=zj5 size new (by omega) (by have:=HSP.o;omega) (by have:=HSP.o;omega);unfold rPl;omega))).mono ?_
   rintro r w' ⟨h1,h2,h3⟩
   obtain⟨v,e,e1,h4⟩:=h3.join
   exact⟨v,e,e1,h1,h2,h4⟩
  unfold zt at HROOTS
  have c14:V.cell? ⟨cb,14,none⟩=some (.pointer (some ⟨nm,0,none⟩)):=(zg HCV.o.cli 14 _ HCV.o.cells.nee).1
  have hcur:V.heap[w.heap.size]?=some (.cells (trC new root2).toArray 93 (0,0))∧V.heap[w.heap.size+1]?=some (.cells (trC size root).toArray 93 (0,0)):=HBL.o
  have HTV:Hid (zf (fun b=>O b∨A b∨OP b) clT w V):= .of_below HB0.o
  clear h h'
  go_wp2_with fail
  clear hlt hne hne' hneq hl1 hl2 hl3
  go_region_held3 (fun X=>X.cell? ⟨w.heap.size,0,none⟩=some (.int .i64 new)∧X.cell? ⟨w.heap.size+1,0,none⟩=some (.int .i64 size)) (exact⟨(HKP.o _ hcur).1,(HKP.o _ hcur).2.1⟩) (first
   | (go_at_call 98;refine(HPART.o _).mono ?_;rintro r V2 ⟨sv,rfl,hb3,hsp⟩;have HB3:=za (qk hb3);have HSV:=za hsp;have hnew:V2.heap[w.heap.size]?=some (.cells (trC new root2).toArray 93 (0,0))∧V2.heap[w.heap.size+1]?=some (.cells (trC size root).toArray 93 (0,0)):=⟨(HB3.o.block _ (zb hcur.1)).trans hcur.1,(HB3.o.block _ (zb hcur.2)).trans hcur.2⟩;clear hcur hb3 hsp;have hcur:=hnew;clear hnew)
   | (go_at_call 97;refine(HROOTS.o V2 sv HB3.o HSV.o).mono ?_;rintro r w3 ⟨pv,ev,rfl,ht3,hcs3,hr3⟩;have HT3:=za ht3;have HC3:=za hcs3;have hnew:w3.heap[w.heap.size]?=some (.cells (trC new root2).toArray 93 (0,0))∧w3.heap[w.heap.size+1]?=some (.cells (trC size root).toArray 93 (0,0)):=⟨ht3.keep hcur.1 (by decide),ht3.keep hcur.2 (by decide)⟩;clear hcur ht3 hcs3;have hcur:=hnew;clear hnew;have HR:=za hr3;clear hr3))
  rename_i hheld
  clear hheld
  have HT4:Hid (zf (fun b=>O b∨A b∨OP b) clT w w3):=zlk (HTV.o.then_below HB3.o) (vf.refl A w V2) HT3.o
  have HA4:Hid (vf A (Ext A V2 w3) w w3):=(vf.refl A w V2).ext (Nat.le_trans HB0.o.size HB3.o.size) HT3.o.size
  have HSZ:Hid (w.heap.size≤V2.heap.size):=Nat.le_trans HB0.o.size HB3.o.size
  have HBL3:=za hcur
  clear hcur HTV HT3 HPART HROOTS HCV HBL HB3 HSV HB0 HSIN q0 q1 c14 hldc hst
  generalize yh (zq d.fs) pr new ⟨n,[]⟩ (xr 64 size 0 new true)=RM at *
  obtain⟨o,m2⟩:=RM
  simp only at *
  rcases HR.o with ⟨ps,rfl,hown,h8,rfl⟩ | ⟨p,g,rfl,hgb,rfl,rfl⟩
  ·have HOWN:=za hown
   have H8:=za h8
   have HW:=za (HWD.o ps m2 rfl)
   have HP2b:=za (HP2.o ps m2 rfl)
   have HP3b:=za (HP3.o ps m2 rfl)
   have HCON:=za (z5l 1001 root root2 size new (by omega) pv ps w3 (by have:=HW.o.2;omega) (by have:=HW.o.2;omega) HC.o.r8 H82.o (Hss.of_owns h8 hown))
   obtain⟨q0,q1,hl1,hl2,hl3⟩:=HKP.o w3 HBL3.o
   clear hown h8 HR HP1 HP2 HP3 HWD hl3
   go_wp2_with fail
   refine HCON.o.mono ?_
   rintro r w4 ⟨rfl,hb4⟩
   have HB4:=za hb4
   have HC5:=za (HC3.o.below hb4)
   have HT5:=za (HT4.o.then_below hb4)
   have HA5:=za (HA4.o.below hb4.size)
   have HOWN5:Hid (zbh V2.heap.size w4 pv ps):=zo (O:=fun _=>False) (T:=[]) HOWN.o (.of_below hb4) (by decide)
   have HBL5:Hid (w4.heap[w.heap.size]?=some (.cells (trC new root2).toArray 93 (0,0))∧w4.heap[w.heap.size+1]?=some (.cells (trC size root).toArray 93 (0,0))):=⟨(hb4.block _ (zb HBL3.o.1)).trans HBL3.o.1,(hb4.block _ (zb HBL3.o.2)).trans HBL3.o.2⟩
   clear hb4 HC3 HT4 HA4 HOWN HCON q0 q1 hl1 hl2 HBL3
   generalize zpw 1001 (size:Int) (new:Int) root root2 ps=B at *
   cases B with
   | false =>
    have HRR:=za (HP2b.o rfl)
    have qe:w4.cell? ⟨5,0,none⟩=some (.iface 326 (.pointer (some (at_ 4)))):=zde HC5.o.base HS.o.proof
    have HC6:=za (HC5.o.below (Below.refl _ w4).drew)
    obtain⟨L2,hm2⟩:=HC6.o.mem
    have HFG:=za (za0 .returning _ nm zbe L2 _ hm2)
    clear hm2 HP2b HP3b
    unfold zt at HFG
    go_wp2_with fail
    go_region_held3 (fun w'=>w'.cell? ⟨5,0,none⟩=some (.iface 326 (.pointer (some (at_ 4))))) (go_keep) (fail)
    rename_i hheld
    clear hheld
    go_wp2_with fail
    refine leaves_cons (f:=88) (args:=#[.pointer (some ⟨nm,0,none⟩)]) (by simp) (by simp [go_sem]) ?_
    refine HFG.o.mono ?_
    rintro e u' w9 ⟨rfl,rfl,ht9,hm9,hs9⟩
    simp only [Leaves,settle]
    refine⟨.tuple #[.slice none 0 0,jo at_ 4],by simp [results,Tryz.results58,go_sem,jo],?_⟩
    rw [HRR.o]
    exact⟨zfm (HT5.o.then_below (Below.refl _ w4).drew) (HA5.o.below (Nat.le_refl _)) (vf.refl _ _ _) HC6.o ht9 hm9 (Nat.le_refl _) (fun _=>trivial),.inr (.inr (.inl ⟨rfl,rfl⟩))⟩
   | true =>
    have HRR:=za (HP3b.o rfl)
    obtain⟨q0,q1,hl1,hl2,hl3⟩:=HKP.o w4 HBL5.o
    have HSET:=za (zk6 W0 O (Ext A V2 w3) OP cb nb db pm nm C d room pr new k size hnew HSP.o.2 hsz root HC.o.r8 m2 w4 HTB.o HW.o.1 HC5.o)
    clear hl1 hl2 HP2b HP3b
    unfold zt at HSET
    go_wp2_with fail
    refine HSET.o.mono ?_
    rintro r w6 ⟨rfl,ht6,hcs6⟩
    have HT6:Hid (zf (fun b=>O b∨A b∨OP b) clT w w6):=zlk HT5.o HA5.o (ht6.mono (fun _ h=> .inr h) (by decide))
    have HA6:=za (HA5.o.below ht6.size)
    have HC6:=za hcs6
    have HOWN6:Hid (zbh V2.heap.size w6 pv ps):=zo HOWN5.o ht6 (by decide)
    clear ht6 hcs6 HSET HT5 HA5 HC5 HOWN5 q0 q1 hl3
    have HRM:=za (zjn W0 O (Ext A V2 w3) OP cb nb db pm nm C d room pr k _ w6 HPL.o HOP.o HC6.o)
    unfold zt at HRM
    go_wp2_with fail
    refine HRM.o.mono ?_
    rintro r w7 ⟨rfl,ht7,hcs7⟩
    have HT7:Hid (zf (fun b=>O b∨A b∨OP b) clT w w7):=HT6.o.trans (ht7.mono (fun b h=> .inl (.inr (.inr h))) (by decide))
    have HA7:=za (HA6.o.below ht7.size)
    have HP7:Hid (vf OP (Ext OP w6 w7) w w7):=⟨fun _ h=> .inl h,fun b hb=>hb.imp id (fun h=>⟨Nat.le_trans HT6.o.size h.1,h.2⟩)⟩
    have HC7:=za hcs7
    have HOWN7:Hid (zbh V2.heap.size w7 pv ps):=zo HOWN6.o ht7 (by decide)
    clear ht7 hcs7 HRM HT6 HA6 HC6 HOWN6
    obtain⟨L2,hm2⟩:=HC7.o.mem
    have HFG:=za (za0 .returning _ nm zbe L2 _ hm2)
    clear hm2
    unfold zt at HFG
    go_wp2_with fail
    refine leaves_cons (f:=88) (args:=#[.pointer (some ⟨nm,0,none⟩)]) (by simp) (by simp [go_sem]) ?_
    refine HFG.o.mono ?_
    rintro e u' w9 ⟨rfl,rfl,ht9,hm9,hs9⟩
    simp only [Leaves,settle]
    refine⟨.tuple #[pv,.nilIface],by simp [results,Tryz.results58,go_sem],?_⟩
    rw [HRR.o]
    have hout:=zfm (P:=fun _=>True) HT7.o HA7.o HP7.o HC7.o ht9 hm9 (Nat.le_refl _) (fun _=>trivial)
    exact⟨hout,.inl ⟨ps,pv,rfl,zdu (zo HOWN7.o ht9 (by decide)) HSZ.o,H8.o,rfl⟩⟩
  ·have HGB:=za hgb
   have HRR:=za (HP1.o p m2 rfl)
   obtain⟨L2,hm2⟩:=HC3.o.mem
   have HFG:=za (za0 .returning _ nm zbe L2 _ hm2)
   clear hgb hm2 HR HP1 HP2 HP3 HWD
   unfold xm
   unfold zt at HFG
   go_wp2_with fail
   refine leaves_cons (f:=88) (args:=#[.pointer (some ⟨nm,0,none⟩)]) (by simp) (by simp [go_sem]) ?_
   refine HFG.o.mono ?_
   rintro e u' w9 ⟨rfl,rfl,ht9,hm9,hs9⟩
   simp only [Leaves,settle]
   refine⟨.tuple #[.slice none 0 0,xm g],by simp [results,Tryz.results58,go_sem,xm],?_⟩
   rw [HRR.o]
   exact⟨zfm HT4.o HA4.o (vf.refl _ _ _) HC3.o ht9 hm9 (Nat.le_refl _) (fun _=>trivial),.inr (.inl ⟨p,g,rfl,ht9.keep HGB.o (by decide),rfl⟩)⟩
end
end Go.Proofs.YtinhekmmdlhfkaaGreatDoor
