import Derived.Test.YtndkblnpbjffhaaGreatDoorG38
import Derived.Test.YtndkblnpbjffhaaGreatDoorG40
import Derived.Test.YtndkblnpbjffhaaGreatDoorG42
import Derived.Conc.MuLone
set_option maxHeartbeats 4000000
set_option maxRecDepth 100000
open Go.RowKit
namespace Go.Proofs.YtndkblnpbjffhaaGreatDoor
theorem zmh (size:Nat):∀(q f a:Nat),q < 64→q≤f→(yf size (f+1) a (2 ^ q)).length≤2:=by
 have r:∀(l f a:Nat),2*l < 64→(yf size (f+1) a (2 ^ (2*l))).length=1:=by
  intro l f a A;have e:2 ^ (2*l) / 4 ^ lvl (2 ^ (2*l))=1:=by
   rw [zge _ A,qg,show 2*(2*l / 2)=2*l by omega,Nat.div_self (Nat.pow_pos (by omega))]
  rw [yf,if_pos e];rfl
 intro q f a E D;by_cases h:q % 2=0
 ·have e:q=2*(q / 2):=by omega
  rw [e,r (q / 2) f a (by omega)];omega
 ·obtain⟨l,rfl⟩:∃ l,q=2*l+1:=⟨q / 2,by omega⟩
  obtain⟨f,rfl⟩:∃ g,f=g+1:=⟨f - 1,by omega⟩
  rw [yf]
  split
  ·simp
  ·rw [zlt,List.length_append,r l f a (by omega),show 2 ^ (2*l+1) - 2 ^ (2*l)=2 ^ (2*l) by rw [Nat.pow_succ];omega,r l f _ (by omega)];omega
theorem zx0 (size:Nat):∀(f a n:Nat),f < 64→1≤n→n≤2 ^ f→(yf size (f+1) a n).length≤2*(f+1):=by
 intro f
 induction f with
 | zero =>
  intro a n _ h1 h2;obtain rfl:n=2 ^ 0:=by simp at h2 ⊢;omega
  exact zmh size 0 0 a (by omega) (by omega)
 | succ f ih =>
  intro a n L h1 h2;rw [yf]
  split
  ·simp;omega
  ·rename_i h;by_cases E:2≤n
   ·obtain⟨D,H,Q,I,R,S⟩:=jm n f E h2;obtain⟨q,A⟩:=zhw n;have r:q≤f:=by
     rw [A] at D;exact(Nat.pow_le_pow_iff_right (by omega)).1 D
    rw [List.length_append];have J:(yf size (f+1) a (kOf n)).length≤2:=by rw [A];exact zmh size q f a (by omega) r
    have K:=ih (a+kOf n) (n - kOf n) (by omega) I H;omega
   ·obtain rfl:n=2 ^ 0:=by simp;omega
    exact absurd (by rw [zge 0 (by omega)]) h
theorem zkb (size:Nat):∀(A:List (Nat×Nat)),(∀ s∈A,1≤s.2∧s.2≤2 ^ 63)→(A.flatMap fun s=>yf size 64 s.1 s.2).length≤128*A.length
 | [],_=>by simp
 | s::r,h=>by
  have H:=zkb size r (fun x E=>h x (List.mem_cons_of_mem _ E));have D:=h s List.mem_cons_self;have:(yf size 64 s.1 s.2).length≤128:=zx0 size 63 s.1 s.2 (by omega) D.1 D.2;rw [List.flatMap_cons,List.length_append,List.length_cons];omega
theorem zop (size i:Nat)(A:size < 2 ^ 63):((xy 64 0 size i).flatMap fun s=>yf size 64 s.1 s.2).length≤8400:=by
 have h:=zkb size (xy 64 0 size i) (fun s r=>by have:=zfg 64 0 size i (by omega) s r;omega);have:=zaw 64 0 size i;omega
theorem zpl (size n:Nat)(A:n < 2 ^ 63)(h1:0 < size)(h2:size≤n):((qd 64 size 0 n true).flatMap fun s=>yf n 64 s.1 s.2).length≤8400:=by
 have h:=zkb n (qd 64 size 0 n true) (fun s r=>by have:=zja 64 size 0 n true (by omega) (by omega) (by omega) (by omega) s r;omega);have:=za4 64 size 0 n true;omega
section
def zmp (a:Value):Sem Value:=Instr.loadAt 95 a
theorem za2 (a:Value):Instr.loadAt 95 a=zmp a:=rfl
def zeg (a v:Value):Sem Unit:=Instr.storeAt 95 a v
theorem zah (a v:Value):Instr.storeAt 95 a v=zeg a v:=rfl
attribute [local go_sem ↓] yv yl yy yo yj ym yx yk za2 zah
theorem zv2:(Tryz.prog.info? 95).map (·.size)=some 9:=by kernel_rfl
theorem zca (n:Nat){root:List UInt8}(h:root.length=8):(trC n root).length=9:=by simp [trC,h]
theorem z8p (n:Nat)(root:List UInt8):∀ v∈trC n root,v.oneCell'=true:=fun v hv=>by
 rcases List.mem_cons.1 hv with rfl | hv
 ·rfl
 ·exact zyf v hv
theorem zgv {w:World}{b o n:Nat}{root:List UInt8}(hr:w.rangeAt b o (trC n root))(h:root.length=8):(zmp (.pointer (some ⟨b,o,none⟩))).run Tryz.prog w= .ok (.agg (trC n root).toArray) w :=
 run_loadAt_mid w b o _ (trC n root) _ hr Tryz.underlying95 rfl (by rw [zv2,zca n h])
theorem zbz {w:World}{b o n:Nat}{root:List UInt8}(A:w.there b o 9)(h:root.length=8):(zeg (.pointer (some ⟨b,o,none⟩)) (.agg (trC n root).toArray)).run Tryz.prog w= .ok () (w.setCells b o (trC n root)):=by
 have:=run_storeAt_mid (P:=Tryz.prog) w b o 95 (trC n root).toArray (by rw [List.size_toArray,zca n h];exact A) (by rw [zv2,List.size_toArray,zca n h]) (all_oneCell_toArray (z8p n root));simpa [zeg] using this
theorem zjo.range {C:Array Value}{size:Nat}{root:List UInt8}(h:zjo C size root){w:World}{cb:Nat}{t:TypeId}(A:w.heap[cb]?=some (.cells C t (0,0))):w.rangeAt cb 4 (trC size root):=by
 intro j v hv;cases j with
 | zero =>
  simp only [trC,List.getElem?_cons_zero,Option.some.injEq] at hv;subst hv;exact(zf A 4 _ h.sz).1
 | succ j =>
  simp only [trC,List.getElem?_cons_succ] at hv;have:=h.rt j v hv;rw [show 4+(j+1)=5+j by omega];exact(zf A (5+j) v this).1
def zcd (m n:Nat)(a b:List UInt8)(h:List (List UInt8)):Bool:=zqk 1001 m n a b h
def zg8 (h:Nat→Addr)(B:Nat)(w':World)(o:Sum Er (List (List UInt8)))(r:Ending):Prop :=
 (∃ A v,o= .inr A∧zbl B w' v A∧(∀ p∈A,p.length=8)∧r= .returned (.tuple #[v,.nilIface])) ∨
 (∃ p g,o= .inl (.tile p)∧w'.heap[g]?=some (.cells #[txv p,j4 h 5] 141 (0,0))∧r= .returned (.tuple #[.slice none 0 0,qq g])) ∨
 (o= .inl .proof∧r= .returned (.tuple #[.slice none 0 0,j4 h 4])) ∨
 (o= .inl .old∧r= .returned (.tuple #[.slice none 0 0,j4 h 3]))
section
variable {σ : Type} {fe : σ → List UInt8 → (List UInt8 × Bool) × σ} {con : Nat → Nat → List UInt8 → List UInt8 → List (List UInt8) → Bool} {c : Cl} {s : σ} {n : Nat} {r : List UInt8}
theorem zgc (h:n < c.size):qv fe con c s n r=(.inl .old,c.proved,s):=by unfold qv;rw [if_pos h]
theorem zes (h:n=c.size)(h2:r=c.root):qv fe con c s n r=(.inr [],c.proved,s):=by unfold qv;rw [if_neg (by omega),if_pos h,if_pos h2]
theorem zdz (h:n=c.size)(h2:r≠c.root):qv fe con c s n r=(.inl .proof,c.proved,s):=by unfold qv;rw [if_neg (by omega),if_pos h,if_neg h2]
theorem ze1 (h:c.size < n)(h2:c.size=0):qv fe con c s n r=(.inr [],c.proved,s):=by unfold qv;rw [if_neg (by omega),if_neg (by omega),if_pos h2]
theorem zjr (h:c.size < n)(h2:c.size≠0){p:List UInt8}{m:Ms σ}(A:yh fe c.proved n ⟨s,[]⟩ (qd 64 c.size 0 n true)=(.inl p,m)):qv fe con c s n r=(.inl (.tile p),c.proved,m.net):=by unfold qv;rw [if_neg (by omega),if_neg (by omega),if_neg h2,A]
theorem zjn (h:c.size < n)(h2:c.size≠0){A:List (List UInt8)}{m:Ms σ}(D:yh fe c.proved n ⟨s,[]⟩ (qd 64 c.size 0 n true)=(.inr A,m))(E:con c.size n c.root r A=false):qv fe con c s n r=(.inl .proof,c.proved,m.net):=by unfold qv;rw [if_neg (by omega),if_neg (by omega),if_neg h2,D];simp only [E,Bool.false_eq_true,if_false]
theorem zjw (h:c.size < n)(h2:c.size≠0){A:List (List UInt8)}{m:Ms σ}(D:yh fe c.proved n ⟨s,[]⟩ (qd 64 c.size 0 n true)=(.inr A,m))(E:con c.size n c.root r A=true):qv fe con c s n r=(.inr A,zx c.room c.proved (zb8 n m.needed c.size c.root),m.net):=by unfold qv;rw [if_neg (by omega),if_neg (by omega),if_neg h2,D];simp only [E,if_true]
end
theorem zv7.join {A:Nat→Addr}{B:Nat}{w':World}{o:Sum (List UInt8) (List (List UInt8))}{r:Ending}(h:zv7 A B w' o r):∃ v e,r= .returned (.tuple #[v,e])∧((∃ xs,o= .inr xs∧zbl B w' v xs∧(∀ p∈xs,p.length=8)∧e= .nilIface)∨(∃ p g,o= .inl p∧w'.heap[g]?=some (.cells #[txv p,j4 A 5] 141 (0,0))∧v= .slice none 0 0∧e=qq g)):=by
 rcases h with ⟨xs,x,h1,h2,D,E⟩ | ⟨p,g,h1,h2,D⟩
 ·exact⟨x,.nilIface,E,.inl ⟨xs,h1,h2,D,rfl⟩⟩
 ·exact⟨_,_,D,.inr ⟨p,g,h1,h2,rfl,rfl⟩⟩
theorem z4t {E w V:World}{O A D:Nat→Prop}{cb K H L nm:Nat}{C:Array Value}{d:Dk}{room:Int}{Q:Mm}{n:Nt}{k J:Nat}(h:CS E w O A D cb K H L nm C d room Q ⟨n,[]⟩ J)(I:Below w.heap.size w V)(R:k≤J):Out E w V O A D cb K H L nm C d room Q n k (fun _=>True) :=
 ⟨.of_below I,A,D,ve.refl _ _ _,ve.refl _ _ _,(h.below I).less R,trivial⟩
theorem zm6 {w:World}{b n:Nat}{root:List UInt8}{t:TypeId}(h:w.heap[b]?=some (.cells (trC n root).toArray t (0,0))):w.rangeAt b 1 (root.map bv):=by
 intro j v hv;refine(zf h (1+j) v ?_).1;rw [Nat.add_comm,List.getElem?_toArray];exact hv
theorem z1u (W0:World)(J:Nat→Addr)(O A OP:Nat→Prop)(cb nb db pm nm:Nat)(C:Array Value)(d:Dk)(room:Int)(H:Mm)(n:Nt)(k size D:Nat)(root E:List UInt8)(bz:size < 9223372036854775808)(ac:D < 9223372036854775808)(aV:E.length=8)(hC:zjo C size root)(hE:Env W0)(hS:ja W0 J)(aW:zdq W0)(bf:H.length≤100000000000)(bi:WfM H)(be:∀ b,OP b→W0.heap.size≤b)(w:World)(h:CS W0 w O A OP cb nb db pm nm C d room H ⟨n,[]⟩ (8400+k)):
  Calls Tryz.prog 52 #[zo cb,.agg (trC D E).toArray] w fun r w' =>
   Out W0 w w' O A OP cb nb db pm nm C d room (qv (zu d.fs) zcd (jz size root room H) n D E).2.1 (qv (zu d.fs) zcd (jz size root room H) n D E).2.2 k (fun _=>True)∧zg8 J w.heap.size w' (qv (zu d.fs) zcd (jz size root room H) n D E).1 r:=by
 have HH:=za h;have HC:=za hC;have HE:=za hE;have HS:=za hS;have aS:=za aW;have bp:=za bf;have bs:=za bi;have bm:=za be;have a1:=za aV;clear h hC hE hS aW bf bi be aV;have HD:Hid (D < size∨(D=size∧E≠root)∨(D=size∧E=root)∨(size < D∧size=0)∨(size < D∧1≤size)):=by
  show _∨_;by_cases h:E=root
  ·by_cases h2:D < size
   ·exact .inl h2
   ·by_cases h3:D=size
    ·exact .inr (.inr (.inl ⟨h3,h⟩))
    ·by_cases h4:size=0
     ·exact .inr (.inr (.inr (.inl ⟨by omega,h4⟩)))
     ·exact .inr (.inr (.inr (.inr ⟨by omega,by omega⟩)))
  ·by_cases h2:D < size
   ·exact .inl h2
   ·by_cases h3:D=size
    ·exact .inr (.inl ⟨h3,h⟩)
    ·by_cases h4:size=0
     ·exact .inr (.inr (.inr (.inl ⟨by omega,h4⟩)))
     ·exact .inr (.inr (.inr (.inr ⟨by omega,by omega⟩)))
 have ag:Hid (∀(h:D < size),qv (zu d.fs) zcd (jz size root room H) n D E=(.inl .old,H,n)):=fun h=>zgc (c:=jz size root room H) h;have R:Hid (∀(h:D=size) (K:E≠root),qv (zu d.fs) zcd (jz size root room H) n D E=(.inl .proof,H,n)):=fun h K=>zdz (c:=jz size root room H) h K;have S:Hid (∀(h:D=size) (K:E=root),qv (zu d.fs) zcd (jz size root room H) n D E=(.inr [],H,n)):=fun h K=>zes (c:=jz size root room H) h K;have U:Hid (∀(h:size < D) (K:size=0),qv (zu d.fs) zcd (jz size root room H) n D E=(.inr [],H,n)):=fun h K=>ze1 (c:=jz size root room H) h K;unfold zo;go_enter_defers Tryz.func52,Tryz.ntmps52;have bu:(zmp (.pointer (some ⟨cb,4,none⟩))).run Tryz.prog (w.alloc (.cells (trC D E).toArray 95))= .ok (.agg (trC size root).toArray) (w.alloc (.cells (trC D E).toArray 95)):=zgv (HC.o.range (zc HH.o.cli)) HC.o.r8;have hz:(w.alloc (.cells (trC D E).toArray 95)).heap.size=w.heap.size+1:=by simp
 have aG:((w.alloc (.cells (trC D E).toArray 95)).alloc (.cells #[.int .i64 0,.int .u8 0,.int .u8 0,.int .u8 0,.int .u8 0,.int .u8 0,.int .u8 0,.int .u8 0,.int .u8 0] 95)).heap[w.heap.size+1]?=some (.cells (trC 0 xf).toArray 95 (0,0)):=by
  have:=heap_alloc_last (w.alloc (.cells (trC D E).toArray 95)) (.cells #[.int .i64 0,.int .u8 0,.int .u8 0,.int .u8 0,.int .u8 0,.int .u8 0,.int .u8 0,.int .u8 0,.int .u8 0] 95);rw [hz] at this;exact this
 have bx:(zeg (.pointer (some ⟨w.heap.size+1,0,none⟩)) (.agg (trC size root).toArray)).run Tryz.prog ((w.alloc (.cells (trC D E).toArray 95)).alloc (.cells #[.int .i64 0,.int .u8 0,.int .u8 0,.int .u8 0,.int .u8 0,.int .u8 0,.int .u8 0,.int .u8 0,.int .u8 0] 95))= .ok () (((w.alloc (.cells (trC D E).toArray 95)).alloc (.cells #[.int .i64 0,.int .u8 0,.int .u8 0,.int .u8 0,.int .u8 0,.int .u8 0,.int .u8 0,.int .u8 0,.int .u8 0] 95)).setCells (w.heap.size+1) 0 (trC size root)):=zbz (qw aG) HC.o.r8;have a3:Hid ((((w.alloc (.cells (trC D E).toArray 95)).alloc (.cells #[.int .i64 0,.int .u8 0,.int .u8 0,.int .u8 0,.int .u8 0,.int .u8 0,.int .u8 0,.int .u8 0,.int .u8 0] 95)).setCells (w.heap.size+1) 0 (trC size root)).heap[w.heap.size]?=some (.cells (trC D E).toArray 95 (0,0))∧(((w.alloc (.cells (trC D E).toArray 95)).alloc (.cells #[.int .i64 0,.int .u8 0,.int .u8 0,.int .u8 0,.int .u8 0,.int .u8 0,.int .u8 0,.int .u8 0,.int .u8 0] 95)).setCells (w.heap.size+1) 0 (trC size root)).heap[w.heap.size+1]?=some (.cells (trC size root).toArray 95 (0,0))):=by
  refine⟨?_,ji aG (by rw [zca _ HC.o.r8];rfl)⟩;rw [qc _ _ (by omega)];exact zc (heap_alloc_last _ _)
 have L:Hid (Below w.heap.size w (((w.alloc (.cells (trC D E).toArray 95)).alloc (.cells #[.int .i64 0,.int .u8 0,.int .u8 0,.int .u8 0,.int .u8 0,.int .u8 0,.int .u8 0,.int .u8 0,.int .u8 0] 95)).setCells (w.heap.size+1) 0 (trC size root))):=zr (zz w _ _) (Nat.le_succ _) _ _;clear aG hz;generalize ((w.alloc (.cells (trC D E).toArray 95)).alloc (.cells #[.int .i64 0,.int .u8 0,.int .u8 0,.int .u8 0,.int .u8 0,.int .u8 0,.int .u8 0,.int .u8 0,.int .u8 0] 95)).setCells (w.heap.size+1) 0 (trC size root)=V at *
 have ai:Hid (∀ X:World,X.heap[w.heap.size]?=some (.cells (trC D E).toArray 95 (0,0))∧X.heap[w.heap.size+1]?=some (.cells (trC size root).toArray 95 (0,0))→X.cell? ⟨w.heap.size,0,none⟩=some (.int .i64 D)∧X.cell? ⟨w.heap.size+1,0,none⟩=some (.int .i64 size)∧(zaf (.pointer (some ⟨w.heap.size,1,none⟩))).run Tryz.prog X= .ok (.agg (hv E)) X∧(zaf (.pointer (some ⟨w.heap.size+1,1,none⟩))).run Tryz.prog X= .ok (.agg (hv root)) X∧(zmp (.pointer (some ⟨w.heap.size+1,0,none⟩))).run Tryz.prog X= .ok (.agg (trC size root).toArray) X):=by
  rintro X ⟨h1,h2⟩;exact⟨(zf h1 0 _ rfl).1,(zf h2 0 _ rfl).1,qr (zm6 h1) a1.o,qr (zm6 h2) HC.o.r8,zgv (y9 h2) HC.o.r8⟩
 obtain⟨q0,q1,al,am,an⟩:=ai.o V a3.o;have aw:=fun X=>zsd E root a1.o HC.o.r8 X;have ak:Hid (∀ X:World,Below w.heap.size w X→Out W0 w X O A OP cb nb db pm nm C d room H n k (fun _=>True)):=fun X hX=>z4t HH.o hX (by omega);rcases HD.o with h | ⟨h,K⟩ | ⟨h,K⟩ | ⟨h,K⟩ | ⟨h,K⟩
 ·have aI:(D:Int) < (size:Int):=by omega
  have hR:=za (ag.o h);have qe:V.cell? ⟨3,0,none⟩=some (.iface 344 (.pointer (some (J 3)))):=zb4 (HH.o.below L.o).base HS.o.old;clear HD ag R S U aw;go_wp2_with fail;go_region_held3 (fun w'=>w'.cell? ⟨3,0,none⟩=some (.iface 344 (.pointer (some (J 3))))) (go_keep) (fail);go_wp2_with fail;refine⟨.tuple #[.slice none 0 0,j4 J 3],by simp [results,Tryz.results52,go_sem,j4],?_⟩;rw [hR.out];exact⟨ak.o _ L.o.drew,.inr (.inr (.inr ⟨rfl,rfl⟩))⟩
 ·have hR:=za (R.o h K);have ap:eqH E root=false:=by unfold eqH;simp [K]
  subst h;have qe:V.cell? ⟨4,0,none⟩=some (.iface 344 (.pointer (some (J 4)))):=zb4 (HH.o.below L.o).base HS.o.proof;clear HD ag R S U K;rw [ap] at aw;clear ap;go_wp2_with fail;go_region_held3 (fun w'=>w'.cell? ⟨4,0,none⟩=some (.iface 344 (.pointer (some (J 4))))) (go_keep) (fail);go_wp2_with fail;refine⟨.tuple #[.slice none 0 0,j4 J 4],by simp [results,Tryz.results52,go_sem,j4],?_⟩;rw [hR.out];exact⟨ak.o _ L.o.drew,.inr (.inr (.inl ⟨rfl,rfl⟩))⟩
 ·have hR:=za (S.o h K);have ap:eqH E root=true:=by unfold eqH;simp [K]
  subst h K;clear HD ag R S U;rw [ap] at aw;clear ap;go_wp2_with fail;refine⟨.tuple #[.slice none 0 0,.nilIface],by simp [results,Tryz.results52,go_sem],?_⟩;rw [hR.out];exact⟨ak.o _ L.o,.inl ⟨[],_,rfl,World.ownsRow_nil _ _ _ _,by simp,rfl⟩⟩
 ·have hR:=za (U.o h K);have aI:¬(D:Int) < (size:Int):=by omega
  have bc:((D:Int)==(size:Int))=false:=by simp;omega
  have bd:((size:Int)==0)=true:=by simp [K]
  have HZ:=za K;clear HD ag R S U h K;go_wp2_with fail;refine⟨.tuple #[.slice none 0 0,.nilIface],by simp [results,Tryz.results52,go_sem],?_⟩;rw [hR.out];exact⟨ak.o _ L.o,.inl ⟨[],_,rfl,World.ownsRow_nil _ _ _ _,by simp,rfl⟩⟩
 ·have aI:¬(D:Int) < (size:Int):=by omega
  have bc:((D:Int)==(size:Int))=false:=by simp;omega
  have bd:((size:Int)==0)=false:=by simp;omega
  clear HD ag R S U ak;have aA:=za (And.intro h K);have R:Hid (∀ p m,yh (zu d.fs) H D ⟨n,[]⟩ (qd 64 size 0 D true)=(.inl p,m)→qv (zu d.fs) zcd (jz size root room H) n D E=(.inl (.tile p),H,m.net)):=fun p m e=>zjr (c:=jz size root room H) h (by show size≠0;omega) e;have S:Hid (∀ Q m,yh (zu d.fs) H D ⟨n,[]⟩ (qd 64 size 0 D true)=(.inr Q,m)→zqk 1001 (size:Int) (D:Int) root E Q=false→qv (zu d.fs) zcd (jz size root room H) n D E=(.inl .proof,H,m.net)):=fun Q m e e'=>zjn (c:=jz size root room H) h (by show size≠0;omega) e e';have U:Hid (∀ Q m,yh (zu d.fs) H D ⟨n,[]⟩ (qd 64 size 0 D true)=(.inr Q,m)→zqk 1001 (size:Int) (D:Int) root E Q=true→qv (zu d.fs) zcd (jz size root room H) n D E=(.inr Q,zx room H (zb8 D m.needed size root),m.net)):=fun Q m e e'=>zjw (c:=jz size root room H) h (by show size≠0;omega) e e';have a9:Hid (∀ s∈qd 64 size 0 D true,s.1+s.2≤D∧1≤s.2):=fun s hs=>by have:=zja 64 size 0 D true (by omega) (by omega) (by omega) (by omega) s hs;omega
  have aF:Hid (∀ Q m,yh (zu d.fs) H D ⟨n,[]⟩ (qd 64 size 0 D true)=(.inr Q,m)→WdN m.needed∧Q.length≤65):=fun Q m e=>⟨(zil (by omega) _ _ _ _ a9.o e).wdN bs.o rfl,by rw [zfx e];exact za4 64 size 0 D true⟩
  have aQ:Hid (∀ X,Calls Tryz.prog 95 #[.int .i64 size,.agg #[.int .i64 0,.int .i64 D],.bool true] X fun r w'=>∃ x,r= .returned x∧Below X.heap.size X w'∧za7 X.heap.size w' x (qd 64 size 0 D true)):=fun X=>z4k 64 (by omega) size 0 D true X (by omega) (by omega) (by omega) (by omega) (by omega);have av:=za (HH.o.below L.o);have a7:Hid (∀ W sv,Below V.heap.size V W→za7 V.heap.size W sv (qd 64 size 0 D true)→Calls Tryz.prog 94 #[zo cb,.int .i64 D,sv] W fun r w'=>∃ v e,r= .returned (.tuple #[v,e])∧zg (fun b=>O b∨A b) qT W w'∧CS W0 w' O (Ext A W w') OP cb nb db pm nm C d room H (yh (zu d.fs) H D ⟨n,[]⟩ (qd 64 size 0 D true)).2 k∧((∃ xs,(yh (zu d.fs) H D ⟨n,[]⟩ (qd 64 size 0 D true)).1= .inr xs∧zbl W.heap.size w' v xs∧(∀ p∈xs,p.length=8)∧e= .nilIface)∨(∃ p g,(yh (zu d.fs) H D ⟨n,[]⟩ (qd 64 size 0 D true)).1= .inl p∧w'.heap[g]?=some (.cells #[txv p,j4 J 5] 141 (0,0))∧v= .slice none 0 0∧e=qq g))):=by
   intro W sv hb ax;refine(zpr W0 J O A OP cb nb db pm nm C d room H ⟨n,[]⟩ k D ac HE.o HS.o aS.o sv _ V.heap.size W ax (by have:=za4 64 size 0 D true;omega) a9.o ((av.o.below hb).less (by have:=zpl size D (by omega) (by have:=aA.o;omega) (by have:=aA.o;omega);unfold rPl;omega))).mono ?_;rintro r w' ⟨h1,h2,h3⟩;obtain⟨v,e,e1,h4⟩:=h3.join;exact⟨v,e,e1,h1,h2,h4⟩
  unfold zo at a7;have bt:V.cell? ⟨cb,14,none⟩=some (.pointer (some ⟨nm,0,none⟩)):=(zf av.o.cli 14 _ av.o.cells.nee).1;have I:V.heap[w.heap.size]?=some (.cells (trC D E).toArray 95 (0,0))∧V.heap[w.heap.size+1]?=some (.cells (trC size root).toArray 95 (0,0)):=a3.o;have aU:Hid (zg (fun b=>O b∨A b∨OP b) clT w V):= .of_below L.o;clear h K;go_wp2_with fail;clear aI bc bd aw al am an;go_region_held3 (fun X=>X.cell? ⟨w.heap.size,0,none⟩=some (.int .i64 D)∧X.cell? ⟨w.heap.size+1,0,none⟩=some (.int .i64 size)) (exact⟨(ai.o _ I).1,(ai.o _ I).2.1⟩) (first
   | (go_at_call 95;refine(aQ.o _).mono ?_;rintro r W ⟨sv,rfl,aX,ax⟩;have ad:=za (qa aX);have aR:=za ax;have ac:W.heap[w.heap.size]?=some (.cells (trC D E).toArray 95 (0,0))∧W.heap[w.heap.size+1]?=some (.cells (trC size root).toArray 95 (0,0)):=⟨(ad.o.block _ (zb I.1)).trans I.1,(ad.o.block _ (zb I.2)).trans I.2⟩;clear I aX ax;have I:=ac;clear ac)
   | (go_at_call 94;refine(a7.o W sv ad.o aR.o).mono ?_;rintro r w3 ⟨pv,ev,rfl,ay,aY,bg⟩;have aB:=za ay;have ar:=za aY;have ac:w3.heap[w.heap.size]?=some (.cells (trC D E).toArray 95 (0,0))∧w3.heap[w.heap.size+1]?=some (.cells (trC size root).toArray 95 (0,0)):=⟨ay.keep I.1 (by decide),ay.keep I.2 (by decide)⟩;clear I ay aY;have I:=ac;clear ac;have HR:=za bg;clear bg))
  rename_i aH;clear aH;have aC:Hid (zg (fun b=>O b∨A b∨OP b) clT w w3):=zlr (aU.o.then_below ad.o) (ve.refl A w W) aB.o;have a2:Hid (ve A (Ext A W w3) w w3):=(ve.refl A w W).ext (Nat.le_trans L.o.size ad.o.size) aB.o.size;have bq:Hid (w.heap.size≤W.heap.size):=Nat.le_trans L.o.size ad.o.size;have af:=za I;clear I aU aB aQ a7 av a3 ad aR L a9 q0 q1 bt bu bx;generalize yh (zu d.fs) H D ⟨n,[]⟩ (qd 64 size 0 D true)=RM at *
  obtain⟨o,m2⟩:=RM;simp only at *
  rcases HR.o with ⟨Q,rfl,aJ,h8,rfl⟩ | ⟨p,g,rfl,bb,rfl,rfl⟩
  ·have aN:=za aJ;have H8:=za h8;have HW:=za (aF.o Q m2 rfl);have a4:=za (S.o Q m2 rfl);have a5:=za (U.o Q m2 rfl);have aM:=za (z7h 1001 root E size D (by omega) pv Q w3 (by have:=HW.o.2;omega) (by have:=HW.o.2;omega) HC.o.r8 a1.o (Hss.of_owns h8 aJ));obtain⟨q0,q1,al,am,an⟩:=ai.o w3 af.o;clear aJ h8 HR R S U aF an;go_wp2_with fail;refine aM.o.mono ?_;rintro r w4 ⟨rfl,Z⟩;have b0:=za Z;have au:=za (ar.o.below Z);have aD:=za (aC.o.then_below Z);have aq:=za (a2.o.below Z.size);have aO:Hid (zbl W.heap.size w4 pv Q):=zi (O:=fun _=>False) (T:=[]) aN.o (.of_below Z) (by decide);have bk:Hid (w4.heap[w.heap.size]?=some (.cells (trC D E).toArray 95 (0,0))∧w4.heap[w.heap.size+1]?=some (.cells (trC size root).toArray 95 (0,0))):=⟨(Z.block _ (zb af.o.1)).trans af.o.1,(Z.block _ (zb af.o.2)).trans af.o.2⟩
   clear Z ar aC a2 aN aM q0 q1 al am af;generalize zqk 1001 (size:Int) (D:Int) root E Q=B at *
   cases B with
   | false =>
    have aj:=za (a4.o rfl);have qe:w4.cell? ⟨4,0,none⟩=some (.iface 344 (.pointer (some (J 4)))):=zb4 au.o.base HS.o.proof;have ah:=za (au.o.below (Below.refl _ w4).drew);obtain⟨L2,aa⟩:=ah.o.mem;have Y:=za (zax .returning _ nm zbh L2 _ aa);clear aa a4 a5;unfold zo at Y;go_wp2_with fail;go_region_held3 (fun w'=>w'.cell? ⟨4,0,none⟩=some (.iface 344 (.pointer (some (J 4))))) (go_keep) (fail);rename_i aH;clear aH;go_wp2_with fail;refine leaves_cons (f:=73) (args:=#[.pointer (some ⟨nm,0,none⟩)]) (by simp) (by simp [go_sem]) ?_;refine Y.o.mono ?_;rintro e u' w9 ⟨rfl,rfl,ae,ao,bh⟩;simp only [Leaves,settle];refine⟨.tuple #[.slice none 0 0,j4 J 4],by simp [results,Tryz.results52,go_sem,j4],?_⟩;rw [aj.o];exact⟨zf7 (aD.o.then_below (Below.refl _ w4).drew) (aq.o.below (Nat.le_refl _)) (ve.refl _ _ _) ah.o ae ao (Nat.le_refl _) (fun _=>trivial),.inr (.inr (.inl ⟨rfl,rfl⟩))⟩
   | true =>
    have aj:=za (a5.o rfl);obtain⟨q0,q1,al,am,an⟩:=ai.o w4 bk.o;have a8:=za (zln W0 O (Ext A W w3) OP cb nb db pm nm C d room H D k size ac aA.o.2 bz root HC.o.r8 m2 w4 aS.o HW.o.1 au.o);clear al am a4 a5;unfold zo at a8;go_wp2_with fail;refine a8.o.mono ?_;rintro r w6 ⟨rfl,az,aZ⟩;have aE:Hid (zg (fun b=>O b∨A b∨OP b) clT w w6):=zlr aD.o aq.o (az.mono (fun _ h=> .inr h) (by decide));have aK:=za (aq.o.below az.size);have ah:=za aZ;have aP:Hid (zbl W.heap.size w6 pv Q):=zi aO.o az (by decide);clear az aZ a8 aD aq au aO q0 q1 an;have a6:=za (zjk W0 O (Ext A W w3) OP cb nb db pm nm C d room H k _ w6 bp.o bm.o ah.o);unfold zo at a6;go_wp2_with fail;refine a6.o.mono ?_;rintro r w7 ⟨rfl,a0,ba⟩;have br:Hid (zg (fun b=>O b∨A b∨OP b) clT w w7):=aE.o.trans (a0.mono (fun b h=> .inl (.inr (.inr h))) (by decide));have bj:=za (aK.o.below a0.size);have bo:Hid (ve OP (Ext OP w6 w7) w w7):=⟨fun _ h=> .inl h,fun b hb=>hb.imp id (fun h=>⟨Nat.le_trans aE.o.size h.1,h.2⟩)⟩
    have aL:=za ba;have bn:Hid (zbl W.heap.size w7 pv Q):=zi aP.o a0 (by decide);clear a0 ba a6 aE aK ah aP;obtain⟨L2,aa⟩:=aL.o.mem;have Y:=za (zax .returning _ nm zbh L2 _ aa);clear aa;unfold zo at Y;go_wp2_with fail;refine leaves_cons (f:=73) (args:=#[.pointer (some ⟨nm,0,none⟩)]) (by simp) (by simp [go_sem]) ?_;refine Y.o.mono ?_;rintro e u' w9 ⟨rfl,rfl,ae,ao,bh⟩;simp only [Leaves,settle];refine⟨.tuple #[pv,.nilIface],by simp [results,Tryz.results52,go_sem],?_⟩;rw [aj.o];have bw:=zf7 (P:=fun _=>True) br.o bj.o bo.o aL.o ae ao (Nat.le_refl _) (fun _=>trivial);exact⟨bw,.inl ⟨Q,pv,rfl,zcb (zi bn.o ae (by decide)) bq.o,H8.o,rfl⟩⟩
  ·have bl:=za bb;have aj:=za (R.o p m2 rfl);obtain⟨L2,aa⟩:=ar.o.mem;have Y:=za (zax .returning _ nm zbh L2 _ aa);clear bb aa HR R S U aF;unfold qq;unfold zo at Y;go_wp2_with fail;refine leaves_cons (f:=73) (args:=#[.pointer (some ⟨nm,0,none⟩)]) (by simp) (by simp [go_sem]) ?_;refine Y.o.mono ?_;rintro e u' w9 ⟨rfl,rfl,ae,ao,bh⟩;simp only [Leaves,settle];refine⟨.tuple #[.slice none 0 0,qq g],by simp [results,Tryz.results52,go_sem,qq],?_⟩;rw [aj.o];exact⟨zf7 aC.o a2.o (ve.refl _ _ _) ar.o ae ao (Nat.le_refl _) (fun _=>trivial),.inr (.inl ⟨p,g,rfl,ae.keep bl.o (by decide),rfl⟩)⟩
end
abbrev z9f:Go.Conc.Locks.MuLink:={ lock:=48,unlock:=49,ilock:=86,iunlock:=87,lockSlow:=124,unlockSlow:=127,disable:=120,enable:=122,acquire:=123,relMerge:=125,cas32:=121,add32:=126,tMutex:=114,tIMutex:=112,tPMutex:=191,tPIMutex:=234,tPI32:=236,tUP:=210,tNoCopy:=109,tU32:=110 }
theorem z82:Go.Conc.Locks.MuLib Tryz.prog z9f :=
 ⟨Tryz.func48,Tryz.func49,Tryz.func86,Tryz.func87,Tryz.func120,Tryz.func122,Tryz.func123,Tryz.func125,Tryz.func121,Tryz.func126,
  Tryz.underlying112,Tryz.runUnderlying112,Tryz.sizeOf112,Tryz.isAgg112,Tryz.zeroValue112,
  Tryz.underlying114,Tryz.runUnderlying114,Tryz.sizeOf114,Tryz.isAgg114,Tryz.zeroValue114,
  Tryz.underlying191,Tryz.runUnderlying191,Tryz.sizeOf191,Tryz.isAgg191,Tryz.zeroValue191,
  Tryz.underlying234,Tryz.runUnderlying234,Tryz.sizeOf234,Tryz.isAgg234,Tryz.zeroValue234,
  Tryz.underlying236,Tryz.runUnderlying236,Tryz.sizeOf236,Tryz.isAgg236,Tryz.zeroValue236,
  Tryz.underlying210,Tryz.runUnderlying210,Tryz.sizeOf210,Tryz.isAgg210,Tryz.zeroValue210,
  Tryz.underlying109,Tryz.runUnderlying109,Tryz.sizeOf109,Tryz.isAgg109,Tryz.zeroValue109,
  Tryz.underlying21,Tryz.runUnderlying21,Tryz.sizeOf21,Tryz.isAgg21,Tryz.zeroValue21,(by kernel_rfl)⟩
theorem zg9 (a:Addr)(w:World)(h:w.cell? a=some (.int .i32 0))(r:w.frozen? a=false):Calls Tryz.prog 48 #[.pointer (some a)] w fun e w'=>e= .returned (.tuple #[])∧w'=w.setCell a (.int .i32 1):=Go.MuLone.lock_free z82 a w h r
theorem za0 (a:Addr)(u:FrameMode)(w:World)(h:w.cell? a=some (.int .i32 1))(r:w.frozen? a=false):CallsD Tryz.prog 49 #[.pointer (some a)] u w fun e A w'=>A=u∧(e= .returned (.tuple #[])∧w'=w.setCell a (.int .i32 0)):=Go.MuLone.unlock_deferred z82 a u w h r
end Go.Proofs.YtndkblnpbjffhaaGreatDoor
