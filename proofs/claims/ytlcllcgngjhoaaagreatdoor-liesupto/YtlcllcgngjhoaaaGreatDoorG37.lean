import Derived.Test.YtlcllcgngjhoaaaGreatDoorG36
import Derived.Test.YtlcllcgngjhoaaaGreatDoorG18
set_option maxHeartbeats 8000000
set_option maxRecDepth 100000
set_option linter.all false
namespace Go.Proofs.YtlcllcgngjhoaaaGreatDoor
open Go.RowKit Go.Proofs.Tryz
variable {A O OP:Nat→Prop}{B b cb db k k0 nb nm o pm:Nat}{C:Array Value}{V W0 w w':World}{d:Dk}{ps:za}{t:TypeId}
section
def zwg (a:Value):Sem Value:=Instr.loadAt 112 a
theorem zgb (a:Value):Instr.loadAt 112 a=zwg a:=rfl
def zno (a v:Value):Sem Unit:=Instr.storeAt 112 a v
theorem ze4 (a v:Value):Instr.storeAt 112 a v=zno a v:=rfl
attribute [local go_sem ↓] jy jn j4 jo ji jh j3 jm zgb ze4
theorem z7e:(prog.info? 112).map (·.size)=some 9:=by kernel_rfl
theorem zh9 (n:Nat){a:zc}(h:a.length=8):(trC n a).length=9:=by simp [trC,h]
theorem ymj (n:Nat)(a:zc):∀ v∈trC n a,v.oneCell'=true:=fun v hv=>by
 rcases jr.1 hv with rfl | hv
 ·rfl
 ·exact z96 v hv
theorem zo0 {n:Nat}{a:zc}(c:w.rangeAt b o (trC n a))(h:a.length=8):(zwg (.pointer (some ⟨b,o,none⟩))).run prog w= .ok (.agg (trC n a).toArray) w :=
 zxh w b o _ (trC n a) _ c underlying112 rfl (by rw [z7e,zh9 n h])
theorem zkr {n:Nat}{a:zc}(c:w.there b o 9)(h:a.length=8):(zno (.pointer (some ⟨b,o,none⟩)) (.agg (trC n a).toArray)).run prog w= .ok () (w.setCells b o (trC n a)):=by
 have:=zuc (P:=prog) w b o 112 (trC n a).toArray (by rw [xf,zh9 n h];exact c) (by rw [z7e,xf,zh9 n h]) (ziq (ymj n a));simpa [zno] using this
theorem zra.range {b:Nat}{a:zc}(h:zra C b a)(c:w.heap[cb]?=some (.cells C t (0,0))):w.rangeAt cb 4 (trC b a):=by
 intro j v hv;cases j with
 | zero =>
  simp only [trC,zea,zr] at hv;subst hv;exact(zw c 4 _ h.sz).1
 | succ j =>
  simp only [trC,zac] at hv;have:=h.rt j v hv;rw [show 4+(j+1)=5+j by omega];exact(zw c (5+j) v this).1
def zc7 (m n:Nat)(a b:zc)(ps:za):Bool:=zsv 1001 m n a b ps
def zog (a:Nat→Addr)(B:Nat)(b:World)(o:Sum Er (za))(r:Ending):Prop :=
 (∃ ps v,o= .inr ps∧zg1 B b v ps∧(∀ p∈ps,p.length=8)∧r= .returned (.tuple #[v,.nilIface])) ∨
 (∃ p g,o= .inl (.tile p)∧b.heap[g]?=some (.cells #[qo p,zd2 a 5] 179 (0,0))∧r= .returned (.tuple #[.slice none 0 0,za7 g])) ∨
 (o= .inl .proof∧r= .returned (.tuple #[.slice none 0 0,zd2 a 4])) ∨
 (o= .inl .old∧r= .returned (.tuple #[.slice none 0 0,zd2 a 3]))
section
variable {σ : Type} {fe : σ → zc → (zc × Bool) × σ} {con : Nat → Nat → zc → zc → za → Bool} {c : Cl} {s : σ} {n : Nat} {r : zc}
theorem znc (h:n < c.size):vt fe con c s n r=(.inl .old,c.proved,s):=by unfold vt;rw [if_pos h]
theorem zlw (h:n=c.size)(a:r=c.root):vt fe con c s n r=(.inr [],c.proved,s):=by unfold vt;rw [if_neg (by omega),if_pos h,if_pos a]
theorem zkc (h:n=c.size)(a:r≠c.root):vt fe con c s n r=(.inl .proof,c.proved,s):=by unfold vt;rw [if_neg (by omega),if_pos h,if_neg a]
theorem zlx (h:c.size < n)(a:c.size=0):vt fe con c s n r=(.inr [],c.proved,s):=by unfold vt;rw [if_neg (by omega),if_neg (by omega),if_pos a]
theorem zr2 (h:c.size < n)(a:c.size≠0){p:zc}{m:Ms σ}(b:qx fe c.proved n ⟨s,[]⟩ (qk 64 c.size 0 n true)=(.inl p,m)):vt fe con c s n r=(.inl (.tile p),c.proved,m.net):=by unfold vt;rw [if_neg (by omega),if_neg (by omega),if_neg a,b]
theorem zr3 (h:c.size < n)(a:c.size≠0){m:Ms σ}(b:qx fe c.proved n ⟨s,[]⟩ (qk 64 c.size 0 n true)=(.inr ps,m))(d:con c.size n c.root r ps=false):vt fe con c s n r=(.inl .proof,c.proved,m.net):=by unfold vt;rw [if_neg (by omega),if_neg (by omega),if_neg a,b];simp only [d,zas,zd3]
theorem zr4 (h:c.size < n)(a:c.size≠0){m:Ms σ}(b:qx fe c.proved n ⟨s,[]⟩ (qk 64 c.size 0 n true)=(.inr ps,m))(d:con c.size n c.root r ps=true):vt fe con c s n r=(.inr ps,jl c.room c.proved (zfy n m.needed c.size c.root),m.net):=by unfold vt;rw [if_neg (by omega),if_neg (by omega),if_neg a,b];simp only [d,if_true]
end
theorem z6h.join {a:Nat→Addr}{o:Sum (zc) (za)}{r:Ending}(h:z6h a B w' o r):∃ v e,r= .returned (.tuple #[v,e])∧((∃ b,o= .inr b∧zg1 B w' v b∧(∀ p∈b,p.length=8)∧e= .nilIface)∨(∃ p g,o= .inl p∧w'.heap[g]?=some (.cells #[qo p,zd2 a 5] 179 (0,0))∧v= .slice none 0 0∧e=za7 g)):=by
 rcases h with ⟨b,x,c,d,f,i⟩ | ⟨p,g,c,d,f⟩
 ·exact⟨x,.nilIface,i,.inl ⟨b,c,d,f,rfl⟩⟩
 ·exact⟨_,_,f,.inr ⟨p,g,c,d,rfl,rfl⟩⟩
theorem yim {a:Int}{c:Mm}{n:Nt}(h:CS W0 w O A OP cb nb db pm nm C d a c ⟨n,[]⟩ k0)(b:Below w.heap.size w V)(e:k≤k0):Out W0 w V O A OP cb nb db pm nm C d a c n k (fun _=>True) :=
 ⟨.of_below b,A,OP,zeb.refl _ _ _,zeb.refl _ _ _,(h.below b).less e,trivial⟩
theorem zxv {n:Nat}{a:zc}(h:w.heap[b]?=some (.cells (trC n a).toArray t (0,0))):w.rangeAt b 1 (a.map bv):=by
 intro j v hv;refine(zw h (1+j) v ?_).1;rw [zsk,jw];exact hv
theorem ydr (W0:World)(y:Nat→Addr)(O A W:Nat→Prop)(cb nb db pm Z:Nat)(C:Array Value)(d:Dk)(q:Int)(u:Mm)(n:Nt)(k a j:Nat)(l i:zc)(bp:a < 9223372036854775808)(z:j < 9223372036854775808)(a3:i.length=8)(hC:zra C a l)(hE:Env W0)(hS:zbz W0 y)(a4:zjx W0)(bb:u.length≤100000000000)(be:WfM u)(a9:∀ b,W b→W0.heap.size≤b)(w:World)(h:CS W0 w O A W cb nb db pm Z C d q u ⟨n,[]⟩ (8400+k)):
  Calls prog 85 #[yx cb,.agg (trC j i).toArray] w fun r L =>
   Out W0 w L O A W cb nb db pm Z C d q (vt (yz d.fs) zc7 (zc5 a l q u) n j i).2.1 (vt (yz d.fs) zc7 (zc5 a l q u) n j i).2.2 k (fun _=>True)∧zog y w.heap.size L (vt (yz d.fs) zc7 (zc5 a l q u) n j i).1 r:=by
 have HH:=zf h;have HC:=zf hC;have HE:=zf hE;have HS:=zf hS;have a1:=zf a4;have bj:=zf bb;have bm:=zf be;have bh:=zf a9;have aJ:=zf a3;clear h hC hE hS a4 bb be a9 a3;have HD:Hid (j < a∨(j=a∧i≠l)∨(j=a∧i=l)∨(a < j∧a=0)∨(a < j∧1≤a)):=by
  show _∨_
  by_cases h:i=l
  ·by_cases h2:j < a
   ·exact .inl h2
   ·by_cases h3:j=a
    ·exact .inr (.inr (.inl ⟨h3,h⟩))
    ·by_cases h4:a=0
     ·exact .inr (.inr (.inr (.inl ⟨by omega,h4⟩)))
     ·exact .inr (.inr (.inr (.inr ⟨by omega,by omega⟩)))
  ·by_cases h2:j < a
   ·exact .inl h2
   ·by_cases h3:j=a
    ·exact .inr (.inl ⟨h3,h⟩)
    ·by_cases h4:a=0
     ·exact .inr (.inr (.inr (.inl ⟨by omega,h4⟩)))
     ·exact .inr (.inr (.inr (.inr ⟨by omega,by omega⟩)))
 have aa:Hid (∀(h:j < a),vt (yz d.fs) zc7 (zc5 a l q u) n j i=(.inl .old,u,n)):=fun h=>znc (c:=zc5 a l q u) h;have F:Hid (∀(h:j=a) (D:i≠l),vt (yz d.fs) zc7 (zc5 a l q u) n j i=(.inl .proof,u,n)):=fun h D=>zkc (c:=zc5 a l q u) h D;have G:Hid (∀(h:j=a) (D:i=l),vt (yz d.fs) zc7 (zc5 a l q u) n j i=(.inr [],u,n)):=fun h D=>zlw (c:=zc5 a l q u) h D;have H:Hid (∀(h:a < j) (D:a=0),vt (yz d.fs) zc7 (zc5 a l q u) n j i=(.inr [],u,n)):=fun h D=>zlx (c:=zc5 a l q u) h D;unfold yx
 go_enter_defers func85,ntmps85
 have a7:(zwg (.pointer (some ⟨cb,4,none⟩))).run prog (w.alloc (.cells (trC j i).toArray 112))= .ok (.agg (trC a l).toArray) (w.alloc (.cells (trC j i).toArray 112)):=zo0 (HC.o.range (zj HH.o.cli)) HC.o.r8;have hz:(w.alloc (.cells (trC j i).toArray 112)).heap.size=w.heap.size+1:=by simp
 have aV:((w.alloc (.cells (trC j i).toArray 112)).alloc (.cells #[.int .i64 0,.int .u8 0,.int .u8 0,.int .u8 0,.int .u8 0,.int .u8 0,.int .u8 0,.int .u8 0,.int .u8 0] 112)).heap[w.heap.size+1]?=some (.cells (trC 0 vg).toArray 112 (0,0)):=by
  have:=zg (w.alloc (.cells (trC j i).toArray 112)) (.cells #[.int .i64 0,.int .u8 0,.int .u8 0,.int .u8 0,.int .u8 0,.int .u8 0,.int .u8 0,.int .u8 0,.int .u8 0] 112);rw [hz] at this;exact this
 have bo:(zno (.pointer (some ⟨w.heap.size+1,0,none⟩)) (.agg (trC a l).toArray)).run prog ((w.alloc (.cells (trC j i).toArray 112)).alloc (.cells #[.int .i64 0,.int .u8 0,.int .u8 0,.int .u8 0,.int .u8 0,.int .u8 0,.int .u8 0,.int .u8 0,.int .u8 0] 112))= .ok () (((w.alloc (.cells (trC j i).toArray 112)).alloc (.cells #[.int .i64 0,.int .u8 0,.int .u8 0,.int .u8 0,.int .u8 0,.int .u8 0,.int .u8 0,.int .u8 0,.int .u8 0] 112)).setCells (w.heap.size+1) 0 (trC a l)):=zkr (zb1 aV) HC.o.r8;have aL:Hid ((((w.alloc (.cells (trC j i).toArray 112)).alloc (.cells #[.int .i64 0,.int .u8 0,.int .u8 0,.int .u8 0,.int .u8 0,.int .u8 0,.int .u8 0,.int .u8 0,.int .u8 0] 112)).setCells (w.heap.size+1) 0 (trC a l)).heap[w.heap.size]?=some (.cells (trC j i).toArray 112 (0,0))∧(((w.alloc (.cells (trC j i).toArray 112)).alloc (.cells #[.int .i64 0,.int .u8 0,.int .u8 0,.int .u8 0,.int .u8 0,.int .u8 0,.int .u8 0,.int .u8 0,.int .u8 0] 112)).setCells (w.heap.size+1) 0 (trC a l)).heap[w.heap.size+1]?=some (.cells (trC a l).toArray 112 (0,0))):=by
  refine⟨?_,zb2 aV (by rw [zh9 _ HC.o.r8];rfl)⟩;rw [zar _ _ (by omega)];exact zj (zg _ _)
 have E:Hid (Below w.heap.size w (((w.alloc (.cells (trC j i).toArray 112)).alloc (.cells #[.int .i64 0,.int .u8 0,.int .u8 0,.int .u8 0,.int .u8 0,.int .u8 0,.int .u8 0,.int .u8 0,.int .u8 0] 112)).setCells (w.heap.size+1) 0 (trC a l))):=xn (xu w _ _) (vk _) _ _;clear aV hz;generalize ((w.alloc (.cells (trC j i).toArray 112)).alloc (.cells #[.int .i64 0,.int .u8 0,.int .u8 0,.int .u8 0,.int .u8 0,.int .u8 0,.int .u8 0,.int .u8 0,.int .u8 0] 112)).setCells (w.heap.size+1) 0 (trC a l)=V at *;have ad:Hid (∀ X:World,X.heap[w.heap.size]?=some (.cells (trC j i).toArray 112 (0,0))∧X.heap[w.heap.size+1]?=some (.cells (trC a l).toArray 112 (0,0))→X.cell? ⟨w.heap.size,0,none⟩=some (.int .i64 j)∧X.cell? ⟨w.heap.size+1,0,none⟩=some (.int .i64 a)∧(zez (.pointer (some ⟨w.heap.size,1,none⟩))).run prog X= .ok (.agg (hv i)) X∧(zez (.pointer (some ⟨w.heap.size+1,1,none⟩))).run prog X= .ok (.agg (hv l)) X∧(zwg (.pointer (some ⟨w.heap.size+1,0,none⟩))).run prog X= .ok (.agg (trC a l).toArray) X):=by
  rintro X ⟨h1,h2⟩;exact⟨(zw h1 0 _ rfl).1,(zw h2 0 _ rfl).1,za5 (zxv h1) aJ.o,za5 (zxv h2) HC.o.r8,zo0 (j6 h2) HC.o.r8⟩
 obtain⟨q0,q1,an,ao,ap⟩:=ad.o V aL.o;have Y:=fun X=>z35 i l aJ.o HC.o.r8 X;have ak:Hid (∀ X:World,Below w.heap.size w X→Out W0 w X O A W cb nb db pm Z C d q u n k (fun _=>True)):=fun X hX=>yim HH.o hX (by omega);rcases HD.o with h | ⟨h,D⟩ | ⟨h,D⟩ | ⟨h,D⟩ | ⟨h,D⟩
 ·have aW:(j:Int) < (a:Int):=by omega
  have hR:=zf (aa.o h);have qe:V.cell? ⟨3,0,none⟩=some (.iface 364 (.pointer (some (y 3)))):=zki (HH.o.below E.o).base HS.o.old;clear HD aa F G H Y;go_wp2_with fail
  go_region_held3 (fun L=>L.cell? ⟨3,0,none⟩=some (.iface 364 (.pointer (some (y 3))))) (go_keep) (fail)
  go_wp2_with fail;refine⟨.tuple #[.slice none 0 0,zd2 y 3],by simp [results,results85,go_sem,zd2],?_⟩;rw [hR.out];exact⟨ak.o _ E.o.drew,.inr (.inr (.inr ⟨rfl,rfl⟩))⟩
 ·have hR:=zf (F.o h D);have au:eqH i l=false:=by unfold eqH;simp [D]
  subst h;have qe:V.cell? ⟨4,0,none⟩=some (.iface 364 (.pointer (some (y 4)))):=zki (HH.o.below E.o).base HS.o.proof;clear HD aa F G H D;rw [au] at Y;clear au;go_wp2_with fail
  go_region_held3 (fun L=>L.cell? ⟨4,0,none⟩=some (.iface 364 (.pointer (some (y 4))))) (go_keep) (fail)
  go_wp2_with fail;refine⟨.tuple #[.slice none 0 0,zd2 y 4],by simp [results,results85,go_sem,zd2],?_⟩;rw [hR.out];exact⟨ak.o _ E.o.drew,.inr (.inr (.inl ⟨rfl,rfl⟩))⟩
 ·have hR:=zf (G.o h D);have au:eqH i l=true:=by unfold eqH;simp [D]
  subst h D;clear HD aa F G H;rw [au] at Y;clear au;go_wp2_with fail;refine⟨.tuple #[.slice none 0 0,.nilIface],by simp [results,results85,go_sem],?_⟩;rw [hR.out];exact⟨ak.o _ E.o,.inl ⟨[],_,rfl,World.ownsRow_nil _ _ _ _,by simp,rfl⟩⟩
 ·have hR:=zf (H.o h D);have aW:¬(j:Int) < (a:Int):=by omega
  have a8:((j:Int)==(a:Int))=false:=by simp;omega
  have aI:((a:Int)==0)=true:=by simp [D]
  have HZ:=zf D;clear HD aa F G H h D;go_wp2_with fail;refine⟨.tuple #[.slice none 0 0,.nilIface],by simp [results,results85,go_sem],?_⟩;rw [hR.out];exact⟨ak.o _ E.o,.inl ⟨[],_,rfl,World.ownsRow_nil _ _ _ _,by simp,rfl⟩⟩
 ·have aW:¬(j:Int) < (a:Int):=by omega
  have a8:((j:Int)==(a:Int))=false:=by simp;omega
  have aI:((a:Int)==0)=false:=by simp;omega
  clear HD aa F G H ak;have aO:=zf (And.intro h D);have F:Hid (∀ p m,qx (yz d.fs) u j ⟨n,[]⟩ (qk 64 a 0 j true)=(.inl p,m)→vt (yz d.fs) zc7 (zc5 a l q u) n j i=(.inl (.tile p),u,m.net)):=fun p m e=>zr2 (c:=zc5 a l q u) h (by show a≠0;omega) e;have G:Hid (∀ ps m,qx (yz d.fs) u j ⟨n,[]⟩ (qk 64 a 0 j true)=(.inr ps,m)→zsv 1001 (a:Int) (j:Int) l i ps=false→vt (yz d.fs) zc7 (zc5 a l q u) n j i=(.inl .proof,u,m.net)):=fun ps m e e'=>zr3 (c:=zc5 a l q u) h (by show a≠0;omega) e e';have H:Hid (∀ ps m,qx (yz d.fs) u j ⟨n,[]⟩ (qk 64 a 0 j true)=(.inr ps,m)→zsv 1001 (a:Int) (j:Int) l i ps=true→vt (yz d.fs) zc7 (zc5 a l q u) n j i=(.inr ps,jl q u (zfy j m.needed a l),m.net)):=fun ps m e e'=>zr4 (c:=zc5 a l q u) h (by show a≠0;omega) e e';have am:Hid (∀ s∈qk 64 a 0 j true,s.1+s.2≤j∧1≤s.2):=fun s hs=>by have:=zg4 64 a 0 j true (by omega) (by omega) (by omega) (by omega) s hs;omega
  have aU:Hid (∀ ps m,qx (yz d.fs) u j ⟨n,[]⟩ (qk 64 a 0 j true)=(.inr ps,m)→WdN m.needed∧ps.length≤65):=fun ps m e=>⟨(zi1 (by omega) _ _ _ _ am.o e).wdN bm.o rfl,by rw [znk e];exact zdd 64 a 0 j true⟩
  have ai:Hid (∀ X,Calls prog 118 #[.int .i64 a,.agg #[.int .i64 0,.int .i64 j],.bool true] X fun r L=>∃ x,r= .returned x∧Below X.heap.size X L∧zf4 X.heap.size L x (qk 64 a 0 j true)):=fun X=>yiq 64 (by omega) a 0 j true X (by omega) (by omega) (by omega) (by omega) (by omega);have ay:=zf (HH.o.below E.o);have K:Hid (∀ I sv,Below V.heap.size V I→zf4 V.heap.size I sv (qk 64 a 0 j true)→Calls prog 117 #[yx cb,.int .i64 j,sv] I fun r L=>∃ v e,r= .returned (.tuple #[v,e])∧zq (fun b=>O b∨A b) qT I L∧CS W0 L O (jz A I L) W cb nb db pm Z C d q u (qx (yz d.fs) u j ⟨n,[]⟩ (qk 64 a 0 j true)).2 k∧((∃ xs,(qx (yz d.fs) u j ⟨n,[]⟩ (qk 64 a 0 j true)).1= .inr xs∧zg1 I.heap.size L v xs∧(∀ p∈xs,p.length=8)∧e= .nilIface)∨(∃ p g,(qx (yz d.fs) u j ⟨n,[]⟩ (qk 64 a 0 j true)).1= .inl p∧L.heap[g]?=some (.cells #[qo p,zd2 y 5] 179 (0,0))∧v= .slice none 0 0∧e=za7 g))):=by
   intro I sv hb az;refine(zzz W0 y O A W cb nb db pm Z C d q u ⟨n,[]⟩ k j z HE.o HS.o a1.o sv _ V.heap.size I az (by have:=zdd 64 a 0 j true;omega) am.o ((ay.o.below hb).less (by have:=ztf a j (by omega) (by have:=aO.o;omega) (by have:=aO.o;omega);unfold rPl;omega))).mono ?_;rintro r L ⟨h1,h2,h3⟩;obtain⟨v,e,e1,h4⟩:=h3.join;exact⟨v,e,e1,h1,h2,h4⟩
  unfold yx at K;have bn:V.cell? ⟨cb,14,none⟩=some (.pointer (some ⟨Z,0,none⟩)):=(zw ay.o.cli 14 _ ay.o.cells.nee).1;have t:V.heap[w.heap.size]?=some (.cells (trC j i).toArray 112 (0,0))∧V.heap[w.heap.size+1]?=some (.cells (trC a l).toArray 112 (0,0)):=aL.o;have a2:Hid (zq (fun b=>O b∨A b∨W b) clT w V):= .of_below E.o;clear h D;go_wp2_with fail;clear aW a8 aI Y an ao ap
  go_region_held3 (fun X=>X.cell? ⟨w.heap.size,0,none⟩=some (.int .i64 j)∧X.cell? ⟨w.heap.size+1,0,none⟩=some (.int .i64 a)) (exact⟨(ad.o _ t).1,(ad.o _ t).2.1⟩) (first
   | (go_at_call 118;refine(ai.o _).mono ?_;rintro r I ⟨sv,rfl,a5,az⟩;have R:=zf (zbb a5);have a0:=zf az;have z:I.heap[w.heap.size]?=some (.cells (trC j i).toArray 112 (0,0))∧I.heap[w.heap.size+1]?=some (.cells (trC a l).toArray 112 (0,0)):=⟨(R.o.block _ (zi t.1)).trans t.1,(R.o.block _ (zi t.2)).trans t.2⟩;clear t a5 az;have t:=z;clear z)
   | (go_at_call 117;refine(K.o I sv R.o a0.o).mono ?_;rintro r w3 ⟨pv,ev,rfl,aA,aF,bc⟩;have aP:=zf aA;have aw:=zf aF;have z:w3.heap[w.heap.size]?=some (.cells (trC j i).toArray 112 (0,0))∧w3.heap[w.heap.size+1]?=some (.cells (trC a l).toArray 112 (0,0)):=⟨aA.keep t.1 (by decide),aA.keep t.2 (by decide)⟩;clear t aA aF;have t:=z;clear z;have HR:=zf bc;clear bc))
  rename_i S;clear S;have aQ:Hid (zq (fun b=>O b∨A b∨W b) clT w w3):=zu3 (a2.o.then_below R.o) (zeb.refl A w I) aP.o;have aK:Hid (zeb A (jz A I w3) w w3):=(zeb.refl A w I).ext (zu E.o.size R.o.size) aP.o.size;have bk:Hid (w.heap.size≤I.heap.size):=zu E.o.size R.o.size;have J:=zf t;clear t a2 aP ai K ay aL R a0 E am q0 q1 bn a7 bo;generalize qx (yz d.fs) u j ⟨n,[]⟩ (qk 64 a 0 j true)=RM at *;obtain⟨o,m2⟩:=RM;simp only at *;rcases HR.o with ⟨ps,rfl,ar,h8,rfl⟩ | ⟨p,g,rfl,a6,rfl,rfl⟩
  ·have aE:=zf ar;have H8:=zf h8;have HW:=zf (aU.o ps m2 rfl);have ag:=zf (G.o ps m2 rfl);have ah:=zf (H.o ps m2 rfl);have aD:=zf (ykw 1001 l i a j (by omega) pv ps w3 (by have:=HW.o.2;omega) (by have:=HW.o.2;omega) HC.o.r8 aJ.o (Hss.of_owns h8 ar));obtain⟨q0,q1,an,ao,ap⟩:=ad.o w3 J.o;clear ar h8 HR F G H aU ap;go_wp2_with fail;refine aD.o.mono ?_;rintro r w4 ⟨rfl,N⟩;have bq:=zf N;have ax:=zf (aw.o.below N);have aR:=zf (aQ.o.then_below N);have av:=zf (aK.o.below N.size);have ae:Hid (zg1 I.heap.size w4 pv ps):=zo (O:=fun _=>False) (T:=[]) aE.o (.of_below N) (by decide);have aY:Hid (w4.heap[w.heap.size]?=some (.cells (trC j i).toArray 112 (0,0))∧w4.heap[w.heap.size+1]?=some (.cells (trC a l).toArray 112 (0,0))):=⟨(N.block _ (zi J.o.1)).trans J.o.1,(N.block _ (zi J.o.2)).trans J.o.2⟩;clear N aw aQ aK aE aD q0 q1 an ao J;generalize zsv 1001 (a:Int) (j:Int) l i ps=B at *;cases B with
   | false =>
    have aj:=zf (ag.o rfl);have qe:w4.cell? ⟨4,0,none⟩=some (.iface 364 (.pointer (some (y 4)))):=zki ax.o.base HS.o.proof;have ab:=zf (ax.o.below (yf _ w4).drew);obtain⟨L2,Q⟩:=ab.o.mem;have M:=zf (zf8 .returning _ Z zgx L2 _ Q);clear Q ag ah;unfold yx at M;go_wp2_with fail
    go_region_held3 (fun L=>L.cell? ⟨4,0,none⟩=some (.iface 364 (.pointer (some (y 4))))) (go_keep) (fail)
    rename_i S;clear S;go_wp2_with fail;refine zb9 (f:=106) (args:=#[.pointer (some ⟨Z,0,none⟩)]) (by simp) (by simp [go_sem]) ?_;refine M.o.mono ?_;rintro e u' w9 ⟨rfl,rfl,U,aq,bd⟩;simp only [Leaves,settle];refine⟨.tuple #[.slice none 0 0,zd2 y 4],by simp [results,results85,go_sem,zd2],?_⟩;rw [aj.o];exact⟨zna (aR.o.then_below (yf _ w4).drew) (av.o.below (zm _)) (zeb.refl _ _ _) ab.o U aq (zm _) (fun _=>trivial),.inr (.inr (.inl ⟨rfl,rfl⟩))⟩
   | true =>
    have aj:=zf (ah.o rfl);obtain⟨q0,q1,an,ao,ap⟩:=ad.o w4 aY.o;have al:=zf (zum W0 O (jz A I w3) W cb nb db pm Z C d q u j k a z aO.o.2 bp l HC.o.r8 m2 w4 a1.o HW.o.1 ax.o);clear an ao ag ah;unfold yx at al;go_wp2_with fail;refine al.o.mono ?_;rintro r w6 ⟨rfl,aB,aG⟩;have aS:Hid (zq (fun b=>O b∨A b∨W b) clT w w6):=zu3 aR.o av.o (aB.mono (fun _ h=> .inr h) (by decide));have aX:=zf (av.o.below aB.size);have ab:=zf aG;have af:Hid (zg1 I.heap.size w6 pv ps):=zo ae.o aB (by decide);clear aB aG al aR av ax ae q0 q1 ap;have aN:=zf (zr8 W0 O (jz A I w3) W cb nb db pm Z C d q u k _ w6 bj.o bh.o ab.o);unfold yx at aN;go_wp2_with fail;refine aN.o.mono ?_;rintro r w7 ⟨rfl,aC,aH⟩;have bl:Hid (zq (fun b=>O b∨A b∨W b) clT w w7):=aS.o.trans (aC.mono (fun b h=> .inl (.inr (.inr h))) (by decide));have bf:=zf (aX.o.below aC.size);have bi:Hid (zeb W (jz W w6 w7) w w7):=⟨fun _ h=> .inl h,fun b hb=>hb.imp id (fun h=>⟨zu aS.o.size h.1,h.2⟩)⟩;have aZ:=zf aH;have aM:Hid (zg1 I.heap.size w7 pv ps):=zo af.o aC (by decide);clear aC aH aN aS aX ab af;obtain⟨L2,Q⟩:=aZ.o.mem;have M:=zf (zf8 .returning _ Z zgx L2 _ Q);clear Q;unfold yx at M;go_wp2_with fail;refine zb9 (f:=106) (args:=#[.pointer (some ⟨Z,0,none⟩)]) (by simp) (by simp [go_sem]) ?_;refine M.o.mono ?_;rintro e u' w9 ⟨rfl,rfl,U,aq,bd⟩;simp only [Leaves,settle];refine⟨.tuple #[pv,.nilIface],by simp [results,results85,go_sem],?_⟩;rw [aj.o];have ba:=zna (P:=fun _=>True) bl.o bf.o bi.o aZ.o U aq (zm _) (fun _=>trivial);exact⟨ba,.inl ⟨ps,pv,rfl,zk7 (zo aM.o U (by decide)) bk.o,H8.o,rfl⟩⟩
  ·have bg:=zf a6;have aj:=zf (F.o p m2 rfl);obtain⟨L2,Q⟩:=aw.o.mem;have M:=zf (zf8 .returning _ Z zgx L2 _ Q);clear a6 Q HR F G H aU;unfold za7;unfold yx at M;go_wp2_with fail;refine zb9 (f:=106) (args:=#[.pointer (some ⟨Z,0,none⟩)]) (by simp) (by simp [go_sem]) ?_;refine M.o.mono ?_;rintro e u' w9 ⟨rfl,rfl,U,aq,bd⟩;simp only [Leaves,settle];refine⟨.tuple #[.slice none 0 0,za7 g],by simp [results,results85,go_sem,za7],?_⟩;rw [aj.o];exact⟨zna aQ.o aK.o (zeb.refl _ _ _) aw.o U aq (zm _) (fun _=>trivial),.inr (.inl ⟨p,g,rfl,U.keep bg.o (by decide),rfl⟩)⟩
end
def yox (fs:Fs)(L:List Ly)(b:zc)(m:Nat)(a:zc)(w:World)(r:Ending)(c:World):Prop :=
 ∃ o v,zkt b (zaj fs L cpF) o∧(∀ n x,o=some (n,x)→n < 2 ^ 63∧x.length=8)∧r= .returned (.tuple #[.int .i64 (zj1 zc7 (qc fs L) m a o).1,v,.int .i64 (zj1 zc7 (qc fs L) m a o).2.2.1,qo (zj1 zc7 (qc fs L) m a o).2.2.2])∧Below w.heap.size w c∧c.ownsRow w.heap.size 9 1 v (zj1 zc7 (qc fs L) m a o).2.1.length ((zj1 zc7 (qc fs L) m a o).2.1.map qo)∧(zj1 zc7 (qc fs L) m a o).2.1.length≤1000000
theorem yk2 {fs:Fs}{L:List Ly}{p:zc}(e:ixF (lyF L) p=some k):∃ a:k < L.length,zaj fs L p=(L[k].data,!L[k].fails):=by
 obtain⟨a,b⟩:=zy5 e;exact⟨a,by unfold zaj;rw [b]⟩
theorem ygm {fs:Fs}{L:List Ly}{p:zc}(e:ixF (lyF L) p=none)(b:ixF fs p=some k):∃ a:k < fs.length,zaj fs L p=(fs[k].2,true):=by
 obtain⟨a,-,c,-⟩:=zb8 b;exact⟨a,by unfold zaj;rw [zy4 e,c]⟩
theorem ymo (S:Nat)(fs:Fs)(L:List Ly)(A:zc)(m:Nat)(a:zc)(w:World)(h:zso w S fs L)(aq:fs.length≤1000000000)(aB:L.length≤1000000000)(am:∀ f∈fs,f.2.length≤1048576)(ao:∀ l∈L,l.data.length≤1048576)(aj:∃ k,ixF fs cpF=some k)(hk:A.length≤1048576)(hm:1≤m)(aK:m < 9223372036854775808)(hr:a.length=8):
  Calls prog 23 #[yx S,qo A,.int .i64 m,qo a] w (yox fs L A m a w):=by
 have ai:=zf h;have V:=zf am;have X:=zf ao;have U:=zf aj;obtain⟨v1,v2,v3,hg,h1,h2,h3⟩:=h;have aA:(lyF L).length=L.length:=by simp
 have H1:=zf h1;obtain⟨a1,c1,rfl,-,-⟩:=h1;obtain⟨a2,c2,rfl,-,-⟩:=id h2;rw [aA] at h2 hg;have H2:=zf h2;clear h2;obtain⟨a3,c3,rfl,aG,h3⟩:=h3;have x0:w.cell? ⟨S,0,none⟩=some (.slice a1 fs.length c1):=by rw [yq _ _ _ _ _ _ hg];rfl
 have x1:w.cell? ⟨S,1,none⟩=some (.slice a2 L.length c2):=by rw [yq _ _ _ _ _ _ hg];rfl
 have x2:w.cell? ⟨S,2,none⟩=some (.slice a3 (L.map (·.fails)).length c3):=by rw [yq _ _ _ _ _ _ hg];rfl
 have ad:(L.map (·.fails)).length=L.length:=by simp
 have H3:=zf h3;rw [ad] at x2;have B:=zf (zck (.slice a2 L.length c2) (lyF L) cpF w (by omega) H2.o);have I:=zf (zck (.slice a1 fs.length c1) fs cpF w aq H1.o);clear hg h3 am ao aj;unfold yx qo;unfold qo at B I;have T:Hid (ixF (lyF L) cpF=none∨∃ k,ixF (lyF L) cpF=some k):=by
  cases ixF (lyF L) cpF with
  | none=>exact .inl rfl
  | some k=>exact .inr ⟨k,rfl⟩
 rcases T.o with e | ⟨k,e⟩;have he:ixI (lyF L) cpF=-1:=by unfold ixI;rw [e]
 obtain⟨k,e2⟩:=U.o;have ak:ixI fs cpF=k:=by unfold ixI;rw [e2]
 obtain⟨P,j⟩:=ygm (fs:=fs) e e2;obtain⟨-,-,D⟩:=H1.o.at;obtain⟨b1,o1,rfl,hx⟩:=D (by omega);obtain⟨-,y1⟩:=hx k P;have C:=zf j;have af:fs[k].2.length≤1048576:=V.o _ (yd P);unfold qo at y1;have W:=zf he;have aw:=zf ak;clear hx D e e2 he ak j U x2 T;generalize fs[k].2=tx at *
 rotate_left
 have he:ixI (lyF L) cpF=k:=by unfold ixI;rw [e]
 obtain⟨P,j⟩:=yk2 (fs:=fs) e;obtain⟨-,-,D⟩:=H2.o.at;obtain⟨b1,o1,rfl,hx⟩:=D (by omega);obtain⟨-,y1⟩:=hx k (by omega);obtain⟨b3,o3,rfl,au⟩:∃ b av,a3=some ⟨b,av,none⟩∧∀ i (h:i < (L.map (·.fails)).length),w.cell? ⟨b,av+i,none⟩=some (.bool (L.map (·.fails))[i]):=by
  rcases H3.o with h | h
  ·rw [h] at ad;simp at ad;omega
  ·exact h
 have y2:=au k (by omega);rw [za4] at y1 y2;have af:L[k].data.length≤1048576:=X.o _ (yd P);unfold qo at y1;have W:=zf he;clear hx D au e he T I U;generalize L[k]=l at *;obtain⟨lp,tx,lf,lt⟩:=l;simp only at y1 y2 af j;have aJ:(k:Int) < (L.length:Int):=by omega
 have aI:(0:Int)≤(k:Int):=by omega
 cases lf;have C:Hid (zaj fs L cpF=(tx,true)):=j;clear j
 rotate_left
 ·have C:=zf j;clear j;go_enter func23,ntmps23;go_wp2_with fail;refine B.o.mono ?_;rintro r w2 ⟨rfl,t⟩;rw [t,W.o];clear t w2 B;go_wp2_with fail;refine z8 (zek results23 _ _ _) rfl ?_;exact⟨none,_,.inl (by rw [C.o];rfl),by simp,rfl,yf _ _,⟨rfl,.inl ⟨rfl,rfl⟩⟩,by simp [zj1]⟩
 all_goals
  go_enter func23,ntmps23;go_wp2_with fail;refine B.o.mono ?_;rintro r w2 ⟨rfl,t⟩;rw [t,W.o];clear t w2 B;go_wp2_with fail
  first
   | (refine I.o.mono ?_;rintro r w2 ⟨rfl,t⟩;rw [t,aw.o];clear t w2 I;go_wp2_with fail)
   | skip
  refine(z1h tx A af (by omega) w).mono ?_;rintro r w3 ⟨N,⟨n,x,hs,rfl⟩ | ⟨ar,rfl⟩⟩
  ·obtain⟨aF,aC,-⟩:=id hs;have d:Hid (zkt A (zaj fs L cpF) (some (n,x))):=by show zkt _ _ _;rw [C.o];exact⟨rfl,hs⟩
   have c:=zf N;have y:Hid (∀ n' x',(some (n,x):Option (Nat×zc))=some (n',x')→n' < 2 ^ 63∧x'.length=8):=fun n' x' he=>by cases he;exact⟨by omega,aC⟩
   clear hs N
   by_cases Q:n < m
   ·have u:Hid (zj1 zc7 (qc fs L) m a (some (n,x))=(4,[],0,[])):=by show _=_;simp only [zj1];rw [if_pos Q]
    go_wp2_with fail;refine z8 (zek results23 _ _ _) rfl ?_;exact⟨some (n,x),_,d.o,y.o,by rw [u.o];rfl,c.o,by rw [u.o];exact⟨rfl,.inl ⟨rfl,rfl⟩⟩,by rw [u.o];simp⟩
   by_cases al:n=m
   ·subst al
    by_cases R:x=a
    ·have u:Hid (zj1 zc7 (qc fs L) n a (some (n,x))=(0,[],n,x)):=by show _=_;simp only [zj1];rw [if_neg Q];simp [R]
     subst R;go_wp2_with fail;refine z8 (zek results23 _ _ _) rfl ?_;exact⟨some (n,x),_,d.o,y.o,by rw [u.o];rfl,c.o,by rw [u.o];exact⟨rfl,.inl ⟨rfl,rfl⟩⟩,by rw [u.o];simp⟩
    ·have u:Hid (zj1 zc7 (qc fs L) n a (some (n,x))=(5,[],0,[])):=by show _=_;simp only [zj1];rw [if_neg Q];simp [R]
     go_wp2_with fail
     all_goals first
      | (refine z8 (zek results23 _ _ _) rfl ?_;exact⟨some (n,x),_,d.o,y.o,by rw [u.o];rfl,c.o,by rw [u.o];exact⟨rfl,.inl ⟨rfl,rfl⟩⟩,by rw [u.o];simp⟩)
      | (rename_i h;exact absurd (by simpa using h) R)
   ·have aH:m < n:=by omega
    have u:Hid (zj1 zc7 (qc fs L) m a (some (n,x))=if zdv (qc fs L) n (qk 64 m 0 n true)=[] then (if zc7 m n a x (zct (qc fs L) n (qk 64 m 0 n true)) then (0,zct (qc fs L) n (qk 64 m 0 n true),n,x) else (5,[],0,[])) else (6,zdv (qc fs L) n (qk 64 m 0 n true),0,[])):=by show _=_;simp only [zj1];rw [if_neg Q,if_neg al]
    have ah:Hid (LkC w S fs L n):=⟨ai.o,aq,aB,V.o,X.o,by omega⟩;have J:Hid (vy (w3.alloc (.cells #[yx S,.int .i64 n,.slice none 0 0] 68)) w3.heap.size none S n []):=⟨_,zg _ _,⟨rfl,.inl ⟨rfl,rfl⟩⟩,rfl⟩;have F:Hid (Below w.heap.size w (w3.alloc (.cells #[yx S,.int .i64 n,.slice none 0 0] 68))):=c.o.trans ((zk w3 _).mono c.o.size);have K:=zf (z8x ah.o w3.heap.size c.o.size 64 0 n m true none [] _ (by omega) (by omega) (by omega) (by omega) hm (by omega) (zmy n) (by simp) F.o J.o);have Y:Hid ((zdv (qc fs L) n (qk 64 m 0 n true)).length≤1000000∧(qk 64 m 0 n true).length≤65):=by
     have:=zoz (qc fs L) n (by omega) (qk 64 m 0 n true) (fun s hs=>⟨zwx 64 m 0 n true (by omega) (by omega) (by omega) (zmy n) s hs,by have:=zg4 64 m 0 n true (by omega) (by omega) (by omega) (by omega) s hs;omega,by have:=zg4 64 m 0 n true (by omega) (by omega) (by omega) (by omega) s hs;omega⟩);have hc:=zdd 64 m 0 n true;exact⟨by omega,hc⟩
    unfold zgj at K;unfold yx at K J F;clear ai V X H1 H2 H3;go_wp2_with fail;refine K.o.mono ?_;rintro r w5 ⟨v5,rfl,t5,o5,aD,l5,m5,d5⟩;rw [zal] at l5;obtain⟨mv,an,ae,ap⟩:=id l5;obtain⟨ma,mc,rfl⟩:=qr ae;obtain⟨pa,pc,rfl⟩:=qr o5;have z2:w5.cell? ⟨w3.heap.size,2,none⟩=some (.slice ma (zdv (qc fs L) n (qk 64 m 0 n true)).length mc):=by rw [yq _ _ _ _ _ _ an];rfl
    have E:Hid (Below w.heap.size w w5):=Lkd.below ⟨t5,aD,l5,m5⟩ J.o F.o c.o.size;have Z:=zf ae;have aa:=zf o5;clear t5 o5 l5 m5 d5 an ae ap K J F ah
    by_cases z:zdv (qc fs L) n (qk 64 m 0 n true)=[]
    ·have g:Hid (zj1 zc7 (qc fs L) m a (some (n,x))=if zc7 m n a x (zct (qc fs L) n (qk 64 m 0 n true)) then (0,zct (qc fs L) n (qk 64 m 0 n true),n,x) else (5,[],0,[])):=u.o.trans (if_pos z);rw [z] at z2;have M:Hid ((zct (qc fs L) n (qk 64 m 0 n true)).length≤65∧∀ p∈zct (qc fs L) n (qk 64 m 0 n true),p.length≤8):=⟨by unfold zct;rw [yi];exact Y.o.2,fun p hp=>by
      unfold zct at hp;obtain⟨s,-,rfl⟩:=yl.1 hp;exact zu1 _ _ _ _ _⟩
     clear z u Y Z;generalize zct (qc fs L) n (qk 64 m 0 n true)=ps at *;have az:=zf (Sss.of_tb aa.o);have H:=zf (z8m 1001 a x (m:Int) (n:Int) (by omega) (.slice pa ps.length pc) (ps.map tb) w5 (by rw [yi];have:=M.o.1;omega) (by rw [yi];have:=M.o.1;omega) (by omega) (by rw [zom];exact M.o.2) az.o);rw [zom] at H;unfold txt at H;simp only [jc] at z2;go_wp2_with fail;refine H.o.mono ?_;rintro r w6 ⟨rfl,ab⟩;have ag:=zf (E.o.trans (ab.mono E.o.size));have ay:=zf (zcb (ym aa.o ab) (zu c.o.size (zk w3 _).size));clear ab H z2;have G:Hid (zc7 m n a x ps=zsv 1001 (m:Int) (n:Int) a x ps):=rfl;cases O:zsv 1001 (m:Int) (n:Int) a x ps with
     | true =>
      have v:Hid (zj1 zc7 (qc fs L) m a (some (n,x))=(0,ps,n,x)):=g.o.trans (if_pos (G.o.trans O));clear g G O;go_wp2_with fail;refine z8 (zek results23 _ _ _) rfl ?_;exact⟨some (n,x),_,d.o,y.o,by rw [v.o];rfl,ag.o,by rw [v.o];exact ay.o,by rw [v.o];have:=M.o.1;simp only;omega⟩
     | false =>
      have v:Hid (zj1 zc7 (qc fs L) m a (some (n,x))=(5,[],0,[])):=g.o.trans (if_neg (by rw [G.o,O];simp));clear g G O;go_wp2_with fail;refine z8 (zek results23 _ _ _) rfl ?_;exact⟨some (n,x),_,d.o,y.o,by rw [v.o];rfl,ag.o,by rw [v.o];exact⟨rfl,.inl ⟨rfl,rfl⟩⟩,by rw [v.o];simp⟩
    ·have g:Hid (zj1 zc7 (qc fs L) m a (some (n,x))=(6,zdv (qc fs L) n (qk 64 m 0 n true),0,[])):=u.o.trans (if_neg z);have aE:0 < (zdv (qc fs L) n (qk 64 m 0 n true)).length:=List.length_pos_iff.2 z;have ax:=zf (zcb Z.o (zu c.o.size (vk _)));clear u z Z aa;generalize zdv (qc fs L) n (qk 64 m 0 n true)=q at *;go_wp2_with fail
     go_region
     all_goals
      go_wp2_with fail;refine z8 (zek results23 _ _ _) rfl ?_;exact⟨some (n,x),_,d.o,y.o,by rw [g.o];rfl,by first | exact E.o | exact E.o.drew,by rw [g.o];exact ax.o,by rw [g.o];exact Y.o.1⟩
  ·have d:Hid (zkt A (zaj fs L cpF) none):=by show zkt _ _ _;rw [C.o];exact .inr ar
   have c:=zf N;clear ar N;go_wp2_with fail;refine z8 (zek results23 _ _ _) rfl ?_;exact⟨none,_,d.o,by simp,rfl,c.o,⟨rfl,.inl ⟨rfl,rfl⟩⟩,by simp [zj1]⟩
end Go.Proofs.YtlcllcgngjhoaaaGreatDoor
