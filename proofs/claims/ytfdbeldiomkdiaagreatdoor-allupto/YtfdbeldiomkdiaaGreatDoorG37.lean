import Derived.Test.YtfdbeldiomkdiaaGreatDoorG36
import Derived.Conc.MuLone
set_option maxHeartbeats 8000000
set_option maxRecDepth 100000
set_option linter.all false
namespace Go.Proofs.YtfdbeldiomkdiaaGreatDoor
open Go.RowKit Go.Proofs.Tryz
def jo:=@Array.getElem?_setIfInBounds_ne
def Bf:=@Array.getElem?_setIfInBounds_self_of_lt
variable {A O OP:Nat->Prop}{C:Array Value}{V W0 w:World}{cb db k k0 nb nm o pm:Nat}{d:Dk}{pr:Mm}{ps:za}{t:TypeId}
section
def QH (a:Value):Sem Value:=Instr.loadAt 120 a
def Et (a:Value):Instr.loadAt 120 a=QH a:=rfl
def IE (a v:Value):Sem Unit:=Instr.storeAt 120 a v
def D8 (a v:Value):Instr.storeAt 120 a v=IE a v:=rfl
attribute [local go_sem ↓] j9 jx ve jy ju jt vd jw Et D8
def Yr:(prog.info? 120).map (·.size)=some 9:=by kernel_rfl
def FA (n:Nat){a:zb}(h:a.length=8):(BN n a).length=9:=by simp[BN,h]
def zl2 (n:Nat)(a:zb):∀v∈BN n a,v.oneCell'=true:=λv hv=>by
 rcases jl.1 hv with rfl|hv
 ·rfl
 ·exact ZA v hv
def Lz {b n:Nat}{a:zb}(c:w.rangeAt b o (BN n a))(h:a.length=8):(QH (.pointer (some ⟨b,o,none⟩))).run prog w=.ok (.agg (BN n a).toArray) w:=
 Rz w b o _ (BN n a) _ c underlying120 rfl (by rw[Yr,FA n h])
def Fw {b n:Nat}{a:zb}(c:w.there b o 9)(h:a.length=8):(IE (.pointer (some ⟨b,o,none⟩)) (.agg (BN n a).toArray)).run prog w=.ok () (w.setCells b o (BN n a)):=by
 have:=Pz (P:=prog) w b o 120 (BN n a).toArray (by rw[ql,FA n h];exact c) (by rw[Yr,ql,FA n h]) (FW (zl2 n a));simpa[IE]using this
def MV.range {b:Nat}{a:zb}(h:MV C b a)(c:w.heap[cb]?=some (.cells C t (0,0))):w.rangeAt cb 4 (BN b a):=by
 intro j v hv;cases j with
 |zero =>
  simp only[BN,GO,zn]at hv;subst hv;exact(zm c 4 _ h.sz).1
 |succ j =>
  simp only[BN,Aq]at hv;have:=h.rt j v hv;rw[show 4+(j+1)=5+j by omega];exact(zm c (5+j) v this).1
def EM (m n:Nat)(a b:zb)(c:za):Bool:=P8 1001 m n a b c
def ze0 (B:Nat)(b:World)(o:Sum Er (za))(r:Ending):Prop:=∃a v,o=.inr a/\Fj B b v a/\(∀p∈a,p.length=8)/\a.length<=65/\r=.returned (.tuple #[v,.nilIface])
section
variable {σ:Type}{fe:σ -> zb -> (zb × Bool) × σ}{con:Nat -> Nat -> zb -> zb -> za -> Bool}{c:Cl}{s:σ}{n:Nat}{r:zb}
def YI (h:n<c.size):BR fe con c s n r=(.inl .ak,c.proved,s):=by unfold BR;rw[if_pos h]
def WH (h:n=c.size)(a:r=c.root):BR fe con c s n r=(.inr [],c.proved,s):=by unfold BR;rw[if_neg (by omega),if_pos h,if_pos a]
def UB (h:n=c.size)(a:r≠c.root):BR fe con c s n r=(.inl .proof,c.proved,s):=by unfold BR;rw[if_neg (by omega),if_pos h,if_neg a]
def WI (h:c.size<n)(a:c.size=0):BR fe con c s n r=(.inr [],c.proved,s):=by unfold BR;rw[if_neg (by omega),if_neg (by omega),if_pos a]
def zh6 (h:c.size<n)(a:c.size≠0){m:Ms σ}(b:Ax fe c.proved n ⟨s,[]⟩ (AB 64 c.size 0 n true)=(.inr ps,m))(d:con c.size n c.root r ps=false):BR fe con c s n r=(.inl .proof,c.proved,m.al):=by unfold BR;rw[if_neg (by omega),if_neg (by omega),if_neg a,b];simp only[d,vz,CM]
def zh7 (h:c.size<n)(a:c.size≠0){m:Ms σ}(b:Ax fe c.proved n ⟨s,[]⟩ (AB 64 c.size 0 n true)=(.inr ps,m))(d:con c.size n c.root r ps=true):BR fe con c s n r=(.inr ps,qd c.room c.proved (F9 n m.ag c.size c.root),m.al):=by unfold BR;rw[if_neg (by omega),if_neg (by omega),if_neg a,b];simp only[d,if_true]
end
def zhv {a:Int}{n:Nt}(h:CS W0 w O A OP cb nb db pm nm C d a pr ⟨n,[]⟩ k0)(b:zc w V)(c:k<=k0):Out W0 w V O A OP cb nb db pm nm C d a pr n k (λ_=>True):=
 ⟨.aa b,A,OP,Di.refl _ _ _,Di.refl _ _ _,(h.below b).less c,trivial⟩
def RI {b n:Nat}{a:zb}(h:w.heap[b]?=some (.cells (BN n a).toArray t (0,0))):w.rangeAt b 1 (a.map bv):=by
 intro j v hv;refine(zm h (1+j) v ?_).1;rw[NT,vy];exact hv
def zdc (Z:World)(a1:Nat->Addr)(O A I:Nat->Prop)(cb nb db pm nm:Nat)(C:Array Value)(d:Dk)(l:Int)(t:Mm)(n:Nt)(k a i:Nat)(q j g:zb)(br:a<9223372036854775808)(u:i<9223372036854775808)(a2:g.length=8)(hC:MV C a j)(hE:DW Z)(hS:vj Z a1)(a3:F0 Z)(aG:∃v,(BR (qr d.fs) EM (IL q a j l t) n i g).1=.inr v)(hH:a≠0->TQ d.fs i/\n.ao=[])(bb:t.length<=100000000000)(bf:Lb t)(a9:∀b,I b->Z.heap.size<=b)(w:World)(h:CS Z w O A I cb nb db pm nm C d l t ⟨n,[]⟩ (8400+k)):
  Calls prog 146 #[yu cb,.agg (BN i g).toArray] w λr w' =>
   Out Z w w' O A I cb nb db pm nm C d l (BR (qr d.fs) EM (IL q a j l t) n i g).2.1 (BR (qr d.fs) EM (IL q a j l t) n i g).2.2 k (λ_=>True)/\ze0 w.heap.size w' (BR (qr d.fs) EM (IL q a j l t) n i g).1 r:=by
 have HH:=ze h;have HC:=ze hC;have HE:=ze hE;have HS:=ze hS;have aY:=ze a3;have bk:=ze bb;have bn:=ze bf;have bi:=ze a9;have au:=ze a2;clear h hC hE hS a3 bb bf a9 a2;have HD:Hid ((i=a/\g=j)\/(a<i/\a=0)\/(a<i/\1<=a)):=by
  obtain⟨v,ho⟩:=aG;have h2:¬i<a:=λh=>by rw[YI (c:=IL q a j l t) h]at ho;simp at ho
  have h3:i=a->g=j:=λh=>Classical.byContradiction λB=>by rw[UB (c:=IL q a j l t) h B]at ho;simp at ho
  show _\/_
  by_cases h:i=a
  ·exact .inl ⟨h,h3 h⟩
  ·omega
 have ad:Hid (∀(h:i=a) (B:g=j),BR (qr d.fs) EM (IL q a j l t) n i g=(.inr [],t,n)):=λh B=>WH (c:=IL q a j l t) h B;have G:Hid (∀(h:a<i) (B:a=0),BR (qr d.fs) EM (IL q a j l t) n i g=(.inr [],t,n)):=λh B=>WI (c:=IL q a j l t) h B;have bh:=ze aG;have aR:=ze hH;clear aG hH;unfold yu
 go_enter_defers func146,ntmps146
 have a5:(QH (.pointer (some ⟨cb,4,none⟩))).run prog (w.alloc (.cells (BN i g).toArray 120))=.ok (.agg (BN a j).toArray) (w.alloc (.cells (BN i g).toArray 120)):=Lz (HC.o.range (zr HH.o.aC)) HC.o.r8;have hz:(w.alloc (.cells (BN i g).toArray 120)).heap.size=w.heap.size+1:=by simp
 have aE:((w.alloc (.cells (BN i g).toArray 120)).alloc (.cells #[.int .i64 0,.int .u8 0,.int .u8 0,.int .u8 0,.int .u8 0,.int .u8 0,.int .u8 0,.int .u8 0,.int .u8 0] 120)).heap[w.heap.size+1]?=some (.cells (BN 0 BE).toArray 120 (0,0)):=by
  have:=zf (w.alloc (.cells (BN i g).toArray 120)) (.cells #[.int .i64 0,.int .u8 0,.int .u8 0,.int .u8 0,.int .u8 0,.int .u8 0,.int .u8 0,.int .u8 0,.int .u8 0] 120);rw[hz]at this;exact this
 have bq:(IE (.pointer (some ⟨w.heap.size+1,0,none⟩)) (.agg (BN a j).toArray)).run prog ((w.alloc (.cells (BN i g).toArray 120)).alloc (.cells #[.int .i64 0,.int .u8 0,.int .u8 0,.int .u8 0,.int .u8 0,.int .u8 0,.int .u8 0,.int .u8 0,.int .u8 0] 120))=.ok () (((w.alloc (.cells (BN i g).toArray 120)).alloc (.cells #[.int .i64 0,.int .u8 0,.int .u8 0,.int .u8 0,.int .u8 0,.int .u8 0,.int .u8 0,.int .u8 0,.int .u8 0] 120)).setCells (w.heap.size+1) 0 (BN a j)):=Fw (BG aE) HC.o.r8;have aw:Hid ((((w.alloc (.cells (BN i g).toArray 120)).alloc (.cells #[.int .i64 0,.int .u8 0,.int .u8 0,.int .u8 0,.int .u8 0,.int .u8 0,.int .u8 0,.int .u8 0,.int .u8 0] 120)).setCells (w.heap.size+1) 0 (BN a j)).heap[w.heap.size]?=some (.cells (BN i g).toArray 120 (0,0))/\(((w.alloc (.cells (BN i g).toArray 120)).alloc (.cells #[.int .i64 0,.int .u8 0,.int .u8 0,.int .u8 0,.int .u8 0,.int .u8 0,.int .u8 0,.int .u8 0,.int .u8 0] 120)).setCells (w.heap.size+1) 0 (BN a j)).heap[w.heap.size+1]?=some (.cells (BN a j).toArray 120 (0,0))):=by
  refine⟨?_,Cd aE (by rw[FA _ HC.o.r8];rfl)⟩;rw[Br _ _ (by omega)];exact zr (zf _ _)
 have E:Hid (zc w (((w.alloc (.cells (BN i g).toArray 120)).alloc (.cells #[.int .i64 0,.int .u8 0,.int .u8 0,.int .u8 0,.int .u8 0,.int .u8 0,.int .u8 0,.int .u8 0,.int .u8 0] 120)).setCells (w.heap.size+1) 0 (BN a j))):=xo (qg w _ _) (Ar _) _ _;clear aE hz;generalize ((w.alloc (.cells (BN i g).toArray 120)).alloc (.cells #[.int .i64 0,.int .u8 0,.int .u8 0,.int .u8 0,.int .u8 0,.int .u8 0,.int .u8 0,.int .u8 0,.int .u8 0] 120)).setCells (w.heap.size+1) 0 (BN a j)=V at *;have K:Hid (∀X:World,X.heap[w.heap.size]?=some (.cells (BN i g).toArray 120 (0,0))/\X.heap[w.heap.size+1]?=some (.cells (BN a j).toArray 120 (0,0))->X.cell? ⟨w.heap.size,0,none⟩=some (.int .i64 i)/\X.cell? ⟨w.heap.size+1,0,none⟩=some (.int .i64 a)/\(DS (.pointer (some ⟨w.heap.size,1,none⟩))).run prog X=.ok (.agg (hv g)) X/\(DS (.pointer (some ⟨w.heap.size+1,1,none⟩))).run prog X=.ok (.agg (hv j)) X/\(QH (.pointer (some ⟨w.heap.size+1,0,none⟩))).run prog X=.ok (.agg (BN a j).toArray) X):=by
  rintro X ⟨h1,h2⟩;exact⟨(zm h1 0 _ rfl).1,(zm h2 0 _ rfl).1,AN (RI h1) au.o,AN (RI h2) HC.o.r8,Lz (vv h2) HC.o.r8⟩
 obtain⟨q0,q1,U,W,Y⟩:=K.o V aw.o;have aq:=λX=>QL g j au.o HC.o.r8 X;have az:Hid (∀X:World,zc w X->Out Z w X O A I cb nb db pm nm C d l t n k (λ_=>True)):=λX hX=>zhv HH.o hX (by omega);rcases HD.o with ⟨h,B⟩|⟨h,B⟩|⟨h,B⟩
 ·have hR:=ze (ad.o h B);have bd:Kh g j=true:=by unfold Kh;simp[B]
  subst h B;clear HD ad G;rw[bd]at aq;clear bd;go_wp2_with fail;refine⟨.tuple #[.slice none 0 0,.nilIface],by simp[results,results146,go_sem],?_⟩;rw[hR.out];exact⟨az.o _ E.o,[],_,rfl,World.ownsRow_nil _ _ _ _,by simp,by simp,rfl⟩
 ·have hR:=ze (G.o h B);have a6:¬(i:Int)<(a:Int):=by omega
  have a8:((i:Int)==(a:Int))=false:=by simp;omega
  have ap:((a:Int)==0)=true:=by simp[B]
  clear HD ad G h B;go_wp2_with fail;refine⟨.tuple #[.slice none 0 0,.nilIface],by simp[results,results146,go_sem],?_⟩;rw[hR.out];exact⟨az.o _ E.o,[],_,rfl,World.ownsRow_nil _ _ _ _,by simp,by simp,rfl⟩
 ·have a6:¬(i:Int)<(a:Int):=by omega
  have a8:((i:Int)==(a:Int))=false:=by simp;omega
  have ap:((a:Int)==0)=false:=by simp;omega
  clear HD ad G az;have aA:=ze (And.intro h B);have G:Hid (∀v m,Ax (qr d.fs) t i ⟨n,[]⟩ (AB 64 a 0 i true)=(.inr v,m)->P8 1001 (a:Int) (i:Int) j g v=true/\BR (qr d.fs) EM (IL q a j l t) n i g=(.inr v,qd l t (F9 i m.ag a j),m.al)):=λv m e=>by
   have h0:(IL q a j l t).size≠0:=by show a≠0;omega
   have hc:EM a i j g v=true:=by
    cases hc:EM a i j g v with
    |true=>rfl
    |false =>
     obtain⟨bt,ho⟩:=bh.o;rw[zh6 (c:=IL q a j l t) h h0 e hc]at ho;simp at ho
   exact⟨hc,zh7 (c:=IL q a j l t) h h0 e hc⟩
  have S:Hid (∀s∈AB 64 a 0 i true,s.1+s.2<=i/\1<=s.2):=λs hs=>by have:=LF 64 a 0 i true (by omega) (by omega) (by omega) (by omega) s hs;omega
  have a0:Hid (∀v m,Ax (qr d.fs) t i ⟨n,[]⟩ (AB 64 a 0 i true)=(.inr v,m)->WdN m.ag/\v.length<=65):=λv m e=>⟨(MM (by omega) _ _ _ _ S.o e).cu bn.o rfl,by rw[Ry e];exact Ci 64 a 0 i true⟩
  have Q:Hid (∀X,Calls prog 115 #[.int .i64 a,.agg #[.int .i64 0,.int .i64 i],.bool true] X λr w'=>∃x,r=.returned x/\zc X w'/\F1 X.heap.size w' x (AB 64 a 0 i true)):=λX=>WB 64 (by omega) a 0 i true X (by omega) (by omega) (by omega) (by omega) (by omega);have ab:=ze (HH.o.below E.o);have z:=ze (λD sv (hb:zc V D) (ae:F1 V.heap.size D sv (AB 64 a 0 i true))=>Tx Z a1 O A I cb nb db pm nm C d l t ⟨n,[]⟩ k i u HE.o HS.o aY.o (aR.o (by omega)).1 (aR.o (by omega)).2 sv _ V.heap.size D ae (by have:=Ci 64 a 0 i true;omega) S.o ((ab.o.below hb).less (by have:=Tl a i (by omega) (by have:=aA.o;omega) (by have:=aA.o;omega);unfold rPl;omega)));unfold yu at z;have bo:V.cell? ⟨cb,14,none⟩=some (.pointer (some ⟨nm,0,none⟩)):=(zm ab.o.aC 14 _ ab.o.cells.aM).1;have p:V.heap[w.heap.size]?=some (.cells (BN i g).toArray 120 (0,0))/\V.heap[w.heap.size+1]?=some (.cells (BN a j).toArray 120 (0,0)):=aw.o;have aZ:Hid (zl (λb=>O b\/A b\/I b) Uh w V):=.aa E.o;clear h B;go_wp2_with fail;clear a6 a8 ap aq U W Y
  go_region_held3 (λX=>X.cell? ⟨w.heap.size,0,none⟩=some (.int .i64 i)/\X.cell? ⟨w.heap.size+1,0,none⟩=some (.int .i64 a)) (exact⟨(K.o _ p).1,(K.o _ p).2.1⟩) (first
   |(go_at_call 115;refine(Q.o _).mono ?_;rintro r D ⟨sv,rfl,a4,ae⟩;have F:=ze (A6 a4);have aV:=ze ae;have u:D.heap[w.heap.size]?=some (.cells (BN i g).toArray 120 (0,0))/\D.heap[w.heap.size+1]?=some (.cells (BN a j).toArray 120 (0,0)):=⟨(F.o.block _ (zg p.1)).trans p.1,(F.o.block _ (zg p.2)).trans p.2⟩;clear p a4 ae;have p:=u;clear u)
   |(go_at_call 190;refine(z.o D sv F.o aV.o).mono ?_;rintro r w3 ⟨af,ak,v,pv,bc,ar,h8,rfl⟩;have aB:=ze af;have aL:=ze ak;have u:w3.heap[w.heap.size]?=some (.cells (BN i g).toArray 120 (0,0))/\w3.heap[w.heap.size+1]?=some (.cells (BN a j).toArray 120 (0,0)):=⟨af.keep p.1 (by decide),af.keep p.2 (by decide)⟩;clear p af ak;have p:=u;clear u;have aS:=ze bc;have L:=ze ar;have H8:=ze h8;clear bc ar h8))
  rename_i aF;clear aF;have aW:Hid (zl (λb=>O b\/A b\/I b) Uh w w3):=PW (aZ.o.ah F.o) (Di.refl A w D) aB.o;have aH:Hid (Di A (qv A D w3) w w3):=(Di.refl A w D).ext (zt E.o.size F.o.size) aB.o.size;have bl:Hid (w.heap.size<=D.heap.size):=zt E.o.size F.o.size;have y:=ze p;clear p aZ aB Q z ab aw F aV E S q0 q1 bo a5 bq;generalize Ax (qr d.fs) t i ⟨n,[]⟩ (AB 64 a 0 i true)=RM at *;obtain⟨o,m2⟩:=RM;simp only at *;obtain rfl:=aS.o;have HW:=ze (a0.o v m2 rfl);have aU:=ze (G.o v m2 rfl);have J:=ze (ZB 1001 j g a i (by omega) pv v w3 (by have:=HW.o.2;omega) (by have:=HW.o.2;omega) HC.o.r8 au.o (ON.aI H8.o L.o));rw[aU.o.1]at J;clear G a0 aS;obtain⟨q0,q1,U,W,Y⟩:=K.o w3 y.o;clear Y;go_wp2_with fail;refine J.o.mono ?_;rintro r w4 ⟨rfl,H⟩;have aN:=ze (aL.o.below H);have aX:=ze (aW.o.ah H);have av:=ze (aH.o.below H.size);have M:Hid (Fj D.heap.size w4 pv v):=zy (O:=λ_=>False) (T:=[]) L.o (.aa H) (by decide);have aK:Hid (w4.heap[w.heap.size]?=some (.cells (BN i g).toArray 120 (0,0))/\w4.heap[w.heap.size+1]?=some (.cells (BN a j).toArray 120 (0,0))):=⟨(H.block _ (zg y.o.1)).trans y.o.1,(H.block _ (zg y.o.2)).trans y.o.2⟩;clear H aL aW aH L J q0 q1 U W y;obtain⟨q0,q1,U,W,Y⟩:=K.o w4 aK.o;have R:=ze (PH Z O (qv A D w3) I cb nb db pm nm C d l t i k a u aA.o.2 br j HC.o.r8 m2 w4 aY.o HW.o.1 aN.o);clear U W;unfold yu at R;go_wp2_with fail;refine R.o.mono ?_;rintro r w6 ⟨rfl,ai,am⟩;have aD:Hid (zl (λb=>O b\/A b\/I b) Uh w w6):=PW aX.o av.o (ai.mono (λ_ h=>.inr h) (by decide));have aJ:=ze (av.o.below ai.size);have aO:=ze am;have N:Hid (Fj D.heap.size w6 pv v):=zy M.o ai (by decide);clear ai am R aX av aN M q0 q1 Y;have ay:=ze (NG Z O (qv A D w3) I cb nb db pm nm C d l t k _ w6 bk.o bi.o aO.o);unfold yu at ay;go_wp2_with fail;refine ay.o.mono ?_;rintro r w7 ⟨rfl,aj,an⟩;have bm:Hid (zl (λb=>O b\/A b\/I b) Uh w w7):=aD.o.trans (aj.mono (λb h=>.inl (.inr (.inr h))) (by decide));have bg:=ze (aJ.o.below aj.size);have bj:Hid (Di I (qv I w6 w7) w w7):=⟨λ_ h=>.inl h,λb hb=>hb.imp id (λh=>⟨zt aD.o.size h.1,h.2⟩)⟩;have aP:=ze an;have ax:Hid (Fj D.heap.size w7 pv v):=zy N.o aj (by decide);clear aj an ay aD aJ aO N;obtain⟨L2,a7⟩:=aP.o.mem;have aQ:=ze (Pe .returning _ nm FI L2 _ a7);clear a7;unfold yu at aQ;go_wp2_with fail;refine Dp (f:=183) (args:=#[.pointer (some ⟨nm,0,none⟩)]) (by simp) (by simp[go_sem]) ?_;refine aQ.o.mono ?_;rintro e u' w9 ⟨rfl,rfl,be,bp,bs⟩;simp only[Leaves,settle];refine⟨.tuple #[pv,.nilIface],by simp[results,results146,go_sem],?_⟩;rw[aU.o.2];have ba:=ZW (P:=λ_=>True) bm.o bg.o bj.o aP.o be bp (zk _) (λ_=>trivial);exact⟨ba,v,pv,rfl,G5 (zy ax.o be (by decide)) bl.o,H8.o,HW.o.2,rfl⟩
end
abbrev zni:Go.Conc.Locks.MuLink:={lock:=143,unlock:=144,ilock:=187,iunlock:=188,lockSlow:=221,unlockSlow:=224,disable:=217,enable:=219,acquire:=220,relMerge:=222,cas32:=218,add32:=223,tMutex:=229,tIMutex:=227,tPMutex:=299,tPIMutex:=328,tPI32:=330,tUP:=255,tNoCopy:=224,tU32:=225}
def zmj:Go.Conc.Locks.MuLib prog zni:=
 ⟨func143,func144,func187,func188,func217,func219,func220,func222,func218,func223,
  underlying227,runUnderlying227,sizeOf227,isAgg227,zeroValue227,
  underlying229,runUnderlying229,sizeOf229,isAgg229,zeroValue229,
  underlying299,runUnderlying299,sizeOf299,isAgg299,zeroValue299,
  underlying328,runUnderlying328,sizeOf328,isAgg328,zeroValue328,
  underlying330,runUnderlying330,sizeOf330,isAgg330,zeroValue330,
  underlying255,runUnderlying255,sizeOf255,isAgg255,zeroValue255,
  underlying224,runUnderlying224,sizeOf224,isAgg224,zeroValue224,
  underlying21,runUnderlying21,sizeOf21,isAgg21,zeroValue21,(by kernel_rfl)⟩
def L0 (a:Addr)(w:World)(b:w.cell? a=some (.int .i32 0))(c:w.frozen? a=false):Calls prog 143 #[.pointer (some a)] w λe d=>e=.returned (.tuple #[])/\d=w.setCell a (.int .i32 1):=Go.MuLone.lock_free zmj a w b c
def Gt (a:Addr)(u:FrameMode)(w:World)(b:w.cell? a=some (.int .i32 1))(c:w.frozen? a=false):CallsD prog 144 #[.pointer (some a)] u w λe d f=>d=u/\(e=.returned (.tuple #[])/\f=w.setCell a (.int .i32 0)):=Go.MuLone.unlock_deferred zmj a u w b c
variable {C':Array Value}{c:Cl}{i:Nat}{v:Value}{w':World}
section
attribute [local go_sem ↓] j9 jx ve jy ju jt vd jw Et D8
structure CBl (C:Array Value)(nb pm nm:Nat)(c:Cl):Prop where
 ct:CCs C nb pm nm
 mu:C[0]?=some (.int .i32 0)
 key:C[3]?=some (qy c.key)
 num:MV C c.size c.root
structure Pv (W0 w:World)(O A OP:Nat->Prop)(cb nb pm nm:Nat)(c:Cl):Prop where
 own:∀b,A b\/OP b\/b=cb->W0.heap.size<=b/\b<w.heap.size/\¬O b
 sep:∀b,OP b->¬A b
 bS:¬A cb
 bT:¬OP cb
 aC:∃C,w.heap[cb]?=some (.cells C Bd (0,0))/\CBl C nb pm nm c
 aV:MA w OP pm c.room c.proved
 aM:Dj w A nm FI []
structure Sh (W0 w:World)(O:Nat->Prop)(nb db:Nat)(d:Dk)(n:Nt):Prop where
 base:zc W0 w
 own:∀b,O b->W0.heap.size<=b/\b<w.heap.size
 aG:ym w O db d
 al:De w O nb db n
 st:NSt d n
def Pv.cs {n:Nt}(h:Pv W0 w O A OP cb nb pm nm c)(e:Sh W0 w O nb db d n)(m:w.heap[cb]?=some (.cells C Bd (0,0)))(f:CCs C nb pm nm)(p:n.ai+2*k<4611686018427387904)(g:k<=1000000000):CS W0 w O A OP cb nb db pm nm C d c.room c.proved ⟨n,[]⟩ k:=
 ⟨e.base,λb a=>a.elim (λh=>(e.own b h).1) (λj=>(h.own b (.inl j)).1),λb o l=>(h.own b (.inl l)).2.2 o,λb a=>by
  rcases a with a|a|a
  ·exact(e.own b a).2
  ·exact(h.own b (.inl a)).2.1
  ·exact(h.own b (.inr (.inl a))).2.1,e.aG,e.al,e.st,p,m,f,h.aV,λb i a=>by
  rcases a with a|a
  ·exact(h.own b (.inr (.inl i))).2.2 a
  ·exact h.sep b i a,⟨[],h.aM,.nil,by simp⟩,by simpa using g⟩
def Sh.drop {a:Int}{m:Ms Nt}(h:CS W0 w O A OP cb nb db pm nm C d a pr m k):Sh W0 w O nb db d m.al:=
 ⟨h.base,λb c=>⟨h.own b (.inl c),h.lt b (.inl c)⟩,h.aG,h.al,h.st⟩
def CS.bu {a:Int}{m:Ms Nt}(h:CS W0 w O A OP cb nb db pm nm C d a pr m k)(f:zl (λb=>b=cb) [Bd] w w')(i:W0.heap.size<=cb/\¬A cb/\¬OP cb)(j:w'.heap[cb]?=some (.cells C' Bd (0,0)))(g:CCs C' nb pm nm):CS W0 w' O A OP cb nb db pm nm C' d a pr m k:=
 ⟨h.base.trans (f.below (λb c=>by rw[c];exact i.1) h.base.size),h.own,h.apart,λb c=>zq (h.lt b c) f.size,h.aG.stay f (by decide) (by decide),h.al.aj f (by decide) (by decide) (by decide),h.st,h.bk,j,g,h.aV.stay f (λb c e=>i.2.2 (by rw[<- e];exact c)) (by decide) (λ_ h=>h),h.aN,h.aM.stay f (λb c e=>i.2.1 (by rw[<- e];exact c)) (by decide) (by decide) (λ_ h=>h),h.short⟩
def CCs.set (h:CCs C nb pm nm)(i:Nat)(v:Value)(a:i≠2/\i≠13/\i≠14):CCs (C.setIfInBounds i v) nb pm nm:=
 ⟨by rw[jo a.1];exact h.al,by rw[jo a.2.1];exact h.aV,by rw[jo a.2.2];exact h.aM⟩
def MV.bW {b:Nat}{a:zb}(h:MV C b a)(v:Value):MV (C.setIfInBounds 0 v) b a:=
 ⟨by rw[jo (by omega)];exact h.sz,λj u c=>by rw[jo (by omega)];exact h.rt j u c,h.r8⟩
def zi1 (h:C[i]?=some v):C.setIfInBounds i v=C:=by
 apply Array.ext_getElem?;intro j
 by_cases a:i=j
 ·subst a;rw[Bf (Ap.1 h).1,h]
 ·rw[jo a]
def Xx (G:World)(O A F:Nat->Prop)(a K M L:Nat)(c:Cl)(w:World)(h:Pv G w O A F a K M L c):
  Calls prog 148 #[yu a] w λr B=>r=.returned (.agg (BN c.size c.root).toArray)/\zl (λb=>b=a) [Bd] w B/\B.heap[a]?=w.heap[a]?:=by
 obtain⟨C,z,y⟩:=h.aC;have q:=ze z;have m:=ze y;clear z y h;unfold yu
 go_enter_defers func148,ntmps148
 go_wp2_with fail;have d:Hid ((w.alloc (.cells #[.int .i64 0,.int .u8 0,.int .u8 0,.int .u8 0,.int .u8 0,.int .u8 0,.int .u8 0,.int .u8 0,.int .u8 0] 120)).heap[a]?=some (.cells C Bd (0,0))/\(w.alloc (.cells #[.int .i64 0,.int .u8 0,.int .u8 0,.int .u8 0,.int .u8 0,.int .u8 0,.int .u8 0,.int .u8 0,.int .u8 0] 120)).heap[w.heap.size]?=some (.cells (BN 0 BE).toArray 120 (0,0))/\zc w (w.alloc (.cells #[.int .i64 0,.int .u8 0,.int .u8 0,.int .u8 0,.int .u8 0,.int .u8 0,.int .u8 0,.int .u8 0,.int .u8 0] 120))/\a<w.heap.size):=⟨zr q.o,zf _ _,zi _ _,zg q.o⟩;generalize w.alloc (.cells #[.int .i64 0,.int .u8 0,.int .u8 0,.int .u8 0,.int .u8 0,.int .u8 0,.int .u8 0,.int .u8 0,.int .u8 0] 120)=p at *;have x:=ze (L0 ⟨a,0,none⟩ p (zm d.o.1 0 _ m.o.mu).1 (zm d.o.1 0 _ m.o.mu).2);refine x.o.mono ?_;rintro r Q ⟨rfl,rfl⟩;have n:Hid ((p.setCell ⟨a,0,none⟩ (.int .i32 1)).heap[a]?=some (.cells (C.setIfInBounds 0 (.int .i32 1)) Bd (0,0))):=Aw d.o.1 0 _;have j:Hid ((p.setCell ⟨a,0,none⟩ (.int .i32 1)).heap[w.heap.size]?=some (.cells (BN 0 BE).toArray 120 (0,0))):=by
  show _=_;rw[yh _ _ _ _ (by show w.heap.size≠a;have:=d.o.2.2.2;omega)];exact d.o.2.1
 have u:Hid (zl (λb=>b=a) [Bd] w (p.setCell ⟨a,0,none⟩ (.int .i32 1))):=zl.set (O:=λb=>b=a) (T:=[Bd]) (zl.aa d.o.2.2.1) (.inl rfl) d.o.1 (by simp) _;generalize p.setCell ⟨a,0,none⟩ (.int .i32 1)=i at *;have l:MV (C.setIfInBounds 0 (.int .i32 1)) c.size c.root:=m.o.num.bW _;have I:(QH (.pointer (some ⟨a,4,none⟩))).run prog i=.ok (.agg (BN c.size c.root).toArray) i:=Lz (l.range n.o) l.r8;have J:(IE (.pointer (some ⟨w.heap.size,0,none⟩)) (.agg (BN c.size c.root).toArray)).run prog i=.ok () (i.setCells w.heap.size 0 (BN c.size c.root)):=Fw (BG j.o) l.r8;have t:Hid ((i.setCells w.heap.size 0 (BN c.size c.root)).heap[w.heap.size]?=some (.cells (BN c.size c.root).toArray 120 (0,0))):=Cd j.o (by rw[FA _ l.r8];rfl);have g:Hid ((i.setCells w.heap.size 0 (BN c.size c.root)).heap[a]?=some (.cells (C.setIfInBounds 0 (.int .i32 1)) Bd (0,0))):=by
  show _=_;rw[Br _ _ (by have:=d.o.2.2.2;omega)];exact n.o
 have v:Hid (zl (λb=>b=a) [Bd] w (i.setCells w.heap.size 0 (BN c.size c.root))):=u.o.aB (zk _) _ _;have s:=ze d.o.2.2.2;have D:=ze l;clear x d j l;generalize N:i.setCells w.heap.size 0 (BN c.size c.root)=V at *;have k:(C.setIfInBounds 0 (.int .i32 1))[0]?=some (.int .i32 1):=Bf (Ap.1 m.o.mu).1;have E:=ze (Gt ⟨a,0,none⟩ .returning V (zm g.o 0 _ k).1 (zm g.o 0 _ k).2);clear k;go_wp2_with fail;refine Dp (f:=144) (args:=#[.pointer (some ⟨a,0,none⟩)]) (by simp) (by simp[go_sem]) ?_;refine E.o.mono ?_;rintro e P R ⟨rfl,rfl,rfl⟩;simp only[Leaves,settle];have H:(V.setCell ⟨a,0,none⟩ (.int .i32 0)).heap[w.heap.size]?=some (.cells (BN c.size c.root).toArray 120 (0,0)):=by
  rw[yh _ _ _ _ (by show w.heap.size≠a;have:=s.o;omega)];exact t.o
 refine⟨.agg (BN c.size c.root).toArray,?_,rfl,?_,?_⟩
 ·exact M3 results148 _ _ w.heap.size _ _ (0,0) _ rfl H underlying120 rfl (by rw[Yr,ql,FA _ D.o.r8])
 ·exact zl.set (O:=λb=>b=a) (T:=[Bd]) v.o (.inl rfl) g.o (by simp) _
 ·rw[Aw g.o,q.o];rw[Array.setIfInBounds_setIfInBounds,zi1 m.o.mu]
end
variable {A' OP':Nat->Prop}{c':Cl}{n':Nt}{w1 w2 w8:World}
section
attribute [local go_sem ↓] j9 jx ve jy ju jt vd jw Et D8
structure CR (W0 w w':World)(O A OP:Nat->Prop)(cb nb db pm nm:Nat)(d:Dk)(c':Cl)(n':Nt)(P:(Nat->Prop)->Prop):Prop where
 aj:zl (λb=>O b\/A b\/OP b\/b=cb) (Bd::Uh) w w'
 rest:∃A' OP',Di A A' w w'/\Di OP OP' w w'/\Pv W0 w' O A' OP' cb nb pm nm c'/\P OP'
 sh:Sh W0 w' O nb db d n'
def CBl.locked (h:CBl C nb pm nm c):CCs (C.setIfInBounds 0 (.int .i32 1)) nb pm nm/\(C.setIfInBounds 0 (.int .i32 1))[3]?=some (qy c.key)/\MV (C.setIfInBounds 0 (.int .i32 1)) c.size c.root/\(C.setIfInBounds 0 (.int .i32 1))[0]?=some (.int .i32 1):=
 ⟨h.ct.set 0 _ (by omega),by rw[jo (by omega)];exact h.key,h.num.bW _,Bf (Ap.1 h.mu).1⟩
def CBl.free (a:CCs C nb pm nm)(b:C[3]?=some (qy c.key))(d:MV C c.size c.root)(e:C[0]?=some (.int .i32 1)):CBl (C.setIfInBounds 0 (.int .i32 0)) nb pm nm c:=
 ⟨a.set 0 _ (by omega),Bf (Ap.1 e).1,by rw[jo (by omega)];exact b,d.bW _⟩
def Ux {n:Nt}(h:Pv W0 w O A OP cb nb pm nm c)(m:Sh W0 w O nb db d n)(e:w.heap[cb]?=some (.cells C Bd (0,0)))(i:CBl C nb pm nm c)(f:zc w w1)(l:n.ai+2*k<4611686018427387904)(g:k<=1000000000):
  CS W0 (w1.setCell ⟨cb,0,none⟩ (.int .i32 1)) O A OP cb nb db pm nm (C.setIfInBounds 0 (.int .i32 1)) d c.room c.proved ⟨n,[]⟩ k/\zl (λb=>b=cb) [Bd] w (w1.setCell ⟨cb,0,none⟩ (.int .i32 1)):=by
 have a:w1.heap[cb]?=some (.cells C Bd (0,0)):=(f.block _ (zg e)).trans e;have j:zl (λb=>b=cb) [Bd] w1 (w1.setCell ⟨cb,0,none⟩ (.int .i32 1)):=zl.set (O:=λb=>b=cb) (T:=[Bd]) (zl.refl _ _ _) (.inl rfl) a (by simp) _;refine⟨((h.cs m e i.ct l g).below f).bu j ⟨(h.own cb (.inr (.inr rfl))).1,h.bS,h.bT⟩ (Aw a 0 _) i.locked.1,?_⟩;exact(zl.aa f).trans (j.mono (λ_ h=>.inl h) (λ_ h=>h))
def JU (h:Pv W0 w O A OP cb nb pm nm c)(s:zl (λb=>b=cb) [Bd] w w2)(m:zl (λb=>O b\/A b\/OP b\/b=cb) (Bd::Uh) w2 w8)(p:Di A A' w2 w8)(o:Di OP OP' w2 w8)(a:CS W0 w8 O A' OP' cb nb db pm nm C d c'.room c'.proved ⟨n',[]⟩ k)
 (t:C[3]?=some (qy c'.key)) (u:MV C c'.size c'.root) (v:C[0]?=some (.int .i32 1)) {P:(Nat->Prop)->Prop}(x:¬OP' cb->P OP'):CR W0 w (w8.setCell ⟨cb,0,none⟩ (.int .i32 0)) O A OP cb nb db pm nm d c' n' P:=by
 have j:=h.own cb (.inr (.inr rfl));have z:=s.size;have B:=m.size;have l:¬A' cb:=λe=>by
  rcases p.2 cb e with e|e
  ·exact h.bS e
  ·omega
 have i:¬OP' cb:=λe=>by
  rcases o.2 cb e with e|e
  ·exact h.bT e
  ·omega
 have n:zl (λb=>b=cb) [Bd] w8 (w8.setCell ⟨cb,0,none⟩ (.int .i32 0)):=zl.set (O:=λb=>b=cb) (T:=[Bd]) (zl.refl _ _ _) (.inl rfl) a.aC (by simp) _;have g:=a.bu n ⟨j.1,l,i⟩ (Aw a.aC 0 _) (a.cells.set 0 _ (by omega));have D:(w8.setCell ⟨cb,0,none⟩ (.int .i32 0)).heap.size=w8.heap.size:=by simp[World.setCell]
 refine⟨?_,⟨A',OP',⟨p.1,λb f=>(p.2 b f).imp id (λh=>⟨by omega,by omega⟩)⟩,⟨o.1,λb f=>(o.2 b f).imp id (λh=>⟨by omega,by omega⟩)⟩,?_,x i⟩,Sh.drop g⟩
 ·refine(s.mono (λb f=>.inr (.inr (.inr f))) (by decide)).trans ((m.mono (λ_ h=>.inl h) (λ_ h=>h)).trans (n.mono (λb f=>.inl (.inl (.inr (.inr (.inr f))))) (by decide)))
 ·refine⟨λb f=>?_,λb r q=>a.aN b r (.inr q),l,i,⟨_,Aw a.aC 0 _,CBl.free a.cells t u v⟩,g.aV,?_⟩
  ·rcases f with f|f|rfl
   ·exact⟨a.own b (.inr f),g.lt b (.inr (.inl f)),λe=>a.apart b e f⟩
   ·refine⟨?_,g.lt b (.inr (.inr f)),λe=>a.aN b f (.inl e)⟩;rcases o.2 b f with e|e
    ·exact(h.own b (.inr (.inl e))).1
    ·have:=a.base.size;have:=h.own cb (.inr (.inr rfl));omega
   ·exact⟨j.1,by omega,j.2.2⟩
  ·obtain⟨L,y,h0,-⟩:=g.aM;obtain rfl:L=[]:=h0.empty;exact y
def zil (t:World)(b:Nat->Addr)(O A B:Nat->Prop)(j v D G F:Nat)(d:Dk)(c:Cl)(n:Nt)(i:Int)(w:World)(I:vj t b)(h:Pv t w O A B j v G F c)(L:Sh t w O v D d n)(R:n.ai<4611686018427387904)(K:i<0\/(c.size:Int)<=i):
  Calls prog 147 #[yu j,.int .i64 i] w λr s=>CR t w s O A B j v D G F d c n (λ_=>True)/\r=.returned (.tuple #[.slice none 0 0,.slice none 0 0,Eg b 1]):=by
 obtain⟨C,u,q⟩:=h.aC;have H:=ze (L0 ⟨j,0,none⟩ w (zm u 0 _ q.mu).1 (zm u 0 _ q.mu).2);obtain⟨l,M⟩:=Ux (k:=0) h L u q (zu _ w) (by omega) (by omega);have g:=ze l;have y:=ze M;have x:=ze h;have a:=ze q.locked;have Q:=(zm l.aC 4 _ q.locked.2.2.1.sz).1;have S:=NX l.base I.range;have z:=ze (Gt ⟨j,0,none⟩ .returning (w.setCell ⟨j,0,none⟩ (.int .i32 1)).drew (zm g.o.aC 0 _ a.o.2.2.2).1 (zm g.o.aC 0 _ a.o.2.2.2).2);unfold yu
 go_enter_defers func147,ntmps147
 go_wp2_with fail;refine H.o.mono ?_;rintro r T ⟨rfl,rfl⟩;generalize w.setCell ⟨j,0,none⟩ (.int .i32 1)=p at *
 by_cases E:i<0
 ·clear K
  go_wp2
  go_region_held3 (λs=>s.cell? ⟨0,0,none⟩=some (.iface 392 (.pointer (some (b 1))))) (go_keep) (fail)
  rename_i m;go_wp2_with fail;refine Dp (f:=144) (args:=#[.pointer (some ⟨j,0,none⟩)]) (by simp) (by simp[go_sem]) ?_;refine z.o.mono ?_;rintro e N P ⟨rfl,rfl,rfl⟩;simp only[Leaves,settle];refine⟨.tuple #[.slice none 0 0,.slice none 0 0,Eg b 1],by simp[results,results147,go_sem,Eg],?_,rfl⟩;exact JU (w8:=p.drew) x.o y.o (zl.refl _ _ p).drew (Di.refl _ _ _) (Di.refl _ _ _) (g.o.below (zu _ p).drew) a.o.2.1 a.o.2.2.1 a.o.2.2.2 (λ_=>trivial)
 ·have J:(c.size:Int)<=i:=by omega
  go_wp2
  go_region_held3 (λs=>s.cell? ⟨0,0,none⟩=some (.iface 392 (.pointer (some (b 1))))) (go_keep) (fail)
  rename_i m;go_wp2_with fail;refine Dp (f:=144) (args:=#[.pointer (some ⟨j,0,none⟩)]) (by simp) (by simp[go_sem]) ?_;refine z.o.mono ?_;rintro e N P ⟨rfl,rfl,rfl⟩;simp only[Leaves,settle];refine⟨.tuple #[.slice none 0 0,.slice none 0 0,Eg b 1],by simp[results,results147,go_sem,Eg],?_,rfl⟩;exact JU (w8:=p.drew) x.o y.o (zl.refl _ _ p).drew (Di.refl _ _ _) (Di.refl _ _ _) (g.o.below (zu _ p).drew) a.o.2.1 a.o.2.2.1 a.o.2.2.2 (λ_=>trivial)
end
section
attribute [local go_sem ↓] j9 jx ve jy ju jt vd jw Et D8
def Di.aj (h:zl (λb=>O b\/A b\/OP b) Uh w w'):zl (λb=>O b\/A b\/OP b\/b=cb) (Bd::Uh) w w':=h.mono (λ_ a=>a.imp id (λh=>h.imp id .inl)) (λ_ c=>BV _ c)
def zlm (l:World)(E:Nat->Addr)(O A S:Nat->Prop)(j H K I N:Nat)(d:Dk)(c:Cl)(n:Nt)(i:Nat)(w:World)(hE:DW l)(hS:vj l E)(X:F0 l)(h:Pv l w O A S j H I N c)(hs:Sh l w O H K d n)(hf:n.ai+20000<4611686018427387904)(af:c.size<9223372036854775808)(hi:i<c.size)
 (G:∀p m',BI (qr d.fs) c.proved c.size ⟨n,[]⟩ (-1) i=(.inr p,m')->p.entry.length<=1000000) (ab:c.proved.length<=100000000000) (ag:Lb c.proved) (hH:TQ d.fs c.size) (ad:n.ao=[]) (aa:∃x,(GQ (qr d.fs) Oq c n i).1=.inr x) :
  Calls prog 147 #[yu j,.int .i64 i] w λr J=>∃a n' x,GQ (qr d.fs) Oq c n i=(.inr x,{c with proved:=a},n')/\CR l w J O A S j H K I N d {c with proved:=a} n' (Qa J I c.room a r)/\zmb w.heap.size J x r:=by
 obtain⟨C,W,t⟩:=h.aC;have HL:=ze (L0 ⟨j,0,none⟩ w (zm W 0 _ t.mu).1 (zm W 0 _ t.mu).2);obtain⟨F,ht⟩:=Ux (k:=8401) h hs W t (zu _ w) (by omega) (by omega);have HT:=ze ht;have HH:=ze h;have g:=ze t.locked;have R:Hid ((w.setCell ⟨j,0,none⟩ (.int .i32 1)).heap.size=w.heap.size):=by show _=_;simp[World.setCell]
 have c4:=(zm F.aC 4 _ t.locked.2.2.1.sz).1;have B:=ze (Rp l E O A S j H K I N _ d c.room c.proved n 0 c.size i c.key c.root af hi t.locked.2.2.1 hE hS X (λA' D a k' m' J=>NG l O A' D j H K I N _ d c.room a k' m' J) hH ad aa G ab ag (λb hb=>(h.own b (.inr (.inl hb))).1) _ (F.less (by have:=Tp c.size i (by omega);unfold rPl;omega)));have ak:¬(i:Int)<0:=by omega
 have ah:(i:Int)<(c.size:Int):=by omega
 unfold yu at B ⊢
 go_enter_defers func147,ntmps147
 go_wp2_with fail;refine HL.o.mono ?_;rintro r w2 ⟨rfl,rfl⟩;generalize w.setCell ⟨j,0,none⟩ (.int .i32 1)=W2 at *;go_wp2_with fail;refine B.o.mono ?_;rintro r w8 ⟨a,n2,y,ae,m,x,v,L,M,U,V,rfl⟩;have Q:=ze ae;have HR:=ze (And.intro L (And.intro M (And.intro U V)));obtain⟨A',D,hA,hP,q,Z⟩:=m.cs;have P:=ze Z;have HU:=ze (Gt ⟨j,0,none⟩ .returning w8 (zm q.aC 0 _ g.o.2.2.2).1 (zm q.aC 0 _ g.o.2.2.2).2);have z:=ze m;have HA:=ze hA;have HP:=ze hP;have u:=ze q;go_wp2_with fail;refine Dp (f:=144) (args:=#[.pointer (some ⟨j,0,none⟩)]) (by simp) (by simp[go_sem]) ?_;refine HU.o.mono ?_;rintro e u' w9 ⟨rfl,rfl,rfl⟩;simp only[Leaves,settle];refine⟨.tuple #[x,v,.nilIface],by simp[results,results147,go_sem],?_⟩;have s:=zl.set (O:=λb=>b=j) (T:=[Bd]) (zl.refl _ _ w8) (.inl rfl) u.o.aC (by simp) (.int .i32 0) (o:=0);refine⟨a,n2,y,Q.o,JU (w8:=w8) (c':={c with proved:=a}) HH.o HT.o (Di.aj z.o.aj) HA.o HP.o u.o g.o.2.1 g.o.2.2.1 g.o.2.2.2 (λY x' v' e' he=>OM.on (P.o x' v' e' he) s (λk hk e=>Y (e▸hk)) (by decide)),?_⟩;obtain⟨L,M,U,V⟩:=HR.o;rw[R.o]at L M;exact⟨x,v,L.imp id (λh=>⟨zy h.1 s (by decide),h.2⟩),zy M s (by decide),U,V,rfl⟩
end
end Go.Proofs.YtfdbeldiomkdiaaGreatDoor
