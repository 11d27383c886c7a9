import Derived.Test.YtfdbeldiomkdiaaGreatDoorG01
set_option maxHeartbeats 8000000
set_option maxRecDepth 100000
set_option linter.all false
namespace Go.Proofs.YtfdbeldiomkdiaaGreatDoor
open Go.RowKit Go.Proofs.Tryz
def zo:=@List.getElem?_eq_getElem
def yi:=@List.mem_map
def yj:=@List.mem_append
def yl:=@List.mem_singleton
def xj:=@Prod.mk.injEq
def qw:=@Nat.lt_of_le_of_lt
def ja:=@decide_eq_true_eq
def ji:=@List.getElem_of_mem
def jr:=@World.setRow_alloc_new
def vx:=@Nat.le_of_eq
def Ap:=@Array.getElem?_eq_some_iff
def A3:=@Bool.and_eq_true
def AW:=@List.all_eq_true
def Cj:=@run_underlying
def Dw:=@Nat.eq_zero_or_pos
def J2:=@List.dropLast_subset
def Mq:=@Below.trans
def Mt:=@List.all_eq_false
variable {B g:Nat}{C:Array Value}{P:Program}{fr:Nat × Nat}{ns:Nat->Nat}{t:TypeId}{w w' w0:World}
def AV (b:Nat):∀(a:List Value) (o:Nat) (w:World) (k:Nat),k≠b->(w.setCells b o a).heap[k]?=w.heap[k]?
 |[],_,_,_,_=>rfl
 |v::r,o,w,k,h=>by rw[World.setCells,AV b r (o+1) _ k h,Below.heap_setCell _ _ _ _ h]
def C7 (b:Nat):∀(e:List Value) (o:Nat) (w:World),(w.setCells b o e).os=w.os/\(w.setCells b o e).tape=w.tape/\(w.setCells b o e).output=w.output/\(w.setCells b o e).heap.size=w.heap.size
 |[],_,_=>⟨rfl,rfl,rfl,rfl⟩
 |v::r,o,w=>by
  obtain⟨a,f,c,d⟩:=C7 b r (o+1) (w.setCell ⟨b,o,none⟩ v);exact⟨a,f,c,by rw[World.setCells,d];simp[World.setCell]⟩
structure F2 (B T:Nat)(w w':World):Prop where
 os:w'.os=w.os
 tape:w'.tape=w.tape
 output:w'.output=w.output
 size:w'.heap.size=w.heap.size
 block:∀k,k<B\/T<=k->w'.heap[k]?=w.heap[k]?
def F2.refl (B T:Nat)(w:World):F2 B T w w:=⟨rfl,rfl,rfl,rfl,λ_ _=>rfl⟩
def F2.set {T:Nat}(h:F2 B T w w')(g:Nat)(i:B<=g)(j:g<T)(o:Nat)(e:List Value):F2 B T w (w'.setCells g o e):=by
 obtain⟨a,b,c,d⟩:=C7 g e o w';exact⟨a.trans h.os,b.trans h.tape,c.trans h.output,d.trans h.size,λk f=>by rw[AV g e o w' k (by omega)];exact h.block k f⟩
def Ll (w:World)(t e f:TypeId)(z:Value)(d:P.underlying t=some (.slice e))(hv:∀w,(zeroValue e).run P w=.ok z w)(i:z.cells=#[z])(h:z.oneCell'=true)(g n c:Nat)(a:w.there g 0 n):
  (Builtin.clear_ #[t] f #[.slice (some ⟨g,0,none⟩) n c]).run P w=.ok (.tuple #[]) (w.setCells g 0 (List.replicate n z)):=by
 by_cases h0:n=0
 ·subst h0;simp[Builtin.clear_,Cj d,World.setCells]
 ·exact Lib.run_clear_slice w t e f z d hv i h g 0 n c (by omega) (λj b=>(a j b).1) (λj b=>(a j b).2)
def Qt (w:World)(t e d:TypeId)(b:P.underlying t=some (.slice e))(a:Option Addr)(c:Nat):
  (Builtin.clear_ #[t] d #[.slice a 0 c]).run P w=.ok (.tuple #[]) w:=by
 cases a<;>simp[Builtin.clear_,Cj b]
def Hp {n:Nat}(b:w.heap[g]?=some (.cells C t fr))(e:n<=C.size)(a:n<=fr.1\/fr=(0,0)):w.there g 0 n:=λj d=>by
 refine⟨by rw[xk,xe _ _ _ _ _ _ b,D9 (by omega)];rfl,?_⟩;obtain⟨f,c⟩:=fr;unfold World.frozen?;simp only[b,xk];rcases a with a|a
 ·simp at a ⊢;omega
 ·simp only[xj]at a;simp[a.1,a.2]
structure Sp (B T:Nat)(w0 w:World)(g n:Nat)(gs ns cs:Nat->Nat):Prop where
 within:F2 B T w0 w
 row:w.there g 0 n
 gB:B<=g
 gT:g<T
 cell:∀j,j<n->w.cell? ⟨g,j,none⟩=some (.slice (some ⟨gs j,0,none⟩) (ns j) (cs j))
 el:∀j,j<n->w.there (gs j) 0 (ns j)/\B<=gs j/\gs j<T/\gs j≠g
def Sp.next {T:Nat}{n:Nat}{b c:Nat->Nat}(h:Sp B T w0 w g n b ns c)(k:Nat)(l:k<n)(z:Value):Sp B T w0 (w.setCells (b k) 0 (List.replicate (ns k) z)) g n b ns c:=by
 obtain⟨_,d,f,i⟩:=h.el k l;refine⟨h.within.set _ d f _ _,World.there_setCells h.row _ _ _,h.gB,h.gT,λj a=>?_,λj a=>?_⟩
 ·rw[World.cell?_setCells_out _ _ _ _ _ (λe=>absurd e.symm i)];exact h.cell j a
 ·exact⟨World.there_setCells (h.el j a).1 _ _ _,(h.el j a).2⟩
def NR (w:World):(zeroValue 5).run prog w=.ok (.int .u8 0) w:=by kernel_rfl
def zeu (w:World):(zeroValue 94).run prog w=.ok (.slice none 0 0) w:=by kernel_rfl
def Zh (B T:Nat)(w:World)(g n c:Nat)(e f l:Nat->Nat)(v:n<=1000000)(h:Sp B T w w g n e f l):
  Calls prog 60 #[.slice (some ⟨g,0,none⟩) n c] w λr s=>r=.returned (.tuple #[])/\F2 B T w s:=by
 have H:=ze h;clear h;go_enter func60,ntmps60
 go_wp2
 go_loopw [6] (λi wr=>∃k:Nat,k<=n/\i=.int .i64 k/\Sp B T w wr g n e f l) (λi _=>n-(intOf i).toNat)
 case atStart=>exact⟨0,yk _,rfl,H.o⟩
 case round =>
  obtain⟨k,u,rfl,d⟩:=hrel;have a:=ze d;clear d
  by_cases b:k<n
  ·have t:=a.o.cell k b;have m:=λp=>Ll (P:=prog) wr 94 5 p (.int .u8 0) underlying94 NR rfl rfl (e k) (f k) (l k) (a.o.el k b).1;have j:=ze (a.o.next k b (.int .u8 0));generalize wr.setCells (e k) 0 (List.replicate (f k) (.int .u8 0))=q at *
   go_wp2
   go_roundw
   case rel=>exact⟨k+1,by omega,by go_num,j.o⟩
   case measure=>simp[intOf];omega
  ·have m:=λp=>Ll (P:=prog) wr 88 94 p (.slice none 0 0) underlying88 zeu rfl rfl g n c a.o.row;have j:=ze (a.o.within.set g a.o.gB a.o.gT 0 (List.replicate n (.slice none 0 0)));generalize wr.setCells g 0 (List.replicate n (.slice none 0 0))=q at *
   go_wp2
   go_end0
   exact⟨rfl,j.o⟩
def RA (B T:Nat)(w:World)(a:Option Addr)(b:Nat):
  Calls prog 60 #[.slice a 0 b] w λr e=>r=.returned (.tuple #[])/\F2 B T w e:=by
 have c:=λd=>Qt (P:=prog) w 88 94 d underlying88 a b;go_enter func60,ntmps60;go_wp2_with fail;refine FB 1 ?_;rw[vu]
 go_wp2
 go_end0
 exact⟨rfl,F2.refl _ _ _⟩
def zd6 (B:Nat)(d w:World)(v:Value)(b:za)(E:b.length<=1000000)(h:EBs d B v b)(o:zc d w):
  Calls prog 60 #[v] w λr I=>r=.returned (.tuple #[])/\F2 B d.heap.size w I:=by
 obtain⟨t,⟨K,F⟩,H⟩:=h;rcases F with ⟨rfl,h0⟩|⟨g,k,l,rfl,z,i,p,L,M,G⟩
 ·exact RA _ _ _ _ _
 by_cases h0:b.length=0
 ·rw[h0];exact RA _ _ _ _ _
 have f:∀j,∃q:Nat×Nat×Nat,j<b.length->t[j]?=some (.slice (some ⟨q.1,0,none⟩) q.2.1 q.2.2)/\w.there q.1 0 q.2.1/\B<=q.1/\q.1<d.heap.size/\q.1≠g:=by
  intro j
  by_cases c:j<b.length
  ·obtain⟨x,e,y,u,C,J,rfl,m,a,A,D⟩:=H j c;refine⟨(y,b[j].length,u),λ_=>⟨e,?_,m,vk a,?_⟩⟩
   ·refine Hp (by rw[o.block _ (vk a)];exact a) ?_ (.inl D);show b[j].length<=C.size;rcases Dw b[j].length with h|h
    ·omega
    ·have:=A (b[j].length-1) (by omega);have:=(Ap.1 this).1;omega
   ·rintro rfl;rw[i]at a;simp at a
  ·exact⟨(0,0,0),λh=>absurd h c⟩
 have n:∃q:Nat->Nat×Nat×Nat,∀j,j<b.length->t[j]?=some (.slice (some ⟨(q j).1,0,none⟩) (q j).2.1 (q j).2.2)/\w.there (q j).1 0 (q j).2.1/\B<=(q j).1/\(q j).1<d.heap.size/\(q j).1≠g:=⟨λj=>Classical.choose (f j),λj=>Classical.choose_spec (f j)⟩;obtain⟨q,s⟩:=n;have a:w.heap[g]?=some (.cells l 94 (0,0)):=by rw[o.block _ (vk i)];exact i
 refine Zh B d.heap.size w g b.length k (λj=>(q j).1) (λj=>(q j).2.1) (λj=>(q j).2.2) E ⟨F2.refl _ _ _,Hp a (by omega) (.inr rfl),z,vk i,λj c=>?_,λj c=>(s j c).2⟩;rw[xe _ _ _ _ _ _ a];have e:=(s j c).1;rw[<- G,Ba,qi,if_pos c]at e;simpa using e
def YA (w:World)(O:Obj)(a b:zb)(c:a.length=8)(d:b.length=8):
  JW (((((w.alloc (.cells (hv a) 91)).alloc (.cells (hv b) 91)).alloc O).alloc (.cells #[.int .u8 1] 5)).alloc
   (.cells #[.slice (some ⟨w.heap.size+1+1+1,0,none⟩) 1 1,.slice (some ⟨w.heap.size,0,none⟩) 8 8,.slice (some ⟨w.heap.size+1,0,none⟩) 8 8] 94)) (.slice (some ⟨w.heap.size+1+1+1+1,0,none⟩) 3 3) [[1],a,b]:=by
 refine⟨_,_,rfl,zk _,.inr ⟨_,_,rfl,λi e=>?_⟩⟩
 match i,e with
 |0,_ =>
  refine⟨.slice (some ⟨w.heap.size+1+1+1,0,none⟩) 1 1,by rw[F5 _ _ _ _ _ (by simp)];rfl,?_⟩;exact(Bs.fresh _ [1] _ _ (by simp) 1).below (zi _ _)
 |1,_ =>
  refine⟨.slice (some ⟨w.heap.size,0,none⟩) 8 8,by rw[F5 _ _ _ _ _ (by simp)];rfl,?_⟩;have h:=(Bs.fresh w a 91 _ rfl 8);rw[c]at h;exact(h.below (Bv _ _ _ _)).below (zi _ _)
 |2,_ =>
  refine⟨.slice (some ⟨w.heap.size+1,0,none⟩) 8 8,by rw[F5 _ _ _ _ _ (by simp)];rfl,?_⟩;have h:=(Bs.fresh (w.alloc (.cells (hv a) 91)) b 91 (w.heap.size+1) (by simp) 8);rw[d]at h;exact h.below (Bv _ _ _ _)
def MB (l:zb)(h:l.length=8):∃a b c d e f g i:Int,hv l=#[.int .u8 a,.int .u8 b,.int .u8 c,.int .u8 d,.int .u8 e,.int .u8 f,.int .u8 g,.int .u8 i]:=by
 obtain⟨j,k,m,n,o,p,q,r,rfl⟩:=XC l h;exact⟨_,_,_,_,_,_,_,_,rfl⟩
def Qk {a:World}(h:Below B a w)(b:B<=g)(c d e f i j k l:Value):
  Below B a ((((((((w.setCell ⟨g,0,none⟩ c).setCell ⟨g,1,none⟩ d).setCell ⟨g,2,none⟩ e).setCell ⟨g,3,none⟩ f).setCell ⟨g,4,none⟩ i).setCell ⟨g,5,none⟩ j).setCell ⟨g,6,none⟩ k).setCell ⟨g,7,none⟩ l):=
 (((((((h.setCell b _).setCell b _).setCell b _).setCell b _).setCell b _).setCell b _).setCell b _).setCell b _
def zjh (a:w.heap[g]?=some (.cells #[Value.int IntKind.u8 0,Value.int IntKind.u8 0,Value.int IntKind.u8 0,Value.int IntKind.u8 0,Value.int IntKind.u8 0,Value.int IntKind.u8 0,Value.int IntKind.u8 0,Value.int IntKind.u8 0] t (0,0))):
  (w.cell? ⟨g,0,none⟩=some (.int .u8 0)/\w.cell? ⟨g,1,none⟩=some (.int .u8 0)/\w.cell? ⟨g,2,none⟩=some (.int .u8 0)/\w.cell? ⟨g,3,none⟩=some (.int .u8 0)/\w.cell? ⟨g,4,none⟩=some (.int .u8 0)/\w.cell? ⟨g,5,none⟩=some (.int .u8 0)/\w.cell? ⟨g,6,none⟩=some (.int .u8 0)/\w.cell? ⟨g,7,none⟩=some (.int .u8 0))/\∀j,w.frozen? ⟨g,j,none⟩=false:=by
 refine⟨⟨?_,?_,?_,?_,?_,?_,?_,?_⟩,λj=>frozen_of_row _ _ _ _ _ a⟩<;>(rw[xe _ _ _ _ _ _ a];rfl)
def zcl (a b:zb)(w:World)(h:a.length=8)(i:b.length=8){g:Array Value}(m:hv (vf a b)=g):
  Calls prog 108 #[.slice (some ⟨w.heap.size+1+1+1+1,0,none⟩) 3 3] (((((w.alloc (.cells (hv a) 91)).alloc (.cells (hv b) 91)).alloc (.cells #[Value.int IntKind.u8 0,Value.int IntKind.u8 0,Value.int IntKind.u8 0,Value.int IntKind.u8 0,Value.int IntKind.u8 0,Value.int IntKind.u8 0,Value.int IntKind.u8 0,Value.int IntKind.u8 0] 91)).alloc (.cells #[.int .u8 1] 5)).alloc
   (.cells #[.slice (some ⟨w.heap.size+1+1+1,0,none⟩) 1 1,.slice (some ⟨w.heap.size,0,none⟩) 8 8,.slice (some ⟨w.heap.size+1,0,none⟩) 8 8] 94)).drew
   λe c=>e=.returned (.agg g)/\((c.cell? ⟨w.heap.size+1+1,0,none⟩=some (.int .u8 0)/\c.cell? ⟨w.heap.size+1+1,1,none⟩=some (.int .u8 0)/\c.cell? ⟨w.heap.size+1+1,2,none⟩=some (.int .u8 0)/\c.cell? ⟨w.heap.size+1+1,3,none⟩=some (.int .u8 0)/\c.cell? ⟨w.heap.size+1+1,4,none⟩=some (.int .u8 0)/\c.cell? ⟨w.heap.size+1+1,5,none⟩=some (.int .u8 0)/\c.cell? ⟨w.heap.size+1+1,6,none⟩=some (.int .u8 0)/\c.cell? ⟨w.heap.size+1+1,7,none⟩=some (.int .u8 0))/\∀j,c.frozen? ⟨w.heap.size+1+1,j,none⟩=false)/\Hid (zc w c):=by
 refine(Kl _ [[1],a,b] _ (by unfold maxLen;simp) ?_ (by exact YA w _ a b h i)).mono ?_
 ·intro l f;simp at f;rcases f with rfl|rfl|rfl<;>simp[maxLen, *]
 rintro r c ⟨k,d⟩;refine⟨?_,zjh (t:=91) ?_,?_⟩
 ·rw[k,<- m];simp[vf]
 ·rw[d.block _ (by simp)];exact zr (zr (by rw[show w.heap.size+1+1=((w.alloc (.cells (hv a) 91)).alloc (.cells (hv b) 91)).heap.size by simp];exact zf _ _))
 ·refine Mq (b:=(((((w.alloc (.cells (hv a) 91)).alloc (.cells (hv b) 91)).alloc (.cells #[Value.int IntKind.u8 0,Value.int IntKind.u8 0,Value.int IntKind.u8 0,Value.int IntKind.u8 0,Value.int IntKind.u8 0,Value.int IntKind.u8 0,Value.int IntKind.u8 0,Value.int IntKind.u8 0] 91)).alloc (.cells #[.int .u8 1] 5)).alloc
   (.cells #[.slice (some ⟨w.heap.size+1+1+1,0,none⟩) 1 1,.slice (some ⟨w.heap.size,0,none⟩) 8 8,.slice (some ⟨w.heap.size+1,0,none⟩) 8 8] 94)).drew) ?_ (d.mono (by simp;omega))
  exact((Bv w _ _ _).trans ((qg _ _ _).mono (by simp;omega))).drew
def Ev (a b:zb)(w:World)(s:a.length=8)(t:b.length=8):
  Calls prog 110 #[.agg (hv a),.agg (hv b)] w λr d=>r=.returned (.agg (hv (vf a b)))/\zc w d:=by
 obtain⟨x,y,z,A,B,C,D,E,u⟩:=MB (vf a b) (vm a b);have c:=ze u;have g:=ze s;have h:=ze t;go_enter func110,ntmps110
 go_wp2
 go_region_with (go_at_call 108;(refine(zcl a b w g.o h.o c.o).mono ?_;rintro e d ⟨rfl,⟨⟨i,j,k,l,m,n,p,q⟩,F⟩,f⟩))
 go_wp2
 refine zv (v:=.agg #[.int .u8 x,.int .u8 y,.int .u8 z,.int .u8 A,.int .u8 B,.int .u8 C,.int .u8 D,.int .u8 E]) (by simp[results,results110,go_sem,i,j,k,l,m,n,p,q]) rfl ⟨by rw[c.o],?_⟩;exact Qk f.o (by omega) _ _ _ _ _ _ _ _
variable {w1 w2:World}
def Tw (f:Nat)(v:Value)(b:za)(w:World)(h0:b.length=0)(h:JW w v b):
  Calls prog 59 #[v] w λr d=>r=.returned (.agg (hv (j7 f b)))/\zc w d:=by
 obtain⟨a,j,rfl,i,-⟩:=h;rw[Dd f b h0,h0];go_enter func59,ntmps59;go_wp2_with fail;refine(Kl _ [] _ (by simp) (λl m=>by simp at m) ⟨none,0,rfl,zk _,.inl rfl⟩).mono ?_;rintro r d ⟨n,g⟩;have c:=n;subst c;have k:d.heap[w.heap.size]?=some (.cells #[Value.int IntKind.u8 0,Value.int IntKind.u8 0,Value.int IntKind.u8 0,Value.int IntKind.u8 0,Value.int IntKind.u8 0,Value.int IntKind.u8 0,Value.int IntKind.u8 0,Value.int IntKind.u8 0] 91 (0,0)):=by
  rw[g.block _ (by simp)];exact zf _ _
 have e:=ze k;go_wp2_with (refine yw rfl 91 _ _ rfl w.heap.size (hv (hash [])) rfl rfl 91 _ e.o (by kernel_rfl) rfl (Cr _) ?_);refine zv (v:=.agg (hv (hash []))) (Ca results59 _ _ w.heap.size 91 _ (0,0) _ rfl (Av _ _ _ _ _ _ e.o) underlying91 rfl (by kernel_rfl)) rfl ⟨rfl,?_⟩;exact Ag ((zi _ _).trans (g.mono (by simp))) (zk _) _
def zir (f:Nat)(v:Value)(d:za)(w:World)(k:d.length=1)(A:∀l∈d,l.length<=maxLen)(h:JW w v d):
  Calls prog 59 #[v] w λr i=>r=.returned (.agg (hv (j7 (f+1) d)))/\zc w i:=by
 rw[Gm f d k];obtain⟨e,rfl⟩:=List.length_eq_one_iff.1 k;obtain⟨a,u,rfl,n,h⟩:=h;rcases h with h|⟨b,c,rfl,y⟩
 ·simp at h
 obtain⟨x,q,g⟩:=y 0 (by simp);have t:=ze (A e (by simp));have s:=ze g;have B:∀o,(w.alloc o).cell? ⟨b,c,none⟩=some x:=λo=>by rw[xg _ _ ⟨b,c,none⟩ (yf (p:=⟨b,c+0,none⟩) q)];exact q
 simp only[Cu,List.headD_cons]at *;go_enter func59,ntmps59;go_wp2_with fail;refine(QB x e _ t.o (s.o.below (zi _ _))).mono ?_;rintro r i ⟨rfl,m⟩;have z:i.heap[w.heap.size]?=some (.cells #[Value.int IntKind.u8 0,Value.int IntKind.u8 0,Value.int IntKind.u8 0,Value.int IntKind.u8 0,Value.int IntKind.u8 0,Value.int IntKind.u8 0,Value.int IntKind.u8 0,Value.int IntKind.u8 0] 91 (0,0)):=by
  rw[m.block _ (by simp)];exact zf _ _
 have j:=ze z;go_wp2_with (refine yw rfl 91 _ _ rfl w.heap.size (hv (AH e)) rfl rfl 91 _ j.o (by kernel_rfl) rfl (Cr _) ?_);refine zv (v:=.agg (hv (AH e))) (Ca results59 _ _ w.heap.size 91 _ (0,0) _ rfl (Av _ _ _ _ _ _ j.o) underlying91 rfl (by kernel_rfl)) rfl ⟨rfl,?_⟩;exact Ag ((zi _ _).trans (m.mono (by simp))) (zk _) _
def Own (w a:World):Prop:=zc w a/\a.heap[w.heap.size]?=some (.cells #[Value.int IntKind.u8 0,Value.int IntKind.u8 0,Value.int IntKind.u8 0,Value.int IntKind.u8 0,Value.int IntKind.u8 0,Value.int IntKind.u8 0,Value.int IntKind.u8 0,Value.int IntKind.u8 0] 91 (0,0))
def Own.start (w:World):Own w (w.alloc (.cells #[Value.int IntKind.u8 0,Value.int IntKind.u8 0,Value.int IntKind.u8 0,Value.int IntKind.u8 0,Value.int IntKind.u8 0,Value.int IntKind.u8 0,Value.int IntKind.u8 0,Value.int IntKind.u8 0] 91)).drew:=
 ⟨(zi _ _).drew,zf _ _⟩
def Own.next (h:Own w w1)(c:zc w1 w2):Own w w2:=by
 have d:=h.1.size;have b:w.heap.size<w1.heap.size:=by
  rcases qf w.heap.size w1.heap.size with a|a
  ·exact a
  ·have:=h.2;simp[A7 a]at this
 exact⟨h.1.trans (c.mono d),by rw[c.block _ b];exact h.2⟩
def zdw (f:Nat)(b d c:Nat)(a:za)(w:World)(n:2<=a.length)(M:a.length<=1000000)(B:a.length<=c)(j:∀l∈a,l.length<=maxLen)(h:JW w (.slice (some ⟨b,d,none⟩) a.length c) a)
 (O:∀(v:Value) (a:za) (w:World),a.length<=f->a.length<=1000000->(∀l∈a,l.length<=maxLen)->JW w v a->Calls prog 59 #[v] w λr k=>r=.returned (.agg (hv (j7 f a)))/\zc w k) (L:a.length<=f+1) :
  Calls prog 59 #[.slice (some ⟨b,d,none⟩) a.length c] w λr k=>r=.returned (.agg (hv (j7 (f+1) a)))/\zc w k:=by
 obtain⟨X,Y,Z⟩:=Be a.length n;rw[Ct f a n];have C:yo a.length<=a.length:=by omega
 obtain⟨P,Q,R,S,T,U,V,W,N⟩:=MB (vf (j7 f (a.take (yo a.length))) (j7 f (a.drop (yo a.length)))) (vm _ _);have u:=ze N;have t:=ze j;have H:=ze h;have x:=ze O;have f1:(a.take (yo a.length)).length<=f:=by simp;omega
 have f2:(a.drop (yo a.length)).length<=f:=by simp;omega
 have f3:(a.take (yo a.length)).length<=1000000:=by simp;omega
 have f4:(a.drop (yo a.length)).length<=1000000:=by simp;omega
 have F:=ze (And.intro f1 (And.intro f2 (And.intro f3 f4)));have n1:((a.length:Int)==0)=false:=yp.2 (by omega);have n2:((a.length:Int)==1)=false:=yp.2 (by omega);go_enter func59,ntmps59;go_wp2_with fail;refine(Mi a.length _ n (zt M (by decide))).mono ?_;rintro e k ⟨rfl,rfl⟩;have y:(yo a.length:Int)<=(c:Int):=by omega
 have z:(yo a.length:Int)<=(a.length:Int):=by omega
 have A:(0:Int)<=(yo a.length:Int):=by omega
 go_wp2
 go_region_with (first
  |(go_at_call_of 59 (Value.slice (some (⟨b,d,none⟩:Addr)) (yo a.length) c);refine(x.out _ (a.take (yo a.length)) _ F.out.1 F.out.2.2.1 (λl j=>t.o l (qa j)) (by exact(H.o.take _ C).below (Own.start w).1)).mono ?_;rintro e w1 ⟨rfl,p⟩;have g:=ze ((Own.start w).next p))
  |(go_at_call_of 59 (Value.slice (some (⟨b,d+yo a.length,none⟩:Addr)) (a.length-yo a.length) (c-yo a.length));refine(x.out _ (a.drop (yo a.length)) _ F.out.2.1 F.out.2.2.2 (λl j=>t.o l (jz j)) (by exact(H.o.drop _ C).below g.o.1)).mono ?_;rintro e w2 ⟨rfl,q⟩;have m:=ze (g.o.next q))
  |(go_at_call 110;refine(Ev _ _ _ (j5 _ _) (j5 _ _)).mono ?_;rintro e w3 ⟨D,s⟩;rw[u.o]at D;subst D;have i:=ze (m.o.next s);obtain⟨⟨E,y,z,A,G,I,J,K⟩,L⟩:=zjh i.o.2))
 go_wp2
 refine zv (v:=.agg #[.int .u8 P,.int .u8 Q,.int .u8 R,.int .u8 S,.int .u8 T,.int .u8 U,.int .u8 V,.int .u8 W]) (by simp[results,results59,go_sem,E,y,z,A,G,I,J,K]) rfl ⟨by rw[u.o],?_⟩;exact Qk i.o.1 (zk _) _ _ _ _ _ _ _ _
def I8 (f:Nat):∀(v:Value) (c:za) (w:World),c.length<=f->c.length<=1000000->(∀l∈c,l.length<=maxLen)->JW w v c ->
  Calls prog 59 #[v] w λr p=>r=.returned (.agg (hv (j7 f c)))/\zc w p:=by
 induction f with
 |zero=>exact λv c w i _ _ h=>Tw 0 v c w (by omega) h
 |succ f o =>
  intro v c w i n j h
  by_cases h0:c.length=0
  ·exact Tw _ v c w h0 h
  by_cases m:c.length=1
  ·exact zir f v c w m j h
  ·have k:=h;obtain⟨a,e,rfl,d,h⟩:=h;rcases h with h|⟨b,g,rfl,-⟩
   ·exact absurd (by simp[h]) h0
   ·exact zdw f b g e c w (by omega) n d j k o i
variable {ss:List ByteArray}
def F2.below {T:Nat}(a:Below B w w1)(b:F2 B T w1 w2):Below B w w2:=
 ⟨b.os.trans a.os,b.tape.trans a.tape,b.output.trans a.output,by rw[b.size];exact a.size,λk c=>(b.block k (.inl c)).trans (a.block k c)⟩
def Sm (f:Nat)(v:Value)(b:List ByteArray)(w:World)(G:b.length<=f)(p:b.length<=1000000)(B:∀s∈b,s.size<=maxLen)(h:CT w v b):
  Calls prog 15 #[v] w λr I=>r=.returned (AL (j7 f (A0 b)))/\zc w I:=by
 have C:Hid (∀l∈A0 b,l.length<=maxLen):=by
  intro l n;obtain⟨s,j,rfl⟩:=yi.1 n;simpa using B s j
 have H:=ze h;clear B;obtain⟨a,D,rfl,i,E⟩:=h;clear E i;go_enter func15,ntmps15;go_wp2_with fail;refine(Ja _ b w p H.o).mono ?_;rintro r J ⟨x,rfl,e,z⟩;have d:=ze e;have u:=ze z;clear e z;go_wp2_with fail;refine(I8 f x (A0 b) _ (by rw[jd];exact G) (by rw[jd];exact p) C.o u.o.cg).mono ?_;rintro r k ⟨rfl,g⟩;have c:=ze g;clear g;have j:=BU (j7 f (A0 b));rw[j5]at j;have y:=ze j;clear j;go_wp2_with (refine yw rfl 91 _ _ rfl k.heap.size (hv (j7 f (A0 b))) rfl rfl 91 _ (zf _ _) (by rw[y.o];kernel_rfl) (by rw[y.o];rfl) (Cr _) ?_);rw[jr];refine(zd6 w.heap.size J _ x (A0 b) (by rw[jd];exact p) u.o (by exact c.o.trans ((zi k _).mono c.o.size))).mono ?_;rintro r t ⟨rfl,q⟩;have m:Hid (zc w t):=F2.below (d.o.trans ((c.o.trans ((zi k _).mono c.o.size)).mono d.o.size)) q;have A:t.heap[k.heap.size]?=some (.cells (hv (j7 f (A0 b))) 91 (0,0)):=by
  rw[q.block _ (.inr c.o.size)];exact zf _ _
 have F:=G2 t k.heap.size 8 8 (j7 f (A0 b)) _ _ (j5 _ _) A;clear A q
 go_wp2
 go_ret;exact⟨rfl,m.o⟩
def Sk (s:ByteArray)(w:World)(d:s.size<=maxLen):
  Calls prog 17 #[.string s] w λr g=>r=.returned (AL (AH s.data.toList))/\zc w g:=by
 have e:=ze d;clear d;have f:=λh=>AI (P:=prog) h 9 94 5 s xt underlying94 jc;go_enter func17,ntmps17;go_wp2_with fail;refine(QB _ s.data.toList _ (by simpa using e.o) (by exact(EB.conv w s 0 _ (yk _)).bs)).mono ?_;rintro r c ⟨rfl,b⟩;have a:Hid (zc w c):=Mq (zi w _).drew (b.mono (B':=w.heap.size) (by simp));clear b;go_wp2_with (refine yw rfl 91 _ _ rfl c.heap.size (hv (AH s.data.toList)) rfl rfl 91 _ (zf _ _) (by kernel_rfl) rfl (Cr _) ?_);rw[jr,G2 (c.alloc (.cells (hv (AH s.data.toList)) 91)) c.heap.size 8 8 (AH s.data.toList) _ _ rfl (zf _ _)]
 go_wp2
 go_ret;exact⟨rfl,a.o.trans ((zi c _).mono a.o.size)⟩
def Mn (a:List ByteArray):Bool:=decide (a.length<=4096)&&a.all λs=>decide (s.size<=1048576)
def JB (h:Mn ss=true):ss.length<=4096/\∀s∈ss,s.size<=1048576:=by
 simp[Mn]at h;exact h
def zkg (h:ss.length<=4096)(b:∀j (a:j<ss.length),ss[j].size<=1048576):Mn ss=true:=by
 simp only[Mn,A3,ja,AW];refine⟨h,λs c=>?_⟩;obtain⟨j,a,rfl⟩:=ji c;exact b j a
def zf8 (h:4096<ss.length):Mn ss=false:=by
 simp[Mn];omega
def zbp (k:Nat)(a:k<ss.length)(h:1048576<ss[k].size):Mn ss=false:=by
 simp only[Mn,Bool.and_eq_false_iff]
 right
 rw[Mt];exact⟨ss[k],ye a,by simp;omega⟩
def GX (v:Value)(c:List ByteArray)(w:World)(D:c.length<=maxLen)(u:∀s∈c,s.size<=maxLen)(h:CT w v c):
  Calls prog 14 #[v] w λr F=>r=.returned (.bool (Mn c))/\F=w:=by
 unfold maxLen at D;obtain⟨a,A,rfl,m,t⟩:=h;have y:Hid (c.length=0\/∃b g,a=some ⟨b,g,none⟩/\∀i (h:i<c.length),w.cell? ⟨b,g+i,none⟩=some (.string c[i])):=by
  rcases t with h|h
  ·exact .inl (by simp[h])
  ·exact .inr h
 have z:=ze u;clear t u m
 by_cases l:4096<c.length
 ·rw[zf8 l];go_enter func14,ntmps14
  go_wp2
  go_ret;exact⟨rfl,rfl⟩
 ·go_enter func14,ntmps14
  go_wp2
  go_loop [3] (λi=>∃k:Nat,k<=c.length/\i=.int .i64 k/\∀j (e:j<c.length),j<k->c[j].size<=1048576) (λi=>c.length-(intOf i).toNat)
  case atStart=>exact⟨0,yk _,rfl,λj _ e=>by omega⟩
  case round =>
   obtain⟨k,G,rfl,e⟩:=hrel;have q:=ze e;clear e
   by_cases f:k<c.length
   ·rcases y.o with h0|⟨b,g,rfl,d⟩
    ·omega
    have H:=d k f;clear d;have C:=z.o c[k] (ye f);unfold maxLen at C
    by_cases E:1048576<c[k].size
    ·have n:=ze (zbp k f E);generalize c[k]=s at *
     go_wp2
     go_ret;exact⟨by rw[n.o];rfl,rfl⟩
    ·have x:Hid (∀j (e:j<c.length),j<k+1->c[j].size<=1048576):=λj p B=>by
      rcases qf j k with h|h
      ·exact q.o j p h
      ·obtain rfl:j=k:=by omega
       omega
     generalize c[k]=s at *
     go_wp2
     go_round
     case rel=>exact⟨k+1,by omega,by go_num,x.o⟩
     case measure=>simp[intOf];omega
   ·have n:=ze (zkg (ss:=c) (by omega) (λj e=>q.o j e (by omega)))
    go_wp2
    go_ret;exact⟨by rw[n.o];rfl,rfl⟩
def zee (v:Value)(c:List ByteArray)(w:World)(A:c.length<=maxLen)(Q:∀s∈c,s.size<=maxLen)(h:CT w v c):
  Calls prog 4 #[v] w λr Y=>r=.returned (.bool true)/\zc w Y:=by
 have H:=ze h;have N:=ze A;have I:=ze Q;clear Q A;obtain⟨a,U,rfl,y,P⟩:=h;have T:Hid (c.length=0\/∃b f,a=some ⟨b,f,none⟩/\∀i (h:i<c.length),w.cell? ⟨b,f+i,none⟩=some (.string c[i])):=by
  rcases P with h|h
  ·exact .inl (by simp[h])
  ·exact .inr h
 clear P y;cases d:Mn c with
 |false =>
  have G:=ze d;clear d;go_enter func4,ntmps4;go_wp2_with fail;refine(GX _ c _ N.o I.o H.o).mono ?_;rintro r K ⟨B,rfl⟩;rw[G.o]at B;subst B
  go_wp2
  go_ret;exact⟨rfl,zu _ _⟩
 |true =>
  have G:=ze d;obtain⟨A,D⟩:=JB d;have O:=ze D;clear d D;go_enter func4,ntmps4;go_wp2_with fail;refine(GX _ c _ N.o I.o H.o).mono ?_;rintro r K ⟨B,rfl⟩;rw[G.o]at B;subst B;go_wp2_with fail;refine(Sm 4096 _ c _ A (by omega) I.o H.o).mono ?_;rintro r w2 ⟨rfl,n⟩;have g:=ze n;clear n;go_wp2_with fail;refine(G7 4096 _ c _ A (by omega) (λs D=>qw (O.o s D) (by decide)) (H.o.below g.o)).mono ?_;rintro r w3 ⟨rfl,q⟩;have E:=ze (g.o.trans (q.mono g.o.size));clear q;generalize j7 4096 (A0 c)=R at *;unfold AL
  go_wp2
  go_loopw [6] (λi wr=>∃k:Nat,k<=c.length/\i=.int .i64 k/\zc K wr) (λi _=>c.length-(intOf i).toNat)
  case atStart=>exact⟨0,yk _,rfl,E.o⟩
  case round =>
   obtain⟨k,Z,rfl,x⟩:=hrel;have C:=ze x;clear x
   by_cases z:k<c.length
   ·rcases T.o with h0|⟨b,f,rfl,e⟩
    ·omega
    have J:=e k z;have l:∀M,zc K M->M.cell? ⟨b,f+k,none⟩=some (.string c[k]):=λM X=>by rw[X.cell (yf (p:=⟨b,f+k,none⟩) J)];exact J
    have S:=ze l;have W:=l _ C.o;have m:=ze (O.o c[k] (ye z));clear e J l;generalize c[k]=s at *;go_wp2_with fail;refine(Sk s _ (zt m.o (by decide))).mono ?_;rintro r w4 ⟨rfl,t⟩;have j:=ze (C.o.trans (t.mono C.o.size));have V:=S.o _ j.o;clear t;go_wp2_with fail;refine(LM s _ (qw m.o (by decide))).mono ?_;rintro r w5 ⟨rfl,u⟩;have F:=ze (j.o.trans (u.mono j.o.size));clear u;generalize AH s.data.toList=L at *;unfold AL
    go_wp2
    go_roundw
    case rel=>exact⟨k+1,by omega,by go_num,F.o⟩
    case measure=>simp[intOf];omega
   ·go_wp2
    go_ret;exact⟨by simp,C.o⟩
def BF (z:zb):Nat->zb->Nat->Nat->za->zb×Bool
 |0,_,_,_,_=>(z,false)
 |f+1,a,i,n,b =>
  if n=1 then (a,decide (b.length=0))
  else if b.length=0 then (z,false)
  else if i<yo n then (vf (BF z f a i (yo n) b.dropLast).1 (b.getLastD []),(BF z f a i (yo n) b.dropLast).2)
  else (vf (b.getLastD []) (BF z f a (i-yo n) (n-yo n) b.dropLast).1,(BF z f a (i-yo n) (n-yo n) b.dropLast).2)
def I5 (z a:zb)(f i:Nat)(b:za):BF z (f+1) a i 1 b=(a,decide (b.length=0)):=by
 rw[BF,if_pos rfl]
def Ic (z a:zb)(f i n:Nat)(b:za)(h:n≠1)(h0:b.length=0):BF z (f+1) a i n b=(z,false):=by
 rw[BF,if_neg h,if_pos h0]
def JN (z a:zb)(f i n:Nat)(b:za)(h:n≠1)(h0:b.length≠0)(c:i<yo n):BF z (f+1) a i n b=(vf (BF z f a i (yo n) b.dropLast).1 (b.getLastD []),(BF z f a i (yo n) b.dropLast).2):=by
 rw[BF,if_neg h,if_neg h0,if_pos c]
def I6 (z a:zb)(f i n:Nat)(b:za)(h:n≠1)(h0:b.length≠0)(c:¬i<yo n):BF z (f+1) a i n b=(vf (b.getLastD []) (BF z f a (i-yo n) (n-yo n) b.dropLast).1,(BF z f a (i-yo n) (n-yo n) b.dropLast).2):=by
 rw[BF,if_neg h,if_neg h0,if_neg c]
def YM (z g a:zb)(f:Nat):∀(i n:Nat) (b:za),(BF z f a i n b).2=(BF g f a i n b).2/\((BF z f a i n b).2=true->(BF z f a i n b).1=(BF g f a i n b).1):=by
 induction f with
 |zero=>intro i n b;simp[BF]
 |succ f e =>
  intro i n b
  by_cases c:n=1
  ·subst c;rw[I5,I5];simp
  by_cases h0:b.length=0
  ·rw[Ic _ _ _ _ _ _ c h0,Ic _ _ _ _ _ _ c h0];simp
  by_cases d:i<yo n
  ·rw[JN _ _ _ _ _ _ c h0 d,JN _ _ _ _ _ _ c h0 d];have:=e i (yo n) b.dropLast;exact⟨this.1,λh=>by simp only;rw[this.2 h]⟩
  ·rw[I6 _ _ _ _ _ _ c h0 d,I6 _ _ _ _ _ _ c h0 d];have:=e (i-yo n) (n-yo n) b.dropLast;exact⟨this.1,λh=>by simp only;rw[this.2 h]⟩
def WU (z a:zb)(d:z.length<=8)(g:a.length<=8)(f i n:Nat)(e:za):(BF z f a i n e).1.length<=8:=by
 cases f with
 |zero=>exact d
 |succ f =>
  by_cases b:n=1
  ·subst b;rw[I5];exact g
  by_cases h0:e.length=0
  ·rw[Ic _ _ _ _ _ _ b h0];exact d
  by_cases c:i<yo n
  ·rw[JN _ _ _ _ _ _ b h0 c];exact vx (vm _ _)
  ·rw[I6 _ _ _ _ _ _ b h0 c];exact vx (vm _ _)
def O9 (z a:zb)(d:z.length=8)(g:a.length=8)(f i n:Nat)(e:za):(BF z f a i n e).1.length=8:=by
 cases f with
 |zero=>exact d
 |succ f =>
  by_cases b:n=1
  ·subst b;rw[I5];exact g
  by_cases h0:e.length=0
  ·rw[Ic _ _ _ _ _ _ b h0];exact d
  by_cases c:i<yo n
  ·rw[JN _ _ _ _ _ _ b h0 c];exact vm _ _
  ·rw[I6 _ _ _ _ _ _ b h0 c];exact vm _ _
def Gc {α:Type}(l:List α)(m:Nat)(h:l.length=m+1)(d:α):l.getLastD d=l[m]/\l.dropLast=l.take m:=by
 refine⟨?_,?_⟩
 ·rw[List.getLastD_eq_getLast?,List.getLast?_eq_getElem?,show l.length-1=m by omega,zo (by omega)];rfl
 ·rw[List.dropLast_eq_take,h,Nat.add_sub_cancel]
section
def Ad (z a:zb):Nat->Nat->Nat->za->Bool->zb×zb×Bool
 |0,_,_,_,_=>(z,z,false)
 |f+1,m,n,ps,whole =>
  if m=n then (if whole=true then (a,a,decide (ps.length=0)) else if ps.length=1 then (ps.headD [],ps.headD [],true) else (z,z,false))
  else if ps.length=0 then (z,z,false)
  else if m<=yo n then ((Ad z a f m (yo n) ps.dropLast whole).1,vf (Ad z a f m (yo n) ps.dropLast whole).2.1 (ps.getLastD []),(Ad z a f m (yo n) ps.dropLast whole).2.2)
  else (vf (ps.getLastD []) (Ad z a f (m-yo n) (n-yo n) ps.dropLast false).1,vf (ps.getLastD []) (Ad z a f (m-yo n) (n-yo n) ps.dropLast false).2.1,(Ad z a f (m-yo n) (n-yo n) ps.dropLast false).2.2)
variable (z a:zb) (f m n:Nat) (ps:za) (whole:Bool)
def Ff:Ad z a (f+1) n n ps true=(a,a,decide (ps.length=0)):=by
 rw[Ad,if_pos rfl,if_pos rfl]
def Gn (h:ps.length=1):Ad z a (f+1) n n ps false=(ps.headD [],ps.headD [],true):=by
 rw[Ad,if_pos rfl,if_neg (by simp),if_pos h]
def JQ (h:ps.length≠1):Ad z a (f+1) n n ps false=(z,z,false):=by
 rw[Ad,if_pos rfl,if_neg (by simp),if_neg h]
def Ig (b:m≠n)(h:ps.length=0):Ad z a (f+1) m n ps whole=(z,z,false):=by
 rw[Ad,if_neg b,if_pos h]
def JP (c:m≠n)(h:ps.length≠0)(b:m<=yo n):Ad z a (f+1) m n ps whole=((Ad z a f m (yo n) ps.dropLast whole).1,vf (Ad z a f m (yo n) ps.dropLast whole).2.1 (ps.getLastD []),(Ad z a f m (yo n) ps.dropLast whole).2.2):=by
 rw[Ad,if_neg c,if_neg h,if_pos b]
def I9 (c:m≠n)(h:ps.length≠0)(b:¬m<=yo n):Ad z a (f+1) m n ps whole=(vf (ps.getLastD []) (Ad z a f (m-yo n) (n-yo n) ps.dropLast false).1,vf (ps.getLastD []) (Ad z a f (m-yo n) (n-yo n) ps.dropLast false).2.1,(Ad z a f (m-yo n) (n-yo n) ps.dropLast false).2.2):=by
 rw[Ad,if_neg c,if_neg h,if_neg b]
def YW (z e a:zb)(f:Nat):∀(m n:Nat) (ps:za) (whole:Bool),(Ad z a f m n ps whole).2.2=(Ad e a f m n ps whole).2.2/\((Ad z a f m n ps whole).2.2=true->Ad z a f m n ps whole=Ad e a f m n ps whole):=by
 induction f with
 |zero=>intro m n ps whole;simp[Ad]
 |succ f d =>
  intro m n ps whole
  by_cases b:m=n
  ·subst b;cases whole with
   |true=>rw[Ff,Ff];simp
   |false =>
    by_cases h:ps.length=1
    ·rw[Gn _ _ _ _ _ h,Gn _ _ _ _ _ h];simp
    ·rw[JQ _ _ _ _ _ h,JQ _ _ _ _ _ h];simp
  by_cases h0:ps.length=0
  ·rw[Ig _ _ _ _ _ _ _ b h0,Ig _ _ _ _ _ _ _ b h0];simp
  by_cases c:m<=yo n
  ·rw[JP _ _ _ _ _ _ _ b h0 c,JP _ _ _ _ _ _ _ b h0 c];have:=d m (yo n) ps.dropLast whole;exact⟨this.1,λh=>by rw[this.2 h]⟩
  ·rw[I9 _ _ _ _ _ _ _ b h0 c,I9 _ _ _ _ _ _ _ b h0 c];have:=d (m-yo n) (n-yo n) ps.dropLast false;exact⟨this.1,λh=>by rw[this.2 h]⟩
def VT (ps:za)(h:ps.length=1)(a:∀p∈ps,p.length=8):(ps.headD []).length=8:=by
 match ps,h with
 |[p],_=>exact a p (by simp)
def Mf (z a:zb)(b:z.length=8)(g:a.length=8)(f:Nat):∀(m n:Nat) (ps:za) (whole:Bool),(∀p∈ps,p.length=8)->(Ad z a f m n ps whole).1.length=8/\(Ad z a f m n ps whole).2.1.length=8:=by
 induction f with
 |zero=>exact λm n ps whole _=>⟨b,b⟩
 |succ f k =>
  intro m n ps whole d;have e:∀p∈ps.dropLast,p.length=8:=λp j=>d p (J2 _ j)
  by_cases c:m=n
  ·subst c;cases whole with
   |true=>rw[Ff];exact⟨g,g⟩
   |false =>
    by_cases h:ps.length=1
    ·rw[Gn _ _ _ _ _ h];exact⟨VT ps h d,VT ps h d⟩
    ·rw[JQ _ _ _ _ _ h];exact⟨b,b⟩
  by_cases h0:ps.length=0
  ·rw[Ig _ _ _ _ _ _ _ c h0];exact⟨b,b⟩
  by_cases i:m<=yo n
  ·rw[JP _ _ _ _ _ _ _ c h0 i];exact⟨(k m (yo n) ps.dropLast whole e).1,vm _ _⟩
  ·rw[I9 _ _ _ _ _ _ _ c h0 i];exact⟨vm _ _,vm _ _⟩
def ZN (ps:za)(h:ps.length=1)(a:∀p∈ps,p.length<=8):(ps.headD []).length<=8:=by
 match ps,h with
 |[p],_=>exact a p (by simp)
def Xf (z a:zb)(b:z.length<=8)(g:a.length<=8)(f:Nat):∀(m n:Nat) (ps:za) (whole:Bool),(∀p∈ps,p.length<=8)->(Ad z a f m n ps whole).1.length<=8/\(Ad z a f m n ps whole).2.1.length<=8:=by
 induction f with
 |zero=>exact λm n ps whole _=>⟨b,b⟩
 |succ f k =>
  intro m n ps whole d;have e:∀p∈ps.dropLast,p.length<=8:=λp j=>d p (J2 _ j)
  by_cases c:m=n
  ·subst c;cases whole with
   |true=>rw[Ff];exact⟨g,g⟩
   |false =>
    by_cases h:ps.length=1
    ·rw[Gn _ _ _ _ _ h];exact⟨ZN ps h d,ZN ps h d⟩
    ·rw[JQ _ _ _ _ _ h];exact⟨b,b⟩
  by_cases h0:ps.length=0
  ·rw[Ig _ _ _ _ _ _ _ c h0];exact⟨b,b⟩
  by_cases i:m<=yo n
  ·rw[JP _ _ _ _ _ _ _ c h0 i];exact⟨(k m (yo n) ps.dropLast whole e).1,vx (vm _ _)⟩
  ·rw[I9 _ _ _ _ _ _ _ c h0 i];exact⟨vx (vm _ _),vx (vm _ _)⟩
end
def C1:Nat->za->Nat->za
 |0,_,_=>[]
 |f+1,a,i =>
  if a.length<=1 then []
  else if i<yo a.length then C1 f (a.take (yo a.length)) i++[j7 f (a.drop (yo a.length))]
  else C1 f (a.drop (yo a.length)) (i-yo a.length)++[j7 f (a.take (yo a.length))]
def Gj (f:Nat)(a:za)(i:Nat)(h:a.length<=1):C1 f a i=[]:=by
 cases f with
 |zero=>rfl
 |succ f=>rw[C1,if_pos h]
def Gi (f:Nat)(a:za)(i:Nat)(h:2<=a.length)(b:i<yo a.length):C1 (f+1) a i=C1 f (a.take (yo a.length)) i++[j7 f (a.drop (yo a.length))]:=by
 rw[C1,if_neg (by omega),if_pos b]
def Ft (f:Nat)(a:za)(i:Nat)(h:2<=a.length)(b:¬i<yo a.length):C1 (f+1) a i=C1 f (a.drop (yo a.length)) (i-yo a.length)++[j7 f (a.take (yo a.length))]:=by
 rw[C1,if_neg (by omega),if_neg b]
def YH (f:Nat):∀(b:za) (i:Nat),∀p∈C1 f b i,p.length=8:=by
 induction f with
 |zero=>intro b i p a;simp[C1]at a
 |succ f d =>
  intro b i p a
  by_cases e:b.length<=1
  ·rw[Gj _ _ _ e]at a;simp at a
  by_cases c:i<yo b.length
  ·rw[Gi _ _ _ (by omega) c]at a;rcases yj.1 a with h|h
   ·exact d _ _ p h
   ·rw[yl.1 h];exact j5 _ _
  ·rw[Ft _ _ _ (by omega) c]at a;rcases yj.1 a with h|h
   ·exact d _ _ p h
   ·rw[yl.1 h];exact j5 _ _
def Jk (f:Nat):∀(a:za) (i:Nat),(C1 f a i).length<=f:=by
 induction f with
 |zero=>intro a i;simp[C1]
 |succ f c =>
  intro a i
  by_cases d:a.length<=1
  ·rw[Gj _ _ _ d];simp
  by_cases b:i<yo a.length
  ·rw[Gi _ _ _ (by omega) b];have:=c (a.take (yo a.length)) i;simp;omega
  ·rw[Ft _ _ _ (by omega) b];have:=c (a.drop (yo a.length)) (i-yo a.length);simp;omega
def EI:Nat->Nat->za->Bool->za
 |0,_,_,_=>[]
 |f+1,m,a,b =>
  if m=a.length then (if b=true then [] else [j7 (f+1) a])
  else if m<=yo a.length then EI f m (a.take (yo a.length)) b++[j7 f (a.drop (yo a.length))]
  else EI f (m-yo a.length) (a.drop (yo a.length)) false++[j7 f (a.take (yo a.length))]
def Fe (f:Nat)(a:za):EI (f+1) a.length a true=[]:=by
 rw[EI,if_pos rfl,if_pos rfl]
def I2 (f:Nat)(a:za):EI (f+1) a.length a false=[j7 (f+1) a]:=by
 rw[EI,if_pos rfl,if_neg (by simp)]
def Ib (f m:Nat)(b:za)(a:Bool)(h:m≠b.length)(c:m<=yo b.length):EI (f+1) m b a=EI f m (b.take (yo b.length)) a++[j7 f (b.drop (yo b.length))]:=by
 rw[EI,if_neg h,if_pos c]
def Gl (f m:Nat)(a:za)(b:Bool)(h:m≠a.length)(c:¬m<=yo a.length):EI (f+1) m a b=EI f (m-yo a.length) (a.drop (yo a.length)) false++[j7 f (a.take (yo a.length))]:=by
 rw[EI,if_neg h,if_neg c]
def zdd (f:Nat):∀(m:Nat) (c:za) (a:Bool),∀p∈EI f m c a,p.length=8:=by
 induction f with
 |zero=>intro m c a p b;simp[EI]at b
 |succ f g =>
  intro m c a p b
  by_cases d:m=c.length
  ·subst d;cases a with
   |true=>rw[Fe]at b;simp at b
   |false=>rw[I2]at b;rw[yl.1 b];exact j5 _ _
  by_cases e:m<=yo c.length
  ·rw[Ib _ _ _ _ d e]at b;rcases yj.1 b with h|h
   ·exact g _ _ _ p h
   ·rw[yl.1 h];exact j5 _ _
  ·rw[Gl _ _ _ _ d e]at b;rcases yj.1 b with h|h
   ·exact g _ _ _ p h
   ·rw[yl.1 h];exact j5 _ _
def Kt (f:Nat):∀(m:Nat) (b:za) (a:Bool),(EI f m b a).length<=f:=by
 induction f with
 |zero=>intro m b a;simp[EI]
 |succ f e =>
  intro m b a
  by_cases c:m=b.length
  ·subst c;cases a with
   |true=>rw[Fe];simp
   |false=>rw[I2];simp
  by_cases d:m<=yo b.length
  ·rw[Ib _ _ _ _ c d];have:=e m (b.take (yo b.length)) a;simp;omega
  ·rw[Gl _ _ _ _ c d];have:=e (m-yo b.length) (b.drop (yo b.length)) false;simp;omega
end Go.Proofs.YtfdbeldiomkdiaaGreatDoor
