import Derived.Test.YtndkblnpbjffhaaGreatDoorG30
set_option maxHeartbeats 1000000
set_option maxRecDepth 100000
open Go.RowKit
namespace Go.Proofs.YtndkblnpbjffhaaGreatDoor
section
attribute [local go_sem ↓] yv yl yy yo yj ym yx yk
abbrev zby:Array Value:=#[.bool false,.bool false,.int .u8 0,.int .u8 0,.int .u8 0,.int .u8 0,.int .u8 0,.int .u8 0,.int .u8 0,.int .u8 0,.slice none 0 0]
def zq5 (w r:World)(A:Nat→Prop)(h:LsN)(p:Pl)(f:Fl)(fb:Nat):Prop:=∃ xs,zn r fb xs∧FOk xs∧j9 r xs f∧((A fb∧∃ b,h.get p=some (b,zo fb))∨(h.get p=none∧w.heap.size+2≤fb))
theorem z7r {w wc h:World}{A:Nat→Prop}{D:LsN}{p:Pl}{f:Fl}{xs:List Px}{I:Nat}(L:D.get p=none)(R:w.heap.size+1≤I∧I < wc.heap.size)(E:Below w.heap.size w wc)(r:Below wc.heap.size wc h)(K:zn (h.alloc (.cells qt zt)) h.heap.size Fx.no)(H:FOk xs)(Q:j9 w xs f):
  zq5 w ((h.alloc (.cells qt zt)).setCells h.heap.size 0 (fcs xs)) A D p f h.heap.size:=by
 have h1:=r.size;have J:Below w.heap.size w ((h.alloc (.cells qt zt)).setCells h.heap.size 0 (fcs xs)):=E.trans ((zr (r.alloc r.size _) r.size _ _).mono E.size);exact⟨xs,qb K Fx.no_ok H,H,Q.below J,.inr ⟨L,by omega⟩⟩
theorem z8x {w wc h:World}{A:Nat→Prop}{r:LsN}{p:Pl}{f:Fl}{xs:List Px}{H:Nat}(L:r.get p=none)(R:w.heap.size+1≤H∧H < wc.heap.size)(D:Below w.heap.size w wc)(I:Below (wc.alloc (.cells qt zt)).heap.size (wc.alloc (.cells qt zt)) h)(K:zn h wc.heap.size Fx.no)(E:FOk xs)(Q:j9 w xs f):
  zq5 w (h.setCells wc.heap.size 0 (fcs xs)) A r p f wc.heap.size:=by
 have J:Below w.heap.size w (h.setCells wc.heap.size 0 (fcs xs)):=D.trans ((zr ((ze wc _).trans (I.mono (by simp))) (Nat.le_refl _) _ _).mono D.size);exact⟨xs,qb K Fx.no_ok E,E,Q.below J,.inr ⟨L,by omega⟩⟩
theorem CS.next {U w:World}{O A S:Nat→Prop}{cb R J V nm:Nat}{C:Array Value}{d:Dk}{room:Int}{W:Mm}{m:Ms Nt}{k:Nat}(h:CS U w O A S cb R J V nm C d room W m k){w':World}(I:zg (fun b=>O b∨A b) qT w w')(E:Ms Nt)(Q:Nat)
  (Z:vi w' O R J E.net) (hs:NSt d E.net) (Y:E.net.fetches+2*Q < 4611686018427387904) (K:zgs w' (Ext A w w') nm E.needed) (L:E.needed.length+Q≤1000000000):CS U w' O (Ext A w w') S cb R J V nm C d room W E Q:=by
 have D:=I.size;refine⟨h.base.trans (I.below h.own h.base.size),?_,?_,?_,h.disk.stay I (by decide) (by decide),Z,hs,Y,I.keep h.cli (by decide),h.cells,h.prv.stay I h.away (by decide) (fun _ h=>h),?_,K,L⟩
 ·rintro b (r | r | r)
  ·exact h.own b (.inl r)
  ·exact h.own b (.inr r)
  ·exact Nat.le_trans h.base.size r.1
 ·rintro b r (H | H)
  ·exact h.apart b r H
  ·have:=h.lt b (.inl r);omega
 ·rintro b (r | (r | r) | r)
  ·exact Nat.lt_of_lt_of_le (h.lt b (.inl r)) D
  ·exact Nat.lt_of_lt_of_le (h.lt b (.inr (.inl r))) D
  ·exact r.2
  ·exact Nat.lt_of_lt_of_le (h.lt b (.inr (.inr r))) D
 ·rintro b r (X | H | H)
  ·exact h.away b r (.inl X)
  ·exact h.away b r (.inr H)
  ·have:=h.lt b (.inr (.inr r));omega
theorem zw2 {σ:Type}{fe:σ→List UInt8→(List UInt8×Bool)×σ}{proved:Mm}{size:Nat}{m:Ms σ}{l:Int}{j:Nat}{s:σ}(h1:((yu proved m.needed (zj size l j)).getD (j % 4) .no).there=false)(h2:jw fe m.net (zj size l j)=(none,s)):qu fe proved size m l j=(.inl (zee (zj size l j)),{ m with net:=s }):=by
 unfold qu;rw [if_neg (by rw [h1];simp),h2]
theorem zu7 {xs ys:List Px}(h:FOk xs)(r:FOk ys):FOk (zhq xs ys):=by rw [← zh3 h r];exact zgw h r 4
theorem zrq {w:World}{xs ys:List Px}{f g:Fl}(h:j9 w xs f)(L:j9 w ys g):j9 w (zhq xs ys) (zda f g):=by
 obtain⟨H,A,D⟩:=h;obtain⟨I,E,J⟩:=L;refine⟨by simp [zhq,H,I],by simp [zda,A,E],fun k r=>?_⟩;have K:(zhq xs ys).getD k .no=if (xs.getD k .no).fits then xs.getD k .no else ys.getD k .no:=by
  unfold zhq;have h1:k < xs.length:=by omega
  have h2:k < ys.length:=by omega
  simp only [List.getD_eq_getElem?_getD,List.getElem?_zipWith,List.getElem?_eq_getElem h1,List.getElem?_eq_getElem h2,Option.getD_some]
 rw [K,zc4 f g (by rw [A,E]) k (by omega),(D k r).fits]
 split
 ·exact D k r
 ·exact J k r
theorem zab.keep {w w':World}{O1 A:Nat→Prop}{T:List Nat}{E:Nat}{room:Int}{L:LsN}(h:zab w A E room L)(r:zg O1 T w w')(h1:LkN∉T)(h2:MeN∉T)(hm:∀ k,A k→O1 k→∃ c t x,w.heap[k]?=some (.cells c t x)):zab w' A E room L:=by
 obtain⟨D,I,nx,pv,h⟩:=h;refine⟨D,I,nx,pv,h.own,r.keep h.mem h2,⟨r.keep h.ring.ends h1,fun x J=>r.keep (h.ring.link x J) h1,h.ring.circ⟩,h.map.same ?_,h.ok⟩;rcases r.block D h.map.lt with e | ⟨e,-⟩
 ·exact e
 ·obtain⟨c,t,x,H⟩:=hm D h.own.2.1 e;exact absurd rfl (h.map.not H)
theorem z0z {σ:Type}{fe:σ→List UInt8→(List UInt8×Bool)×σ}{proved:Mm}{size:Nat}{m:Ms σ}{l:Int}{j:Nat}(h1:((yu proved m.needed (zj size l j)).getD (j % 4) .no).there=true):qu fe proved size m l j=(.inr ((jl (yu proved m.needed (zj size l j)) (j % 4)).getD (j % 4) .no),{ m with needed:=m.needed.drop (zj size l j)++[(zj size l j,jl (yu proved m.needed (zj size l j)) (j % 4))] }):=by
 unfold qu;rw [if_pos h1]
theorem zxx {σ:Type}{fe:σ→List UInt8→(List UInt8×Bool)×σ}{proved:Mm}{size:Nat}{m:Ms σ}{l:Int}{j:Nat}{s:σ}{h:Fl}(h1:((yu proved m.needed (zj size l j)).getD (j % 4) .no).there=false)(h2:jw fe m.net (zj size l j)=(some h,s)):qu fe proved size m l j=(.inr ((jl (zda (yu proved m.needed (zj size l j)) h) (j % 4)).getD (j % 4) .no),{ net:=s,needed:=m.needed.drop (zj size l j)++[(zj size l j,jl (zda (yu proved m.needed (zj size l j)) h) (j % 4))] }):=by
 unfold qu;rw [if_neg (by rw [h1];simp),h2]
def z8l (X r:World)(O:Nat→Prop)(I H fb:Nat)(d:Dk)(n:Nt)(F:Fl)(p:Pl)(E:Nat):Prop :=
 ∃ ys A D,zg (fun b=>O b∨b=fb) [76,3,zt] X r∧vi r O I H D∧zn r fb ys∧FOk ys∧j9 r ys A ∧
  (((F.getD E .no).there=true∧D=n∧A=F)∨((F.getD E .no).there=false∧∃ h,jw (zu d.fs) n p=(some h,D)∧A=zda F h))
theorem z3w {W0 w X Y V w8:World}{ax:Nat→Addr}{O A OP:Nat→Prop}{cb nb db pm nm:Nat}{C:Array Value}{d:Dk}{room:Int}{pr:Mm}{m:Ms Nt}{k size:Nat}{l:Int}{j:Nat}(h:CS W0 w O A OP cb nb db pm nm C d room pr m (k+1)){R:LsN}(ap:jf (NdR w A) R m.needed)(aq:(R.map (·.2.2)).Nodup)
  (Z:Below w.heap.size w X) (aL:w.heap.size < X.heap.size) {fb:Nat} {xs:List Px} (a4:zn X fb xs) (ak:(A fb∧∃ b,R.get (zj size l j)=some (b,zo fb))∨(R.get (zj size l j)=none∧w.heap.size+2≤fb)) (ht:zg (fun b=>O b∨b=fb) [76,3,zt] X Y) (ad:zg (fun b=>b=fb) [zt] Y V) (H:zg A [LkN] V w8) {Q:Nat} (aJ:V.heap.size≤Q∧Q < w8.heap.size)
  (ao:zab w8 (Ext A V.drew w8) nm zbh (z0c zbh (R.drop (zj size l j)++[(Q,zj size l j,.pointer (some ⟨fb,0,none⟩))]))) (aI:R.length≤1000000000000) {ys:List Px} {z:Px} {r:Nat} (az:zn V fb (ys.set r z)) (an:FOk (ys.set r z)) {F':Fl} (L:j9 V ys F') (hz:z={ ys.getD r .no with fits:=true }) (aG:z.ok) (am:r=j % 4) (U:r < 4) {n':Nt} (a9:vi V O nb db n')
  (aE:((((yu pr m.needed (zj size l j)).getD r .no).there=true∧n'=m.net∧F'=yu pr m.needed (zj size l j))∨(((yu pr m.needed (zj size l j)).getD r .no).there=false∧∃ ae,jw (zu d.fs) m.net (zj size l j)=(some ae,n')∧F'=zda (yu pr m.needed (zj size l j)) ae)))
  (aC:w8.heap[w.heap.size]?=some (.cells Px.no.cs.toArray jb (0,0))) :
  zg (fun b=>O b∨A b) qT w (w8.setCells w.heap.size 0 z.cs)∧CS W0 (w8.setCells w.heap.size 0 z.cs) O (Ext A w (w8.setCells w.heap.size 0 z.cs)) OP cb nb db pm nm C d room pr (qu (zu d.fs) pr size m l j).2 k∧z8z ax (w8.setCells w.heap.size 0 z.cs) (qu (zu d.fs) pr size m l j).1 (.returned (.tuple #[.agg z.cs.toArray,.nilIface])):=by
 have K:zg (fun b=>b=w.heap.size) [jb] w8 (w8.setCells w.heap.size 0 z.cs):=(zg.refl (fun b=>b=w.heap.size) [jb] w8).setCells (.inl rfl) aC (by simp) _ _;have aK:(w8.setCells w.heap.size 0 z.cs).heap.size=w8.heap.size:=vh _ _;have s1:=Z.size;have s2:=ht.size;have s3:=ad.size;have s4:=H.size;have af:A fb∨w.heap.size+2≤fb:=ak.imp (·.1) (·.2);have a0:fb < X.heap.size:=zb a4;have hT:zg (fun b=>O b∨A b) qT w w8:=by
  have a1:zg (fun b=>O b∨A b) qT w X:= .of_below Z;have a2:=a1.trans (ht.mono (fun b E=>by
   rcases E with E | rfl
   ·exact Or.inl (Or.inl E)
   ·rcases af with hA | hA
    ·exact Or.inl (Or.inr hA)
    ·exact Or.inr ⟨by omega,a0⟩) (by decide))
  have a3:=a2.trans (ad.mono (fun b E=>by
   subst E;rcases af with hA | hA
   ·exact Or.inl (Or.inr hA)
   ·exact Or.inr ⟨by omega,by omega⟩) (by decide))
  exact a3.trans (H.mono (fun b E=>Or.inl (Or.inr E)) (by decide))
 have aj:zg (fun b=>O b∨A b) qT w (w8.setCells w.heap.size 0 z.cs):=hT.setCellsNew (Nat.le_refl _) _ _;generalize w8.setCells w.heap.size 0 z.cs=w9 at *
 have ag:(qu (zu d.fs) pr size m l j)=(.inr ((jl F' r).getD r .no),{ net:=n',needed:=m.needed.drop (zj size l j)++[(zj size l j,jl F' r)] })∧NSt d n'∧n'.fetches≤m.net.fetches+2:=by
  rcases aE with ⟨I,rfl,rfl⟩ | ⟨I,ae,S,rfl⟩
  ·rw [am] at I ⊢;exact⟨z0z I,h.st,by omega⟩
  ·rw [am] at I ⊢;have:=(ziz d.fs m.net (zj size l j)).2;have h2:=h.st.file (zj size l j);rw [S] at this h2;exact⟨zxx I S,h2,this⟩
 obtain⟨ag,aD,aH⟩:=ag;have aw:j9 w9 (ys.set r z) (jl F' r):=by
  have hv:j9 V (ys.set r z) (jl F' r):=by
   refine⟨an.1,by rw [zik];exact L.2.1,fun i hi=>?_⟩;have I:(ys.set r z).getD i .no=if i=r then z else ys.getD i .no:=by
    simp only [List.getD_eq_getElem?_getD,List.getElem?_set,L.1];by_cases D:r=i
    ·subst D;simp [U]
    ·have:¬ i=r:=fun e=>D e.symm;simp [D,this]
   rw [I,zbt];by_cases D:i=r
   ·rw [if_pos D,if_pos ⟨D,by rw [L.2.1];exact U⟩,hz,D];have:=L.2.2 r U;exact⟨this.there,rfl,this.hash,this.ent⟩
   ·rw [if_neg D,if_neg (by intro hh;exact D hh.1)];exact L.2.2 i hi
  exact(hv.turn H (by decide)).turn K (by decide)
 have aA:z0c zbh (R.drop (zj size l j)++[(Q,zj size l j,.pointer (some ⟨fb,0,none⟩))])=R.drop (zj size l j)++[(Q,zj size l j,zo fb)]:=by
  unfold z0c;rw [if_neg]
  ·rfl
  ·have:(R.drop (zj size l j)).length≤R.length:=List.length_filter_le _ _;simp only [List.length_append,List.length_cons,List.length_nil];unfold zbh;omega
 rw [aA] at ao;have au:∀ x∈R.drop (zj size l j),x.2.2≠zo fb:=by
  intro x hx e;have ah:=List.mem_filter.1 hx;have aF:¬ x.2.1=zj size l j:=by simpa using ah.2
  rcases ak with ⟨-,b,hg⟩ | ⟨-,hn⟩
  ·have a8:=zf1 hg;have aB:=List.pairwise_map.1 aq;obtain⟨i1,al,I⟩:=List.getElem_of_mem ah.1;obtain⟨i2,ac,S⟩:=List.getElem_of_mem a8;have av:=List.pairwise_iff_getElem.1 aB;rcases Nat.lt_trichotomy i1 i2 with a7 | ay | a5
   ·exact av i1 i2 al ac a7 (by rw [I,S];exact e)
   ·subst ay;rw [I] at S;exact aF (by rw [S])
   ·exact av i2 i1 ac al a5 (by rw [I,S];exact e.symm)
  ·obtain⟨y,-,hr⟩:=ap.mem x ah.1;obtain⟨J,W,S,-,aa,-⟩:=hr.2;rw [S] at e;have:=zuj e;have:=zb aa;omega
 rw [ag];refine⟨aj,h.next aj _ k ((a9.turn H (by decide) (by decide) (by decide)).turn K (by decide) (by decide) (by decide)) aD (by have:=h.few;simp only;omega) ?_ ?_,.inl ⟨z,_,rfl,aG,?_,rfl⟩⟩
 ·refine⟨R.drop (zj size l j)++[(Q,zj size l j,zo fb)],?_,?_,?_⟩
  ·refine ao.stay K ?_ ?_
   ·rintro b E rfl;rcases E with E | E
    ·have:=h.lt _ (.inr (.inl E));omega
    ·have:V.drew.heap.size=V.heap.size:=rfl;omega
   ·rintro b (E | E)
    ·exact .inl E
    ·have:V.drew.heap.size=V.heap.size:=rfl;exact .inr ⟨by omega,by omega⟩
  ·refine jf.snoc ?_ ⟨rfl,fb,ys.set r z,rfl,?_,K.keep (H.keep az (by decide)) (by decide),an,aw⟩
   ·refine(ap.filter _ _ (fun a b hr=>by rw [hr.1])).mono (fun x hx y hr=>⟨hr.1,?_⟩);obtain⟨J,W,S,ai,aa,a6,ac⟩:=hr.2;have ar:J≠fb:=fun e=>au x hx (by rw [S,e]);have f1:zn X J W:=(Z.block _ (zb aa)).trans aa;have f2:zn Y J W:=ht.stay f1 (by
     rintro(hO | e)
     ·exact h.apart _ hO ai
     ·exact ar e)
    have f3:zn V J W:=ad.stay f2 ar;refine⟨J,W,S,.inl ai,K.keep (H.keep f3 (by decide)) (by decide),a6,?_⟩;exact((((ac.below Z).turn ht (by decide)).turn ad (by decide)).turn H (by decide)).turn K (by decide)
   ·rcases af with hA | hA
    ·exact .inl hA
    ·exact .inr ⟨by omega,by omega⟩
  ·rw [List.map_append,List.nodup_append];refine⟨(List.filter_sublist.map _).nodup aq,by simp,?_⟩;intro v hv u hu;simp only [List.map_cons,List.map_nil,List.mem_singleton] at hu;subst hu;obtain⟨x,hx,rfl⟩:=List.mem_map.1 hv;exact au x hx
 ·have hd:(m.needed.drop (zj size l j)).length≤m.needed.length:=List.length_filter_le _ _;have:=h.short;simp only [List.length_append,List.length_cons,List.length_nil];omega
 ·have:=aw.2.2 r U;have I:(ys.set r z).getD r .no=z:=by
   have:r < ys.length:=by rw [L.1];exact U
   simp [List.getD_eq_getElem?_getD,this]
  rw [I] at this;exact this
theorem qa {B:Nat}{a w:World}(h:Below B a.drew w):Below B a w:=⟨h.os,h.tape,h.output,h.size,h.block⟩
theorem zso (W0:World)(a7:Nat→Addr)(O A OP:Nat→Prop)(cb nb db pm nm:Nat)(C:Array Value)(d:Dk)(room:Int)(pr:Mm)(m:Ms Nt)(k size:Nat)(l:Int)(j:Nat)(bN:size < 9223372036854775808)(cA:-1≤l)(cB:l≤100)(hj:j < yd l size)(w:World)(hE:Env W0)(hS:ja W0 a7)
  (h:CS W0 w O A OP cb nb db pm nm C d room pr m (k+1)) :
  Calls Tryz.prog 151 #[zo cb,.int .i64 size,.int .i64 l,.int .i64 j] w fun r w' =>
   zg (fun b=>O b∨A b) qT w w'∧CS W0 w' O (Ext A w w') OP cb nb db pm nm C d room pr (qu (zu d.fs) pr size m l j).2 k∧z8z a7 w' (qu (zu d.fs) pr size m l j).1 r:=by
 have aZ:j < 9223372036854775808:=Nat.lt_trans (Nat.lt_of_lt_of_le hj (zeu l size)) bN;obtain⟨W,aE,bQ,bR,be⟩:=zmt size l j hj;obtain⟨D,bA⟩:∃ D,D=j % 4:=⟨_,rfl⟩
 obtain⟨q,hq⟩:∃ q,q=j / 4:=⟨_,rfl⟩
 have bL:(j:Int) % 4=(D:Int):=by omega
 have bj:=za bA;have HQ:=za hq;have aC:D < 4:=by omega
 rw [← hq] at aE be;have ap:=za aC;have af:=za aE;have E:=za h;have HE:=za hE;have HS:=za hS;obtain⟨LN,bD,bH,bI⟩:=h.nee;obtain⟨LP,bE,bK⟩:=h.prv;have aM:=za bD;have aq:=za bH;have ck:=za bI;have bk:=za bE;have co:=za bK;have HJ:=za hj;have ce:=za aZ;have HW:Hid (1≤W∧W≤4∧4*q+W≤yd l size):=⟨bQ,bR,be⟩
 have cn:=za (fun w=>zbv size bN l cA cB j aZ w);have bJ:zct (zj size l j):=by
  rw [aE];refine⟨⟨by simp only;omega,by simp only;omega⟩,⟨by simp only;omega,by simp only;omega⟩,⟨by simp only;omega,by simp only;omega⟩⟩
 have ar:=za bJ;clear h hE hS bD bH bI bE bK hj aZ bJ bQ bR be aC aE bA hq;have a5:Hid (plV (zj size l j)= .agg #[.int .i64 l,.int .i64 (q:Int),.int .i64 (W:Int)]):=by show _=_;rw [af.o];rfl
 unfold zo;go_enter Tryz.func151,Tryz.ntmps151;go_wp2_with fail;refine(cn.o _).mono ?_;rintro r w1 ⟨rfl,a8⟩;rw [a5.o];go_wp2_with fail;rw [bL];clear bL;have aX:Below w.heap.size w w1:=(ze w _).trans (a8.mono (by simp));have bm:Hid (w1.heap[w.heap.size]?=some (.cells zby jb (0,0))):=(a8.block _ (by simp)).trans (heap_alloc_last _ _);have bz:(w1.alloc (.cells #[.int .i64 l,.int .i64 (q:Int),.int .i64 (W:Int)] 99)).heap[w1.heap.size]?=some (.cells #[.int .i64 l,.int .i64 (q:Int),.int .i64 (W:Int)] 99 (0,0)):=heap_alloc_last _ _;have bu:Below w.heap.size w (w1.alloc (.cells #[.int .i64 l,.int .i64 (q:Int),.int .i64 (W:Int)] 99)):=aX.alloc aX.size _;have aO:Hid ((w1.alloc (.cells #[.int .i64 l,.int .i64 (q:Int),.int .i64 (W:Int)] 99)).heap[w.heap.size]?=some (.cells zby jb (0,0))):=zc bm.o;have ae:=za bz;have al:=za bu;have br:Hid (w.heap.size+1≤w1.heap.size):=za (by have:=a8.size;simpa using this);clear a8 aX bz bu bm;generalize w1.heap.size=pb at *
 generalize w1.alloc (.cells #[.int .i64 l,.int .i64 (q:Int),.int .i64 (W:Int)] 99)=W2 at *
 have a1:Hid (W2.heap[cb]?=some (.cells C qh (0,0))):=(al.o.block _ (zb E.o.cli)).trans E.o.cli;go_cut [12,13] from 24 to 32 (fun bf cE wx=>Below W2.heap.size W2 wx∧∃ a b,bf= .pointer a∧cE= .bool b∧((b=true∧∃ bb,LN.get (zj size l j)=some (bb,.pointer a))∨(b=false∧a=none∧LN.get (zj size l j)=none)))
 case first =>
  have c1:W2.cell? ⟨cb,14,none⟩=some (.pointer (some ⟨nm,0,none⟩)):=(zf a1.o 14 _ E.o.cells.nee).1;obtain⟨p0,-⟩:=zf ae.o 0 _ rfl;obtain⟨p1,-⟩:=zf ae.o 1 _ rfl;obtain⟨p2,-⟩:=zf ae.o 2 _ rfl;simp only [List.getElem_toArray,List.getElem_cons_zero,List.getElem_cons_succ] at p0 p1 p2;obtain⟨a,b,au,ax⟩:∃ a b,((b=true∧∃ bb,LN.get (zj size l j)=some (bb,.pointer a))∨(b=false∧a=none∧LN.get (zj size l j)=none))∧∀ w0,Below w.heap.size w w0→Calls Tryz.prog 140 #[zo nm,plV (zj size l j)] w0 fun r w'=>r= .returned (.tuple #[.pointer a,.bool b])∧Below w0.heap.size w0 w':=by
   rcases zgs.get aq.o (zj size l j) with ⟨U,g2⟩ | ⟨b,v,f,U,g2,⟨fb,xs,rfl,-⟩,-⟩
   ·exact⟨none,false,.inr ⟨rfl,rfl,U⟩,fun w0 hb=>zrl A nm zbh LN _ ar.o w0 (aM.o.below hb (fun _ h=>h)) U⟩
   ·exact⟨_,true,.inl ⟨rfl,b,U⟩,fun w0 hb=>zmc A nm zbh LN _ ar.o w0 (aM.o.below hb (fun _ h=>h)) b _ U⟩
  have a0:=za au;have S:=za ax;clear au ax;unfold zo at S;rw [a5.o] at S
  go_region_with (go_at_call 140;refine(S.o _ (by exact al.o.drew)).mono ?_;rintro r w3 ⟨rfl,b1⟩;have bV:=za b1;clear b1)
  all_goals go_wp2_with fail
  all_goals go_meet
  all_goals exact⟨qa bV.o,a,b,rfl,rfl,a0.o⟩
 case rest =>
  obtain⟨av,a,b,rfl,rfl,au⟩:=hcut;obtain⟨Q,c4⟩:∃ Q,Q=wc:=⟨_,rfl⟩
  subst c4;have a0:=za au;have J:=za (al.o.trans (av.mono al.o.size));have a2:Hid (Q.heap[cb]?=some (.cells C qh (0,0))):=(av.block _ (zb a1.o)).trans a1.o;have ac:Hid (Q.heap[pb]?=some (.cells #[.int .i64 l,.int .i64 (q:Int),.int .i64 (W:Int)] 99 (0,0))):=(av.block _ (zb ae.o)).trans ae.o;have aR:Hid (Q.heap[w.heap.size]?=some (.cells zby jb (0,0))):=(av.block _ (zb aO.o)).trans aO.o;have a6:Hid (w.heap.size+1≤pb∧pb < Q.heap.size):=⟨br.o,zb ac.o⟩
  clear av au al a1 ae aO br
  go_upto_if 34 with fail
  go_cut [12,14,15] from 33 to 43 (fun bf _ _ wx=>∃ fb,bf= .pointer (some ⟨fb,0,none⟩)∧zq5 w wx A LN (zj size l j) (yu pr m.needed (zj size l j)) fb∧Below Q.heap.size Q wx)
  case first =>
   rcases a0.o with ⟨rfl,bb,hg⟩ | ⟨rfl,rfl,hg⟩
   ·go_wp2_with fail;go_meet;rcases zgs.get aq.o (zj size l j) with ⟨U,g2⟩ | ⟨b,v,f,U,g2,⟨fb,xs,rfl,hA,hf,aA,aB⟩,-⟩
    ·rw [U] at hg;simp at hg
    ·rw [U] at hg;simp only [Option.some.injEq,Prod.mk.injEq] at hg;obtain⟨rfl,hg⟩:=hg;refine⟨fb,hg.symm,⟨xs,(J.o.block _ (zb hf)).trans hf,aA,?_,.inl ⟨hA,_,U⟩⟩,Below.refl _ _⟩;unfold yu;rw [g2];exact aB.below J.o
   ·have HG:=za hg;obtain⟨xs,b,bT,bS,ax⟩:∃ xs b,FOk xs∧j9 w xs (yu pr m.needed (zj size l j))∧∀ w0,Below w.heap.size w w0→Calls Tryz.prog 196 #[zo pm,plV (zj size l j)] w0 fun r w'=>r= .returned (.tuple #[.agg (fcs xs).toArray,.bool b])∧Below w0.heap.size w0 w':=by
     have hn:m.needed.get (zj size l j)=none:=by
      rcases zgs.get aq.o (zj size l j) with ⟨U,g2⟩ | ⟨b,v,f,U,g2,-,-⟩
      ·exact g2
      ·rw [U] at hg;simp at hg
     unfold yu;rw [hn];rcases zhk.get co.o (zj size l j) with ⟨U,g2⟩ | ⟨b,xs,f,U,g2,h3,h4⟩
     ·rw [g2];exact⟨Fx.no,false,Fx.no_ok,j9.none w,fun w0 hb=>z60 OP pm room LP _ ar.o w0 (bk.o.below hb (fun _ h=>h)) U⟩
     ·rw [g2];exact⟨xs,true,h3,h4,fun w0 hb=>z5o OP pm room LP _ ar.o w0 (bk.o.below hb (fun _ h=>h)) b _ U⟩
    have ah:=za bT;have bq:=za bS;have S:=za ax;clear bT bS ax hg;have bs:Q.cell? ⟨cb,13,none⟩=some (.pointer (some ⟨pm,0,none⟩)):=(zf a2.o 13 _ E.o.cells.prv).1;obtain⟨p0,-⟩:=zf ac.o 0 _ rfl;obtain⟨p1,-⟩:=zf ac.o 1 _ rfl;obtain⟨p2,-⟩:=zf ac.o 2 _ rfl;simp only [List.getElem_toArray,List.getElem_cons_zero,List.getElem_cons_succ] at p0 p1 p2;have cF:∀ o,(Q.alloc o).cell? ⟨cb,13,none⟩=some (.pointer (some ⟨pm,0,none⟩)):=fun o=>by rw [zl _ _ ⟨cb,13,none⟩ (zk bs)];exact bs
    have cI:∀ o,(Q.alloc o).cell? ⟨pb,0,none⟩=some (.int .i64 l):=fun o=>by rw [zl _ _ ⟨pb,0,none⟩ (zk p0)];exact p0
    have cJ:∀ o,(Q.alloc o).cell? ⟨pb,1,none⟩=some (.int .i64 (q:Int)):=fun o=>by rw [zl _ _ ⟨pb,1,none⟩ (zk p1)];exact p1
    have cK:∀ o,(Q.alloc o).cell? ⟨pb,2,none⟩=some (.int .i64 (W:Int)):=fun o=>by rw [zl _ _ ⟨pb,2,none⟩ (zk p2)];exact p2
    unfold zo at S;rw [a5.o] at S;go_wp2_with fail
    go_region_with (first
     | (go_at_call 196;refine(S.o Q.drew (by exact J.o.drew)).mono ?_;rintro r w4 ⟨rfl,aj⟩;have Z:=za (qa aj);have K:zn (w4.alloc (.cells qt zt)) w4.heap.size Fx.no:=heap_alloc_last w4 _;have aG:=qj (xj K Fx.no_ok) ah.o.len (jp ah.o.2);have aJ:=za K;clear aj K)
     | (go_at_call 196;refine(S.o (Q.alloc (.cells qt zt)).drew (by exact(J.o.alloc J.o.size _).drew)).mono ?_;rintro r w4 ⟨rfl,aj⟩;have Z:=za (qa aj);have K:zn w4 Q.heap.size Fx.no:=((qa aj).block _ (by simp)).trans (heap_alloc_last Q _);have aG:=qj (xj K Fx.no_ok) ah.o.len (jp ah.o.2);have aJ:=za K;clear aj K))
    all_goals go_wp2_with fail
    all_goals go_meet
    all_goals (first
     | exact⟨w4.heap.size,rfl,z7r HG.o a6.o J.o Z.o aJ.o ah.o bq.o,zr (Z.o.alloc Z.o.size _) Z.o.size _ _⟩
     | exact⟨Q.heap.size,rfl,z8x HG.o a6.o J.o Z.o aJ.o ah.o bq.o,zr ((ze Q _).trans (Z.o.mono (by simp))) (Nat.le_refl _) _ _⟩)
  case rest =>
   obtain⟨fb,rfl,c9,aw⟩:=hcut;obtain⟨X,hX⟩:∃ X,X=wc:=⟨_,rfl⟩
   subst hX;have aa:=za (J.o.trans (aw.mono J.o.size));have aI:Hid (X.heap[cb]?=some (.cells C qh (0,0))):=(aw.block _ (zb a2.o)).trans a2.o;have ag:Hid (X.heap[pb]?=some (.cells #[.int .i64 l,.int .i64 (q:Int),.int .i64 (W:Int)] 99 (0,0))):=(aw.block _ (zb ac.o)).trans ac.o;have aS:Hid (X.heap[w.heap.size]?=some (.cells zby jb (0,0))):=(aw.block _ (zb aR.o)).trans aR.o;have c0:Hid (w.heap.size+1≤pb∧pb < X.heap.size):=⟨a6.o.1,zb ag.o⟩
   obtain⟨xs,aB,aA,b7,b6⟩:=c9;have ao:=za aB;have an:=za aA;have aK:=za b7;have cc:=za b6;clear aB aA b7 b6 aw a0 J a2 ac aR a6;have ba:D < xs.length:=by rw [an.o.1];exact ap.o
   have aC:D < 4:=ap.o;have ak:xs[D]=xs.getD D .no:=by simp [List.getD_eq_getElem?_getD,ba]
   have h6:=(ao.o.cell an.o.2 ba (j:=0) (by omega) (v:= .bool xs[D].there) rfl)
   rw [Nat.add_zero,ak] at h6;obtain⟨h6,bt⟩:=h6;obtain⟨t,ht⟩:∃ t,(xs.getD D .no).there=t:=⟨_,rfl⟩
   rw [ht] at h6;have bo:=za ht;clear ht ak ba;have a4:Hid ((yu pr m.needed (zj size l j)).getD D .no=(yu pr m.needed (zj size l j)).getD D .no∧((yu pr m.needed (zj size l j)).getD D .no).there=t):=⟨rfl,by rw [← (aK.o.2.2 D aC).there];exact bo.o⟩
   go_upto_if 50 with fail
   go_cut [16,17] from 44 to 63 (fun _ _ wx=>z8l X wx O nb db fb d m.net (yu pr m.needed (zj size l j)) (zj size l j) D)
   case first =>
    cases t with
    | true =>
     go_wp2_with fail;go_meet;exact⟨xs,_,_,zg.refl _ _ _,E.o.net.below aa.o,ao.o,an.o,aK.o,.inl ⟨a4.o.2,rfl,rfl⟩⟩
    | false =>
     obtain⟨p0,-⟩:=zf ag.o 0 _ rfl;obtain⟨p1,-⟩:=zf ag.o 1 _ rfl;obtain⟨p2,-⟩:=zf ag.o 2 _ rfl;simp only [List.getElem_toArray,List.getElem_cons_zero,List.getElem_cons_succ] at p0 p1 p2;have b0:zg O [] w X:= .of_below aa.o;have b3:=ziz d.fs m.net (zj size l j);rw [af.o] at b3;have c5:=E.o.few;have HF:=za (z1x W0 a7 O nb db cb m.net d l q W HW.o.1 HW.o.2.1 (by have:=HQ.o;have:=ce.o;omega) X (E.o.base.trans (aa.o.mono E.o.base.size)) HE.o HS.o (fun b hb=>E.o.own b (.inl hb)) E.o.st (by omega) (E.o.disk.stay b0 (by simp) (by simp)) (E.o.net.below aa.o) C aI.o E.o.cells.net);have cl:Hid (qi l (q:Int) (W:Int)=zee (zj size l j)):=by show _=_;rw [af.o];rfl
     rw [← af.o,cl.o] at HF;clear b3 c5 b0;unfold plV zo at HF;rw [af.o] at HF;simp only at HF;rw [← af.o] at HF;go_wp2_with fail;refine HF.o.mono ?_;rintro r I ⟨ay,bx,c6⟩;have cv:=za ay;have bl:=za bx;have cw:Hid (zg O nT w I):=(zg.of_below aa.o).trans (ay.mono (fun _ h=> .inl h) (fun _ h=>h));have bg:Hid (zn I fb xs):=ay.keep ao.o (by decide);have bn:Hid (I.heap[w.heap.size]?=some (.cells Px.no.cs.toArray jb (0,0))):=ay.keep aS.o (by decide);have HG:Hid (∀ ys,FOk ys→(zcq (.pointer (some ⟨I.heap.size,0,none⟩)) (.agg (fcs ys).toArray)).run Tryz.prog (I.alloc (.cells qt zt))= .ok () ((I.alloc (.cells qt zt)).setCells I.heap.size 0 (fcs ys))∧zn ((I.alloc (.cells qt zt)).setCells I.heap.size 0 (fcs ys)) I.heap.size ys∧Below I.heap.size I ((I.alloc (.cells qt zt)).setCells I.heap.size 0 (fcs ys))):=by
      intro ys hy;have K:zn (I.alloc (.cells qt zt)) I.heap.size Fx.no:=heap_alloc_last _ _;exact⟨qj (xj K Fx.no_ok) hy.len (jp hy.2),qb K Fx.no_ok hy,zr (ze _ _) (Nat.le_refl _) _ _⟩
     clear ay bx p0 p1 p2 h6 bt HF;have ct:=za (E.o.st.file (zj size l j));have bW:=za (ziz d.fs m.net (zj size l j));generalize bw:jw (zu d.fs) m.net (zj size l j)=FM at *
     have bi:=za bw;clear bw;obtain⟨o,n'⟩:=FM;simp only at *
     rcases c6 with ⟨ys,f,rfl,ad,az,rfl⟩ | ⟨rfl,g,c7,aY,rfl⟩
     ·obtain⟨aG,a9,R⟩:=HG.o ys ad;have cC:=zad (y9 a9) ad.len;have am:=za R;have bY:Hid (zn ((I.alloc (.cells qt zt)).setCells I.heap.size 0 (fcs ys)) fb xs):=(R.block _ (zb bg.o)).trans bg.o;have L:=za ad;have aW:=za az;clear ad az a9 R HG;go_wp2_with fail;refine(z6s (fun b=>b=fb) fb xs ys an.o L.o _ rfl bY.o).mono ?_;rintro r w7 ⟨rfl,bO,b5⟩;have aU:=za bO;have bZ:=za b5;clear bO b5;go_wp2_with fail;go_meet;have b2:zg (fun b=>O b∨b=fb) [76,3,zt] X w7:=((cv.o.mono (fun _ h=> .inl h) (by decide)).then_below am.o).trans (aU.o.mono (fun _ h=> .inl (.inr h)) (by decide));have c3:vi w7 O nb db n':=(bl.o.below am.o).turn aU.o (by decide) (by decide) (by decide);refine⟨_,_,n',b2,c3,bZ.o,zu7 an.o L.o,zrq (aK.o.turn b2 (by decide)) ((aW.o.below am.o).turn aU.o (by decide)),.inr ⟨a4.o.2,f,bi.o,rfl⟩⟩
     ·obtain⟨aG,a9,R⟩:=HG.o Fx.no Fx.no_ok;have am:=za R;have aP:Hid (((I.alloc (.cells qt zt)).setCells I.heap.size 0 (fcs Fx.no)).heap[w.heap.size]?=some (.cells Px.no.cs.toArray jb (0,0))):=(R.block _ (zb bn.o)).trans bn.o;have cd:Hid (((I.alloc (.cells qt zt)).setCells I.heap.size 0 (fcs Fx.no)).heap[g]?=some (.cells #[txv (zee (zj size l j)),j4 a7 5] 141 (0,0))):=(R.block _ (zb aY)).trans aY;have cG:=fun w0=>zpp w0;have cH:=zb2 (qw aP.o) (Px.cs_len Px.no_ok) (Px.cs_one Px.no_ok);have cx:=za (ji aP.o (ds:=Px.no.cs) rfl);have bp:=za ((zg.refl (fun b=>b=w.heap.size) [jb] _).setCells (.inl rfl) aP.o (by simp) Px.no.cs 0);have H:=za ((cw.o.then_below R).setCellsNew (Nat.le_refl w.heap.size) Px.no.cs 0);clear a9 R HG c7 aY;unfold qq;go_wp2_with fail;refine bodyPost_ret (v:= .tuple #[.agg Px.no.cs.toArray,qq g]) (zv Tryz.results151 _ _ w.heap.size jb _ (0,0) _ rfl cx.o Tryz.underlying102 rfl (by rw [zh4];rfl) _ rfl) rfl ?_;have cD:=zw2 (by have:=a4.o.2;rw [bj.o] at this;exact this) bi.o;rw [cD];refine⟨H.o.mono (fun _ h=> .inl h) (by decide),E.o.next (H.o.mono (fun _ h=> .inl h) (by decide)) _ _ ((bl.o.below am.o).turn bp.o (by decide) (by decide) (by decide)) ct.o (by have:=E.o.few;have:=bW.o.2;simp only;omega) (E.o.nee.stay H.o (fun b hA hO=>E.o.apart b hO hA) (by decide) (by decide) (fun _ h=> .inl h)) (by have:=E.o.short;simp only;omega),.inr ⟨_,g,rfl,bp.o.keep cd.o (by decide),rfl⟩⟩
   case rest =>
    obtain⟨Y,hY⟩:∃ Y,Y=wc:=⟨_,rfl⟩
    subst hY;obtain⟨ys,F',n',ht,hN,b8,ad,az,bM⟩:=hcut;have HT:=za ht;have HN:=za hN;have a3:=za b8;have L:=za ad;have aW:=za az;have cu:=za bM;have bX:Hid (Y.heap[cb]?=some (.cells C qh (0,0))):=ht.keep aI.o (by decide);have cp:Hid (Y.heap[pb]?=some (.cells #[.int .i64 l,.int .i64 (q:Int),.int .i64 (W:Int)] 99 (0,0))):=ht.keep ag.o (by decide);have cr:Hid (Y.heap[w.heap.size]?=some (.cells Px.no.cs.toArray jb (0,0))):=ht.keep aS.o (by decide);have ci:Hid (zab Y A nm zbh LN):=(aM.o.below aa.o (fun _ h=>h)).keep ht (by decide) (by decide) (fun b hA hO=>by
     rcases hO with hO | rfl
     ·exact absurd hA (E.o.apart b hO)
     ·exact⟨_,_,_,ao.o⟩)
    clear ht hN b8 ad az bM a4 aI ag aS h6 bt bo;have aD:D < ys.length:=by rw [L.o.1];exact ap.o
    have ak:ys[D]=ys.getD D .no:=by simp [List.getD_eq_getElem?_getD,aD]
    obtain⟨z,hz⟩:∃ z:Px,z={ ys.getD D .no with fits:=true }:=⟨_,rfl⟩
    have aH:z.ok:=by rw [hz];have:=zbn L.o D;exact⟨this.1,this.2⟩
    obtain⟨h7,c2⟩:=a3.o.cell L.o.2 aD (j:=1) (by omega) (v:= .bool ys[D].fits) rfl;have bh:=za (a3.o.set1 L.o.2 aD (j:=1) (v:= .bool true) (x:=z) (by omega) aH (by rw [hz,ak];rfl));have H:=za ((zg.refl (fun b=>b=fb) [zt] Y).set (o:=D*11+1) (.inl rfl) a3.o (by simp) (.bool true));have ai:=za aH;have HZ:=za hz;have aL:Hid (FOk (ys.set D z)):=⟨by rw [List.length_set];exact L.o.1,zj1 L.o.2 D aH⟩
    rw [ak] at h7;clear aD ak hz aH;go_wp2_with fail;generalize Y.setCell ⟨fb,D*11+1,none⟩ (.bool true)=V at *
    have b4:V.heap[cb]?=some (.cells C qh (0,0)):=H.o.keep bX.o (by decide);have aF:V.heap[pb]?=some (.cells #[.int .i64 l,.int .i64 (q:Int),.int .i64 (W:Int)] 99 (0,0)):=H.o.keep cp.o (by decide);have cq:Hid (V.heap[w.heap.size]?=some (.cells Px.no.cs.toArray jb (0,0))):=H.o.keep cr.o (by decide);have ch:Hid (zab V A nm zbh LN):=ci.o.keep H.o (by decide) (by decide) (fun b _ hb=>by subst hb;exact⟨_,_,_,a3.o⟩);have cm:Hid (vi V O nb db n'):=HN.o.turn H.o (by decide) (by decide) (by decide);have cz:Hid (j9 V ys F'):=aW.o.turn H.o (by decide);have c1:V.cell? ⟨cb,14,none⟩=some (.pointer (some ⟨nm,0,none⟩)):=(zf b4 14 _ E.o.cells.nee).1;obtain⟨p0,-⟩:=zf aF 0 _ rfl;obtain⟨p1,-⟩:=zf aF 1 _ rfl;obtain⟨p2,-⟩:=zf aF 2 _ rfl;simp only [List.getElem_toArray,List.getElem_cons_zero,List.getElem_cons_succ] at p0 p1 p2;have bc:LN.length≤1000000000000:=by have:=aq.o.len;have:=E.o.short;omega
    have aN:=za (z34 A nm zbh LN (zj size l j) ar.o (some ⟨fb,0,none⟩) V.drew (ch.o.below (Below.refl _ V).drew (fun _ h=>h)) bc);have cf:=za bc;unfold zo at aN;rw [a5.o] at aN;clear h7 c2 b4 aF bc
    go_region_with (go_at_call 199;refine aN.o.mono ?_;rintro r w8 ⟨rfl,bP,bU,bF,bG,bC⟩;have aV:=za bP.undrew;have cg:=za bC;have cj:Hid (V.heap.size≤bU∧bU < w8.heap.size):=⟨bF,bG⟩;clear bP bC bF bG)
    all_goals (
     have ca:Hid (zn w8 fb (ys.set D z)):=aV.o.keep bh.o (by decide);have bB:D < (ys.set D z).length:=by rw [aL.o.1];exact ap.o
     have b9:(ys.set D z)[D]=z:=by simp
     have bd:=ca.o.piece aL.o.2 bB;rw [b9] at bd;have cC:=zl6 bd (Px.cs_len ai.o);have aQ:Hid (w8.heap[w.heap.size]?=some (.cells Px.no.cs.toArray jb (0,0))):=aV.o.keep cq.o (by decide);have aG:=zb2 (qw aQ.o) (Px.cs_len ai.o) (Px.cs_one ai.o);have cy:=za (ji aQ.o (ds:=z.cs) (by rw [Px.cs_len ai.o,Px.cs_len Px.no_ok]));clear bB b9 bd;go_wp2_with fail;refine bodyPost_ret (v:= .tuple #[.agg z.cs.toArray,.nilIface]) (zv Tryz.results151 _ _ w.heap.size jb _ (0,0) _ rfl cy.o Tryz.underlying102 rfl (by rw [zh4,List.size_toArray,Px.cs_len ai.o]) _ rfl) rfl ?_;exact z3w E.o aq.o ck.o aa.o (by have:=c0.o;omega) ao.o cc.o HT.o H.o aV.o cj.o cg.o cf.o bh.o aL.o cz.o HZ.o ai.o bj.o ap.o cm.o cu.o aQ.o)
end
end Go.Proofs.YtndkblnpbjffhaaGreatDoor
