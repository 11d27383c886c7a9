import Derived.Test.YtndkblnpbjffhaaGreatDoorG34
set_option maxHeartbeats 2000000
set_option maxRecDepth 100000
open Go.RowKit
namespace Go.Proofs.YtndkblnpbjffhaaGreatDoor
section
attribute [local go_sem ↓] yv yl yy yo yj ym yx yk
theorem jf.mapR {α β γ:Type}{R:α→β→Prop}{r:α→γ→Prop}{l:List α}{m:List β}(h:jf R l m)(g:β→γ)(hr:∀ a∈l,∀ b,R a b→r a (g b)):jf r l (m.map g):=by
 induction h using jf.ind with
 | nil=>exact .nil
 | cons h1 _ ih=>exact .cons (hr _ (by simp) _ h1) (ih fun a A b=>hr a (by simp [A]) b)
theorem zkl {α β:Type}{f:α→β}{l:List α}(h:(l.map f).Nodup){a b:α}(L:a∈l)(Q:b∈l)(e:f a=f b):a=b:=by
 obtain⟨i,I,r⟩:=List.getElem_of_mem L;obtain⟨j,J,A⟩:=List.getElem_of_mem Q;have K:=List.pairwise_iff_getElem.1 (List.pairwise_map.1 h);rcases Nat.lt_trichotomy i j with H | D | E
 ·exact absurd (by rw [r,A];exact e) (K i j I J H)
 ·subst D;rw [← r,← A]
 ·exact absurd (by rw [r,A];exact e.symm) (K j i J I E)
theorem zab.nodup {w:World}{A:Nat→Prop}{nm:Nat}{room:Int}{L:LsN}(h:zab w A nm room L):(L.map (·.2.1)).Nodup:=by
 obtain⟨H,E,nx,pv,h⟩:=h;obtain⟨D,-,-,r,-⟩:=h.map;unfold LsN.ks at r;rw [List.map_map] at r;exact r
theorem zgs.setF {w w':World}{A:Nat→Prop}{nm:Nat}{r:LsN}{V:Mm}(R:zab w A nm zbh r)(Z:jf (NdR w A) r V)(S:(r.map (·.2.2)).Nodup){p:Pl}{b fb:Nat}(hg:r.get p=some (b,zo fb))(J:zg (fun x=>x=fb) [zt] w w'){xs ys:List Px}(hf:zn w fb xs)(H:zn w' fb ys)(hk:FOk ys){Q:Fl}(hi:j9 w' ys Q)(Y:A fb):
  zgs w' A nm (V.set p Q):=by
 refine⟨r,R.keep J (by decide) (by decide) (fun k _ e=>by subst e;exact⟨_,_,_,hf⟩),?_,S⟩;have D:=zf1 hg;refine Z.mapR _ (fun a U y hr=>?_);by_cases E:y.1=p
 ·rw [if_pos E];have:a=(b,p,zo fb):=zkl R.nodup U D (by show a.2.1=p;rw [hr.1,E]);subst this;exact⟨rfl,fb,ys,rfl,Y,H,hk,hi⟩
 ·rw [if_neg E];obtain⟨h,K,L,W,X,h5,h6⟩:=hr.2;have I:h≠fb:=by
   intro e;subst e;have:a=(b,p,zo h):=zkl S U D L;rw [this] at hr;exact E hr.1.symm
  exact⟨hr.1,h,K,L,W,J.stay X I,h5,h6.turn J (by decide)⟩
theorem z3n {w:World}{xs:List Px}{f:Fl}(h:j9 w xs f):zgj xs=zib f:=by
 obtain⟨a,b,c,d,rfl⟩:=zfk h.1;obtain⟨r,A,c',D,rfl⟩:=zfk h.2.1;have h0:=h.2.2 0 (by omega);have h1:=h.2.2 1 (by omega);have h2:=h.2.2 2 (by omega);have E:=h.2.2 3 (by omega);have H:a.fits=r.fits:=h0.fits;have I:b.fits=A.fits:=h1.fits;have J:c.fits=c'.fits:=h2.fits;have K:d.fits=D.fits:=E.fits;have L:a.hash=r.hash:=h0.hash;have Q:b.hash=A.hash:=h1.hash;have R:c.hash=c'.hash:=h2.hash;have S:d.hash=D.hash:=E.hash;unfold zgj zib;simp only [H,I,J,K,L,Q,R,S]
theorem z5n {w:World}{xs:List Px}{f:Fl}(h:j9 w xs f)(k:Nat){z:Px}{c:Pc}(H:zdd w z c):j9 w (xs.set k z) (f.set k c):=by
 refine⟨by rw [List.length_set];exact h.1,by rw [List.length_set];exact h.2.1,fun i E=>?_⟩;have D:(xs.set k z).getD i .no=if i=k∧k < xs.length then z else xs.getD i .no:=by
  simp only [List.getD_eq_getElem?_getD,List.getElem?_set];by_cases r:k=i
  ·subst r;by_cases A:k < xs.length
   ·simp [A]
   ·simp [A]
  ·have:¬ i=k:=fun e=>r e.symm;simp [r,this]
 rw [D,zqo,h.1,h.2.1]
 split
 ·exact H
 ·exact h.2.2 i E
theorem CS.setNd {J w w':World}{O A I:Nat→Prop}{cb L K Q nm:Nat}{C:Array Value}{d:Dk}{room:Int}{R:Mm}{m:Ms Nt}{k:Nat}(h:CS J w O A I cb L K Q nm C d room R m k)(D:zg A [zt] w w'){r:Mm}(H:zgs w' A nm r)(S:r.length=m.needed.length):CS J w' O A I cb L K Q nm C d room R { m with needed:=r } k :=
 ⟨h.base.trans (D.below (fun b E=>h.own b (.inr E)) h.base.size),h.own,h.apart,fun b E=>Nat.lt_of_lt_of_le (h.lt b E) D.size,h.disk.stay D (by decide) (by decide),h.net.turn D (by decide) (by decide) (by decide),h.st,h.few,D.keep h.cli (by decide),h.cells,h.prv.stay D (fun b E e=>h.away b E (.inr e)) (by decide) (fun _ h=>h),h.away,H,by have:=h.short;simp only;omega⟩
theorem Mm.set_len (m:Mm)(p:Pl)(f:Fl):(m.set p f).length=m.length:=by simp [Mm.set]
theorem CS.find {S w:World}{O A R:Nat→Prop}{cb nb V pm nm:Nat}{C:Array Value}{d:Dk}{room:Int}{pr:Mm}{m:Ms Nt}{k:Nat}(h:CS S w O A R cb nb V pm nm C d room pr m k)(p:Pl)(Q:zct p):∃(a:Option Addr) (b:Bool),
  ((b=false∧a=none∧m.needed.get p=none)∨(b=true∧∃ D U fb xs f,a=some ⟨fb,0,none⟩∧zab w A nm zbh D∧jf (NdR w A) D m.needed∧(D.map (·.2.2)).Nodup∧D.get p=some (U,zo fb)∧m.needed.get p=some f∧A fb∧zn w fb xs∧FOk xs∧j9 w xs f)) ∧
  ∀ w0,Below w.heap.size w w0→Calls Tryz.prog 140 #[zo nm,plV p] w0 fun r w'=>r= .returned (.tuple #[.pointer a,.bool b])∧Below w0.heap.size w0 w':=by
 obtain⟨D,E,H,L⟩:=h.nee;rcases zgs.get H p with ⟨I,J⟩ | ⟨b,v,f,I,J,⟨fb,xs,rfl,W,X,Z,Y⟩,-⟩
 ·exact⟨none,false,.inl ⟨rfl,rfl,J⟩,fun w0 K=>zrl A nm zbh D _ Q w0 (E.below K (fun _ h=>h)) I⟩
 ·exact⟨_,true,.inr ⟨rfl,D,b,fb,xs,f,rfl,E,H,L,I,J,W,X,Z,Y⟩,fun w0 K=>zmc A nm zbh D _ Q w0 (E.below K (fun _ h=>h)) b _ I⟩
def WdN (h:Mm):Prop:=∀ x∈h,1≤x.1.2.2
theorem WdN.set {r:Mm}(h:WdN r)(p:Pl)(f:Fl):WdN (r.set p f):=by
 intro x D;have:x.1∈(r.set p f).map (·.1):=List.mem_map_of_mem D;rw [Mm.set_keys] at this;obtain⟨y,E,A⟩:=List.mem_map.1 this;rw [← A];exact h y E
theorem zjf (size:Nat)(h:size < 9223372036854775808)(l:Int)(h1:-1≤l)(h2:l≤100)(j:Nat)(A:j < 9223372036854775808):zct (zj size l j):=by
 have r:=zeu l size;unfold zj;refine⟨⟨by simp only;omega,by simp only;omega⟩,⟨by simp only;omega,by simp only;omega⟩,⟨by simp only;omega,by simp only;omega⟩⟩
abbrev zl7 (E:World)(O A D:Nat→Prop)(cb I H J nm:Nat)(C:Array Value)(d:Dk)(room:Int)(K:Mm)(size k f:Nat):Prop :=
 ∀(L j:Nat) (h:List UInt8) (m:Ms Nt) (w:World),33≤L+f→L≤40→j < 9223372036854775808→h.length=8→WdN m.needed→CS E w O A D cb I H J nm C d room K m k →
  Calls Tryz.prog 142 #[zo cb,.int .i64 size,.int .i64 L,.int .i64 j,.agg (hv h)] w fun r w'=>r= .returned (.tuple #[])∧zg A [zt] w w'∧CS E w' O A D cb I H J nm C d room K { m with needed:=xg size f m.needed L j h } k
theorem zsr (W0:World)(O A OP:Nat→Prop)(cb nb db pm nm:Nat)(C:Array Value)(d:Dk)(room:Int)(pr:Mm)(size k:Nat)(ac:size < 9223372036854775808)(L j:Nat)(h:List UInt8)(m:Ms Nt)(w:World)(hL:L≤40)(hj:j < 9223372036854775808)(aa:m.needed.get (zj size (L:Int) j)=none)(Q:CS W0 w O A OP cb nb db pm nm C d room pr m k):
  Calls Tryz.prog 142 #[zo cb,.int .i64 size,.int .i64 L,.int .i64 j,.agg (hv h)] w fun r w'=>r= .returned (.tuple #[])∧zg A [zt] w w'∧CS W0 w' O A OP cb nb db pm nm C d room pr m k:=by
 have ai:=za (zjf size ac (L:Int) (by omega) (by omega) j hj);have ah:=za (fun w=>zbv size ac (L:Int) (by omega) (by omega) j hj w);have E:=za Q;obtain⟨a,b,V,Z⟩:=Q.find (zj size (L:Int) j) ai.o;have ad:=za V;have I:=za Z;have ag:=za aa;clear Q V Z hj aa;unfold zo at I ⊢;go_enter Tryz.func142,Tryz.ntmps142;go_wp2_with fail;have D:Hid (Below w.heap.size w (w.alloc (.cells (hv h) 92))):=ze w _;have U:Hid ((w.alloc (.cells (hv h) 92)).heap[w.heap.size]?=some (.cells (hv h) 92 (0,0))):=heap_alloc_last _ _;generalize w.alloc (.cells (hv h) 92)=W1 at *
 go_cut [10,11] from 14 to 25 (fun aj ak wx=>aj= .pointer a∧ak= .bool b∧Below W1.heap.size W1 wx)
 case first =>
  have K:W1.heap[cb]?=some (.cells C qh (0,0)):=(D.o.block _ (zb E.o.cli)).trans E.o.cli;have S:=za K;have am:W1.cell? ⟨cb,14,none⟩=some (.pointer (some ⟨nm,0,none⟩)):=(zf K 14 _ E.o.cells.nee).1;clear K
  go_region_with (first
   | (go_at_call 141;refine(ah.o _).mono ?_;rintro r w2 ⟨rfl,W⟩;have H:=za (qa W);have an:w2.cell? ⟨cb,14,none⟩=some (.pointer (some ⟨nm,0,none⟩)):=(zf ((H.o.block _ (zb S.o)).trans S.o) 14 _ E.o.cells.nee).1;clear W)
   | (go_at_call 140;refine(I.o w2 (by exact D.o.trans (H.o.mono D.o.size))).mono ?_;rintro r w3 ⟨rfl,Y⟩;have ae:=za (H.o.trans (Y.mono H.o.size));clear Y))
  all_goals go_wp2_with fail
  all_goals go_meet
  all_goals exact⟨rfl,rfl,ae.o⟩
 case rest =>
  obtain⟨rfl,rfl,J⟩:=hcut;obtain⟨X,hX⟩:∃ X,X=wc:=⟨_,rfl⟩
  subst hX;have R:=za (D.o.trans (J.mono D.o.size));have al:Hid (X.heap[w.heap.size]?=some (.cells (hv h) 92 (0,0))):=(J.block _ (zb U.o)).trans U.o;have af:=za (E.o.below R.o);clear J I;rcases ad.o with ⟨rfl,rfl,hg⟩ | ⟨rfl,LN,bb,fb,xs,fl,rfl,ap,aq,ar,ao,hg,-⟩
  ·go_wp2_with fail;first | go_end0 | refine bodyPost_ret (results_none rfl _ _ _) rfl ?_
   exact⟨rfl,.of_below R.o,af.o⟩
  ·exfalso;have:=ag.o;rw [hg] at this;simp at this
theorem zuy (W0:World)(O A OP:Nat→Prop)(cb nb db pm nm:Nat)(C:Array Value)(d:Dk)(room:Int)(pr:Mm)(size k f:Nat)(au:size < 9223372036854775808)(ih:zl7 W0 O A OP cb nb db pm nm C d room pr size k f):zl7 W0 O A OP cb nb db pm nm C d room pr size k (f+1):=by
 intro L j h m w a8 hL hj h8 aQ ao;obtain⟨D,aH⟩:∃ D,D=j % 4:=⟨_,rfl⟩
 have bk:(j:Int) % 4=(D:Int):=by omega
 have ap:D < 4:=by omega
 have aX:=za aH;have a3:=za ap;have be:=za (zjf size au (L:Int) (by omega) (by omega) j hj);have bd:=za (fun w=>zbv size au (L:Int) (by omega) (by omega) j hj w);have aW:=za ih;have S:=za ao;have a6:=za aQ;have H8:=za h8;have a4:Hid (33≤L+(f+1)∧L≤40∧j < 9223372036854775808):=⟨a8,hL,hj⟩
 obtain⟨a,b,a9,aG⟩:=ao.find (zj size (L:Int) j) be.o;have av:=za a9;have ae:=za aG;have ai:Hid (xg size (f+1) m.needed L j h=match m.needed.get (zj size (L:Int) j) with
  | none=>m.needed
  | some fl=>match zib (fl.set (j % 4) ⟨true,true,h,[]⟩) with
   | some up=>xg size f (m.needed.set (zj size (L:Int) j) (fl.set (j % 4) ⟨true,true,h,[]⟩)) (L+1) (j / 4) up
   | none=>m.needed.set (zj size (L:Int) j) (fl.set (j % 4) ⟨true,true,h,[]⟩)):=rfl
 clear ih ao aQ a9 aG aH ap a8 hj h8;unfold zo at ae ⊢;go_enter Tryz.func142,Tryz.ntmps142;go_wp2_with fail;have Q:Hid (Below w.heap.size w (w.alloc (.cells (hv h) 92))):=ze w _;have a7:Hid ((w.alloc (.cells (hv h) 92)).heap[w.heap.size]?=some (.cells (hv h) 92 (0,0))):=heap_alloc_last _ _;generalize w.alloc (.cells (hv h) 92)=W1 at *
 go_cut [10,11] from 14 to 25 (fun bl bm wx=>bl= .pointer a∧bm= .bool b∧Below W1.heap.size W1 wx)
 case first =>
  have an:W1.heap[cb]?=some (.cells C qh (0,0)):=(Q.o.block _ (zb S.o.cli)).trans S.o.cli;have aw:=za an;have bq:W1.cell? ⟨cb,14,none⟩=some (.pointer (some ⟨nm,0,none⟩)):=(zf an 14 _ S.o.cells.nee).1;clear an bk
  go_region_with (first
   | (go_at_call 141;refine(bd.o _).mono ?_;rintro r w2 ⟨rfl,aA⟩;have aa:=za (qa aA);have br:w2.cell? ⟨cb,14,none⟩=some (.pointer (some ⟨nm,0,none⟩)):=(zf ((aa.o.block _ (zb aw.o)).trans aw.o) 14 _ S.o.cells.nee).1;clear aA)
   | (go_at_call 140;refine(ae.o w2 (by exact Q.o.trans (aa.o.mono Q.o.size))).mono ?_;rintro r w3 ⟨rfl,aB⟩;have aR:=za (aa.o.trans (aB.mono aa.o.size));clear aB))
  all_goals go_wp2_with fail
  all_goals go_meet
  all_goals exact⟨rfl,rfl,aR.o⟩
 case rest =>
  obtain⟨rfl,rfl,am⟩:=hcut;obtain⟨X,hX⟩:∃ X,X=wc:=⟨_,rfl⟩
  subst hX;have E:=za (Q.o.trans (am.mono Q.o.size));have aV:Hid (X.heap[w.heap.size]?=some (.cells (hv h) 92 (0,0))):=(am.block _ (zb a7.o)).trans a7.o;have ay:=za (S.o.below E.o);clear am ae;rcases av.o with ⟨rfl,rfl,hg⟩ | ⟨rfl,LN,bb,fb,xs,fl,rfl,aK,aL,aM,aI,hg,hA,hf,I,aF⟩
  ·go_wp2_with fail;first | go_end0 | refine bodyPost_ret (results_none rfl _ _ _) rfl ?_
   rw [ai.o,hg];exact⟨rfl,.of_below E.o,ay.o⟩
  ·have Y:zn X fb xs:=(E.o.block _ (zb hf)).trans hf;have HF:=za Y;have bn:=za I;have aU:=za (aF.below E.o);have aY:=za aI;have a1:=za hg;have HA:=za hA;have K:(⟨true,true,h,.slice none 0 0⟩:Px).ok:=⟨H8.o,_,_,_,rfl⟩
   have bp:=za K;have aq:D < xs.length:=by rw [I.1];exact a3.o
   have aJ:(zaf (.pointer (some ⟨w.heap.size,0,none⟩))).run Tryz.prog X.drew= .ok (.agg (hv h)) X.drew:=qr (w:=X.drew) (y9 (w:=X.drew) (cs:=h.map bv) aV.o) H8.o;have bh:=fun w0=>zvs h H8.o w0;have aP:X.drew.there fb (D*11) 11:=by
    have:=zn.there (w:=X.drew) (fb:=fb) (xs:=xs) Y I.2 aq (o:=0) (n:=11) (by omega);rw [Nat.add_zero] at this;exact this
   have ar:=zb2 aP (Px.cs_len K) (Px.cs_one K);have az:Hid (zn (X.drew.setCells fb (D*11) (⟨true,true,h,.slice none 0 0⟩:Px).cs) fb (xs.set D ⟨true,true,h,.slice none 0 0⟩)):=zn.set (w:=X.drew) Y I.2 aq K;have af:Hid (FOk (xs.set D ⟨true,true,h,.slice none 0 0⟩)):=⟨by rw [List.length_set];exact I.1,zj1 I.2 D K⟩
   have aj:Hid (zg (fun x=>x=fb) [zt] X (X.drew.setCells fb (D*11) (⟨true,true,h,.slice none 0 0⟩:Px).cs)):=((zg.refl (fun x=>x=fb) [zt] X).drew).setCells (w:=X.drew) (.inl rfl) Y (by simp) _ _;have aZ:=za (aK.below E.o (fun _ h=>h));have ba:Hid (jf (NdR X A) LN m.needed):=aL.mono (fun a' _ b' hr=>⟨hr.1,hr.2.turn (O:=fun _=>False) (T:=[]) (.of_below E.o) (by simp) (by simp) (fun _ h=>h)⟩);have bc:=za aM;have ap:D < 4:=a3.o;clear hf Y I aF aI hg hA K aq aP aK aL aM av;go_wp2_with fail;go_region;generalize X.drew.setCells fb (D*11) (⟨true,true,h,.slice none 0 0⟩:Px).cs=V at *
   have ak:Hid (zg A [zt] X V):=aj.o.mono (fun b hb=>by rw [hb];exact HA.o) (fun _ h=>h);have a2:Hid (j9 V (xs.set D ⟨true,true,h,.slice none 0 0⟩) (fl.set D ⟨true,true,h,[]⟩)):=z5n (aU.o.turn aj.o (by decide)) D ⟨rfl,rfl,rfl,.inl ⟨rfl,rfl⟩⟩;have ax:Hid (CS W0 V O A OP cb nb db pm nm C d room pr { m with needed:=m.needed.set (zj size (L:Int) j) (fl.set D ⟨true,true,h,[]⟩) } k):=ay.o.setNd ak.o (zgs.setF aZ.o ba.o bc.o aY.o aj.o HF.o az.o af.o a2.o HA.o) (Mm.set_len _ _ _);have bj:=zad (y9 az.o) af.o.len;have bf:=za (z3n a2.o);have a0:=za (z0w _ af.o V);clear aJ bh ar;go_wp2_with fail;refine a0.o.mono ?_;rintro r H ⟨aC,aN⟩;rw [bf.o] at aN;have ac:=za aC;have U:=ai.o;rw [a1.o] at U;simp only at U;rw [← aX.o] at U;have a5:=za U;have HG:Hid (∀ y:List UInt8,y.length=8→(zdk (.pointer (some ⟨H.heap.size,0,none⟩)) (.agg (hv y))).run Tryz.prog (H.alloc (.cells jo 92))= .ok () ((H.alloc (.cells jo 92)).setCells H.heap.size 0 (y.map bv))∧((H.alloc (.cells jo 92)).setCells H.heap.size 0 (y.map bv)).heap[H.heap.size]?=some (.cells (hv y) 92 (0,0))∧Below H.heap.size H ((H.alloc (.cells jo 92)).setCells H.heap.size 0 (y.map bv))):=by
    intro y hy;have aE:(H.alloc (.cells jo 92)).heap[H.heap.size]?=some (.cells (xf.map bv).toArray 92 (0,0)):=heap_alloc_last _ _;have bi:=ji aE (ds:=y.map bv) (by simp [hy,xf]);exact⟨zbe (by have:=qw aE;simpa [xf] using this) hy,bi,zr (ze _ _) (Nat.le_refl _) _ _⟩
   clear aC U ai a0 bj;rcases aN with ⟨up,J,rfl⟩ | ⟨J,rfl⟩
   ·have Z:up.length=8:=by
     obtain⟨-,-,e⟩:=zmk J;rw [e];exact ql _ _
    obtain⟨ar,ad,W⟩:=HG.o up Z;have aJ:=qr (y9 (cs:=up.map bv) ad) Z;have bo:=za Z;have al:=za J;have R:Hid (Below V.heap.size V ((H.alloc (.cells jo 92)).setCells H.heap.size 0 (up.map bv))):=ac.o.trans (W.mono ac.o.size);have bu:wrap64 ((L:Int)+1)=((L+1:Nat):Int):=by unfold wrap64;omega
    obtain⟨q,hq⟩:∃ q,q=j / 4:=⟨_,rfl⟩
    have bs:(j:Int) / 4=(q:Int):=by omega
    have bt:wrap64 (q:Int)=(q:Int):=by have:=a4.o;unfold wrap64;omega
    have HQ:=za hq;have ag:Hid (L+1≤40∧33≤L+1+f∧q < 9223372036854775808):=by
     have hn:=a4.o;refine⟨?_,by omega,by omega⟩;have hw:=a6.o _ (Mm.get_mem a1.o);unfold zj at hw;simp only at hw;rcases Nat.lt_or_ge L 32 with h' | h'
     ·omega
     ·exfalso;have hz:yd (L:Int) size=0:=by
       unfold yd;rw [Int.toNat_natCast];refine Nat.div_eq_of_lt (Nat.lt_of_lt_of_le au ?_);exact Nat.le_trans (by decide:9223372036854775808≤4 ^ 32) (Nat.pow_le_pow_right (by omega) h')
      rw [hz] at hw;omega
    have ah:=za (aW.o (L+1) q up { m with needed:=m.needed.set (zj size (L:Int) j) (fl.set D ⟨true,true,h,[]⟩) } _ ag.o.2.1 ag.o.1 ag.o.2.2 Z (a6.o.set _ _) (ax.o.below R.o));clear ad W J Z hq HG;unfold zo at ah;go_wp2_with fail;rw [show(L:Int)+1=((L+1:Nat):Int) from by omega];refine ah.o.mono ?_;rintro r w9 ⟨rfl,aO,aD⟩;have bg:=za aO;have aS:=za aD;clear aO aD ah;go_wp2_with fail;first | go_end0 | refine bodyPost_ret (results_none rfl _ _ _) rfl ?_
    rw [a5.o,al.o,← HQ.o];exact⟨rfl,(((zg.of_below E.o).trans (ak.o.mono (fun _ h=> .inl h) (fun _ h=>h))).then_below R.o).trans (bg.o.mono (fun _ h=> .inl h) (fun _ h=>h)),aS.o⟩
   ·obtain⟨ar,ad,W⟩:=HG.o xf rfl;have al:=za J;have R:Hid (Below V.heap.size V ((H.alloc (.cells jo 92)).setCells H.heap.size 0 (xf.map bv))):=ac.o.trans (W.mono ac.o.size);clear ad W J HG;go_wp2_with fail;first | go_end0 | refine bodyPost_ret (results_none rfl _ _ _) rfl ?_
    rw [a5.o,al.o];exact⟨rfl,((zg.of_below E.o).trans (ak.o.mono (fun _ h=> .inl h) (fun _ h=>h))).then_below R.o,ax.o.below R.o⟩
theorem znx (E:World)(O A D:Nat→Prop)(cb Q H R nm:Nat)(C:Array Value)(d:Dk)(room:Int)(S:Mm)(size k:Nat)(r:size < 9223372036854775808):∀ f,zl7 E O A D cb Q H R nm C d room S size k f:=by
 intro f
 induction f with
 | zero =>
  intro L j h m w h1 h2 U W K I;refine zsr E O A D cb Q H R nm C d room S size k r L j h m w h2 U ?_ I;cases hg:m.needed.get (zj size (L:Int) j) with
  | none=>rfl
  | some fl =>
   exfalso;have J:=K _ (Mm.get_mem hg);unfold zj at J;simp only at J;have V:yd (L:Int) size=0:=by
    unfold yd;rw [Int.toNat_natCast];refine Nat.div_eq_of_lt (Nat.lt_of_lt_of_le r ?_);exact Nat.le_trans (by decide:9223372036854775808≤4 ^ 32) (Nat.pow_le_pow_right (by omega) (by omega))
   rw [V] at J;omega
 | succ f ih=>exact zuy E O A D cb Q H R nm C d room S size k f r ih
end
end Go.Proofs.YtndkblnpbjffhaaGreatDoor
