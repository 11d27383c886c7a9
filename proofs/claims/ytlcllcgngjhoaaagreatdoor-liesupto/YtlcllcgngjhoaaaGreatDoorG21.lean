import Derived.Test.YtlcllcgngjhoaaaGreatDoorG20
import Derived.Test.YtlcllcgngjhoaaaGreatDoorG15
set_option maxHeartbeats 8000000
set_option maxRecDepth 100000
set_option linter.all false
namespace Go.Proofs.YtlcllcgngjhoaaaGreatDoor
open Go.RowKit Go.Proofs.Tryz
theorem z1m (a:zc)(f n:Nat)(v:Value)(b:List ByteArray)(w:World)(h:Sss w v b):
  Calls prog 91 #[.int .i64 n,.int .i64 n,v,.bool true,txt a] w fun r i=>r= .returned (.tuple #[txt (j2 [] a (f+1) n n (bys b) true).1,txt (j2 [] a (f+1) n n (bys b) true).2.1,.bool (j2 [] a (f+1) n n (bys b) true).2.2])∧Below w.heap.size w i:=by
 rw [zhl,jq];obtain⟨c,g,rfl,-,-⟩:=h;have d:((b.length:Int)==0)=decide (b.length=0):=by
  rw [zfb];simp
 have e:=zf d;clear d;unfold txt;go_enter func91,ntmps91
 go_wp2
 go_ret3
 exact⟨by rw [← e.o];rfl,yf _ _⟩
theorem z8u (a:zc)(f n:Nat)(v:Value)(b:List ByteArray)(w:World)(d:b.length≠1)(h:Sss w v b):
  Calls prog 91 #[.int .i64 n,.int .i64 n,v,.bool false,txt a] w fun r g=>r= .returned (.tuple #[txt (j2 [] a (f+1) n n (bys b) false).1,txt (j2 [] a (f+1) n n (bys b) false).2.1,.bool (j2 [] a (f+1) n n (bys b) false).2.2])∧Below w.heap.size w g:=by
 rw [zmn _ _ _ _ _ (by rw [jq];exact d)];obtain⟨c,e,rfl,-,-⟩:=h;have i:((b.length:Int) != 1)=true:=by rw [bne_iff_ne];omega
 clear d;unfold txt;go_enter func91,ntmps91
 go_wp2
 go_ret3
 exact⟨rfl,yf _ _⟩
theorem z43 (a:zc)(f n:Nat)(v:Value)(d:List ByteArray)(w:World)(j:d.length=1)(h:Sss w v d):
  Calls prog 91 #[.int .i64 n,.int .i64 n,v,.bool false,txt a] w fun r q=>r= .returned (.tuple #[txt (j2 [] a (f+1) n n (bys d) false).1,txt (j2 [] a (f+1) n n (bys d) false).2.1,.bool (j2 [] a (f+1) n n (bys d) false).2.2])∧Below w.heap.size w q:=by
 rw [zi3 _ _ _ _ _ (by rw [jq];exact j)];obtain⟨t,rfl⟩:=List.length_eq_one_iff.1 j;obtain⟨c,o,rfl,m,e⟩:=h;rcases e with e | ⟨b,g,rfl,l⟩
 ·simp at e
 have p:w.cell? ⟨b,g,none⟩=some (.string t):=l 0 (by simp);have k:Value.string t=txt t.data.toList:=by simp [txt]
 rw [k] at p;have i:(bys [t]).headD []=t.data.toList:=rfl;rw [i];generalize t.data.toList=L at *;clear l k i;simp only [zab] at *;go_enter func91,ntmps91;go_wp2_with fail
 go_quiet (fail)
 go_wp2
 go_ret3
 exact⟨rfl,zhz (yf _ _) _⟩
theorem z42 (a:zc)(f m n:Nat)(b:m≠n)(v:Value)(d:List ByteArray)(whole:Bool)(w:World)(h0:d.length=0)(h:Sss w v d):
  Calls prog 91 #[.int .i64 m,.int .i64 n,v,.bool whole,txt a] w fun r g=>r= .returned (.tuple #[txt (j2 [] a (f+1) m n (bys d) whole).1,txt (j2 [] a (f+1) m n (bys d) whole).2.1,.bool (j2 [] a (f+1) m n (bys d) whole).2.2])∧Below w.heap.size w g:=by
 rw [zkp _ _ _ _ _ _ _ b (by rw [jq];exact h0)];obtain⟨c,e,rfl,-,-⟩:=h;rw [h0];have i:((m:Int)==(n:Int))=false:=yk.2 (by omega);clear b;unfold txt;go_enter func91,ntmps91
 go_wp2
 go_ret3
 exact⟨rfl,yf _ _⟩
theorem z41 (a:zc)(M:a.length≤8)(f m n:Nat)(aa:1≤m)(ab:m < n)(hn:n≤9223372036854775807)(E:m≤yo n)(b g q d:Nat)(c:List ByteArray)(whole:Bool)(w:World)(x:c.length=q+1)(F:q≤1000000)(N:q+1≤d)(B:∀ p∈bys c,p.length≤8)
 (h:Sss w (.slice (some ⟨b,g,none⟩) (q+1) d) c)
 (S:∀(m n:Int) (v:Value) (c:List ByteArray) (whole:Bool) (w:World),1≤m→m≤n→n≤9223372036854775807→c.length < f→c.length≤1000000→(∀ p∈bys c,p.length≤8)→Sss w v c→Calls prog 91 #[.int .i64 m,.int .i64 n,v,.bool whole,txt a] w fun r H=>r= .returned (.tuple #[txt (j2 [] a f m.toNat n.toNat (bys c) whole).1,txt (j2 [] a f m.toNat n.toNat (bys c) whole).2.1,.bool (j2 [] a f m.toNat n.toNat (bys c) whole).2.2])∧Below w.heap.size w H)
 (O:c.length < f+1) :
  Calls prog 91 #[.int .i64 m,.int .i64 n,.slice (some ⟨b,g,none⟩) (q+1) d,.bool whole,txt a] w fun r H=>r= .returned (.tuple #[txt (j2 [] a (f+1) m n (bys c) whole).1,txt (j2 [] a (f+1) m n (bys c) whole).2.1,.bool (j2 [] a (f+1) m n (bys c) whole).2.2])∧Below w.heap.size w H:=by
 rw [zi2 _ _ _ _ _ _ _ (by omega) (by rw [jq];omega) E];obtain⟨k1,k2,k3⟩:=vz n (by omega);have j:=zdk (bys c) q (by rw [jq];exact x) [];rw [j.1,j.2,← zf7];have hx:=h.last x;have C:(bys c)[q]'(by rw [jq];omega)=(c[q]).data.toList:=by simp [bys]
 rw [C];have z:Hid ((c[q]).data.toList.length≤8):=by
  have:=B _ (yd (l:=bys c) (n:=q) (by rw [jq];omega));rw [C] at this;exact this
 have K:Value.string c[q]=txt (c[q]).data.toList:=by simp [txt]
 rw [K] at hx;have u:(c.take q).length=q:=by simp;omega
 have W:Hid (Sss w (.slice (some ⟨b,g,none⟩) q d) (c.take q)):=by
  have:=h.take q (by omega);exact this
 have i:∀ p∈bys (c.take q),p.length≤8:=fun p Q=>B p (by rw [zf7] at Q;exact qh Q);have J:=zf (S m (yo n) (.slice (some ⟨b,g,none⟩) q d) (c.take q) whole);have D:=z5e [] a (by simp) M f m (yo n) (bys (c.take q)) whole i;have I:=zf u;have V:=zf i;have X:=zf O;have Y:=zf x;have n1:((m:Int)==(n:Int))=false:=yk.2 (by omega);have m1:(((q:Int)+1)==0)=false:=yk.2 (by omega);have c1:(q:Int)≤(d:Int):=by omega
 have c2:(q:Int) < (q:Int)+1:=by omega
 rw [yj,yj] at J;clear S u j C K i;generalize (c[q]).data.toList=L at *;clear O x B h M;generalize j2 [] a f m (yo n) (bys (c.take q)) whole=R at *;obtain⟨R1,Z,R3⟩:=R;obtain⟨T,U⟩:=D;have A:=zf (And.intro T U);clear T U;go_enter func91,ntmps91;go_wp2_with fail;refine(zee n _ (by omega) hn).mono ?_;rintro e w2 ⟨rfl,G⟩;subst G;have P:(m:Int)≤(yo n:Int):=by omega
 go_wp2_with fail;refine(J.out _ (by omega) (by omega) (by omega) (by rw [I.o];have:=X.o;rw [Y.o] at this;omega) (by rw [I.o];exact F) V.o W.o).mono ?_;rintro e w3 ⟨rfl,s⟩;have k:=zf s;clear s;go_wp2_with fail;refine(zgh Z L _ A.o.2 z.o).mono ?_;rintro e w4 ⟨rfl,t⟩;have y:=zf (k.o.trans (t.mono k.o.size));clear t;go_wp2_with fail
 go_ret3
 exact⟨rfl,y.o⟩
theorem z1l (a:zc)(O:a.length≤8)(f m n:Nat)(aa:1≤m)(ab:m < n)(hn:n≤9223372036854775807)(G:¬ m≤yo n)(b g q d:Nat)(c:List ByteArray)(whole:Bool)(w:World)(B:c.length=q+1)(H:q≤1000000)(P:q+1≤d)(D:∀ p∈bys c,p.length≤8)
 (h:Sss w (.slice (some ⟨b,g,none⟩) (q+1) d) c)
 (U:∀(m n:Int) (v:Value) (c:List ByteArray) (whole:Bool) (w:World),1≤m→m≤n→n≤9223372036854775807→c.length < f→c.length≤1000000→(∀ p∈bys c,p.length≤8)→Sss w v c→Calls prog 91 #[.int .i64 m,.int .i64 n,v,.bool whole,txt a] w fun r J=>r= .returned (.tuple #[txt (j2 [] a f m.toNat n.toNat (bys c) whole).1,txt (j2 [] a f m.toNat n.toNat (bys c) whole).2.1,.bool (j2 [] a f m.toNat n.toNat (bys c) whole).2.2])∧Below w.heap.size w J)
 (Q:c.length < f+1) :
  Calls prog 91 #[.int .i64 m,.int .i64 n,.slice (some ⟨b,g,none⟩) (q+1) d,.bool whole,txt a] w fun r J=>r= .returned (.tuple #[txt (j2 [] a (f+1) m n (bys c) whole).1,txt (j2 [] a (f+1) m n (bys c) whole).2.1,.bool (j2 [] a (f+1) m n (bys c) whole).2.2])∧Below w.heap.size w J:=by
 rw [zhk _ _ _ _ _ _ _ (by omega) (by rw [jq];omega) G];obtain⟨k1,k2,k3⟩:=vz n (by omega);have j:=zdk (bys c) q (by rw [jq];exact B) [];rw [j.1,j.2,← zf7];have hx:=h.last B;have E:(bys c)[q]'(by rw [jq];omega)=(c[q]).data.toList:=by simp [bys]
 rw [E];have t:Hid ((c[q]).data.toList.length≤8):=by
  have:=D _ (yd (l:=bys c) (n:=q) (by rw [jq];omega));rw [E] at this;exact this
 have N:Value.string c[q]=txt (c[q]).data.toList:=by simp [txt]
 rw [N] at hx;have A:(c.take q).length=q:=by simp;omega
 have Y:Hid (Sss w (.slice (some ⟨b,g,none⟩) q d) (c.take q)):=by
  have:=h.take q (by omega);exact this
 have i:∀ p∈bys (c.take q),p.length≤8:=fun p T=>D p (by rw [zf7] at T;exact qh T);have M:=zf (U ((m:Int) - (yo n:Int)) ((n:Int) - (yo n:Int)) (.slice (some ⟨b,g,none⟩) q d) (c.take q) false);have F:=z5e [] a (by simp) O f (m - yo n) (n - yo n) (bys (c.take q)) false i;have K:=zf A;have X:=zf i;have Z:=zf Q;have Hq:=zf B;have n1:((m:Int)==(n:Int))=false:=yk.2 (by omega);have m1:(((q:Int)+1)==0)=false:=yk.2 (by omega);have c1:(q:Int)≤(d:Int):=by omega
 have c2:(q:Int) < (q:Int)+1:=by omega
 rw [show((m:Int) - (yo n:Int)).toNat=m - yo n by omega,show((n:Int) - (yo n:Int)).toNat=n - yo n by omega] at M;clear U A j E N i;generalize (c[q]).data.toList=L at *;clear Q B D h O;generalize j2 [] a f (m - yo n) (n - yo n) (bys (c.take q)) false=R at *;obtain⟨R1,R2,R3⟩:=R;obtain⟨V,W⟩:=F;have u:=zf (And.intro V W);clear V W;go_enter func91,ntmps91;go_wp2_with fail;refine(zee n _ (by omega) hn).mono ?_;rintro e w2 ⟨rfl,I⟩;subst I;have S:¬(m:Int)≤(yo n:Int):=by omega
 go_wp2_with fail;refine(M.out _ (by omega) (by omega) (by omega) (by rw [K.o];have:=Z.o;rw [Hq.o] at this;omega) (by rw [K.o];exact H) X.o Y.o).mono ?_;rintro e w3 ⟨rfl,x⟩;have k:=zf x;clear x;go_wp2_with fail;refine(zgh L R1 _ t.o u.o.1).mono ?_;rintro e w4 ⟨rfl,y⟩;have s:=zf (k.o.trans (y.mono k.o.size));clear y;go_wp2_with fail;refine(zgh L R2 _ t.o u.o.2).mono ?_;rintro e w5 ⟨rfl,z⟩;have C:=zf (s.o.trans (z.mono s.o.size));clear z;go_wp2_with fail
 go_ret3
 exact⟨rfl,C.o⟩
theorem z8t (a:zc)(t:a.length≤8)(f:Nat):∀(m n:Int) (v:Value) (d:List ByteArray) (whole:Bool) (w:World),1≤m→m≤n→n≤9223372036854775807→d.length < f→d.length≤1000000→(∀ p∈bys d,p.length≤8)→Sss w v d →
  Calls prog 91 #[.int .i64 m,.int .i64 n,v,.bool whole,txt a] w fun r C=>r= .returned (.tuple #[txt (j2 [] a f m.toNat n.toNat (bys d) whole).1,txt (j2 [] a f m.toNat n.toNat (bys d) whole).2.1,.bool (j2 [] a f m.toNat n.toNat (bys d) whole).2.2])∧Below w.heap.size w C:=by
 induction f with
 | zero=>exact fun m n v d whole w _ _ _ h=>absurd h (zed _)
 | succ f A =>
  intro m n v d whole w h0 B E x F s h;obtain⟨M,rfl⟩:=qv (show 0≤m by omega);obtain⟨N,rfl⟩:=qv (show 0≤n by omega);rw [yj,yj]
  by_cases o:M=N
  ·subst o;cases whole with
   | true=>exact z1m a f M v d w h
   | false =>
    by_cases y:d.length=1
    ·exact z43 a f M v d w y h
    ·exact z8u a f M v d w y h
  by_cases z:d.length=0
  ·exact z42 a f M N o v d whole w z h
  obtain⟨q,l⟩:∃ q,d.length=q+1:=⟨d.length - 1,by omega⟩;have j:=h;obtain⟨c,e,rfl,u,k⟩:=h;rcases k with k | ⟨b,i,rfl,D⟩
  ·exact absurd (by simp [k]) z
  rw [l] at j ⊢
  by_cases g:M≤yo N
  ·exact z41 a t f M N (by omega) (by omega) (by omega) g b i q e d whole w l (by omega) (by omega) s j A x
  ·exact z1l a t f M N (by omega) (by omega) (by omega) g b i q e d whole w l (by omega) (by omega) s j A x
variable {f g:Nat}{leaf:zc}{ps:za}{t:TypeId}{w:World}{x0 x1 x2 x3 x4 x5 x6 x7:Int}
theorem z0r (a:w.heap[g]?=some (.cells #[.int .u8 x0,.int .u8 x1,.int .u8 x2,.int .u8 x3,.int .u8 x4,.int .u8 x5,.int .u8 x6,.int .u8 x7] t (0,0))):
  w.cell? ⟨g,0,none⟩=some (.int .u8 x0)∧w.cell? ⟨g,1,none⟩=some (.int .u8 x1)∧w.cell? ⟨g,2,none⟩=some (.int .u8 x2)∧w.cell? ⟨g,3,none⟩=some (.int .u8 x3)∧w.cell? ⟨g,4,none⟩=some (.int .u8 x4)∧w.cell? ⟨g,5,none⟩=some (.int .u8 x5)∧w.cell? ⟨g,6,none⟩=some (.int .u8 x6)∧w.cell? ⟨g,7,none⟩=some (.int .u8 x7):=by
 refine⟨?_,?_,?_,?_,?_,?_,?_,?_⟩<;>(rw [yq _ _ _ _ _ _ a];rfl)
theorem yld (b c:zc)(i n:Int)(v:Value)(ps:za)(w:World)(d:i < 0∨n≤i)(j:b.length=8)(k:c.length=8)(h:Hss w v ps):
  Calls prog 130 #[.agg (hv b),.int .i64 i,.int .i64 n,v,.agg (hv c)] w fun r m=>r= .returned (.bool false)∧Below w.heap.size w m:=by
 obtain⟨a,f,rfl,-,-,-⟩:=h;have o:(hv b).size=8:=by rw [zay,j]
 have l:(hv c).size=8:=by rw [zay,k]
 by_cases e:i < 0
 ·go_enter func130,ntmps130
  go_wp2
  go_ret;exact⟨rfl,xu _ _ _⟩
 ·have g:n≤i:=by omega
  clear d;go_enter func130,ntmps130
  go_wp2
  go_ret;exact⟨rfl,xu _ _ _⟩
theorem yna (f:Nat)(b c:zc)(i n:Int)(u:0≤i)(x:i < n)(hn:n≤9223372036854775807)(v:Value)(ps:za)(w:World)(hf:ps.length < f)(hp:ps.length≤1000000)(p:b.length=8)(K:c.length=8)(h:Hss w v ps):
  Calls prog 130 #[.agg (hv b),.int .i64 i,.int .i64 n,v,.agg (hv c)] w fun r w'=>r= .returned (.bool ((zbe ql f b i.toNat n.toNat ps).2&&eqH (zbe ql f b i.toNat n.toNat ps).1 c))∧Below w.heap.size w w':=by
 have H:=zf h;obtain⟨a,s,rfl,-,-,-⟩:=h;have L:(hv b).size=8:=by rw [zay,p]
 have I:=zf L;have W:=zf (yl5 b p f i n (.slice a ps.length s) ps);have k:=zf (ztk ql b rfl p f i.toNat n.toNat ps);obtain⟨z,A,B,C,D,E,F,G,y⟩:=zsp c K;have X:=zf y;generalize Z:zbe ql f b i.toNat n.toNat ps=R at *;clear Z;obtain⟨q,Y⟩:=R;obtain⟨N,O,P,Q,S,T,U,V,M⟩:=zsp q k.o;have J:=zf M;have ad:¬ i < 0:=by omega
 have ab:¬ n≤i:=by omega
 rw [y];clear M L p y;have ae:(hv b).size=8:=I.o;go_enter func130,ntmps130;go_wp2_with (refine zcv rfl 110 _ rfl w.heap.size rfl 110 _ (0,0) _ (by exact zj (zg _ _)) underlying110 rfl (by rw [I.o];kernel_rfl) ?_);refine(W.o _ u x hn hf hp (H.o.below (xu _ _ _))).mono ?_;rintro e j ⟨m,g⟩;rw [J.o] at m;subst m;have d:Hid (Below w.heap.size w j):=(xu _ _ _).trans (g.mono (by simp;omega));have t:j.heap[w.heap.size+1]?=some (.cells #[.int .u8 z,.int .u8 A,.int .u8 B,.int .u8 C,.int .u8 D,.int .u8 E,.int .u8 F,.int .u8 G] 110 (0,0)):=by
  rw [g.block _ (by simp),show w.heap.size+1=(w.alloc (.cells (hv b) 110)).heap.size by simp];exact zg _ _
 have hz:w.heap.size+1 < j.heap.size:=ju t;have l:∀ o,(j.alloc o).heap[w.heap.size+1]?=some (.cells #[.int .u8 z,.int .u8 A,.int .u8 B,.int .u8 C,.int .u8 D,.int .u8 E,.int .u8 F,.int .u8 G] 110 (0,0)):=fun o=>zj t;obtain⟨c0,c1,c2,c3,c4,c5,c6,c7⟩:=z0r (l (.cells #[.int .u8 N,.int .u8 O,.int .u8 P,.int .u8 Q,.int .u8 S,.int .u8 T,.int .u8 U,.int .u8 V] 110));clear t l g;cases Y with
 | false =>
  go_wp2_with fail;go_ret;exact⟨rfl,d.o.trans ((zk j _).mono d.o.size)⟩
 | true =>
  have aa:∀ w,(binOp .eql 110 (.agg #[.int .u8 N,.int .u8 O,.int .u8 P,.int .u8 Q,.int .u8 S,.int .u8 T,.int .u8 U,.int .u8 V]) (.agg #[.int .u8 z,.int .u8 A,.int .u8 B,.int .u8 C,.int .u8 D,.int .u8 E,.int .u8 F,.int .u8 G])).run prog w= .ok (.bool (eqH q c)) w:=fun w=>by
   rw [← J.o,← X.o];exact zoo q c k.o K w
  go_wp2_with fail;go_ret;exact⟨rfl,d.o.trans ((zk j _).mono d.o.size)⟩
def zui (f:Nat)(a:zc)(i n:Int)(ps:za)(b:zc):Bool :=
 if i < 0∨n≤i then false else (zbe ql f a i.toNat n.toNat ps).2&&eqH (zbe ql f a i.toNat n.toNat ps).1 b
theorem z3o {a:zc}{i n:Int}(h:i < 0∨n≤i):zui f leaf i n ps a=false:=by
 rw [zui,if_pos h]
theorem z0y {a:zc}{i n:Int}(h:¬(i < 0∨n≤i)):zui f leaf i n ps a=((zbe ql f leaf i.toNat n.toNat ps).2&&eqH (zbe ql f leaf i.toNat n.toNat ps).1 a):=by
 rw [zui,if_neg h]
theorem yg7 {a:zc}{i n:Int}(h:¬(i < 0∨n≤i)):zui f leaf i n ps a=((zbe [] f leaf i.toNat n.toNat ps).2&&eqH (zbe [] f leaf i.toNat n.toNat ps).1 a):=by
 rw [z0y h];obtain⟨b,c⟩:=z8l ql [] leaf f i.toNat n.toNat ps;rw [← b];cases d:(zbe ql f leaf i.toNat n.toNat ps).2
 ·rfl
 ·rw [c d]
theorem ylc (f:Nat)(a b:zc)(i n:Int)(j:n≤9223372036854775807)(v:Value)(ps:za)(w:World)(g:ps.length < f)(k:ps.length≤1000000)(d:a.length=8)(e:b.length=8)(h:Hss w v ps):
  Calls prog 130 #[.agg (hv a),.int .i64 i,.int .i64 n,v,.agg (hv b)] w fun r l=>r= .returned (.bool (zui f a i n ps b))∧Below w.heap.size w l:=by
 by_cases c:i < 0∨n≤i
 ·rw [z3o c];exact yld a b i n v ps w c d e h
 ·rw [z0y c];exact yna f a b i n (by omega) (by omega) j v ps w g k d e h
theorem zun (a b:zc):(a==b)=eqH a b:=by
 unfold eqH;rw [zfb,zfu,vj]
theorem z8p (c d:zc)(i n:Int)(v:Value)(j:List ByteArray)(w:World)(b:i < 0∨n≤i)(h:Sss w v j):
  Calls prog 30 #[txt c,.int .i64 i,.int .i64 n,v,txt d] w fun r k=>r= .returned (.bool false)∧Below w.heap.size w k:=by
 obtain⟨a,f,rfl,-,-⟩:=h
 by_cases e:i < 0
 ·go_enter func30,ntmps30
  go_wp2
  go_ret;exact⟨rfl,yf _ _⟩
 ·have g:n≤i:=by omega
  clear b;go_enter func30,ntmps30
  go_wp2
  go_ret;exact⟨rfl,yf _ _⟩
theorem yd3 (f:Nat)(b d:zc)(i n:Int)(l:0≤i)(m:i < n)(C:n≤9223372036854775807)(v:Value)(c:List ByteArray)(w:World)(y:c.length < f)(D:c.length≤1000000)(A:b.length≤8)(q:∀ p∈bys c,p.length≤8)(h:Sss w v c):
  Calls prog 30 #[txt b,.int .i64 i,.int .i64 n,v,txt d] w fun r E=>r= .returned (.bool ((zbe [] f b i.toNat n.toNat (bys c)).2&&eqH (zbe [] f b i.toNat n.toNat (bys c)).1 d))∧Below w.heap.size w E:=by
 have H:=zf h;obtain⟨a,k,rfl,-,-⟩:=h;have t:=zf (z8r b A f i n (.slice a c.length k) c);generalize x:zbe [] f b i.toNat n.toNat (bys c)=R at *;clear x;obtain⟨F,u⟩:=R;have B:¬ i < 0:=by omega
 have z:¬ n≤i:=by omega
 have s:=zf q;clear q;go_enter func30,ntmps30;go_wp2_with fail;refine(t.o _ l m C y D s.o H.o).mono ?_;rintro e G ⟨rfl,j⟩;have g:=zf j;clear j;cases u with
 | false =>
  go_wp2_with fail;go_ret;exact⟨rfl,g.o⟩
 | true =>
  unfold txt
  go_wp2
  go_ret;exact⟨by rw [zyj,← zun];rfl,g.o⟩
theorem z8o (f:Nat)(a b:zc)(i n:Int)(k:n≤9223372036854775807)(v:Value)(d:List ByteArray)(w:World)(g:d.length < f)(l:d.length≤1000000)(j:a.length≤8)(e:∀ p∈bys d,p.length≤8)(h:Sss w v d):
  Calls prog 30 #[txt a,.int .i64 i,.int .i64 n,v,txt b] w fun r m=>r= .returned (.bool (zui f a i n (bys d) b))∧Below w.heap.size w m:=by
 by_cases c:i < 0∨n≤i
 ·rw [z3o c];exact z8p a b i n v d w c h
 ·rw [yg7 c];exact yd3 f a b i n (by omega) (by omega) k v d w g l j e h
theorem ykx (a b:zc)(m n:Int)(v:Value)(ps:za)(w:World)(d:m < 1∨n < m)(g:a.length=8)(i:b.length=8)(h:Hss w v ps):
  Calls prog 119 #[.int .i64 m,.int .i64 n,.agg (hv a),.agg (hv b),v] w fun r l=>r= .returned (.bool false)∧Below w.heap.size w l:=by
 obtain⟨c,f,rfl,-,-,-⟩:=h;have o:(hv a).size=8:=by rw [zay,g]
 have k:(hv b).size=8:=by rw [zay,i]
 by_cases e:m < 1
 ·go_enter func119,ntmps119
  go_wp2
  go_ret;exact⟨rfl,xu _ _ _⟩
 ·have j:n < m:=by omega
  clear d;go_enter func119,ntmps119
  go_wp2
  go_ret;exact⟨rfl,xu _ _ _⟩
theorem ym3 (f:Nat)(a b:zc)(m n:Int)(hm:1≤m)(F:m≤n)(hn:n≤9223372036854775807)(v:Value)(ps:za)(w:World)(hf:ps.length < f)(hp:ps.length≤1000000)(s:a.length=8)(E:b.length=8)(h:Hss w v ps):
  Calls prog 119 #[.int .i64 m,.int .i64 n,.agg (hv a),.agg (hv b),v] w fun r w'=>r= .returned (.bool ((j2 ql a f m.toNat n.toNat ps true).2.2&&eqH (j2 ql a f m.toNat n.toNat ps true).1 a&&eqH (j2 ql a f m.toNat n.toNat ps true).2.1 b))∧Below w.heap.size w w':=by
 have H:=zf h;have B:∀ p∈ps,p.length=8:=by obtain⟨_,_,_,_,B,_⟩:=h;exact B
 obtain⟨c,C,rfl,-,-,-⟩:=h;have V:=zf (ymb a s f m n (.slice c ps.length C) ps true);obtain⟨K,L⟩:=zpz ql a rfl s f m.toNat n.toNat ps true B;generalize j2 ql a f m.toNat n.toNat ps true=R at *;obtain⟨z,A,Z⟩:=R;obtain⟨M,N,O,P,Q,S,T,U,y⟩:=zsp a s;obtain⟨u0,u1,u2,u3,u4,u5,u6,u7,G⟩:=zsp b E;obtain⟨x0,x1,x2,x3,x4,x5,x6,x7,I⟩:=zsp z K;obtain⟨z0,z1,z2,z3,z4,z5,z6,z7,J⟩:=zsp A L;have t:Hid (∀ w,(binOp .eql 110 (.agg #[.int .u8 x0,.int .u8 x1,.int .u8 x2,.int .u8 x3,.int .u8 x4,.int .u8 x5,.int .u8 x6,.int .u8 x7]) (.agg #[.int .u8 M,.int .u8 N,.int .u8 O,.int .u8 P,.int .u8 Q,.int .u8 S,.int .u8 T,.int .u8 U])).run prog w= .ok (.bool (eqH z a)) w):=fun w=>by
  rw [← I,← y];exact zoo z a K s w
 have u:Hid (∀ w,(binOp .eql 110 (.agg #[.int .u8 z0,.int .u8 z1,.int .u8 z2,.int .u8 z3,.int .u8 z4,.int .u8 z5,.int .u8 z6,.int .u8 z7]) (.agg #[.int .u8 u0,.int .u8 u1,.int .u8 u2,.int .u8 u3,.int .u8 u4,.int .u8 u5,.int .u8 u6,.int .u8 u7])).run prog w= .ok (.bool (eqH A b)) w):=fun w=>by
  rw [← J,← G];exact zoo A b L E w
 have Hy:=zf y;have W:=zf (And.intro I J);have i1:¬ m < 1:=by omega
 have i2:¬ n < m:=by omega
 rw [y,G];rw [y] at V;generalize eqH z a=Y at *;generalize eqH A b=E2 at *;clear I y J G K L s E B;go_enter func119,ntmps119;go_wp2_with fail;refine(V.o _ hm F hn hf hp (H.o.below (xu _ _ _))).mono ?_;rintro e q ⟨x,l⟩;rw [W.o.1,W.o.2] at x;subst x;have i:Hid (Below w.heap.size w q):=(xu _ _ _).trans (l.mono (by simp;omega));have X:q.heap[w.heap.size]?=some (.cells #[.int .u8 M,.int .u8 N,.int .u8 O,.int .u8 P,.int .u8 Q,.int .u8 S,.int .u8 T,.int .u8 U] 110 (0,0)):=by
  rw [l.block _ (by simp;omega)];exact zj (zg _ _)
 have D:q.heap[w.heap.size+1]?=some (.cells #[.int .u8 u0,.int .u8 u1,.int .u8 u2,.int .u8 u3,.int .u8 u4,.int .u8 u5,.int .u8 u6,.int .u8 u7] 110 (0,0)):=by
  rw [l.block _ (by simp),show w.heap.size+1=(w.alloc (.cells #[.int .u8 M,.int .u8 N,.int .u8 O,.int .u8 P,.int .u8 Q,.int .u8 S,.int .u8 T,.int .u8 U] 110)).heap.size by simp];exact zg _ _
 have aa:w.heap.size+1 < q.heap.size:=ju D;have j:=fun(d g:Obj)=>z0r (zj (o:=g) (zj (o:=d) X));have k:=fun(d g:Obj)=>z0r (zj (o:=g) (zj (o:=d) D));have c0:=fun d g=>(j d g).1;have c1:=fun d g=>(j d g).2.1;have c2:=fun d g=>(j d g).2.2.1;have c3:=fun d g=>(j d g).2.2.2.1;have c4:=fun d g=>(j d g).2.2.2.2.1;have c5:=fun d g=>(j d g).2.2.2.2.2.1;have c6:=fun d g=>(j d g).2.2.2.2.2.2.1;have c7:=fun d g=>(j d g).2.2.2.2.2.2.2;have d0:=fun d g=>(k d g).1;have d1:=fun d g=>(k d g).2.1;have d2:=fun d g=>(k d g).2.2.1;have d3:=fun d g=>(k d g).2.2.2.1;have d4:=fun d g=>(k d g).2.2.2.2.1;have d5:=fun d g=>(k d g).2.2.2.2.2.1;have d6:=fun d g=>(k d g).2.2.2.2.2.2.1;have d7:=fun d g=>(k d g).2.2.2.2.2.2.2;clear j k X D l;cases Z with
 | false =>
  go_wp2_with fail;go_ret;exact⟨rfl,i.o.trans ((xu q _ _).mono i.o.size)⟩
 | true =>
  have h1:=t.out;cases Y with
  | false =>
   go_wp2_with fail;go_ret;exact⟨rfl,i.o.trans ((xu q _ _).mono i.o.size)⟩
  | true =>
   have h2:=u.out;go_wp2_with fail;go_ret;exact⟨rfl,i.o.trans ((xu q _ _).mono i.o.size)⟩
def zsv (f:Nat)(m n:Int)(a b:zc)(ps:za):Bool :=
 if m < 1∨n < m then false else (j2 ql a f m.toNat n.toNat ps true).2.2&&eqH (j2 ql a f m.toNat n.toNat ps true).1 a&&eqH (j2 ql a f m.toNat n.toNat ps true).2.1 b
theorem z2x {a b:zc}{m n:Int}(h:m < 1∨n < m):zsv f m n a b ps=false:=by
 rw [zsv,if_pos h]
theorem z0t {a b:zc}{m n:Int}(h:¬(m < 1∨n < m)):zsv f m n a b ps=((j2 ql a f m.toNat n.toNat ps true).2.2&&eqH (j2 ql a f m.toNat n.toNat ps true).1 a&&eqH (j2 ql a f m.toNat n.toNat ps true).2.1 b):=by
 rw [zsv,if_neg h]
theorem yf6 {a b:zc}{m n:Int}(h:¬(m < 1∨n < m)):zsv f m n a b ps=((j2 [] a f m.toNat n.toNat ps true).2.2&&eqH (j2 [] a f m.toNat n.toNat ps true).1 a&&eqH (j2 [] a f m.toNat n.toNat ps true).2.1 b):=by
 rw [z0t h];obtain⟨d,e⟩:=z86 ql [] a f m.toNat n.toNat ps true;cases c:(j2 ql a f m.toNat n.toNat ps true).2.2
 ·rw [← d,c];rfl
 ·rw [← e c,c]
theorem ykw (f:Nat)(a b:zc)(m n:Int)(i:n≤9223372036854775807)(v:Value)(ps:za)(w:World)(g:ps.length < f)(j:ps.length≤1000000)(d:a.length=8)(e:b.length=8)(h:Hss w v ps):
  Calls prog 119 #[.int .i64 m,.int .i64 n,.agg (hv a),.agg (hv b),v] w fun r k=>r= .returned (.bool (zsv f m n a b ps))∧Below w.heap.size w k:=by
 by_cases c:m < 1∨n < m
 ·rw [z2x c];exact ykx a b m n v ps w c d e h
 ·rw [z0t c];exact ym3 f a b m n (by omega) (by omega) i v ps w g j d e h
theorem z8n (a b:zc)(m n:Int)(v:Value)(i:List ByteArray)(w:World)(d:m < 1∨n < m)(h:Sss w v i):
  Calls prog 57 #[.int .i64 m,.int .i64 n,txt a,txt b,v] w fun r j=>r= .returned (.bool false)∧Below w.heap.size w j:=by
 obtain⟨c,f,rfl,-,-⟩:=h
 by_cases e:m < 1
 ·go_enter func57,ntmps57
  go_wp2
  go_ret;exact⟨rfl,yf _ _⟩
 ·have g:n < m:=by omega
  clear d;go_enter func57,ntmps57
  go_wp2
  go_ret;exact⟨rfl,yf _ _⟩
theorem yd2 (f:Nat)(a b:zc)(m n:Int)(A:1≤m)(k:m≤n)(B:n≤9223372036854775807)(v:Value)(d:List ByteArray)(w:World)(z:d.length < f)(C:d.length≤1000000)(y:a.length≤8)(l:∀ p∈bys d,p.length≤8)(h:Sss w v d):
  Calls prog 57 #[.int .i64 m,.int .i64 n,txt a,txt b,v] w fun r D=>r= .returned (.bool ((j2 [] a f m.toNat n.toNat (bys d) true).2.2&&eqH (j2 [] a f m.toNat n.toNat (bys d) true).1 a&&eqH (j2 [] a f m.toNat n.toNat (bys d) true).2.1 b))∧Below w.heap.size w D:=by
 have H:=zf h;obtain⟨c,j,rfl,-,-⟩:=h;have t:=zf (z8t a y f m n (.slice c d.length j) d true);generalize j2 [] a f m.toNat n.toNat (bys d) true=R at *;obtain⟨u,E,x⟩:=R;have F:¬ m < 1:=by omega
 have G:¬ n < m:=by omega
 have s:=zf l;clear l;go_enter func57,ntmps57;go_wp2_with fail;refine(t.o _ A k B z C s.o H.o).mono ?_;rintro e I ⟨rfl,i⟩;have g:=zf i;clear i;cases x with
 | false =>
  go_wp2_with fail;go_ret;exact⟨rfl,g.o⟩
 | true =>
  cases q:(u==a) with
  | false =>
   unfold txt
   go_wp2
   go_ret;exact⟨by rw [← zun,q];rfl,g.o⟩
  | true =>
   unfold txt
   go_wp2
   go_ret;exact⟨by rw [← zun,← zun,q];rfl,g.o⟩
theorem z8m (f:Nat)(a b:zc)(m n:Int)(j:n≤9223372036854775807)(v:Value)(d:List ByteArray)(w:World)(i:d.length < f)(k:d.length≤1000000)(g:a.length≤8)(e:∀ p∈bys d,p.length≤8)(h:Sss w v d):
  Calls prog 57 #[.int .i64 m,.int .i64 n,txt a,txt b,v] w fun r l=>r= .returned (.bool (zsv f m n a b (bys d)))∧Below w.heap.size w l:=by
 by_cases c:m < 1∨n < m
 ·rw [z2x c];exact z8n a b m n v d w c h
 ·rw [yf6 c];exact yd2 f a b m n (by omega) (by omega) j v d w i k g e h
end Go.Proofs.YtlcllcgngjhoaaaGreatDoor
