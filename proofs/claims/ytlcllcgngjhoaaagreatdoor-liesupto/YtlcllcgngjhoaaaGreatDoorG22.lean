import Derived.Test.YtlcllcgngjhoaaaGreatDoorG13
set_option maxHeartbeats 8000000
set_option maxRecDepth 100000
set_option linter.all false
namespace Go.Proofs.YtlcllcgngjhoaaaGreatDoor
open Go.RowKit Go.Proofs.Tryz
variable {O O1:Nat→Prop}{T:List Nat}{db nb:Nat}{v:Value}{w w':World}
def zva (w:World)(v:Value)(c:List Ly):Prop:=∃ a d,v= .slice a c.length d∧(c.length=0∨∃ g,a=some ⟨g,0,none⟩∧∃ b,w.heap[g]?=some (.cells b 36 (0,0))∧∀ j (h:j < c.length),b[j*4]?=some (qo c[j].path)∧b[j*4+1]?=some (qo c[j].data)∧b[j*4+2]?=some (.bool c[j].fails)∧b[j*4+3]?=some (.int .i64 c[j].times))
def z0m (w:World)(O:Nat→Prop)(v:Value)(c:List Int):Prop:=∃ a b,v= .slice a c.length b∧(c.length=0∨∃ g,a=some ⟨g,0,none⟩∧O g∧w.heap[g]?=some (.cells (c.map (Value.int .i64)).toArray 3 (0,0)))
def zdn (w:World)(O:Nat→Prop)(b c:Nat)(n:Nt):Prop :=
 ∃ a tv,O b∧w.heap[b]?=some (.cells #[zdp c,a,tv,.int .i64 n.fetches] 93 (0,0))∧zva w a n.lies∧z0m w O tv n.told∧n.told.length=n.lies.length
abbrev nT:List Nat:=[93,3]
theorem zva.turn {d:List Ly}(h:zva w v d)(k:zq O T w w')(i:36∉T):zva w' v d:=by
 obtain⟨a,b,e,h | ⟨g,f,c,j,r⟩⟩:=h
 ·exact⟨a,b,e,.inl h⟩
 ·exact⟨a,b,e,.inr ⟨g,f,c,k.keep j i,r⟩⟩
theorem z0m.turn {c:List Int}(h:z0m w O v c)(k:zq O1 T w w')(i:3∉T):z0m w' O v c:=by
 obtain⟨a,b,e,h | ⟨g,d,f,j⟩⟩:=h
 ·exact⟨a,b,e,.inl h⟩
 ·exact⟨a,b,e,.inr ⟨g,d,f,k.keep j i⟩⟩
theorem zdn.turn {n:Nt}(h:zdn w O nb db n)(a:zq O1 T w w')(c:93∉T)(d:36∉T)(e:3∉T):zdn w' O nb db n:=by
 obtain⟨k,tv,f,g,j,b,i⟩:=h;exact⟨k,tv,f,a.keep g c,j.turn a d,b.turn a e,i⟩
theorem zdn.below {n:Nt}(h:zdn w O nb db n)(a:Below w.heap.size w w'):zdn w' O nb db n:=h.turn (O1:=fun _=>False) (T:=[]) (.of_below a) (by simp) (by simp) (by simp)
theorem z7r (O:Nat→Prop)(s db:Nat)(n:Nt)(d:Dk)(p:zc)(w:World)(hn:d.fs.length≤1000000000)(hl:∀ f∈d.fs,f.2.length≤1000000000)
 (hy:∀ l∈n.lies,l.data.length≤1000000000) (bf:n.lies.length≤1000000000) (hf:0≤n.fetches∧n.fetches < 4611686018427387904) (a1:∀ t∈n.told,0≤t∧t < 4611686018427387904)
 (hD:yw w O db d) (hN:zdn w O s db n) :
  Calls prog 271 #[.pointer (some ⟨s,0,none⟩),qo p] w fun r w'=>∃ v e x,r= .returned (.tuple #[v,e])∧zq O nT w w'∧zdn w' O s db (yz d.fs n p).2∧zn2 w' v x∧x.getD []=(yz d.fs n p).1.1 ∧
   (((yz d.fs n p).1.2=true∧e= .nilIface)∨((yz d.fs n p).1.2=false∧∃ g,e=zhw g)):=by
 obtain⟨lv,tv,hO,Z,hL,hT,an⟩:=hN;obtain⟨la,R,rfl,aN⟩:=hL;obtain⟨ta,C,rfl,aP⟩:=hT;have c0:w.cell? ⟨s,0,none⟩=some (zdp db):=(zw Z 0 _ rfl).1;have c1:w.cell? ⟨s,1,none⟩=some (.slice la n.lies.length R):=(zw Z 1 _ rfl).1;have c2:w.cell? ⟨s,2,none⟩=some (.slice ta n.told.length C):=(zw Z 2 _ rfl).1;have c3:w.cell? ⟨s,3,none⟩=some (.int .i64 n.fetches):=(zw Z 3 _ rfl).1;have f3:w.frozen? ⟨s,3,none⟩=false:=(zw Z 3 _ rfl).2;rw [an] at c2;have HB:=zf Z;have aD:=zf aN;have aJ:=zf aP;have HD:=zf hD;have HL:=zf hl;have HY:=zf hy;have a7:=zf a1;have ad:=zf an;obtain⟨bo,bp⟩:=hf;have W1:Hid (zq O nT w (w.setCell ⟨s,3,none⟩ (.int .i64 (n.fetches+1)))∧(w.setCell ⟨s,3,none⟩ (.int .i64 (n.fetches+1))).heap[s]?=some (.cells #[zdp db,.slice la n.lies.length R,.slice ta n.told.length C,.int .i64 (n.fetches+1)] 93 (0,0))):=by
  refine⟨(zq.refl O nT w).set (.inl hO) Z (by simp) _,?_⟩;rw [zav Z]
  rfl
 clear Z aN aP hD hl hy a1 an;unfold qo;unfold zdp at c0;go_enter func271,ntmps271;go_wp2_with fail;have a6:=zf HB.o;have aC:Hid (yw (w.setCell ⟨s,3,none⟩ (.int .i64 (n.fetches+1))) O db d):=HD.o.stay (O1:=O) (T:=nT) W1.out.1 (by decide) (by decide);have I:Hid (∀ k (hk:k < n.lies.length),∃ g,la=some ⟨g,0,none⟩∧∃ H,(w.setCell ⟨s,3,none⟩ (.int .i64 (n.fetches+1))).heap[g]?=some (.cells H 36 (0,0))∧H[k*4]?=some (qo n.lies[k].path)∧H[k*4+1]?=some (qo n.lies[k].data)∧H[k*4+2]?=some (.bool n.lies[k].fails)∧H[k*4+3]?=some (.int .i64 n.lies[k].times)):=by
  intro k hk;rcases aD.o with h0 | ⟨g,ea,H,hg,hx⟩
  ·omega
  ·exact⟨g,ea,H,W1.out.1.keep hg (by decide),hx k hk⟩
 have Y:Hid (∀ k,k < n.lies.length→∃ g,ta=some ⟨g,0,none⟩∧O g∧g≠s∧(w.setCell ⟨s,3,none⟩ (.int .i64 (n.fetches+1))).heap[g]?=some (.cells (n.told.map (Value.int .i64)).toArray 3 (0,0))):=by
  intro k hk;rcases aJ.o with h0 | ⟨g,ea,a8,hg⟩
  ·have:=ad.o;omega
  ·have av:g≠s:=by
    rintro rfl;rw [HB.o] at hg;simp at hg
   exact⟨g,ea,a8,av,by rw [yh _ _ _ _ av];exact hg⟩
 have d1:(w.setCell ⟨s,3,none⟩ (.int .i64 (n.fetches+1))).cell? ⟨s,0,none⟩=some (.pointer (some ⟨db,0,none⟩)):=(zw W1.out.2 0 _ rfl).1;have d2:(w.setCell ⟨s,3,none⟩ (.int .i64 (n.fetches+1))).cell? ⟨s,2,none⟩=some (.slice ta n.told.length C):=(zw W1.out.2 2 _ rfl).1;have d3:(w.setCell ⟨s,3,none⟩ (.int .i64 (n.fetches+1))).cell? ⟨s,3,none⟩=some (.int .i64 (n.fetches+1)):=(zw W1.out.2 3 _ rfl).1;rw [ad.o] at d2;clear c0 c1 c2 c3 f3 HB aD aJ HD;have bc:s < w.heap.size:=zi a6.o;have D:s < (w.setCell ⟨s,3,none⟩ (.int .i64 (n.fetches+1))).heap.size:=zx bc W1.out.1.size;generalize w.setCell ⟨s,3,none⟩ (.int .i64 (n.fetches+1))=w1 at *;go_loopw [21] (fun i wr=>∃ k:Nat,k≤n.lies.length∧i= .int .i64 k∧Below w1.heap.size w1 wr∧∀ j,j < k→zga n p j=false) (fun i _=>n.lies.length - (intOf i).toNat)
 case atStart=>exact⟨0,yv _,rfl,yf _ _,fun j hj=>absurd hj (zed _)⟩
 case round =>
  obtain⟨k,hk,rfl,B,aA⟩:=hrel;have ah:=zf B;have af:=zf aA
  by_cases K:k < n.lies.length
  ·obtain⟨g,rfl,H,hg,x0,x1,x2,x3⟩:=I.o k K;obtain⟨u,rfl,aO,a2,V⟩:=Y.o k K;have al:wr.heap[g]?=some (.cells H 36 (0,0)):=by rw [B.block g (zi hg)];exact hg
   have be:u < wr.heap.size:=zx (zi V) B.size;have ao:wr.heap[u]?=some (.cells (n.told.map (Value.int .i64)).toArray 3 (0,0)):=by rw [B.block u (zi V)];exact V
   have y0:wr.cell? ⟨g,k*4,none⟩=some (qo n.lies[k].path):=by rw [yq _ _ _ _ _ _ al];exact x0
   have y1:wr.cell? ⟨g,k*4+1,none⟩=some (qo n.lies[k].data):=by rw [yq _ _ _ _ _ _ al];exact x1
   have y2:wr.cell? ⟨g,k*4+2,none⟩=some (.bool n.lies[k].fails):=by rw [yq _ _ _ _ _ _ al];exact x2
   have y3:wr.cell? ⟨g,k*4+3,none⟩=some (.int .i64 n.lies[k].times):=by rw [yq _ _ _ _ _ _ al];exact x3
   have G:k < n.told.length:=by rw [ad.o];exact K
   have e1:wr.cell? ⟨s,0,none⟩=some (.pointer (some ⟨db,0,none⟩)):=by rw [B.cell (p:=⟨s,0,none⟩) D];exact d1
   have e2:wr.cell? ⟨s,2,none⟩=some (.slice (some ⟨u,0,none⟩) n.lies.length C):=by rw [B.cell (p:=⟨s,2,none⟩) D];exact d2
   have e3:wr.cell? ⟨s,3,none⟩=some (.int .i64 (n.fetches+1)):=by rw [B.cell (p:=⟨s,3,none⟩) D];exact d3
   have et:wr.cell? ⟨u,k,none⟩=some (.int .i64 n.told[k]):=(zw ao k _ (by simp [G])).1;have ft:wr.frozen? ⟨u,k,none⟩=false:=(zw ao k (.int .i64 n.told[k]) (by simp [G])).2;have aM:zga n p k=(decide (n.lies[k].path=p)&&!(decide (0 < n.lies[k].times)&&decide (n.lies[k].times≤n.told[k]))):=by
    unfold zga;rw [show n.lies.getD k .none=n.lies[k] by rw [zl,zt K];rfl,show n.told.getD k 0=n.told[k] by rw [zl,zt G];rfl]
   have ab:=zf aM;have i0:(0:Int)≤(k:Int):=by omega
   have i1:(k:Int) < n.lies.length:=by omega
   have E:s < wr.heap.size:=zx D B.size;clear hg x0 x1 x2 x3 al V ao aM aA B d1 d2 d3;unfold qo at y0 y1;generalize aX:n.lies[k]=l at *;generalize a4:n.told[k]=t at *;have au:=zf aX;have ag:=zf a4;clear aX a4;obtain⟨q,b,c,m⟩:=l;simp only at *;have ae:Hid (∀ wn,Below wr.heap.size wr wn→zga n p k=false→Below w1.heap.size w1 wn∧∀ j,j < k+1→zga n p j=false):=fun wn Z h=>⟨ah.o.trans (Z.mono ah.o.size),fun j hj=>by
    rcases qu j k with aV | aV
    ·exact af.o j aV
    ·obtain rfl:j=k:=by omega
     exact h⟩
   have X:Hid (∀ z,Below wr.heap.size wr z→z.heap[u]?=some (.cells (n.told.map (Value.int .i64)).toArray 3 (0,0))∧zq O nT w (z.setCell ⟨u,k,none⟩ (.int .i64 (t+1)))∧zdn (z.setCell ⟨u,k,none⟩ (.int .i64 (t+1))) O s db { n with told:=n.told.set k (t+1),fetches:=n.fetches+1 }):=by
    intro z Q;have aa:Below w1.heap.size w1 z:=ah.o.trans (Q.mono ah.o.size);obtain⟨W,eg,ay,a3,ap⟩:=Y.o k K;obtain rfl:W=u:=by simpa using eg.symm
    have aq:z.heap[W]?=some (.cells (n.told.map (Value.int .i64)).toArray 3 (0,0)):=by rw [aa.block W (zi ap)];exact ap
    have aB:zq O nT w z:=W1.out.1.then_below aa;refine⟨aq,aB.set (.inl ay) aq (by simp) _,.slice (some ⟨g,0,none⟩) n.lies.length R,.slice (some ⟨W,0,none⟩) n.told.length C,hO,?_,?_,?_,by simp [ad.o]⟩
    ·rw [yh _ _ _ _ (Ne.symm a3),aa.block s D];exact W1.out.2
    ·refine⟨_,_,rfl,.inr ?_⟩;obtain⟨g1,aj,N,J,-⟩:=I.o k K;refine⟨g1,aj,N,?_,fun j hj=>?_⟩
     ·have av:g1≠W:=by
       rintro rfl;rw [ap] at J;simp at J
      rw [yh _ _ _ _ av,aa.block g1 (zi J)];exact J
     ·obtain⟨g2,ak,ai,am,hx⟩:=I.o j hj;obtain rfl:g2=g1:=by rw [aj] at ak;simpa using ak.symm
      rw [J] at am;have:N=ai:=by simpa using am
      rw [this];exact hx
    ·refine⟨some ⟨W,0,none⟩,C,by simp,.inr ⟨W,rfl,ay,?_⟩⟩;rw [zav aq];simp [List.map_set]
   have F:Hid (zga n p k=true→yz d.fs n p=((b,!c),{ n with told:=n.told.set k (t+1),fetches:=n.fetches+1 })):=fun h=>by
    unfold yz;rw [yhp K h af.o];simp only;rw [show n.lies.getD k .none=n.lies[k] by rw [zl,zt K];rfl,show n.told.getD k 0=n.told[k] by rw [zl,zt G];rfl,au.o,ag.o]
   have aB:=a7.o t (by rw [← ag.o];exact yd G);obtain⟨bj,bk⟩:=aB;have bn:b.length≤1000000000:=HY.o ⟨q,b,c,m⟩ (by rw [← au.o];exact yd K);have aK:∀ o,(wr.alloc o).cell? ⟨s,2,none⟩=some (.slice (some ⟨u,0,none⟩) n.lies.length C):=fun o=>by rw [yp _ _ ⟨_,2,none⟩ E];exact e2
   have aL:∀ o,(wr.alloc o).cell? ⟨u,k,none⟩=some (.int .i64 t):=fun o=>by rw [yp _ _ ⟨_,k,none⟩ be];exact et
   by_cases hp:q=p
   ·subst hp;have bd:(q==q)=true:=by simp
    have aY:(q != q)=false:=by simp
    by_cases aw:0 < m
    ·have aZ:decide (m > 0)=true:=by simpa using aw
     by_cases ax:m≤t
     ·have a0:decide (t ≥ m)=true:=by simpa using ax
      have HF:Hid (zga n q k=false):=by show _=_;rw [ab.o];simp [aw,ax]
      clear aw ax;go_wp2_with fail
      go_region
      all_goals go_wp2_with fail
      all_goals go_roundw
      case rel =>
       exact⟨k+1,by omega,by go_num,(ae.o _ ((zk _ _).drew) HF.o).1,(ae.o wr (yf _ _) HF.o).2⟩
      all_goals (simp [intOf];omega)
     ·have a0:decide (t ≥ m)=false:=by simpa using ax
      have HF:Hid (zga n q k=true):=by show _=_;rw [ab.o];simp;omega
      have S:=zf (F.o HF.o);have z1:((wr.alloc (.cells #[.string ⟨q.toArray⟩,.string ⟨b.toArray⟩,.bool c,.int .i64 m] 36)).drew).cell? ⟨wr.heap.size,1,none⟩=some (.string ⟨b.toArray⟩):=(zw (zg wr _) 1 _ rfl).1;have z2:((wr.alloc (.cells #[.string ⟨q.toArray⟩,.string ⟨b.toArray⟩,.bool c,.int .i64 m] 36)).drew).cell? ⟨wr.heap.size,2,none⟩=some (.bool c):=(zw (zg wr _) 2 _ rfl).1;have z3:((wr.alloc (.cells #[.string ⟨q.toArray⟩,.string ⟨b.toArray⟩,.bool c,.int .i64 m] 36)).drew).cell? ⟨s,2,none⟩=some (.slice (some ⟨u,0,none⟩) n.lies.length C):=aK _;have z4:((wr.alloc (.cells #[.string ⟨q.toArray⟩,.string ⟨b.toArray⟩,.bool c,.int .i64 m] 36)).drew).cell? ⟨u,k,none⟩=some (.int .i64 t):=aL _;have z5:((wr.alloc (.cells #[.string ⟨q.toArray⟩,.string ⟨b.toArray⟩,.bool c,.int .i64 m] 36)).drew).cell? ⟨s,3,none⟩=some (.int .i64 (n.fetches+1)):=(yp _ _ ⟨_,3,none⟩ E).trans e3;have A:=zf (X.o _ (zk wr (.cells #[.string ⟨q.toArray⟩,.string ⟨b.toArray⟩,.bool c,.int .i64 m] 36)).drew);have z6:((wr.alloc (.cells #[.string ⟨q.toArray⟩,.string ⟨b.toArray⟩,.bool c,.int .i64 m] 36)).drew).frozen? ⟨u,k,none⟩=false:=(zw A.o.1 k (.int .i64 t) (by simp [G,ag.o])).2;have n1:wr.heap.size≠u:=by omega
      have n3:s≠u:=fun h=>a2 h.symm;have aQ:=fun w0=>zcm (P:=prog) w0 9 114 5 ⟨b.toArray⟩ qw underlying114 jt;have ar:wr.heap.size < ((wr.alloc (.cells #[.string ⟨q.toArray⟩,.string ⟨b.toArray⟩,.bool c,.int .i64 m] 36)).drew).heap.size:=by show _ < (wr.heap.push _).size;simp
      clear ae F X ab af au ag;go_wp2_with fail
      go_region
      generalize (wr.alloc (.cells #[.string ⟨q.toArray⟩,.string ⟨b.toArray⟩,.bool c,.int .i64 m] 36)).drew=z at *;have u1:(z.setCell ⟨u,k,none⟩ (.int .i64 (t+1))).cell? ⟨wr.heap.size,1,none⟩=some (.string ⟨b.toArray⟩):=by rw [zb7 (w:=z) (yh _ _ _ _ n1)];exact z1
      have u2:(z.setCell ⟨u,k,none⟩ (.int .i64 (t+1))).cell? ⟨wr.heap.size,2,none⟩=some (.bool c):=by rw [zb7 (w:=z) (yh _ _ _ _ n1)];exact z2
      have u3:(z.setCell ⟨u,k,none⟩ (.int .i64 (t+1))).cell? ⟨s,3,none⟩=some (.int .i64 (n.fetches+1)):=by rw [zb7 (w:=z) (yh _ _ _ _ n3)];exact z5
      have M:(z.setCell ⟨u,k,none⟩ (.int .i64 (t+1))).heap.size=z.heap.size:=by simp [World.setCell]
      have bg:∀ o,((z.setCell ⟨u,k,none⟩ (.int .i64 (t+1))).alloc o).cell? ⟨wr.heap.size,1,none⟩=some (.string ⟨b.toArray⟩):=fun o=>by rw [yp _ _ ⟨_,1,none⟩ (by rw [M];exact ar)];exact u1
      have bh:∀ o,((z.setCell ⟨u,k,none⟩ (.int .i64 (t+1))).alloc o).cell? ⟨s,3,none⟩=some (.int .i64 (n.fetches+1)):=fun o=>by rw [yp _ _ ⟨_,3,none⟩ (by rw [M];exact Nat.lt_trans E ar)];exact u3
      have U:=zf M;clear M;cases c with
      | true =>
       go_wp2_with fail
       go_region
       all_goals go_wp2
       all_goals go_ret2
       all_goals refine⟨_,_,some b,rfl,?_,?_,?_,by rw [S.o];rfl,.inr ⟨by rw [S.o];rfl,_,rfl⟩⟩
       ·first | exact((A.o.2.1.alloc _).alloc _).drew | exact((A.o.2.1.alloc _).alloc _).drew.drew
       ·rw [S.o];exact A.o.2.2.below (by first | exact(xu _ _ _).drew | exact(xu _ _ _).drew.drew)
       ·refine .inl ⟨b,rfl,?_⟩;have L:=(zjb (z.setCell ⟨u,k,none⟩ (.int .i64 (t+1))) b (grownCap (z.setCell ⟨u,k,none⟩ (.int .i64 (t+1))).drew b.length 0 5) (zgs _ _ _ _)).below (zk _ (.cells #[.int .i64 (n.fetches+1)] 395));rw [U.o] at L;exact L
       ·first | exact((A.o.2.1.alloc _).alloc _).drew | exact((A.o.2.1.alloc _).alloc _).drew.drew
       ·rw [S.o];exact A.o.2.2.below (by first | exact(xu _ _ _).drew | exact(xu _ _ _).drew.drew)
       ·refine .inl ⟨b,rfl,?_⟩;have L:=zjb ((z.setCell ⟨u,k,none⟩ (.int .i64 (t+1))).alloc (.cells #[.int .i64 (n.fetches+1)] 395)) b (grownCap ((z.setCell ⟨u,k,none⟩ (.int .i64 (t+1))).alloc (.cells #[.int .i64 (n.fetches+1)] 395)).drew b.length 0 5) (zgs _ _ _ _);rw [show((z.setCell ⟨u,k,none⟩ (.int .i64 (t+1))).alloc (.cells #[.int .i64 (n.fetches+1)] 395)).heap.size=z.heap.size+1 by simp [U.o]] at L;exact L
      | false =>
       go_wp2_with fail
       go_ret2
       have L:=zjb (z.setCell ⟨u,k,none⟩ (.int .i64 (t+1))) b (grownCap (z.setCell ⟨u,k,none⟩ (.int .i64 (t+1))) b.length 0 5) (zgs _ _ _ _);rw [U.o] at L;exact⟨_,_,some b,rfl,(A.o.2.1.alloc _).drew,by rw [S.o];exact A.o.2.2.below (zk _ _).drew,.inl ⟨b,rfl,L⟩,by rw [S.o];rfl,.inl ⟨by rw [S.o];rfl,rfl⟩⟩
    ·have aZ:decide (m > 0)=false:=by simpa using aw
     have HF:Hid (zga n q k=true):=by show _=_;rw [ab.o];simp;omega
     have S:=zf (F.o HF.o);have z1:((wr.alloc (.cells #[.string ⟨q.toArray⟩,.string ⟨b.toArray⟩,.bool c,.int .i64 m] 36)).drew).cell? ⟨wr.heap.size,1,none⟩=some (.string ⟨b.toArray⟩):=(zw (zg wr _) 1 _ rfl).1;have z2:((wr.alloc (.cells #[.string ⟨q.toArray⟩,.string ⟨b.toArray⟩,.bool c,.int .i64 m] 36)).drew).cell? ⟨wr.heap.size,2,none⟩=some (.bool c):=(zw (zg wr _) 2 _ rfl).1;have z3:((wr.alloc (.cells #[.string ⟨q.toArray⟩,.string ⟨b.toArray⟩,.bool c,.int .i64 m] 36)).drew).cell? ⟨s,2,none⟩=some (.slice (some ⟨u,0,none⟩) n.lies.length C):=aK _;have z4:((wr.alloc (.cells #[.string ⟨q.toArray⟩,.string ⟨b.toArray⟩,.bool c,.int .i64 m] 36)).drew).cell? ⟨u,k,none⟩=some (.int .i64 t):=aL _;have z5:((wr.alloc (.cells #[.string ⟨q.toArray⟩,.string ⟨b.toArray⟩,.bool c,.int .i64 m] 36)).drew).cell? ⟨s,3,none⟩=some (.int .i64 (n.fetches+1)):=(yp _ _ ⟨_,3,none⟩ E).trans e3;have A:=zf (X.o _ (zk wr (.cells #[.string ⟨q.toArray⟩,.string ⟨b.toArray⟩,.bool c,.int .i64 m] 36)).drew);have z6:((wr.alloc (.cells #[.string ⟨q.toArray⟩,.string ⟨b.toArray⟩,.bool c,.int .i64 m] 36)).drew).frozen? ⟨u,k,none⟩=false:=(zw A.o.1 k (.int .i64 t) (by simp [G,ag.o])).2;have n1:wr.heap.size≠u:=by omega
     have n3:s≠u:=fun h=>a2 h.symm;have aQ:=fun w0=>zcm (P:=prog) w0 9 114 5 ⟨b.toArray⟩ qw underlying114 jt;have ar:wr.heap.size < ((wr.alloc (.cells #[.string ⟨q.toArray⟩,.string ⟨b.toArray⟩,.bool c,.int .i64 m] 36)).drew).heap.size:=by show _ < (wr.heap.push _).size;simp
     clear ae F X ab af au ag;go_wp2_with fail
     go_region
     generalize (wr.alloc (.cells #[.string ⟨q.toArray⟩,.string ⟨b.toArray⟩,.bool c,.int .i64 m] 36)).drew=z at *;have u1:(z.setCell ⟨u,k,none⟩ (.int .i64 (t+1))).cell? ⟨wr.heap.size,1,none⟩=some (.string ⟨b.toArray⟩):=by rw [zb7 (w:=z) (yh _ _ _ _ n1)];exact z1
     have u2:(z.setCell ⟨u,k,none⟩ (.int .i64 (t+1))).cell? ⟨wr.heap.size,2,none⟩=some (.bool c):=by rw [zb7 (w:=z) (yh _ _ _ _ n1)];exact z2
     have u3:(z.setCell ⟨u,k,none⟩ (.int .i64 (t+1))).cell? ⟨s,3,none⟩=some (.int .i64 (n.fetches+1)):=by rw [zb7 (w:=z) (yh _ _ _ _ n3)];exact z5
     have M:(z.setCell ⟨u,k,none⟩ (.int .i64 (t+1))).heap.size=z.heap.size:=by simp [World.setCell]
     have bg:∀ o,((z.setCell ⟨u,k,none⟩ (.int .i64 (t+1))).alloc o).cell? ⟨wr.heap.size,1,none⟩=some (.string ⟨b.toArray⟩):=fun o=>by rw [yp _ _ ⟨_,1,none⟩ (by rw [M];exact ar)];exact u1
     have bh:∀ o,((z.setCell ⟨u,k,none⟩ (.int .i64 (t+1))).alloc o).cell? ⟨s,3,none⟩=some (.int .i64 (n.fetches+1)):=fun o=>by rw [yp _ _ ⟨_,3,none⟩ (by rw [M];exact Nat.lt_trans E ar)];exact u3
     have U:=zf M;clear M;cases c with
     | true =>
      go_wp2_with fail
      go_region
      all_goals go_wp2
      all_goals go_ret2
      all_goals refine⟨_,_,some b,rfl,?_,?_,?_,by rw [S.o];rfl,.inr ⟨by rw [S.o];rfl,_,rfl⟩⟩
      ·first | exact((A.o.2.1.alloc _).alloc _).drew | exact((A.o.2.1.alloc _).alloc _).drew.drew
      ·rw [S.o];exact A.o.2.2.below (by first | exact(xu _ _ _).drew | exact(xu _ _ _).drew.drew)
      ·refine .inl ⟨b,rfl,?_⟩;have L:=(zjb (z.setCell ⟨u,k,none⟩ (.int .i64 (t+1))) b (grownCap (z.setCell ⟨u,k,none⟩ (.int .i64 (t+1))).drew b.length 0 5) (zgs _ _ _ _)).below (zk _ (.cells #[.int .i64 (n.fetches+1)] 395));rw [U.o] at L;exact L
      ·first | exact((A.o.2.1.alloc _).alloc _).drew | exact((A.o.2.1.alloc _).alloc _).drew.drew
      ·rw [S.o];exact A.o.2.2.below (by first | exact(xu _ _ _).drew | exact(xu _ _ _).drew.drew)
      ·refine .inl ⟨b,rfl,?_⟩;have L:=zjb ((z.setCell ⟨u,k,none⟩ (.int .i64 (t+1))).alloc (.cells #[.int .i64 (n.fetches+1)] 395)) b (grownCap ((z.setCell ⟨u,k,none⟩ (.int .i64 (t+1))).alloc (.cells #[.int .i64 (n.fetches+1)] 395)).drew b.length 0 5) (zgs _ _ _ _);rw [show((z.setCell ⟨u,k,none⟩ (.int .i64 (t+1))).alloc (.cells #[.int .i64 (n.fetches+1)] 395)).heap.size=z.heap.size+1 by simp [U.o]] at L;exact L
     | false =>
      go_wp2_with fail
      go_ret2
      have L:=zjb (z.setCell ⟨u,k,none⟩ (.int .i64 (t+1))) b (grownCap (z.setCell ⟨u,k,none⟩ (.int .i64 (t+1))) b.length 0 5) (zgs _ _ _ _);rw [U.o] at L;exact⟨_,_,some b,rfl,(A.o.2.1.alloc _).drew,by rw [S.o];exact A.o.2.2.below (zk _ _).drew,.inl ⟨b,rfl,L⟩,by rw [S.o];rfl,.inl ⟨by rw [S.o];rfl,rfl⟩⟩
   ·have bd:(q==p)=false:=by simp [hp]
    have aY:(q != p)=true:=by simp [hp]
    have HF:Hid (zga n p k=false):=by show _=_;rw [ab.o];simp [hp]
    clear hp;go_wp2_with fail
    go_region
    all_goals go_wp2_with fail
    all_goals go_roundw
    case rel =>
     exact⟨k+1,by omega,by go_num,(ae.o _ ((zk _ _).drew) HF.o).1,(ae.o wr (yf _ _) HF.o).2⟩
    all_goals (simp [intOf];omega)
  ·have bb:k=n.lies.length:=by omega
   have aG:Hid (zk4 n p=none):=z7l (fun j hj=>af.o j (by omega));have az:=zf (aC.o.stay (O1:=fun _=>False) (T:=[]) (.of_below B) (by simp) (by simp));have aH:Hid (zq O nT w wr):=W1.out.1.then_below B;have aE:Hid (zdn wr O s db { n with fetches:=n.fetches+1 }):=by
    refine⟨.slice la n.lies.length R,.slice ta n.told.length C,hO,(B.block s D).trans W1.out.2,?_,?_,ad.o⟩
    ·refine⟨la,R,rfl,?_⟩;rcases zoc n.lies.length with h0 | h0
     ·exact .inl h0
     ·obtain⟨g1,aj,N,J,-⟩:=I.o 0 h0;refine .inr ⟨g1,aj,N,(B.block g1 (zi J)).trans J,fun j hj=>?_⟩;obtain⟨g2,ak,ai,am,hx⟩:=I.o j hj;obtain rfl:g2=g1:=by rw [aj] at ak;simpa using ak.symm
      rw [J] at am;have:N=ai:=by simpa using am
      rw [this];exact hx
    ·refine⟨ta,C,rfl,?_⟩;rcases zoc n.lies.length with h0 | h0
     ·exact .inl (ad.o.trans h0)
     ·obtain⟨u,eg,aO,-,V⟩:=Y.o 0 h0;exact .inr ⟨u,eg,aO,(B.block u (zi V)).trans V⟩
   have e1:wr.cell? ⟨s,0,none⟩=some (.pointer (some ⟨db,0,none⟩)):=by rw [B.cell (p:=⟨s,0,none⟩) D];exact d1
   have e3:wr.cell? ⟨s,3,none⟩=some (.int .i64 (n.fetches+1)):=by rw [B.cell (p:=⟨s,3,none⟩) D];exact d3
   have E:s < wr.heap.size:=zx D B.size;clear d1 d2 d3 B aA ah af I Y aC W1;subst bb;go_wp2_with fail;refine(zos O db d p wr hn az.o).mono ?_;rintro e w2 ⟨rfl,Q⟩;have aI:Hid (zq O nT w w2):=aH.o.then_below Q;have aF:=zf (aE.o.below Q);have a5:=zf (az.o.stay (O1:=fun _=>False) (T:=[]) (.of_below Q) (by simp) (by simp));have v1:w2.cell? ⟨s,0,none⟩=some (.pointer (some ⟨db,0,none⟩)):=by rw [Q.cell (p:=⟨s,0,none⟩) E];exact e1
   have v3:w2.cell? ⟨s,3,none⟩=some (.int .i64 (n.fetches+1)):=by rw [Q.cell (p:=⟨s,3,none⟩) E];exact e3
   clear e1 e3 Q az aH aE;cases e:ixF d.fs p with
   | some i =>
    have he:ixI d.fs p=i:=by unfold ixI;rw [e]
    rw [he];obtain⟨hi,ba,aW,-⟩:=zb8 e;obtain⟨fv,bm,Z,aR,aU⟩:=a5.o;obtain⟨⟨c0,f0⟩,-⟩:=zlg Z;rcases zk1 aR with ⟨a,bl,rfl,h0 | ⟨g,rfl,H,aS,bi,a9,hx⟩⟩
    ·omega
    have y1:w2.cell? ⟨g,i*2+1,none⟩=some (.string ⟨d.fs[i].2.toArray⟩):=by
     rw [yq _ _ _ _ _ _ aS];exact(hx i hi).2
    have bf:=HL.o _ (yd hi);have F:Hid (yz d.fs n p=((d.fs[i].2,true),{ n with fetches:=n.fetches+1 })):=by
     show _=_;unfold yz;rw [aG.o];simp only [aW]
    clear hx aS Z aR aU e he ba a9 aW;generalize d.fs[i].2=y at *;have aQ:=fun w0=>zcm (P:=prog) w0 9 114 5 ⟨y.toArray⟩ qw underlying114 jt;go_wp2_with fail
    go_ret2
    have L:=zjb w2 y (grownCap w2 y.length 0 5) (zgs _ _ _ _);exact⟨_,_,some y,rfl,(aI.o.alloc _).drew,by rw [F.o];exact aF.o.below (zk _ _).drew,.inl ⟨y,rfl,L⟩,by rw [F.o];rfl,.inl ⟨by rw [F.o],rfl⟩⟩
   | none =>
    have he:ixI d.fs p=-1:=by unfold ixI;rw [e]
    rw [he];have F:Hid (yz d.fs n p=(([],false),{ n with fetches:=n.fetches+1 })):=by
     show _=_;unfold yz;rw [aG.o];simp only [(zci e).1]
    clear e he;go_wp2_with fail
    go_region
    all_goals go_wp2
    all_goals go_ret2
    all_goals exact⟨_,_,none,rfl,(aI.o.alloc _).drew,by rw [F.o];exact aF.o.below (zk _ _).drew,.inr ⟨rfl,rfl⟩,by rw [F.o];rfl,.inr ⟨by rw [F.o],_,rfl⟩⟩
variable {s:Nat}{u:Value}{w1:World}
theorem ztv (p q:Addr)(w:World):
  CallsD prog 111 #[.pointer (some p),.pointer (some q)] .returning w fun e b c=>e= .returned (.tuple #[])∧b= .returning∧c=w:=by
 refine callsD_of_wpS func111 rfl fun c₀ d a=>?_;apply wpS_seq;apply wpS_region;simp [wpOpsS,go_sem,recoverD,a,ntmps111,Exit.thenS];refine wpS_cond (t:=false) (by simp [Act.eval,Array.replicate]) ?_;simp only [zas,zd3];refine wpS_of_wp (wp_skip ?_);cases c₀
 simp_all [bodyPostS,results,results111]
theorem z7o (n:Nat)(v:Value)(w:World):(Go.method (n+1) 37 v "Fetch").run prog w= .ok (271,v) w:=by kernel_rfl
theorem zn2.turn {x:Option (zc)}(h:zn2 w v x)(c:zq O T w w')(a:5∉T):zn2 w' v x:=by
 rcases h with ⟨d,rfl,b⟩ | ⟨rfl,rfl⟩
 ·exact .inl ⟨d,rfl,b.turn c a⟩
 ·exact .inr ⟨rfl,rfl⟩
theorem z0d {b:Bool}(a:w1.heap[s]?=some (.cells #[u] 114 (0,0)))(d:w1.heap[s+1]?=some (.cells #[.bool false] 4 (0,0))):
  ((w1.setCell ⟨s,0,none⟩ v).setCell ⟨s,0,none⟩ v).cell? ⟨s,0,none⟩=some v∧(((w1.setCell ⟨s,0,none⟩ v).setCell ⟨s,0,none⟩ v).setCell ⟨s+1,0,none⟩ (.bool b)).drew.cell? ⟨s+1,0,none⟩=some (.bool b) ∧
  zq (fun _=>True) [114,4] w1 (((w1.setCell ⟨s,0,none⟩ v).setCell ⟨s,0,none⟩ v).setCell ⟨s+1,0,none⟩ (.bool b)).drew:=by
 have c:(w1.setCell ⟨s,0,none⟩ v).heap[s]?=some (.cells #[v] 114 (0,0)):=by rw [zav a];rfl
 have d1:((w1.setCell ⟨s,0,none⟩ v).setCell ⟨s,0,none⟩ v).heap[s]?=some (.cells #[v] 114 (0,0)):=by rw [zav c];rfl
 have e:(w1.setCell ⟨s,0,none⟩ v).heap[s+1]?=some (.cells #[.bool false] 4 (0,0)):=by rw [yh _ _ _ _ (show s+1≠s by omega)];exact d
 have d2:((w1.setCell ⟨s,0,none⟩ v).setCell ⟨s,0,none⟩ v).heap[s+1]?=some (.cells #[.bool false] 4 (0,0)):=by rw [yh _ _ _ _ (show s+1≠s by omega)];exact e
 have f:(((w1.setCell ⟨s,0,none⟩ v).setCell ⟨s,0,none⟩ v).setCell ⟨s+1,0,none⟩ (.bool b)).heap[s+1]?=some (.cells #[.bool b] 4 (0,0)):=by rw [zav d2];rfl
 exact⟨(zw d1 0 _ rfl).1,(zw f 0 _ rfl).1,((((zq.refl _ _ w1).set (.inl trivial) a (by simp) _).set (.inl trivial) c (by simp) _).set (.inl trivial) d2 (by simp) _).drew⟩
def zwm (a:Nat):Value:= .iface 37 (.pointer (some ⟨a,0,none⟩))
theorem zvo (O:Nat→Prop)(A H R:Nat)(n:Nt)(d:Dk)(p:zc)(w:World)(hn:d.fs.length≤1000000000)(hl:∀ f∈d.fs,f.2.length≤1000000000)
 (hy:∀ l∈n.lies,l.data.length≤1000000000) (aa:n.lies.length≤1000000000) (hf:0≤n.fetches∧n.fetches < 4611686018427387904) (z:∀ t∈n.told,0≤t∧t < 4611686018427387904)
 (hD:yw w O H d) (hN:zdn w O A H n) (W:w.cell? ⟨R,2,none⟩=some (zwm A)) :
  Calls prog 83 #[yx R,qo p] w fun r w'=>∃ v x,r= .returned (.tuple #[v,.bool (yz d.fs n p).1.2])∧zq O nT w w'∧zdn w' O A H (yz d.fs n p).2∧zn2 w' v x∧x.getD []=(yz d.fs n p).1.1:=by
 have af:∀(fn:Fn) (first k:Array Value) (w:World),(Instr.makeFunc fn first k).run prog w= .ok (.func fn first k) w:=fun _ _ _ _=>rfl;have y:=yg W;have hm:=z7o;have eg:∀ j w,(callFunc 271 j).run prog w= .ok (.enter 271 j) w:=zrk func271 (by kernel_rfl) rfl;have X:∀ o o',((w.alloc o).alloc o').cell? ⟨R,2,none⟩=some (zwm A):=fun o o'=>by
  rw [yp _ _ ⟨_,2,none⟩ (zx y (by simp)),yp _ _ ⟨_,2,none⟩ y];exact W
 have L:=zf (z7r O A H n d p ((w.alloc (.cells #[.slice none 0 0] 114)).alloc (.cells #[.bool false] 4)) hn hl hy aa hf z (hD.stay (O1:=fun _=>False) (T:=[]) (.of_below (xu _ _ _)) (by simp) (by simp)) (hN.below (xu _ _ _)));have K:Hid (((w.alloc (.cells #[.slice none 0 0] 114)).alloc (.cells #[.bool false] 4)).heap[w.heap.size]?=some (.cells #[.slice none 0 0] 114 (0,0))∧((w.alloc (.cells #[.slice none 0 0] 114)).alloc (.cells #[.bool false] 4)).heap[w.heap.size+1]?=some (.cells #[.bool false] 4 (0,0))∧zq O nT w ((w.alloc (.cells #[.slice none 0 0] 114)).alloc (.cells #[.bool false] 4))):=by
  refine⟨zj (zg _ _),?_,.of_below (xu _ _ _)⟩;rw [show w.heap.size+1=(w.alloc (.cells #[.slice none 0 0] 114)).heap.size by simp];exact zg _ _
 clear hD hN hl hy z W;unfold zwm at X;unfold yx qo;unfold qo at L;generalize yz d.fs n p=N at *;obtain⟨⟨ae,ok⟩,n'⟩:=N;simp only at *
 go_enter_defers func83,ntmps83
 go_wp2_with fail;refine L.o.mono ?_;rintro r J ⟨v,e,x,rfl,I,u,hg,hx,Y⟩;obtain⟨D,F,E,rfl⟩:∃ a l c,v= .slice a l c:=by
  rcases hg with ⟨d',-,g,k,C,fr,S,-⟩ | ⟨-,S⟩
  ·exact⟨_,_,_,S⟩
  ·exact⟨_,_,_,S⟩
 have G:J.heap[w.heap.size]?=some (.cells #[.slice none 0 0] 114 (0,0)):=I.keep K.o.1 (by decide);have M:J.heap[w.heap.size+1]?=some (.cells #[.bool false] 4 (0,0)):=I.keep K.o.2.1 (by decide);have P:(J.setCell ⟨w.heap.size,0,none⟩ (.slice D F E)).heap[w.heap.size]?=some (.cells #[.slice D F E] 114 (0,0)):=by rw [zav G];rfl
 have Q:(J.setCell ⟨w.heap.size,0,none⟩ (.slice D F E)).heap[w.heap.size+1]?=some (.cells #[.bool false] 4 (0,0)):=by rw [yh _ _ _ _ (show w.heap.size+1≠w.heap.size by omega)];exact M
 obtain⟨k0,z0⟩:=zw G 0 _ rfl;obtain⟨k1,z1⟩:=zw P 0 _ rfl;obtain⟨k2,z2⟩:=zw Q 0 _ rfl;have n1:w.heap.size≠w.heap.size+1:=by omega
 have s:=zf (K.o.2.2.trans (I.mono (fun _ h=> .inl h) (fun _ h=>h)));have q:=zf u;have m:=zf hg;have HX:=zf hx;have HE:=zf Y;have i:=zf (And.intro G M);have ad:=zf (And.intro P Q);have Z:e= .nilIface∧ok=true∨ok=false∧∃ g,e=zhw g:=by
  rcases Y with ⟨U,V⟩ | ⟨U,V⟩
  ·exact .inl ⟨V,U⟩
  ·exact .inr ⟨U,V⟩
 clear I u hg hx Y G M P Q L;rcases Z with ⟨rfl,rfl⟩ | ⟨rfl,g',rfl⟩
 ·go_wp2_with fail
  go_region
  all_goals go_wp2_with fail
  all_goals refine zb9 (f:=111) (args:=#[.pointer (some ⟨w.heap.size,0,none⟩),.pointer (some ⟨w.heap.size+1,0,none⟩)]) (by simp) (by simp [go_sem]) ?_
  all_goals refine(ztv ⟨w.heap.size,0,none⟩ ⟨w.heap.size+1,0,none⟩ _).mono ?_
  all_goals rintro e u' ab ⟨rfl,rfl,rfl⟩
  all_goals simp [Leaves,settle,results,results83,go_sem]
  obtain⟨q1,q2,B⟩:=z0d (v:= .slice D F E) (b:=true) i.o.1 i.o.2;rw [q1];simp only [zqf];rw [q2];exact⟨_,rfl,_,rfl,(((s.o.setNew (zm _) _ _).setNew (zm _) _ _).setNew (vk _) _ _).drew,q.o.turn B (by decide) (by decide) (by decide),x,m.o.turn B (by decide),HX.o⟩
 ·unfold zhw;go_wp2_with fail
  go_region
  all_goals go_wp2_with fail
  all_goals refine zb9 (f:=111) (args:=#[.pointer (some ⟨w.heap.size,0,none⟩),.pointer (some ⟨w.heap.size+1,0,none⟩)]) (by simp) (by simp [go_sem]) ?_
  all_goals refine(ztv ⟨w.heap.size,0,none⟩ ⟨w.heap.size+1,0,none⟩ _).mono ?_
  all_goals rintro e u' ab ⟨rfl,rfl,rfl⟩
  all_goals simp [Leaves,settle,results,results83,go_sem]
  obtain⟨q1,q2,B⟩:=z0d (v:= .slice D F E) (b:=false) i.o.1 i.o.2;rw [q1];simp only [zqf];rw [q2];exact⟨_,rfl,_,rfl,(((s.o.setNew (zm _) _ _).setNew (zm _) _ _).setNew (vk _) _ _).drew,q.o.turn B (by decide) (by decide) (by decide),x,m.o.turn B (by decide),HX.o⟩
end Go.Proofs.YtlcllcgngjhoaaaGreatDoor
