import Derived.Test.YtlcllcgngjhoaaaGreatDoorG16
set_option maxHeartbeats 8000000
set_option maxRecDepth 100000
set_option linter.all false
namespace Go.Proofs.YtlcllcgngjhoaaaGreatDoor
open Go.RowKit Go.Proofs.Tryz
variable {b cap off:Nat}{w:World}
theorem yfz (e:zc)(h:e.length≤20):z6x (bys [tb e])=zss e∧okB (bys [tb e])=true:=by
 have b:bys [tb e]=[e]:=rfl;have a:okB [e]=true:=by simp [okB,h]
 rw [b];refine⟨?_,a⟩;rw [zvk a];simp [zf6]
theorem ybx (es:za)(k:Nat)(h:k < es.length):zad es (-1) k=zss es[k]:=by
 unfold zad;rw [if_pos rfl,zl,zt h]
 rfl
theorem z64 (es:za)(L k:Nat):zad es (L:Int) k=qm ((es.drop (k*4 ^ L)).take (4 ^ L)):=by
 unfold zad;rw [if_neg (by omega),yj]
theorem ygb (n P j:Nat)(a:1≤P):j*P+P≤n↔j < n / P:=by
 have h:=zbu (x:=j+1) (y:=n) (show 0 < P by omega);rw [zdg,z91] at h;omega
def zhh (es:za)(l:Int)(k:Nat):za:=(List.range k).map (zad es l)
theorem zvv (es:za)(l:Int)(k:Nat):(zhh es l k).length=k:=by simp [zhh]
theorem zyt (es:za)(l:Int)(k:Nat):zhh es l (k+1)=zhh es l k++[zad es l k]:=by
 unfold zhh;rw [zfe,yy]
 rfl
theorem z99 {es:za}(a:∀ e∈es,e.length≤20)(l:Int)(k:Nat):∀ d∈zhh es l k,d.length≤21:=by
 intro d b;obtain⟨j,-,rfl⟩:=yl.1 b;exact zys a l j
theorem z56 (es:za):zd7 es 0=z3u (-1) (zhh es (-1) es.length):=by
 unfold zhh;rw [zy2];simp [zd7]
theorem z54 (es:za)(L:Nat):zd7 es (L+1)=zd7 es L++z3u (L:Int) (zhh es (L:Int) (es.length / 4 ^ L)):=by
 unfold zhh;rw [zy2];unfold zd7;rw [zfe,zim,xt];simp
theorem yjz {es:za}(f:∀ i (h:i < es.length),w.cell? ⟨b,off+i,none⟩=some (qo es[i]))(i n:Nat)(d:i+n≤es.length)(a:es.length≤cap):Tss w (.slice (some ⟨b,off+i,none⟩) n (cap - i)) ((es.drop i).take n):=by
 have c:((es.drop i).take n).length=n:=by simp;omega
 refine⟨_,_,by rw [c],by omega,.inr ⟨b,off+i,rfl,fun j e=>?_⟩⟩;rw [c] at e;rw [vv,zcn,zes];exact f (i+j) (by omega)
theorem z9q (es:za)(L:Nat)(a:L≤21):(zd7 es L).length≤22*((es.length+3) / 4):=by
 unfold zd7;rw [zy];have b:=zoy es (-1) 0 es.length;have c:=zot (fun(k:Nat)=>zox es (k:Int) 0 (es.length / 4 ^ k)) ((es.length+3) / 4) L (fun k=>by
  have h:=zoy es (k:Int) 0 (es.length / 4 ^ k);have:=zec es.length (4 ^ k);omega)
 have d:=zd1 ((es.length+3) / 4) a;omega
theorem zg2 (w:World){ops:Array Oper}{rest:List Oper}{o:Oper}{a:Act}{Q:Exit→Act→World→Prop}
 (k:o.guard=none) (s x:Operand) (m:o.op=Op.call { callee:=Callee.builtin Builtin.append,args:=#[s,x],argTypes:=#[22,22] })
 (B:Nat) (K:B≤w.heap.size) (v:Value) (d:za) (F:a.eval s=v) (f:w.ownsRow B 9 1 v d.length (d.map qo))
 (t:zc) (H:Nat) (A:w.heap.size=H) (G:a.eval x= .slice (some ⟨H,0,none⟩) 1 1) (L:d.length≤1000000000)
 (h:∀ r u,u.ownsRow B 9 1 r (d++[t]).length ((d++[t]).map qo)→zq (fun g=>v.ownBlock=some g) [9] w u→(∀ g,r.ownBlock=some g→v.ownBlock=some g∨w.heap.size≤g)→wpList prog ops Q rest (a.put o.dst r) u):wpList prog ops Q (o::rest) a (w.alloc (.cells #[qo t] 9)):=by
 obtain⟨i,D,l⟩:=zz.1 zps;obtain⟨n,p,q⟩:i.zero=some (.string ⟨#[]⟩)∧i.size=1∧i.bytes=16:=by simpa using l
 subst A;have y:=zbt f (.cells #[qo t] 9);refine zaa _ k s x _ m B 9 i (.string ⟨#[]⟩) 1 16 underlying22 D n p q rfl (by omega) v d.length (d.map qo) F y ⟨w.heap.size,0,none⟩ 1 1 [qo t] G rfl (xj (zg _ _)) (by simp [qo,Value.oneCell']) (by omega) (by unfold maxLen;omega) (by omega) (by simp;omega) (w.heap.size+1) (by simp) fun g z I c b j E=>?_;refine h _ I (by simpa using c) (((zq.refl (fun g=>v.ownBlock=some g) [9] w).alloc _).grown y b (fun g C=> .inl C) (by simp)) fun J e=>?_;simp only [Value.ownBlock,zr] at e;subst e;rcases j with h | h
 ·exact .inl h
 ·exact .inr (by omega)
theorem z1i (v:Value)(es:za)(w:World)(hn:es.length≤1000000)(ag:∀ e∈es,e.length≤20)(h:Tss w v es):
  Calls prog 39 #[v] w fun r w'=>∃ x,r= .returned x∧Below w.heap.size w w'∧w'.ownsRow 0 50 2 x (j8 es).length (jk (j8 es)):=by
 have HS:=zf h;have F:=zf ag;obtain⟨a,H,rfl,ah,-⟩:=h;clear ag;go_enter func39,ntmps39;go_wp2_with fail;go_loopw [4,5] (fun dv iv wr=>∃ k:Nat,k≤es.length∧iv= .int .i64 k∧Below w.heap.size w wr∧wr.ownsRow w.heap.size 9 1 dv (zhh es (-1) k).length ((zhh es (-1) k).map qo)) (fun _ iv _=>es.length - (intOf iv).toNat)
 case atStart=>exact⟨0,yv _,rfl,yf _ _,⟨rfl,.inl ⟨rfl,rfl⟩⟩⟩
 case round =>
  obtain⟨k,hk,rfl,n,c⟩:=hrel;have g:=zf n;obtain⟨da,dc,rfl⟩:=qr c;have B:=zf c;clear n c
  by_cases V:k < es.length
  ·obtain⟨-,-,E⟩:=HS.o.at;obtain⟨b,J,rfl,X⟩:=E (by omega);have y1:=X k V;have r1:wr.cell? ⟨b,J+k,none⟩=some (.string (tb es[k])):=by rw [g.o.cell (p:=⟨b,_,none⟩) (yg y1)];exact y1
   have ai:=F.o _ (yd V);have Q:Hid (zhh es (-1) (k+1)=zhh es (-1) k++[zss es[k]]):=by show _=_;rw [zyt,ybx es k V]
   have q:(zhh es (-1) k).length=k:=zvv _ _ _;have G:=zf q;clear y1 X E q;generalize es[k]=e at *;have u:=zf (yfz e ai);have am:Sss wr (.slice (some ⟨b,J+k,none⟩) 1 (H - k)) [tb e]:=by
    refine⟨_,_,rfl,by simp;omega,.inr ⟨b,J+k,rfl,fun i hi=>?_⟩⟩;obtain rfl:i=0:=by simpa using hi
    exact r1
   have ad:=zf am;have aB:¬ H=k:=by omega
   have aH:k+1≤H:=by omega
   clear am r1;go_wp2_with fail;refine(zql _ [tb e] wr (by simp) (fun s hs=>by obtain rfl:s=tb e:=(by simpa using hs);show e.toArray.size≤_;simp;omega) (by exact ad.o)).mono ?_;rintro r C ⟨rfl,m⟩;rw [u.o.1,u.o.2];have y:Hid (Below w.heap.size w C):=g.o.trans (m.mono g.o.size);have d:Hid (C.ownsRow w.heap.size 9 1 (.slice da (zhh es (-1) k).length dc) (zhh es (-1) k).length ((zhh es (-1) k).map qo)):=zo B.o (zq.of_below (O:=fun _=>False) (T:=[]) m) (by simp);clear m B ad;generalize zss e=t at *;unfold txt;go_wp2_with (at_builtin;refine zg2 C rfl _ _ rfl w.heap.size y.o.size (.slice da (zhh es (-1) k).length dc) (zhh es (-1) k) rfl d.o t _ rfl rfl (by have:=G.o;omega) ?_;intro v' w3 c z _;have S:=zf c;have N:Hid (Below w.heap.size w w3):=y.o.trans (z.below (vq d.o) y.o.size);obtain⟨ya,yc,he⟩:=qr c;subst he;clear c z)
   go_roundw
   case rel=>exact⟨k+1,by omega,by go_num,N.o,by rw [Q.o];have h:=S.o;rw [zy] at h ⊢;exact h⟩
   case measure=>simp [intOf];omega
  ·obtain rfl:k=es.length:=by omega
   have q:Hid ((zhh es (-1) es.length).length≤1000000):=by show _≤_;rw [zvv];exact hn
   go_wp2_with fail;refine(zr6 _ _ [] (-1) (zhh es (-1) es.length) w.heap.size wr g.o.size ⟨rfl,.inl ⟨rfl,rfl⟩⟩ (by simp) B.o q.out (z99 F.o _ _)).mono ?_;rintro r C ⟨x1,rfl,D,f⟩;have u:Hid (Below w.heap.size w C):=g.o.trans (D.below (fun _ h=>h) g.o.size);rw [zal,← z56] at f;obtain⟨xa,xc,rfl⟩:=qr f;have d:=zf f;clear D f B g q;go_wp2_with fail;go_loopw [3,4,8,9] (fun ov dv uv av wr=>∃ L:Nat,L≤10∧uv= .int .i64 ((4 ^ L:Nat):Int)∧av= .int .i64 (L:Int)∧Below w.heap.size w wr∧wr.ownsRow w.heap.size 50 2 ov (zd7 es L).length (jk (zd7 es L))) (fun _ _ _ av _=>11 - (intOf av).toNat)
   case atStart=>exact⟨0,by omega,rfl,rfl,u.o,d.o⟩
   case round =>
    obtain⟨L,hL,rfl,rfl,n,c⟩:=hrel;clear u d;have g:=zf n;obtain⟨oa,oc,rfl⟩:=qr c;have B:=zf c;clear n c;have ay:1≤4 ^ L:=jp (by omega);have aa:Hid (L=10→1000000 < 4 ^ L):=fun e=>by subst e;decide
    have aw:=zf (z54 es L);have au:Hid (es.length < 4 ^ L→zd7 es L=j8 es):=fun h=>z9p es L h (by omega);have an:=zf (z64 es L);have ar:Hid (((4 ^ L:Nat):Int)*4=((4 ^ (L+1):Nat):Int)):=by show _=_;rw [qy];push_cast;rfl
    have af:=zf (z9q es L (by omega));have ap:Hid (L=10∨L+1≤10):=by show _∨_;omega
    generalize 4 ^ L=P at *
    by_cases hP:P≤es.length
    ·have ax:L+1≤10:=by
      rcases ap.o with e | e
      ·have:=aa.o e;omega
      ·exact e
     have az:Hid (∀ j:Nat,j*P+P≤es.length↔j < es.length / P):=fun j=>ygb es.length P j ay;go_wp2_with fail;go_loopw [4,10] (fun dv jv W=>∃ j:Nat,j≤es.length / P∧jv= .int .i64 (j:Int)∧Below w.heap.size w W∧W.ownsRow w.heap.size 50 2 (.slice oa (zd7 es L).length oc) (zd7 es L).length (jk (zd7 es L))∧W.ownsRow w.heap.size 9 1 dv (zhh es (L:Int) j).length ((zhh es (L:Int) j).map qo)) (fun _ jv _=>es.length / P - (intOf jv).toNat)
     case atStart=>exact⟨0,yv _,rfl,g.o,B.o,⟨rfl,.inl ⟨rfl,rfl⟩⟩⟩
     case round =>
      obtain⟨j,hj,rfl,n,aj,c⟩:=hrel;clear g B;have g:=zf n;have B:=zf aj;obtain⟨da,dc,rfl⟩:=qr c;have R:=zf c;obtain⟨A,I⟩:∃ A,j*P=A:=⟨_,rfl⟩;have hA:(j:Int)*(P:Int)=(A:Int):=by rw [← I];push_cast;rfl
      have aE:((j:Int)+1)*(P:Int)=(A:Int)+(P:Int):=by rw [Int.add_mul,hA];omega
      have U:=az.out j;rw [I] at U;have Z:=zf U;have Y:=zf I;have Q:=zf (zyt es (L:Int) j);have q:(zhh es (L:Int) j).length=j:=zvv _ _ _;have G:=zf q;have aG:j≤es.length:=zu hj (zec _ _);have aA:Hid (j≤es.length / P):=hj;have aF:A≤es.length:=by rw [← Y.o];exact zu (zd1 P hj) (Nat.div_mul_le_self _ _)
      clear n aj c I U q hj
      by_cases al:A+P≤es.length
      ·have M:Hid (j < es.length / P):=Z.o.1 al;obtain⟨-,-,E⟩:=HS.o.at;obtain⟨b,J,rfl,X⟩:=E (by omega);have ae:=zf (yjz (fun i hi=>by rw [g.o.cell (p:=⟨b,_,none⟩) (yg (X i hi))];exact X i hi) A P al ah);have ab:Hid (zad es (L:Int) j=qm ((es.drop A).take P)):=by show _=_;rw [an.o j,Y.o]
       have aB:¬ H=A:=by omega
       clear X E;go_wp2_with fail;refine(zg7 _ ((es.drop A).take P) wr (by simp;omega) (fun l hl=>F.o l (zb5 (qh hl))) (by exact ae.o)).mono ?_;rintro r C ⟨rfl,m⟩;rw [← ab.o];have y:Hid (Below w.heap.size w C):=g.o.trans (m.mono g.o.size);have K:Hid (C.ownsRow w.heap.size 9 1 (.slice da (zhh es (L:Int) j).length dc) (zhh es (L:Int) j).length ((zhh es (L:Int) j).map qo)):=zo R.o (zq.of_below (O:=fun _=>False) (T:=[]) m) (by simp);have d:Hid (C.ownsRow w.heap.size 50 2 (.slice oa (zd7 es L).length oc) (zd7 es L).length (jk (zd7 es L))):=zo B.o (zq.of_below (O:=fun _=>False) (T:=[]) m) (by simp);clear m B R ae ab;generalize zad es (L:Int) j=t at *;go_wp2_with (at_builtin;refine zg2 C rfl _ _ rfl w.heap.size y.o.size (.slice da (zhh es (L:Int) j).length dc) (zhh es (L:Int) j) rfl K.o t _ rfl rfl (by have:=G.o;omega) ?_;intro v' w3 c z _;have S:=zf c;have aq:=zf (zo d.o z (by decide));have N:Hid (Below w.heap.size w w3):=y.o.trans (z.below (vq K.o) y.o.size);obtain⟨ya,yc,he⟩:=qr c;subst he;clear c z)
       go_roundw
       case rel=>exact⟨j+1,by have:=M.out;omega,by go_num,N.o,aq.o,by rw [Q.o];have h:=S.o;rw [zy] at h ⊢;exact h⟩
       case measure =>
        have:=M.out;simp [intOf];omega
      ·have aD:¬(A:Int)+(P:Int)≤(es.length:Int):=by omega
       have ak:j=es.length / P:=by
        have:=aA.out;have h2:=Z.o;omega
       have ao:=zf ak;have aC:=zf af.o;clear ak;go_wp2_with fail;refine(zr6 _ _ (zd7 es L) (L:Int) (zhh es (L:Int) j) w.heap.size wr g.o.size B.o (by have:=af.o;omega) R.o (by have:=G.o;omega) (z99 F.o _ _)).mono ?_;rintro r C ⟨x1,rfl,D,f⟩;have u:Hid (Below w.heap.size w C):=g.o.trans (D.below (fun _ h=>h) g.o.size);rw [ao.o,← aw.o] at f;obtain⟨aI,aJ,he⟩:=qr f;subst he;have d:=zf f;clear D f;go_wp2_with fail
       go_roundw
       case rel=>exact⟨L+1,ax,congrArg (Value.int .i64) ar.o,by go_num,u.o,d.o⟩
       case measure=>simp [intOf];omega
    ·have HW:Hid (zd7 es L=j8 es):=au.o (by omega);go_wp2_with fail;go_ret;have ho:=B.o;rw [HW.o] at ho;exact⟨_,rfl,g.o,by rw [HW.o];exact zq4 ho (yv _)⟩
variable {O:Nat→Prop}{T:List Nat}{W w' w1 w2 w3:World}{ix:Int}{ms ms' ms1 ms2:za}{mv v':Value}{nb qb:Nat}
abbrev TLk:List Nat:=[68,9]
def vy (w:World)(d:Nat)(e:Option Nat)(f a:Nat)(c:za):Prop :=
 ∃ b,w.heap[d]?=some (.cells #[yx f,.int .i64 a,b] 68 (0,0))∧w.ownsRow (d+1) 9 1 b c.length (c.map qo)∧b.ownBlock=e
def Lkd (w e:World)(d:Nat)(c:Option Nat)(h b:Nat)(f:za):Prop :=
 zq (fun g=>g=d∨c=some g) TLk w e∧∃ a,vy e d a h b f∧∀ g,a=some g→c=some g∨w.heap.size≤g
structure LkC (W:World)(nb:Nat)(fs:Fs)(L:List Ly)(size:Nat):Prop where
 net:zso W nb fs L
 nf:fs.length≤1000000000
 nl:L.length≤1000000000
 fd:∀ f∈fs,f.2.length≤1048576
 ld:∀ l∈L,l.data.length≤1048576
 sz:size < 9223372036854775808
theorem vy.below {a:Nat}{d:Option Nat}(h:vy w qb d nb a ms)(c:Below w.heap.size w w'):vy w' qb d nb a ms:=by
 obtain⟨g,b,e,f⟩:=h;exact⟨g,(c.block qb (ju b)).trans b,ym e c,f⟩
theorem vy.stay {a:Nat}{b:Option Nat}(h:vy w qb b nb a ms)(d:zq O T w w')(i:¬ O qb)(j:∀ g,b=some g→¬ O g):vy w' qb b nb a ms:=by
 obtain⟨l,e,f,c⟩:=h;exact⟨l,d.stay e i,zdq f d (fun g k=>j g (c.symm.trans k)),c⟩
theorem vy.lt {a:Nat}{d:Option Nat}(h:vy w qb d nb a ms):qb < w.heap.size∧∀ g,d=some g→qb < g∧g < w.heap.size:=by
 obtain⟨f,e,b,rfl⟩:=h;exact⟨ju e,fun g c=>⟨vq b g c,(b.lt g c).2⟩⟩
theorem vy.same {a:Nat}{b:Option Nat}(h:vy w qb b nb a ms)(c:Below w.heap.size w w'):Lkd w w' qb b nb a ms :=
 ⟨.of_below c,b,h.below c,fun _ h=> .inl h⟩
theorem Lkd.next {a:Nat}{d b:Option Nat}(t1:zq (fun g=>g=qb∨d=some g) TLk w w1)(i:vy w1 qb b nb a ms1)(f:∀ g,b=some g→d=some g∨w.heap.size≤g)(k:Lkd w1 w2 qb b nb a ms2):Lkd w w2 qb d nb a ms2:=by
 obtain⟨t2,e,j,l⟩:=k;refine⟨t1.trans (t2.mono (fun g c=>?_) (fun _ h=>h)),e,j,fun g c=>?_⟩
 ·rcases c with rfl | c
  ·exact .inl (.inl rfl)
  ·rcases f g c with h | h
   ·exact .inl (.inr h)
   ·exact .inr ⟨h,(i.lt.2 g c).2⟩
 ·rcases l g c with h | h
  ·exact f g h
  ·exact .inr (zu t1.size h)
theorem Lkd.before {a:Nat}{b:Option Nat}(h:vy w qb b nb a ms1)(c:Below w.heap.size w w1)(k:Lkd w1 w2 qb b nb a ms2):Lkd w w2 qb b nb a ms2 :=
 Lkd.next (.of_below c) (h.below c) (fun _ h=> .inl h) k
theorem Lkd.below {a:Nat}{e:Option Nat}(k:Lkd w w' qb e nb a ms')(h:vy w qb e nb a ms)(c:Below W.heap.size W w)(d:W.heap.size≤qb):Below W.heap.size W w' :=
 c.trans (k.1.below (fun g b=>by
  rcases b with rfl | b
  ·exact d
  ·exact zu d (z15 (h.lt.2 g b).1)) c.size)
theorem zzc {a:Nat}{d:zc}(i:w.heap[qb]?=some (.cells #[yx nb,.int .i64 a,mv] 68 (0,0)))(f:zq (fun g=>mv.ownBlock=some g) [9] w w3)(e:w3.ownsRow (qb+1) 9 1 v' (ms++[d]).length ((ms++[d]).map qo))(j:∀ g,v'.ownBlock=some g→mv.ownBlock=some g∨w.heap.size≤g):
  Lkd w (w3.setCell ⟨qb,2,none⟩ v') qb mv.ownBlock nb a (ms++[d]):=by
 have b:=f.keep i (by decide);refine⟨(f.mono (fun g h=> .inr h) (by simp)).set (.inl (.inl rfl)) b (by simp) _,v'.ownBlock,⟨v',zav b 2 v',zdq e ((zq.refl (fun g=>g=qb) [68] w3).set (.inl rfl) b (by simp) _) (fun g c h=>?_),rfl⟩,j⟩;have:=vq e g c;omega
theorem zur {fs:Fs}{L:List Ly}{a:Nat}(h:LkC W nb fs L a)(p:zc):(zaj fs L p).1.length≤1048576:=by
 unfold zaj;cases c:L.find? (fun l=>decide (l.path=p)) with
 | some l=>exact h.ld l (zdm c)
 | none =>
  simp only;cases b:ixF fs p with
  | none=>rw [(zci b).1];simp
  | some k =>
   obtain⟨d,-,e,-⟩:=zb8 b;rw [e];exact h.fd _ (yd d)
theorem yev {fs:Fs}{L:List Ly}{l:Int}{w:Nat}(a:(zaj fs L (qq l ix w)).2=true)(b:(zaj fs L (qq l ix w)).1.length=8*w):zel (qc fs L) l ix w=some (zaj fs L (qq l ix w)).1:=by
 unfold zel;rw [zlc,a];simp [b]
theorem z5q {fs:Fs}{L:List Ly}{l:Int}{w:Nat}(h:¬((zaj fs L (qq l ix w)).2=true∧(zaj fs L (qq l ix w)).1.length=8*w)):zel (qc fs L) l ix w=if (zaj fs L (qq l ix 4)).2=true∧(zaj fs L (qq l ix 4)).1.length=32 then some ((zaj fs L (qq l ix 4)).1.take (8*w)) else none:=by
 have e:zel.again (qc fs L) l ix w=if (zaj fs L (qq l ix 4)).2=true∧(zaj fs L (qq l ix 4)).1.length=32 then some ((zaj fs L (qq l ix 4)).1.take (8*w)) else none:=by
  unfold zel.again;rw [zlc];cases (zaj fs L (qq l ix 4)).2 with
  | false=>simp
  | true=>simp
 rw [← e];unfold zel;rw [zlc];cases a:(zaj fs L (qq l ix w)).2 with
 | false=>simp
 | true =>
  simp only [if_true];rw [if_neg (fun e=>h ⟨a,e⟩)]
theorem yeg {fs:Fs}{L:List Ly}{t:Nat}(B:LkC W nb fs L t)(g:Nat)(mb:Option Nat)(l a c b:Nat)(aq:1≤b)(ak:(b:Int)=min ((c:Int) - a*4) 4)(hc:c < 9223372036854775808)(N:za)(ai:N.length≤1000000)(w:World)(hW:Below W.heap.size W w)(h:vy w g mb nb t N):
  Calls prog 132 #[yx g,.int .i64 l,.int .i64 a,.int .i64 c] w fun r w'=>r= .returned (.tuple #[qo ((zel (qc fs L) l a b).getD []),.bool (zel (qc fs L) l a b).isSome])∧Lkd w w' g mb nb t (N++yda (zel (qc fs L) l a b) (qq l a b)):=by
 have ad:Hid (N.length≤1000000000):=zu ai (by decide);have R:=zf h;obtain⟨mv,z,d,D⟩:=h;have O:=zf hW;have x0:w.cell? ⟨g,0,none⟩=some (yx nb):=by rw [yq _ _ _ _ _ _ z];rfl
 have ah:=ju z;clear z d hW D;have a1:(a:Int)*4≤9223372036854775807:=by omega
 have T:∀(V:World) (v:Int),Calls prog 59 #[.int .i64 l,.int .i64 a,.int .i64 v] V fun r w'=>r= .returned (.string ⟨(qq l a v).toArray⟩)∧Below V.heap.size V w':=fun V v=>zjq l a v (by omega) V;have HN:=zf T;clear T;unfold yx at x0 ⊢;go_enter func132,ntmps132;have ar:b≤4:=by omega
 have U:Hid (((c:Int) - a*4≤4→(c:Int) - a*4=b)∧(¬(c:Int) - a*4≤4→Value.int .i64 4= .int .i64 (b:Int))):=⟨fun h=>by omega,fun h=>by rw [show(b:Int)=4 by omega]⟩;clear ak
 by_cases h4:(c:Int) - a*4≤4
 all_goals
  go_wp2_with fail
  first
   | rw [U.o.1 h4]
   | rw [U.o.2 h4]
  refine(HN.o _ _).mono ?_;rintro r w1 ⟨rfl,C⟩;have y0:w1.cell? ⟨g,0,none⟩=some (.pointer (some ⟨nb,0,none⟩)):=by rw [C.cell (p:=⟨g,0,none⟩) ah];exact x0
  have Q:=zf C;have ae:Hid (zso w1 nb fs L):=B.net.below (O.o.trans (C.mono O.o.size));clear C h4 x0;have H:Hid (∀ P:(zaj fs L (qq l a b)).2=true∧(zaj fs L (qq l a b)).1.length=8*b,zel (qc fs L) l a b=some (zaj fs L (qq l a b)).1):=fun h=>yev h.1 h.2;have E:Hid (_→_):=z5q (fs:=fs) (L:=L) (l:=l) (ix:=a) (w:=b);generalize aj:qq l a b=q at *;go_wp2_with fail;refine(znh nb fs L q w1 B.nf B.nl ae.o).mono ?_;rintro r w2 ⟨rfl,Y⟩;have i:=zf (Q.o.trans (Y.mono Q.o.size));have aa:=zf (R.o.below i.o);have A:=zf (zur B q);clear Y y0
  by_cases P:(zaj fs L q).2=true∧(zaj fs L q).1.length=8*b
  ·have I:=zf (H.o P);clear H E A;generalize zaj fs L q=x at *;obtain⟨s,ok⟩:=x;obtain⟨m,hl⟩:=P;simp only at m hl;subst m;unfold qo;go_wp2_with fail
   go_ret2
   refine⟨by rw [I.o];rfl,?_⟩;rw [I.o,show yda (some s) (qq l a b)=[] from rfl,za3];exact R.o.same i.o
  ·have I:=zf (E.o P);clear H E;have am:Hid (zso w2 nb fs L):=B.net.below (O.o.trans (i.o.mono O.o.size));have y0:w2.cell? ⟨g,0,none⟩=some (.pointer (some ⟨nb,0,none⟩)):=by obtain⟨mv,z,-,-⟩:=aa.o;rw [yq _ _ _ _ _ _ z];rfl
   have J:(zaj fs L q).2=false∨(zaj fs L q).2=true∧¬((zaj fs L q).1.length:Int)=8*(b:Int):=by
    cases hx:(zaj fs L q).2 with
    | false=>exact .inl rfl
    | true=>exact .inr ⟨rfl,fun e=>P ⟨hx,by omega⟩⟩
   clear P;generalize zaj fs L q=x at *;obtain⟨s,ok⟩:=x;simp only at J;unfold qo;rcases J with rfl | ⟨rfl,J⟩
   all_goals
    clear A;go_wp2_with fail;refine(HN.o _ 4).mono ?_;rintro r w3 ⟨rfl,M⟩;have F:=zf (i.o.trans (M.mono i.o.size));have af:Hid (zso w3 nb fs L):=B.net.below (O.o.trans (F.o.mono O.o.size));have z0:w3.cell? ⟨g,0,none⟩=some (.pointer (some ⟨nb,0,none⟩)):=by rw [M.cell (p:=⟨g,0,none⟩) (yg y0)];exact y0
    clear M y0;generalize ao:qq l a 4=u at *;go_wp2_with fail;refine(znh nb fs L u w3 B.nf B.nl af.o).mono ?_;rintro r w4 ⟨rfl,Z⟩;have G:=zf (F.o.trans (Z.mono F.o.size));have ab:=zf (R.o.below G.o);have A:=zf (zur B u);clear Z z0
    by_cases X:(zaj fs L u).2=true∧(zaj fs L u).1.length=32
    ·have j:=zf (I.o.trans (if_pos X));clear I A;generalize zaj fs L u=y at *;obtain⟨s2,al⟩:=y;obtain⟨m,hl⟩:=X;simp only at m hl;subst m;unfold qo;go_wp2_with fail
     go_ret2
     refine⟨?_,?_⟩
     ·show Ending.returned (.tuple #[.string ((⟨s2.toArray⟩:ByteArray).extract 0 (8*b)),.bool true])=_;rw [ygl,j.o]
      rfl
     ·rw [j.o,show yda (some (s2.take (8*b))) (qq l a b)=[] from rfl,za3];exact R.o.same G.o
    ·have j:=zf (I.o.trans (if_neg X));have K:(zaj fs L u).2=false∨(zaj fs L u).2=true∧¬((zaj fs L u).1.length:Int)=32:=by
      cases hx:(zaj fs L u).2 with
      | false=>exact .inl rfl
      | true=>exact .inr ⟨rfl,fun e=>X ⟨hx,by omega⟩⟩
     obtain⟨mv,z,d,D⟩:=ab.o;obtain⟨ma,mc,rfl⟩:=qr d;have z2:w4.cell? ⟨g,2,none⟩=some (.slice ma N.length mc):=by rw [yq _ _ _ _ _ _ z];rfl
     have HG:=zf z;have HO:=zf d;have S:=zf D;have ag:Hid (g+1≤w4.heap.size):=ju z;clear I X z d D;generalize zaj fs L u=y at *;obtain⟨s2,al⟩:=y;simp only at K;unfold qo;rcases K with rfl | ⟨rfl,K⟩
     all_goals
      go_wp2_with (at_builtin;refine zg2 w4 rfl _ _ rfl (g+1) ag.o (.slice ma N.length mc) N rfl HO.o q _ rfl rfl ad.o ?_;intro v' w5 f n k;have HX:=zf (zzc HG.o n f k);obtain⟨ap,an⟩:=zw (n.keep HG.o (by decide)) 2 _ rfl;obtain⟨ya,yc,he⟩:=qr f;subst he;clear f n k)
      go_ret2
      refine⟨by rw [j.o];rfl,?_⟩;rw [j.o,show yda (none:Option (zc)) (qq l a b)=[qq l a b] from rfl,aj,← S.o];exact Lkd.before (S.o▸R.o) G.o (by have h:=HX.o;rw [zy] at h;exact h)
variable {U k:Nat}
theorem ymv {l:Nat}(a:4 ^ l≤U)(h:k < l):4*4 ^ k≤U:=by
 have:4 ^ (k+1)≤4 ^ l:=js (by omega) h;rw [qy] at this;omega
theorem yk1 (l:zc)(a n:Nat):(⟨l.toArray⟩:ByteArray).extract a (a+n)=⟨((l.drop a).take n).toArray⟩:=by
 apply vd;simp only [zks,List.extract_toArray,zif];rw [zc1]
theorem zzx {fs:Fs}{L:List Ly}{a:Nat}(J:LkC W nb fs L a)(d:Nat)(q:Option Nat)(l j:Nat)(e:j < qg (l:Int) a)(f:za)(C:f.length≤1000000)(w:World)(K:Below W.heap.size W w)(h:vy w d q nb a f):
  Calls prog 93 #[yx d,.int .i64 ((4 ^ l:Nat):Int),.int .i64 j] w fun r w'=>r= .returned (qo (zfk (qt (qc fs L)) (zv a (l:Int) j) (j % 4)))∧Lkd w w' d q nb a (f++zcj (qt (qc fs L)) [(zv a (l:Int) j,j % 4)]):=by
 obtain⟨N,D,ag,n,ad,G,H,I⟩:=ydn (qc fs L) a l j e;have z:qg (l:Int) a=a / 4 ^ l:=by unfold qg;simp
 have af:=J.sz;have h4:4 ^ l≤a:=by
  rw [z] at e;have h0:0 < 4 ^ l:=jp (by omega);rcases qu a (4 ^ l) with h | h
  ·rw [zet h] at e;omega
  ·exact h
 have Y:a / 4 ^ l≤a:=zec _ _;have ab:l < 4 ^ l:=Nat.lt_pow_self (by omega);have x1:w.cell? ⟨d,1,none⟩=some (.int .i64 a):=by obtain⟨mv,Z,-,-⟩:=h;rw [yq _ _ _ _ _ _ Z];rfl
 have v:=zf (yeg J d q l (j / 4) (a / 4 ^ l) N D (by rw [n,z]) (by omega) f C w K h);rw [z] at e;have HJ:=zf e;have aa:j < 9223372036854775808:=by omega
 have E:=zf G;have O:=zf H;have F:=zf I;have R:Hid (∀ k,k < l→4*4 ^ k≤4 ^ l):=fun k g=>ymv (zm _) g;have Q:Hid (∀ k,k≤l→4 ^ k≤4 ^ l):=fun k g=>js (by omega) g;clear G H I n e h K;generalize x:4 ^ l=U at *;have X:U < 9223372036854775808:=by omega
 unfold yx qo;go_enter func93,ntmps93;go_wp2_with fail
 go_loop [7,8] (fun t p=>∃ k P:Nat,k≤l∧P=4 ^ k∧t= .int .i64 k∧p= .int .i64 P) (fun t _=>l - (intOf t).toNat)
 case atStart=>exact⟨0,1,by omega,rfl,rfl,rfl⟩
 case round =>
  obtain⟨k,P,g,b,rfl,rfl⟩:=hrel;have c:=zf b;have T:1≤P:=by rw [b];exact Nat.one_le_pow _ _ (by omega)
  have V:P≤U:=by rw [b];exact Q.o k g
  clear b
  by_cases A:k < l
  ·have S:4*P≤U:=by rw [c.o];exact R.o k A
   go_wp2_with fail
   go_round
   case rel=>exact⟨k+1,4*P,by omega,by rw [c.o,qy];omega,by go_num,by go_num⟩
   case measure=>simp [intOf];omega
  ·obtain rfl:k=l:=by omega
   obtain rfl:P=U:=by rw [c.o];exact x
   unfold yx at v;go_wp2_with fail;refine v.o.mono ?_;rintro r M ⟨rfl,i⟩;have u:=zf i;clear i v;cases m:zel (qc fs L) k ((j / 4:Nat):Int) N with
   | none =>
    have y:Hid (zfk (qt (qc fs L)) (zv a (k:Int) j) (j % 4)=[]):=by show _=_;rw [E.o,m];simp
    have B:Hid (Lkd w M d q nb a (f++zcj (qt (qc fs L)) [(zv a (k:Int) j,j % 4)])):=by show Lkd _ _ _ _ _ _ _;rw [F.o];exact u.o
    clear m u;unfold qo;go_wp2_with fail;go_ret;exact⟨by rw [y.out];rfl,B.out⟩
   | some s =>
    have ae:=O.o s m;have y:Hid (zfk (qt (qc fs L)) (zv a (k:Int) j) (j % 4)=(s.drop (8*(j % 4))).take 8):=by show _=_;rw [E.o,m];rfl
    have B:Hid (Lkd w M d q nb a (f++zcj (qt (qc fs L)) [(zv a (k:Int) j,j % 4)])):=by show Lkd _ _ _ _ _ _ _;rw [F.o];exact u.o
    clear m u;unfold qo;go_wp2_with fail;go_ret;refine⟨?_,B.out⟩;show Ending.returned (.string ((⟨s.toArray⟩:ByteArray).extract (8*(j % 4)) (8*(j % 4)+8)))=_;rw [y.out,yk1]
variable {q:Nat}
theorem yat (a q j:Nat)(c:q < 63):(xr a 64 (j*2 ^ q) (2 ^ q)).length≤2:=by
 rcases zc9 q with b | b
 ·obtain⟨l,rfl⟩:∃ l,q=2*l:=⟨q / 2,by omega⟩;rw [← zbm,(zmj (fun _ _=>[]) a l j (by omega)).2];simp
 ·obtain⟨l,rfl⟩:∃ l,q=2*l+1:=⟨q / 2,by omega⟩;have e:2 ^ (2*l+1)=2*4 ^ l:=by rw [qy,← zbm];omega
  rw [e,(z4a (fun _ _=>[]) a l j (by omega)).2,(zmj (fun _ _=>[]) a l (2*j) (by omega)).2,(zmj (fun _ _=>[]) a l (2*j+1) (by omega)).2];simp
theorem z6i {a:Nat}(h:Al a (2 ^ q)):a / 2 ^ q*2 ^ q=a:=Nat.div_mul_cancel h.dvd
theorem yej (b:Nat):∀(f a n:Nat),n < 2 ^ 63→1≤n→n≤2 ^ f→Al a n→(xr b 64 a n).length≤2*(f+1):=by
 have k:∀ q a,2 ^ q < 2 ^ 63→Al a (2 ^ q)→(xr b 64 a (2 ^ q)).length≤2:=fun q a j c=>by
  have:=yat b q (a / 2 ^ q) ((zat (by omega:1 < 2)).1 j)
  rwa [z6i c] at this
 intro f
 induction f with
 | zero =>
  intro a n g o m c;obtain rfl:n=2 ^ 0:=by omega
  have:=k 0 a g c;omega
 | succ f p =>
  intro a n g o m c
  by_cases i:∃ q,n=2 ^ q
  ·obtain⟨q,rfl⟩:=i;have:=k q a g c;omega
  ·have d:2≤n:=by
    rcases qu n 2 with h | h
    ·exact absurd ⟨0,by omega⟩ i
    ·exact h
   obtain⟨v,s,w,t,u,x⟩:=zaw n f d m;rw [(zq6 (fun _ _=>[]) b a n d g (fun l e=>i ⟨2*l,by rw [e,zbm]⟩)).2,zy];have r:=p (a+yo n) (n - yo n) (by omega) t s (c.right d);have l:(xr b 64 a (yo n)).length≤2:=by
    have e:=c.left d;obtain⟨q,j⟩:=zpt n;rw [j] at e u ⊢;exact k q a (by omega) e
   omega
theorem zs5 (T:Pl→Option Fl)(ps:List (Pl×Nat)):(zcj T ps).length≤ps.length:=by unfold zcj;exact List.length_filterMap_le _ _
end Go.Proofs.YtlcllcgngjhoaaaGreatDoor
