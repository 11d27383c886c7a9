import Derived.Test.YtlcllcgngjhoaaaGreatDoorG19
set_option maxHeartbeats 8000000
set_option maxRecDepth 100000
set_option linter.all false
namespace Go.Proofs.YtlcllcgngjhoaaaGreatDoor
open Go.RowKit Go.Proofs.Tryz
def z6a:=@wp_store_row
variable {ps:za}{v:Value}{w:World}
theorem Hss.first (h:Hss w v ps)(i:ps.length=1):∃ b c d,v= .slice (some ⟨b,c,none⟩) 1 d∧w.rangeAt b c (hv (ps.headD [])).toList∧(ps.headD []).length=8:=by
 obtain⟨a,d,rfl,j,e,g⟩:=h;rcases g with g | ⟨b,c,rfl,f⟩
 ·simp [g] at i
 ·match ps,i,e,f with
  | [p],_,e,f =>
   refine⟨b,c,d,rfl,?_,e p (by simp)⟩;have:=f 0 (by simp);simpa using this
theorem yjm (a:zc)(e:a.length=8)(v:Value)(ps:za)(f n:Nat)(whole:Bool)(w:World)(h:Hss w v ps):
  Calls prog 215 #[.agg (hv a),v,.bool whole] w fun r k=>r= .returned (.tuple #[.agg (hv (j2 ql a (f+1) n n ps whole).1),.agg (hv (j2 ql a (f+1) n n ps whole).2.1),.bool (j2 ql a (f+1) n n ps whole).2.2])∧Below w.heap.size w k:=by
 cases whole with
 | true=>rw [zhl];exact z87 a e v ps w h
 | false =>
  by_cases c:ps.length=1
  ·rw [zi3 _ _ _ _ _ c];obtain⟨b,g,d,rfl,j,i⟩:=h.first c;exact yek a _ e i b g d w j
  ·rw [zmn _ _ _ _ _ c];exact yjn a e v ps w c h
theorem yno (a:zc)(s:a.length=8)(f n:Nat)(v:Value)(ps:za)(whole:Bool)(w:World)(h:Hss w v ps):
  Calls prog 170 #[.int .i64 n,.int .i64 n,.agg (hv a),v,.bool whole] w fun r D=>r= .returned (.tuple #[.agg (hv (j2 ql a (f+1) n n ps whole).1),.agg (hv (j2 ql a (f+1) n n ps whole).2.1),.bool (j2 ql a (f+1) n n ps whole).2.2])∧Below w.heap.size w D:=by
 have z:=zf (yjm a s v ps f n whole);have q:∀ p∈ps,p.length=8:=by obtain⟨_,_,_,_,q,_⟩:=h;exact q
 obtain⟨x,y⟩:=zpz ql a rfl s (f+1) n n ps whole q;have H:=zf h;obtain⟨b,C,rfl,-,-,-⟩:=h;generalize j2 ql a (f+1) n n ps whole=R at *;obtain⟨i,j,B⟩:=R;have u:(hv a).size=8:=by rw [zay,s]
 have A:=zf u;have l:(hv i).size=8:=by rw [zay];exact x
 have m:(hv j).size=8:=by rw [zay];exact y
 have d:=zf l;have g:=zf m;have t:=zf (Fq.start w a);clear u l m x y s q;go_enter func170,ntmps170;go_wp2_with (refine zcv rfl 110 _ rfl w.heap.size rfl 110 _ (0,0) _ t.o.2.1 underlying110 rfl (by rw [A.o];kernel_rfl) ?_);refine(z.o _ (H.o.below t.o.1)).mono ?_;rintro e E ⟨rfl,k⟩;have c:=zf (t.o.next k);clear k;go_wp2_with (first
  | (refine xe rfl 110 _ _ rfl (w.heap.size+1) (hv i) rfl rfl 110 _ c.o.2.2.1 (by rw [d.o];kernel_rfl) (by rw [d.o];rfl) (zcz _) ?_)
  | (refine xe rfl 110 _ _ rfl (w.heap.size+1+1) (hv j) rfl rfl 110 _ (c.o.set1 i).2.2.2 (by rw [g.o];kernel_rfl) (by rw [g.o];rfl) (zcz _) ?_))
 refine z8 (v:= .tuple #[.agg (hv i),.agg (hv j),.bool B]) (zej results170 _ _ (w.heap.size+1) (w.heap.size+1+1) 110 _ _ _ rfl ((c.o.set1 i).set2 j).2.2.1 rfl ((c.o.set1 i).set2 j).2.2.2 underlying110 rfl (by rw [d.o];kernel_rfl) (by rw [g.o];kernel_rfl) _ rfl) rfl ⟨rfl,?_⟩;exact((c.o.set1 i).set2 j).1
theorem yjk (a:zc)(e:a.length=8)(f m n:Nat)(d:m≠n)(v:Value)(ps:za)(whole:Bool)(w:World)(h0:ps.length=0)(h:Hss w v ps):
  Calls prog 170 #[.int .i64 m,.int .i64 n,.agg (hv a),v,.bool whole] w fun r i=>r= .returned (.tuple #[.agg (hv (j2 ql a (f+1) m n ps whole).1),.agg (hv (j2 ql a (f+1) m n ps whole).2.1),.bool (j2 ql a (f+1) m n ps whole).2.2])∧Below w.heap.size w i:=by
 rw [zkp _ _ _ _ _ _ _ d h0];obtain⟨b,g,rfl,-,-,-⟩:=h;rw [h0];have j:(hv a).size=8:=by rw [zay,e]
 have c:=zf (Fq.start w a);have k:((m:Int)==(n:Int))=false:=yk.2 (by omega);clear e d;go_enter func170,ntmps170;go_wp2_with (first
  | (refine xe rfl 110 _ _ rfl (w.heap.size+1) (hv ql) rfl rfl 110 _ c.o.2.2.1 (by kernel_rfl) rfl (zcz _) ?_)
  | (refine xe rfl 110 _ _ rfl (w.heap.size+1+1) (hv ql) rfl rfl 110 _ (c.o.set1 ql).2.2.2 (by kernel_rfl) rfl (zcz _) ?_))
 refine z8 (v:= .tuple #[.agg (hv ql),.agg (hv ql),.bool false]) (zej results170 _ _ (w.heap.size+1) (w.heap.size+1+1) 110 _ _ _ rfl ((c.o.set1 ql).set2 ql).2.2.1 rfl ((c.o.set1 ql).set2 ql).2.2.2 underlying110 rfl (by kernel_rfl) (by kernel_rfl) _ rfl) rfl ⟨rfl,?_⟩;exact((c.o.set1 ql).set2 ql).1
theorem yjj (a:zc)(ha:a.length=8)(f m n:Nat)(ai:1≤m)(aj:m < n)(hn:n≤9223372036854775807)(ae:m≤yo n)(b x q u:Nat)(ps:za)(whole:Bool)(w:World)(Y:ps.length=q+1)(T:q≤1000000)(O:q+1≤u)(h8:∀ p∈ps,p.length=8)
 (hr:w.rangeAt b (x+q*8) (hv (ps.getLastD [])).toList) (ht:Hss w (.slice (some ⟨b,x,none⟩) q u) ps.dropLast)
 (ih:∀(m n:Int) (v:Value) (ps:za) (whole:Bool) (w:World),1≤m→m≤n→n≤9223372036854775807→ps.length < f→ps.length≤1000000→Hss w v ps→Calls prog 170 #[.int .i64 m,.int .i64 n,.agg (hv a),v,.bool whole] w fun r w'=>r= .returned (.tuple #[.agg (hv (j2 ql a f m.toNat n.toNat ps whole).1),.agg (hv (j2 ql a f m.toNat n.toNat ps whole).2.1),.bool (j2 ql a f m.toNat n.toNat ps whole).2.2])∧Below w.heap.size w w')
 (hf:ps.length < f+1) :
  Calls prog 170 #[.int .i64 m,.int .i64 n,.agg (hv a),.slice (some ⟨b,x,none⟩) (q+1) u,.bool whole] w fun r w'=>r= .returned (.tuple #[.agg (hv (j2 ql a (f+1) m n ps whole).1),.agg (hv (j2 ql a (f+1) m n ps whole).2.1),.bool (j2 ql a (f+1) m n ps whole).2.2])∧Below w.heap.size w w':=by
 rw [zi2 _ _ _ _ _ _ _ (by omega) (by omega) ae];obtain⟨k1,k2,k3⟩:=vz n (by omega);have k:(ps.getLastD []).length=8:=by
  rw [(zdk ps q Y []).1];exact h8 _ (yd _)
 have P:ps.dropLast.length=q:=by rw [zl6,Y];rfl
 have hs:(hv a).size=8:=by rw [zay,ha]
 have Hs:=zf hs;have S:(hv (ps.getLastD [])).size=8:=by rw [zay,k]
 have F:=zf S;have s:=zf k;have IH:=zf (ih m (yo n) (.slice (some ⟨b,x,none⟩) q u) ps.dropLast whole);have ad:=zpz ql a rfl ha f m (yo n) ps.dropLast whole (fun p hp=>h8 p (zhy _ hp));have Hd:=zf P;have HH:=zf ht;have HR:=zf hr;have Hf:=zf hf;have Hq:=zf Y;have HF:=zf (Fq.start w a);have n1:((m:Int)==(n:Int))=false:=yk.2 (by omega);have m1:(((q:Int)+1)==0)=false:=yk.2 (by omega);rw [yj,yj] at IH;clear hs S k ih P ht hr hf Y h8 ha;generalize j2 ql a f m (yo n) ps.dropLast whole=R at *;obtain⟨c,g,R3⟩:=R;obtain⟨l1,l2⟩:=ad;have U:(hv c).size=8:=by rw [zay];exact l1
 have V:(hv g).size=8:=by rw [zay];exact l2
 have t:=zf U;have y:=zf V;have Z:=zf l2;clear U V l1 l2;generalize ps.getLastD []=L at *;go_enter func170,ntmps170;go_wp2_with fail;refine(zlq b x q u L _ T O s.o (by exact zeo HR.o HF.o.1)).mono ?_;rintro e l ⟨rfl,N⟩;have J:=zf (HF.o.next N);clear N;go_wp2_with (refine xe rfl 110 _ _ rfl l.heap.size (hv L) rfl rfl 110 _ (zg _ _) (by rw [F.o];kernel_rfl) (by rw [F.o];rfl) (zcz _) ?_);rw [zbh];refine(zkq n _ (by omega) hn).mono ?_;rintro e w2 ⟨rfl,ag⟩;subst ag;have A:=zf (J.o.next (zk l (.cells (hv L) 110)));have ah:(m:Int)≤(yo n:Int):=by omega
 go_wp2_with (refine zcv rfl 110 _ rfl w.heap.size rfl 110 _ (0,0) _ A.o.2.1 underlying110 rfl (by rw [Hs.o];kernel_rfl) ?_);refine(IH.out _ (by omega) (by omega) (by omega) (by rw [Hd.o];have:=Hf.o;rw [Hq.o] at this;omega) (by rw [Hd.o];exact T) (HH.o.below A.o.1)).mono ?_;rintro e X ⟨rfl,G⟩;have aa:Hid (X.heap[l.heap.size]?=some (.cells (hv L) 110 (0,0))):=by
  show X.heap[l.heap.size]?=_;rw [G.block _ (by simp)];exact zg _ _
 have af:Hid (w.heap.size+1+1 < l.heap.size):=ju J.o.2.2.2;have B:=zf (A.o.next G);clear G;go_wp2_with (first
  | (refine xe rfl 110 _ _ rfl (w.heap.size+1) (hv c) rfl rfl 110 _ B.o.2.2.1 (by rw [t.o];kernel_rfl) (by rw [t.o];rfl) (zcz _) ?_)
  | (refine xe rfl 110 _ _ rfl (w.heap.size+1+1) (hv g) rfl rfl 110 _ (B.o.set1 c).2.2.2 (by rw [y.o];kernel_rfl) (by rw [y.o];rfl) (zcz _) ?_))
 have C:=zf ((B.o.set1 c).set2 g);have D:Hid (((X.setRow (w.heap.size+1) (hv c)).setRow (w.heap.size+1+1) (hv g)).heap[l.heap.size]?=some (.cells (hv L) 110 (0,0))):=by
  have:=af.out;show((X.setRow (w.heap.size+1) (hv c)).setRow (w.heap.size+1+1) (hv g)).heap[l.heap.size]?=_;rw [zfo _ _ _ _ (by omega),zfo _ _ _ _ (by omega)];exact aa.o
 generalize (X.setRow (w.heap.size+1) (hv c)).setRow (w.heap.size+1+1) (hv g)=W4 at *;have E:Hid (W4.drew.heap[w.heap.size+1]?=some (.cells (hv c) 110 (0,0))∧W4.drew.heap[w.heap.size+1+1]?=some (.cells (hv g) 110 (0,0))∧W4.drew.heap[l.heap.size]?=some (.cells (hv L) 110 (0,0))):=⟨C.o.2.2.1,C.o.2.2.2,D.o⟩;refine zsi (fun I=>I.heap[w.heap.size+1]?=some (.cells (hv c) 110 (0,0))∧I.heap[w.heap.size+1+1]?=some (.cells (hv g) 110 (0,0))∧I.heap[l.heap.size]?=some (.cells (hv L) 110 (0,0))) (fun j=>j==5||j==6) 4 _ (.bool R3) (by kernel_rfl) rfl rfl (by kernel_rfl) (by kernel_rfl) (by kernel_rfl) (fun _ _ _ h=>h) rfl rfl rfl ?_;refine zlf [5,6] (i:=0) (v:= .agg (hv c)) rfl (by kernel_rfl) (by kernel_rfl) (by kernel_rfl) (by kernel_rfl) (fun j Q=>by simp at Q;simp;omega) (fun _ _ _ h=>h) (zhm (by rfl) 110 _ rfl (w.heap.size+1) rfl 110 _ _ (fun I W=>W.1) underlying110 rfl (by rw [t.o];kernel_rfl)) E.o ?_;refine zlf [3,5,6] (i:=1) (v:= .agg (hv g)) rfl (by kernel_rfl) (by kernel_rfl) (by kernel_rfl) (by kernel_rfl) (fun j Q=>by simp at Q;simp;omega) (fun _ _ _ h=>h) (zhm (by rfl) 110 _ rfl (w.heap.size+1+1) rfl 110 _ _ (fun I W=>W.2.1) underlying110 rfl (by rw [y.o];kernel_rfl)) E.o ?_;refine zlf [3,5,6] (i:=2) (v:= .agg (hv L)) rfl (by kernel_rfl) (by kernel_rfl) (by kernel_rfl) (by kernel_rfl) (fun j Q=>by simp at Q;simp;omega) (fun _ _ _ h=>h) (zhm (by rfl) 110 _ rfl l.heap.size rfl 110 _ _ (fun I W=>W.2.2) underlying110 rfl (by rw [F.o];kernel_rfl)) E.o ?_;refine z1y 3 rfl rfl (by kernel_rfl) rfl (fun K z=>?_);have M:=zf z;clear z;go_simp;refine(zgd g L _ Z.o s.o).mono ?_;rintro e w5 ⟨rfl,H⟩;have d:=zf (C.o.drew.next H);have ab:Hid (w5.heap[l.heap.size]?=some (.cells (hv L) 110 (0,0))):=by
  show w5.heap[l.heap.size]?=_;rw [H.block _ (ju D.o)];exact D.o
 clear H;refine M.o _ _ ⟨d.o.2.2.1,d.o.2.2.2,ab.o⟩ ?_;clear M;refine z0i 5 rfl rfl (by kernel_rfl) rfl (fun K z=>?_);refine z6a 110 _ _ rfl (w.heap.size+1) (hv c) rfl rfl 110 _ d.o.2.2.1 (by rw [t.o];kernel_rfl) rfl (zcz _) (z _ _ ?_);refine zp3 6 rfl rfl (by kernel_rfl) (fun K z=>?_);refine z6a 110 _ _ rfl (w.heap.size+1+1) (hv (jx g L)) rfl rfl 110 _ (d.o.set1 c).2.2.2 (by kernel_rfl) (by rw [y.o];rfl) (zcz _) (z _ _ ?_);refine zp3 7 rfl rfl (by kernel_rfl) (fun K z=>?_);have M:=zf z;clear z;go_simp;refine M.o _ _ (wpAny_done (by kernel_rfl) ?_ _);clear M
 go_wp2
 refine z8 (v:= .tuple #[.agg (hv c),.agg (hv (jx g L)),.bool R3]) (zej results170 _ _ (w.heap.size+1) (w.heap.size+1+1) 110 _ _ _ rfl ((d.o.set1 c).set2 (jx g L)).2.2.1 rfl ((d.o.set1 c).set2 (jx g L)).2.2.2 underlying110 rfl (by rw [t.o];kernel_rfl) (by kernel_rfl) _ rfl) rfl ⟨rfl,?_⟩;exact((d.o.set1 c).set2 (jx g L)).1
theorem yei (a:zc)(ha:a.length=8)(f m n:Nat)(ak:1≤m)(al:m < n)(hn:n≤9223372036854775807)(ag:¬ m≤yo n)(b x q u:Nat)(ps:za)(whole:Bool)(w:World)(hq:ps.length=q+1)(X:q≤1000000)(U:q+1≤u)(h8:∀ p∈ps,p.length=8)
 (hr:w.rangeAt b (x+q*8) (hv (ps.getLastD [])).toList) (ht:Hss w (.slice (some ⟨b,x,none⟩) q u) ps.dropLast)
 (ih:∀(m n:Int) (v:Value) (ps:za) (whole:Bool) (w:World),1≤m→m≤n→n≤9223372036854775807→ps.length < f→ps.length≤1000000→Hss w v ps→Calls prog 170 #[.int .i64 m,.int .i64 n,.agg (hv a),v,.bool whole] w fun r w'=>r= .returned (.tuple #[.agg (hv (j2 ql a f m.toNat n.toNat ps whole).1),.agg (hv (j2 ql a f m.toNat n.toNat ps whole).2.1),.bool (j2 ql a f m.toNat n.toNat ps whole).2.2])∧Below w.heap.size w w')
 (hf:ps.length < f+1) :
  Calls prog 170 #[.int .i64 m,.int .i64 n,.agg (hv a),.slice (some ⟨b,x,none⟩) (q+1) u,.bool whole] w fun r w'=>r= .returned (.tuple #[.agg (hv (j2 ql a (f+1) m n ps whole).1),.agg (hv (j2 ql a (f+1) m n ps whole).2.1),.bool (j2 ql a (f+1) m n ps whole).2.2])∧Below w.heap.size w w':=by
 rw [zhk _ _ _ _ _ _ _ (by omega) (by omega) ag];obtain⟨k1,k2,k3⟩:=vz n (by omega);have l:(ps.getLastD []).length=8:=by
  rw [(zdk ps q hq []).1];exact h8 _ (yd _)
 have V:ps.dropLast.length=q:=by rw [zl6,hq];rfl
 have hs:(hv a).size=8:=by rw [zay,ha]
 have Hs:=zf hs;have W:(hv (ps.getLastD [])).size=8:=by rw [zay,l]
 have z:=zf W;have g:=zf l;have IH:=zf (ih ((m:Int) - (yo n:Int)) ((n:Int) - (yo n:Int)) (.slice (some ⟨b,x,none⟩) q u) ps.dropLast false);have af:=zpz ql a rfl ha f (m - yo n) (n - yo n) ps.dropLast false (fun p hp=>h8 p (zhy _ hp));have Hd:=zf V;have HH:=zf ht;have HR:=zf hr;have Hf:=zf hf;have Hq:=zf hq;have HF:=zf (Fq.start w a);have n1:((m:Int)==(n:Int))=false:=yk.2 (by omega);have m1:(((q:Int)+1)==0)=false:=yk.2 (by omega);rw [show((m:Int) - (yo n:Int)).toNat=m - yo n by omega,show((n:Int) - (yo n:Int)).toNat=n - yo n by omega] at IH;clear hs W l ih V ht hr hf hq h8 ha;generalize j2 ql a f (m - yo n) (n - yo n) ps.dropLast false=R at *;obtain⟨c,k,R3⟩:=R;obtain⟨l1,l2⟩:=af;have Y:(hv c).size=8:=by rw [zay];exact l1
 have Z:(hv k).size=8:=by rw [zay];exact l2
 have A:=zf Y;have B:=zf Z;have ab:=zf l2;have aa:=zf l1;clear Y Z l1 l2;generalize ps.getLastD []=L at *;go_enter func170,ntmps170;go_wp2_with fail;refine(zlq b x q u L _ X U g.o (by exact zeo HR.o HF.o.1)).mono ?_;rintro e s ⟨rfl,T⟩;have S:=zf (HF.o.next T);clear T;go_wp2_with (refine xe rfl 110 _ _ rfl s.heap.size (hv L) rfl rfl 110 _ (zg _ _) (by rw [z.o];kernel_rfl) (by rw [z.o];rfl) (zcz _) ?_);rw [zbh];refine(zkq n _ (by omega) hn).mono ?_;rintro e w2 ⟨rfl,ai⟩;subst ai;have D:=zf (S.o.next (zk s (.cells (hv L) 110)));have aj:¬(m:Int)≤(yo n:Int):=by omega
 go_wp2_with (refine zcv rfl 110 _ rfl w.heap.size rfl 110 _ (0,0) _ D.o.2.1 underlying110 rfl (by rw [Hs.o];kernel_rfl) ?_);refine(IH.out _ (by omega) (by omega) (by omega) (by rw [Hd.o];have:=Hf.o;rw [Hq.o] at this;omega) (by rw [Hd.o];exact X) (HH.o.below D.o.1)).mono ?_;rintro e w3 ⟨rfl,J⟩;have ad:Hid (w3.heap[s.heap.size]?=some (.cells (hv L) 110 (0,0))):=by
  show w3.heap[s.heap.size]?=_;rw [J.block _ (by simp)];exact zg _ _
 have ah:Hid (w.heap.size+1+1 < s.heap.size):=ju S.o.2.2.2;have E:=zf (D.o.next J);clear J;go_wp2_with (first
  | (refine xe rfl 110 _ _ rfl (w.heap.size+1) (hv c) rfl rfl 110 _ E.o.2.2.1 (by rw [A.o];kernel_rfl) (by rw [A.o];rfl) (zcz _) ?_)
  | (refine xe rfl 110 _ _ rfl (w.heap.size+1+1) (hv k) rfl rfl 110 _ (E.o.set1 c).2.2.2 (by rw [B.o];kernel_rfl) (by rw [B.o];rfl) (zcz _) ?_))
 have F:=zf ((E.o.set1 c).set2 k);have H:Hid (((w3.setRow (w.heap.size+1) (hv c)).setRow (w.heap.size+1+1) (hv k)).heap[s.heap.size]?=some (.cells (hv L) 110 (0,0))):=by
  have:=ah.out;show((w3.setRow (w.heap.size+1) (hv c)).setRow (w.heap.size+1+1) (hv k)).heap[s.heap.size]?=_;rw [zfo _ _ _ _ (by omega),zfo _ _ _ _ (by omega)];exact ad.o
 generalize (w3.setRow (w.heap.size+1) (hv c)).setRow (w.heap.size+1+1) (hv k)=W4 at *;have y:Hid (W4.drew.heap[w.heap.size+1]?=some (.cells (hv c) 110 (0,0))∧W4.drew.heap[w.heap.size+1+1]?=some (.cells (hv k) 110 (0,0))∧W4.drew.heap[s.heap.size]?=some (.cells (hv L) 110 (0,0))):=⟨F.o.2.2.1,F.o.2.2.2,H.o⟩;refine zsi (fun Q=>Q.heap[w.heap.size+1]?=some (.cells (hv c) 110 (0,0))∧Q.heap[w.heap.size+1+1]?=some (.cells (hv k) 110 (0,0))∧Q.heap[s.heap.size]?=some (.cells (hv L) 110 (0,0))) (fun j=>j==7||j==8) 6 _ (.bool R3) (by kernel_rfl) rfl rfl (by kernel_rfl) (by kernel_rfl) (by kernel_rfl) (fun _ _ _ h=>h) rfl rfl rfl ?_;refine zlf [2,7,8] (i:=0) (v:= .agg (hv L)) rfl (by kernel_rfl) (by kernel_rfl) (by kernel_rfl) (by kernel_rfl) (fun j O=>by simp at O;simp;omega) (fun _ _ _ h=>h) (zhm (by rfl) 110 _ rfl s.heap.size rfl 110 _ _ (fun Q P=>P.2.2) underlying110 rfl (by rw [z.o];kernel_rfl)) y.o ?_;refine zlf [2,7,8] (i:=1) (v:= .agg (hv c)) rfl (by kernel_rfl) (by kernel_rfl) (by kernel_rfl) (by kernel_rfl) (fun j O=>by simp at O;simp;omega) (fun _ _ _ h=>h) (zhm (by rfl) 110 _ rfl (w.heap.size+1) rfl 110 _ _ (fun Q P=>P.1) underlying110 rfl (by rw [A.o];kernel_rfl)) y.o ?_;refine zlf [5,7,8] (i:=3) (v:= .agg (hv L)) rfl (by kernel_rfl) (by kernel_rfl) (by kernel_rfl) (by kernel_rfl) (fun j O=>by simp at O;simp;omega) (fun _ _ _ h=>h) (zhm (by rfl) 110 _ rfl s.heap.size rfl 110 _ _ (fun Q P=>P.2.2) underlying110 rfl (by rw [z.o];kernel_rfl)) y.o ?_;refine zlf [5,7,8] (i:=4) (v:= .agg (hv k)) rfl (by kernel_rfl) (by kernel_rfl) (by kernel_rfl) (by kernel_rfl) (fun j O=>by simp at O;simp;omega) (fun _ _ _ h=>h) (zhm (by rfl) 110 _ rfl (w.heap.size+1+1) rfl 110 _ _ (fun Q P=>P.2.1) underlying110 rfl (by rw [B.o];kernel_rfl)) y.o ?_;refine z1y 2 rfl rfl (by kernel_rfl) rfl (fun K t=>?_);have C:=zf t;clear t;go_simp;refine(zgd L c _ g.o aa.o).mono ?_;rintro e w5 ⟨rfl,M⟩;have G:=zf (F.o.drew.next M);have I:Hid (w5.heap[s.heap.size]?=some (.cells (hv L) 110 (0,0))):=by
  show w5.heap[s.heap.size]?=_;rw [M.block _ (ju H.o)];exact H.o
 clear M;refine C.o _ _ ⟨G.o.2.2.1,G.o.2.2.2,I.o⟩ ?_;clear C;refine z1y 5 rfl rfl (by kernel_rfl) rfl (fun K t=>?_);have C:=zf t;clear t;go_simp;refine(zgd L k _ g.o ab.o).mono ?_;rintro e w6 ⟨rfl,N⟩;have d:=zf (G.o.next N);have ae:Hid (w6.heap[s.heap.size]?=some (.cells (hv L) 110 (0,0))):=by
  show w6.heap[s.heap.size]?=_;rw [N.block _ (ju I.o)];exact I.o
 clear N;refine C.o _ _ ⟨d.o.2.2.1,d.o.2.2.2,ae.o⟩ ?_;clear C;refine z0i 7 rfl rfl (by kernel_rfl) rfl (fun K t=>?_);refine z6a 110 _ _ rfl (w.heap.size+1) (hv (jx L c)) rfl rfl 110 _ d.o.2.2.1 (by kernel_rfl) (by rw [A.o];rfl) (zcz _) (t _ _ ?_);refine zp3 8 rfl rfl (by kernel_rfl) (fun K t=>?_);refine z6a 110 _ _ rfl (w.heap.size+1+1) (hv (jx L k)) rfl rfl 110 _ (d.o.set1 (jx L c)).2.2.2 (by kernel_rfl) (by rw [B.o];rfl) (zcz _) (t _ _ ?_);refine zp3 9 rfl rfl (by kernel_rfl) (fun K t=>?_);have C:=zf t;clear t;go_simp;refine C.o _ _ (wpAny_done (by kernel_rfl) ?_ _);clear C
 go_wp2
 refine z8 (v:= .tuple #[.agg (hv (jx L c)),.agg (hv (jx L k)),.bool R3]) (zej results170 _ _ (w.heap.size+1) (w.heap.size+1+1) 110 _ _ _ rfl ((d.o.set1 (jx L c)).set2 (jx L k)).2.2.1 rfl ((d.o.set1 (jx L c)).set2 (jx L k)).2.2.2 underlying110 rfl (by kernel_rfl) (by kernel_rfl) _ rfl) rfl ⟨rfl,?_⟩;exact((d.o.set1 (jx L c)).set2 (jx L k)).1
theorem ymb (a:zc)(l:a.length=8)(f:Nat):∀(m n:Int) (v:Value) (ps:za) (whole:Bool) (w:World),1≤m→m≤n→n≤9223372036854775807→ps.length < f→ps.length≤1000000→Hss w v ps →
  Calls prog 170 #[.int .i64 m,.int .i64 n,.agg (hv a),v,.bool whole] w fun r G=>r= .returned (.tuple #[.agg (hv (j2 ql a f m.toNat n.toNat ps whole).1),.agg (hv (j2 ql a f m.toNat n.toNat ps whole).2.1),.bool (j2 ql a f m.toNat n.toNat ps whole).2.2])∧Below w.heap.size w G:=by
 induction f with
 | zero=>exact fun m n v ps whole w _ _ _ h=>absurd h (zed _)
 | succ f D =>
  intro m n v ps whole w h0 F H y z h;obtain⟨M,rfl⟩:=qv (show 0≤m by omega);obtain⟨N,rfl⟩:=qv (show 0≤n by omega);rw [yj,yj]
  by_cases t:M=N
  ·subst t;exact yno a l f M v ps whole w h
  by_cases C:ps.length=0
  ·exact yjk a l f M N t v ps whole w C h
  obtain⟨q,k⟩:∃ q,ps.length=q+1:=⟨ps.length - 1,by omega⟩;obtain⟨c,e,rfl,x,o,s⟩:=h;rcases s with s | ⟨b,d,rfl,u⟩
  ·exact absurd (by simp [s]) C
  have A:w.rangeAt b (d+q*8) (hv (ps.getLastD [])).toList:=by
   rw [(zdk ps q k []).1];exact u q (by omega)
  have B:Hss w (.slice (some ⟨b,d,none⟩) q e) ps.dropLast:=by
   rw [(zdk ps q k []).2];have g:(ps.take q).length=q:=by simp;omega
   refine⟨_,e,by rw [g],by rw [g];omega,fun p z=>o p (qh z),.inr ⟨b,d,rfl,fun j E=>?_⟩⟩;rw [vv];exact u j (by rw [g] at E;omega)
  rw [k]
  by_cases i:M≤yo N
  ·exact yjj a l f M N (by omega) (by omega) (by omega) i b d q e ps whole w k (by omega) (by omega) o A B D y
  ·exact yei a l f M N (by omega) (by omega) (by omega) i b d q e ps whole w k (by omega) (by omega) o A B D y
variable {b cap m off:Nat}{ts:List ByteArray}
theorem Sss.last (h:Sss w (.slice (some ⟨b,off,none⟩) (m+1) cap) ts)(j:ts.length=m+1):w.cell? ⟨b,off+m,none⟩=some (.string ts[m]):=by
 obtain⟨a,c,e,f,h⟩:=h;rcases h with h | ⟨k,g,d,i⟩
 ·simp [h] at j
 ·simp only [zbw] at e;obtain⟨rfl,-,-⟩:=e;simp only [zr,zhb] at d;obtain⟨rfl,rfl,-⟩:=d;exact i m (by omega)
theorem z8s (b:zc)(f:Nat)(i:Int)(v:Value)(c:List ByteArray)(w:World)(h:Sss w v c):
  Calls prog 63 #[txt b,.int .i64 i,.int .i64 1,v] w fun r j=>r= .returned (.tuple #[txt (zbe [] (f+1) b i.toNat 1 (bys c)).1,.bool (zbe [] (f+1) b i.toNat 1 (bys c)).2])∧Below w.heap.size w j:=by
 rw [zlb,jq];obtain⟨a,g,rfl,-,-⟩:=h;have d:((c.length:Int)==0)=decide (c.length=0):=by
  rw [zfb];simp
 have e:=zf d;clear d;unfold txt;go_enter func63,ntmps63
 go_wp2
 go_ret2
 exact⟨by rw [← e.o];rfl,yf _ _⟩
theorem z4z (b:zc)(f:Nat)(i n:Nat)(d:n≠1)(v:Value)(c:List ByteArray)(w:World)(h0:c.length=0)(h:Sss w v c):
  Calls prog 63 #[txt b,.int .i64 i,.int .i64 n,v] w fun r g=>r= .returned (.tuple #[txt (zbe [] (f+1) b i n (bys c)).1,.bool (zbe [] (f+1) b i n (bys c)).2])∧Below w.heap.size w g:=by
 rw [zkn _ _ _ _ _ _ d (by rw [jq];exact h0)];obtain⟨a,e,rfl,-,-⟩:=h;rw [h0];have j:((n:Int)==1)=false:=yk.2 (by omega);clear d;unfold txt;go_enter func63,ntmps63
 go_wp2
 go_ret2
 exact⟨rfl,yf _ _⟩
theorem z4y (a:zc)(Q:a.length≤8)(f:Nat)(i n:Nat)(K:2≤n)(hn:n≤9223372036854775807)(J:i < n)(C:i < yo n)(b g m d:Nat)(c:List ByteArray)(w:World)(x:c.length=m+1)(D:m≤1000000)(N:m+1≤d)(A:∀ p∈bys c,p.length≤8)
 (h:Sss w (.slice (some ⟨b,g,none⟩) (m+1) d) c)
 (T:∀(i n:Int) (v:Value) (c:List ByteArray) (w:World),0≤i→i < n→n≤9223372036854775807→c.length < f→c.length≤1000000→(∀ p∈bys c,p.length≤8)→Sss w v c→Calls prog 63 #[txt a,.int .i64 i,.int .i64 n,v] w fun r F=>r= .returned (.tuple #[txt (zbe [] f a i.toNat n.toNat (bys c)).1,.bool (zbe [] f a i.toNat n.toNat (bys c)).2])∧Below w.heap.size w F)
 (O:c.length < f+1) :
  Calls prog 63 #[txt a,.int .i64 i,.int .i64 n,.slice (some ⟨b,g,none⟩) (m+1) d] w fun r F=>r= .returned (.tuple #[txt (zbe [] (f+1) a i n (bys c)).1,.bool (zbe [] (f+1) a i n (bys c)).2])∧Below w.heap.size w F:=by
 rw [ziz _ _ _ _ _ _ (by omega) (by rw [jq];omega) C];obtain⟨k1,k2,k3⟩:=vz n K;have j:=zdk (bys c) m (by rw [jq];exact x) [];rw [j.1,j.2,← zf7];have hx:=h.last x;have B:(bys c)[m]'(by rw [jq];omega)=(c[m]).data.toList:=by simp [bys]
 rw [B];have z:Hid ((c[m]).data.toList.length≤8):=by
  have:=A _ (yd (l:=bys c) (n:=m) (by rw [jq];omega));rw [B] at this;exact this
 have M:Value.string c[m]=txt (c[m]).data.toList:=by simp [txt]
 rw [M] at hx;have u:(c.take m).length=m:=by simp;omega
 have V:Hid (Sss w (.slice (some ⟨b,g,none⟩) m d) (c.take m)):=by
  have:=h.take m (by omega);exact this
 have I:=zf (T i (yo n) (.slice (some ⟨b,g,none⟩) m d) (c.take m));have H:=zf u;have U:Hid (∀ p∈bys (c.take m),p.length≤8):=fun p S=>A p (by rw [zf7] at S;exact qh S);have W:=zf O;have X:=zf x;have n1:((n:Int)==1)=false:=yk.2 (by omega);have m1:(((m:Int)+1)==0)=false:=yk.2 (by omega);have c1:(m:Int)≤(d:Int):=by omega
 have c2:(m:Int) < (m:Int)+1:=by omega
 have q:=zf (z4v [] a (by simp) Q f (i:Int).toNat ((yo n):Int).toNat (bys (c.take m)));have G:=zf (And.intro (show(i:Int).toNat=i by omega) (show((yo n):Int).toNat=(yo n) by omega));rw [G.o.1,G.o.2] at I q;clear T u j B M;generalize (c[m]).data.toList=L at *;clear O x A h Q;generalize Z:zbe [] f a i (yo n) (bys (c.take m))=R at *;clear Z;obtain⟨Y,R2⟩:=R;go_enter func63,ntmps63;go_wp2_with fail;refine(zee n _ K hn).mono ?_;rintro e w2 ⟨rfl,E⟩;subst E;have P:(i:Int) < (yo n:Int):=by omega
 go_wp2_with fail;refine(I.out _ (by omega) (by omega) (by omega) (by rw [H.o];have:=W.o;rw [X.o] at this;omega) (by rw [H.o];exact D) U.o V.o).mono ?_;rintro e w3 ⟨rfl,s⟩;have k:=zf s;clear s;go_wp2_with fail;refine(zgh Y L _ q.o z.o).mono ?_;rintro e w4 ⟨rfl,t⟩;have y:=zf (k.o.trans (t.mono k.o.size));clear t;go_wp2_with fail
 go_ret2
 exact⟨rfl,y.o⟩
theorem z1j (a:zc)(Q:a.length≤8)(f:Nat)(i n:Nat)(K:2≤n)(hn:n≤9223372036854775807)(J:i < n)(C:¬ i < yo n)(b g m d:Nat)(c:List ByteArray)(w:World)(x:c.length=m+1)(D:m≤1000000)(N:m+1≤d)(A:∀ p∈bys c,p.length≤8)
 (h:Sss w (.slice (some ⟨b,g,none⟩) (m+1) d) c)
 (T:∀(i n:Int) (v:Value) (c:List ByteArray) (w:World),0≤i→i < n→n≤9223372036854775807→c.length < f→c.length≤1000000→(∀ p∈bys c,p.length≤8)→Sss w v c→Calls prog 63 #[txt a,.int .i64 i,.int .i64 n,v] w fun r F=>r= .returned (.tuple #[txt (zbe [] f a i.toNat n.toNat (bys c)).1,.bool (zbe [] f a i.toNat n.toNat (bys c)).2])∧Below w.heap.size w F)
 (O:c.length < f+1) :
  Calls prog 63 #[txt a,.int .i64 i,.int .i64 n,.slice (some ⟨b,g,none⟩) (m+1) d] w fun r F=>r= .returned (.tuple #[txt (zbe [] (f+1) a i n (bys c)).1,.bool (zbe [] (f+1) a i n (bys c)).2])∧Below w.heap.size w F:=by
 rw [zhj _ _ _ _ _ _ (by omega) (by rw [jq];omega) C];obtain⟨k1,k2,k3⟩:=vz n K;have j:=zdk (bys c) m (by rw [jq];exact x) [];rw [j.1,j.2,← zf7];have hx:=h.last x;have B:(bys c)[m]'(by rw [jq];omega)=(c[m]).data.toList:=by simp [bys]
 rw [B];have z:Hid ((c[m]).data.toList.length≤8):=by
  have:=A _ (yd (l:=bys c) (n:=m) (by rw [jq];omega));rw [B] at this;exact this
 have M:Value.string c[m]=txt (c[m]).data.toList:=by simp [txt]
 rw [M] at hx;have u:(c.take m).length=m:=by simp;omega
 have V:Hid (Sss w (.slice (some ⟨b,g,none⟩) m d) (c.take m)):=by
  have:=h.take m (by omega);exact this
 have I:=zf (T ((i:Int) - (yo n:Int)) ((n:Int) - (yo n:Int)) (.slice (some ⟨b,g,none⟩) m d) (c.take m));have H:=zf u;have U:Hid (∀ p∈bys (c.take m),p.length≤8):=fun p S=>A p (by rw [zf7] at S;exact qh S);have W:=zf O;have X:=zf x;have n1:((n:Int)==1)=false:=yk.2 (by omega);have m1:(((m:Int)+1)==0)=false:=yk.2 (by omega);have c1:(m:Int)≤(d:Int):=by omega
 have c2:(m:Int) < (m:Int)+1:=by omega
 have q:=zf (z4v [] a (by simp) Q f (((i:Int) - (yo n:Int)):Int).toNat (((n:Int) - (yo n:Int)):Int).toNat (bys (c.take m)));have G:=zf (And.intro (show((i:Int) - (yo n:Int)).toNat=i - yo n by omega) (show(((n:Int) - (yo n:Int)):Int).toNat=(n - yo n) by omega));rw [G.o.1,G.o.2] at I q;clear T u j B M;generalize (c[m]).data.toList=L at *;clear O x A h Q;generalize Z:zbe [] f a (i - yo n) (n - yo n) (bys (c.take m))=R at *;clear Z;obtain⟨Y,R2⟩:=R;go_enter func63,ntmps63;go_wp2_with fail;refine(zee n _ K hn).mono ?_;rintro e w2 ⟨rfl,E⟩;subst E;have P:¬(i:Int) < (yo n:Int):=by omega
 go_wp2_with fail;refine(I.out _ (by omega) (by omega) (by omega) (by rw [H.o];have:=W.o;rw [X.o] at this;omega) (by rw [H.o];exact D) U.o V.o).mono ?_;rintro e w3 ⟨rfl,s⟩;have k:=zf s;clear s;go_wp2_with fail;refine(zgh L Y _ z.o q.o).mono ?_;rintro e w4 ⟨rfl,t⟩;have y:=zf (k.o.trans (t.mono k.o.size));clear t;go_wp2_with fail
 go_ret2
 exact⟨rfl,y.o⟩
theorem z8r (c:zc)(x:c.length≤8)(f:Nat):∀(i n:Int) (v:Value) (d:List ByteArray) (w:World),0≤i→i < n→n≤9223372036854775807→d.length < f→d.length≤1000000→(∀ p∈bys d,p.length≤8)→Sss w v d →
  Calls prog 63 #[txt c,.int .i64 i,.int .i64 n,v] w fun r B=>r= .returned (.tuple #[txt (zbe [] f c i.toNat n.toNat (bys d)).1,.bool (zbe [] f c i.toNat n.toNat (bys d)).2])∧Below w.heap.size w B:=by
 induction f with
 | zero=>exact fun i n v d w _ _ _ h=>absurd h (zed _)
 | succ f z =>
  intro i n v d w h0 A D u E s h;obtain⟨I,rfl⟩:=qv h0;obtain⟨N,rfl⟩:=qv (show 0≤n by omega);rw [yj,yj]
  by_cases q:N=1
  ·subst q;have:=z8s c f (I:Int) v d w h
   rwa [yj] at this
  by_cases y:d.length=0
  ·exact z4z c f I N q v d w y h
  obtain⟨m,o⟩:∃ m,d.length=m+1:=⟨d.length - 1,by omega⟩;have k:=h;obtain⟨a,e,rfl,t,l⟩:=h;rcases l with l | ⟨b,j,rfl,C⟩
  ·exact absurd (by simp [l]) y
  rw [o] at k ⊢
  by_cases g:I < yo N
  ·exact z4y c x f I N (by omega) (by omega) (by omega) g b j m e d w o (by omega) (by omega) s k z u
  ·exact z1j c x f I N (by omega) (by omega) (by omega) g b j m e d w o (by omega) (by omega) s k z u
end Go.Proofs.YtlcllcgngjhoaaaGreatDoor
