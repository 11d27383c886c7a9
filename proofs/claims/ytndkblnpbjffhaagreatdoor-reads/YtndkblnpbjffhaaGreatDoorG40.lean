import Derived.Test.YtndkblnpbjffhaaGreatDoorG39
set_option maxHeartbeats 4000000
set_option maxRecDepth 100000
open Go.RowKit
namespace Go.Proofs.YtndkblnpbjffhaaGreatDoor
theorem Hss.first {w:World}{v:Value}{D:List (List UInt8)}(h:Hss w v D)(h1:D.length=1):∃ b r A,v= .slice (some ⟨b,r,none⟩) 1 A∧w.rangeAt b r (hv (D.headD [])).toList∧(D.headD []).length=8:=by
 obtain⟨a,A,rfl,J,E,I⟩:=h;rcases I with I | ⟨b,r,rfl,H⟩
 ·simp [I] at h1
 ·match D,h1,E,H with
  | [p],_,E,H =>
   refine⟨b,r,A,rfl,?_,E p (by simp)⟩;have:=H 0 (by simp);simpa using this
theorem z5b (a:List UInt8)(E:a.length=8)(v:Value)(A:List (List UInt8))(f n:Nat)(whole:Bool)(w:World)(h:Hss w v A):
  Calls Tryz.prog 186 #[.agg (hv a),v,.bool whole] w fun r w'=>r= .returned (.tuple #[.agg (hv (je z8 a (f+1) n n A whole).1),.agg (hv (je z8 a (f+1) n n A whole).2.1),.bool (je z8 a (f+1) n n A whole).2.2])∧Below w.heap.size w w':=by
 cases whole with
 | true=>rw [ziy];exact zwv a E v A w h
 | false =>
  by_cases h1:A.length=1
  ·rw [zjz _ _ _ _ _ h1];obtain⟨b,H,D,rfl,hr,I⟩:=h.first h1;exact z1q a _ E I b H D w hr
  ·rw [zs1 _ _ _ _ _ h1];exact z3y a E v A w h1 h
theorem z9t (a:List UInt8)(V:a.length=8)(f n:Nat)(v:Value)(D:List (List UInt8))(whole:Bool)(w:World)(h:Hss w v D):
  Calls Tryz.prog 137 #[.int .i64 n,.int .i64 n,.agg (hv a),v,.bool whole] w fun r w'=>r= .returned (.tuple #[.agg (hv (je z8 a (f+1) n n D whole).1),.agg (hv (je z8 a (f+1) n n D whole).2.1),.bool (je z8 a (f+1) n n D whole).2.2])∧Below w.heap.size w w':=by
 have HC:=za (z5b a V v D f n whole);have U:∀ p∈D,p.length=8:=by obtain⟨_,_,_,_,U,_⟩:=h;exact U
 obtain⟨Y,Z⟩:=zhx z8 a rfl V (f+1) n n D whole U;have H:=za h;obtain⟨b,aa,rfl,-,-,-⟩:=h;generalize je z8 a (f+1) n n D whole=R at *
 obtain⟨J,K,R3⟩:=R;have X:(hv a).size=8:=by rw [qm,V]
 have Hs:=za X;have Q:(hv J).size=8:=by rw [qm];exact Y
 have S:(hv K).size=8:=by rw [qm];exact Z
 have E:=za Q;have I:=za S;have W:=za (Fq.start w a);clear X Q S Y Z V U;go_enter Tryz.func137,Tryz.ntmps137;go_wp2_with (refine wpList_load_row rfl 92 _ rfl w.heap.size rfl 92 _ (0,0) _ W.o.2.1 Tryz.underlying92 rfl (by rw [Hs.o];kernel_rfl) ?_);refine(HC.o _ (H.o.below W.o.1)).mono ?_;rintro e w1 ⟨rfl,L⟩;have A:=za (W.o.next L);clear L;go_wp2_with (first
  | (refine wpList_store_row rfl 92 _ _ rfl (w.heap.size+1) (hv J) rfl rfl 92 _ A.o.2.2.1 (by rw [E.o];kernel_rfl) (by rw [E.o];rfl) (jy _) ?_)
  | (refine wpList_store_row rfl 92 _ _ rfl (w.heap.size+1+1) (hv K) rfl rfl 92 _ (A.o.set1 J).2.2.2 (by rw [I.o];kernel_rfl) (by rw [I.o];rfl) (jy _) ?_))
 refine bodyPost_ret (v:= .tuple #[.agg (hv J),.agg (hv K),.bool R3]) (vu Tryz.results137 _ _ (w.heap.size+1) (w.heap.size+1+1) 92 _ _ _ rfl ((A.o.set1 J).set2 K).2.2.1 rfl ((A.o.set1 J).set2 K).2.2.2 Tryz.underlying92 rfl (by rw [E.o];kernel_rfl) (by rw [I.o];kernel_rfl) _ rfl) rfl ⟨rfl,?_⟩;exact((A.o.set1 J).set2 K).1
theorem z6n (a:List UInt8)(H:a.length=8)(f m n:Nat)(D:m≠n)(v:Value)(E:List (List UInt8))(whole:Bool)(w:World)(h0:E.length=0)(h:Hss w v E):
  Calls Tryz.prog 137 #[.int .i64 m,.int .i64 n,.agg (hv a),v,.bool whole] w fun r w'=>r= .returned (.tuple #[.agg (hv (je z8 a (f+1) m n E whole).1),.agg (hv (je z8 a (f+1) m n E whole).2.1),.bool (je z8 a (f+1) m n E whole).2.2])∧Below w.heap.size w w':=by
 rw [zpm _ _ _ _ _ _ _ D h0];obtain⟨b,I,rfl,-,-,-⟩:=h;rw [h0];have J:(hv a).size=8:=by rw [qm,H]
 have A:=za (Fq.start w a);have K:((m:Int)==(n:Int))=false:=beq_eq_false_iff_ne.2 (by omega);clear H D;go_enter Tryz.func137,Tryz.ntmps137;go_wp2_with (first
  | (refine wpList_store_row rfl 92 _ _ rfl (w.heap.size+1) (hv z8) rfl rfl 92 _ A.o.2.2.1 (by kernel_rfl) rfl (jy _) ?_)
  | (refine wpList_store_row rfl 92 _ _ rfl (w.heap.size+1+1) (hv z8) rfl rfl 92 _ (A.o.set1 z8).2.2.2 (by kernel_rfl) rfl (jy _) ?_))
 refine bodyPost_ret (v:= .tuple #[.agg (hv z8),.agg (hv z8),.bool false]) (vu Tryz.results137 _ _ (w.heap.size+1) (w.heap.size+1+1) 92 _ _ _ rfl ((A.o.set1 z8).set2 z8).2.2.1 rfl ((A.o.set1 z8).set2 z8).2.2.2 Tryz.underlying92 rfl (by kernel_rfl) (by kernel_rfl) _ rfl) rfl ⟨rfl,?_⟩;exact((A.o.set1 z8).set2 z8).1
theorem z5c (a:List UInt8)(ha:a.length=8)(f m n:Nat)(ay:1≤m)(a0:m < n)(hn:n≤9223372036854775807)(av:m≤kOf n)(b S q Q:Nat)(A:List (List UInt8))(whole:Bool)(w:World)(hq:A.length=q+1)(al:q≤1000000)(au:q+1≤Q)(h8:∀ p∈A,p.length=8)
  (hr:w.rangeAt b (S+q*8) (hv (A.getLastD [])).toList) (ht:Hss w (.slice (some ⟨b,S,none⟩) q Q) A.dropLast)
  (ih:∀(m n:Int) (v:Value) (A:List (List UInt8)) (whole:Bool) (w:World),1≤m→m≤n→n≤9223372036854775807→A.length < f→A.length≤1000000→Hss w v A→Calls Tryz.prog 137 #[.int .i64 m,.int .i64 n,.agg (hv a),v,.bool whole] w fun r w'=>r= .returned (.tuple #[.agg (hv (je z8 a f m.toNat n.toNat A whole).1),.agg (hv (je z8 a f m.toNat n.toNat A whole).2.1),.bool (je z8 a f m.toNat n.toNat A whole).2.2])∧Below w.heap.size w w')
  (hf:A.length < f+1) :
  Calls Tryz.prog 137 #[.int .i64 m,.int .i64 n,.agg (hv a),.slice (some ⟨b,S,none⟩) (q+1) Q,.bool whole] w fun r w'=>r= .returned (.tuple #[.agg (hv (je z8 a (f+1) m n A whole).1),.agg (hv (je z8 a (f+1) m n A whole).2.1),.bool (je z8 a (f+1) m n A whole).2.2])∧Below w.heap.size w w':=by
 rw [zkx _ _ _ _ _ _ _ (by omega) (by omega) av];obtain⟨k1,k2,k3⟩:=jg n (by omega);have af:(A.getLastD []).length=8:=by
  rw [(za6 A q hq []).1];exact h8 _ (List.getElem_mem _)
 have aj:A.dropLast.length=q:=by rw [List.length_dropLast,hq];rfl
 have hs:(hv a).size=8:=by rw [qm,ha]
 have Hs:=za hs;have ak:(hv (A.getLastD [])).size=8:=by rw [qm,af]
 have ac:=za ak;have ah:=za af;have IH:=za (ih m (kOf n) (.slice (some ⟨b,S,none⟩) q Q) A.dropLast whole);have ar:=zhx z8 a rfl ha f m (kOf n) A.dropLast whole (fun p hp=>h8 p (List.dropLast_subset _ hp));have Hd:=za aj;have HH:=za ht;have HR:=za hr;have Hf:=za hf;have Hq:=za hq;have HF:=za (Fq.start w a);have n1:((m:Int)==(n:Int))=false:=beq_eq_false_iff_ne.2 (by omega);have m1:(((q:Int)+1)==0)=false:=beq_eq_false_iff_ne.2 (by omega);rw [Int.toNat_natCast,Int.toNat_natCast] at IH;clear hs ak af ih aj ht hr hf hq h8 ha;generalize je z8 a f m (kOf n) A.dropLast whole=R at *
 obtain⟨D,H,R3⟩:=R;obtain⟨l1,l2⟩:=ar;have am:(hv D).size=8:=by rw [qm];exact l1
 have an:(hv H).size=8:=by rw [qm];exact l2
 have J:=za am;have U:=za an;have ao:=za l2;clear am an l1 l2;generalize A.getLastD []=L at *
 go_enter Tryz.func137,Tryz.ntmps137;go_wp2_with fail;refine(zev b S q Q L _ al au ah.o (by exact vy HR.o HF.o.1)).mono ?_;rintro e I ⟨rfl,ai⟩;have ag:=za (HF.o.next ai);clear ai;go_wp2_with (refine wpList_store_row rfl 92 _ _ rfl I.heap.size (hv L) rfl rfl 92 _ (heap_alloc_last _ _) (by rw [ac.o];kernel_rfl) (by rw [ac.o];rfl) (jy _) ?_);rw [World.setRow_alloc_new];refine(zd0 n _ (by omega) hn).mono ?_;rintro e w2 ⟨rfl,ax⟩;subst ax;have W:=za (ag.o.next (ze I (.cells (hv L) 92)));have az:(m:Int)≤(kOf n:Int):=by omega
 go_wp2_with (refine wpList_load_row rfl 92 _ rfl w.heap.size rfl 92 _ (0,0) _ W.o.2.1 Tryz.underlying92 rfl (by rw [Hs.o];kernel_rfl) ?_);refine(IH.out _ (by omega) (by omega) (by omega) (by rw [Hd.o];have:=Hf.o;rw [Hq.o] at this;omega) (by rw [Hd.o];exact al) (HH.o.below W.o.1)).mono ?_;rintro e w3 ⟨rfl,ad⟩;have ap:Hid (w3.heap[I.heap.size]?=some (.cells (hv L) 92 (0,0))):=by
  show w3.heap[I.heap.size]?=_;rw [ad.block _ (by simp)];exact heap_alloc_last _ _
 have aw:Hid (w.heap.size+1+1 < I.heap.size):=xk ag.o.2.2.2;have X:=za (W.o.next ad);clear ad;go_wp2_with (first
  | (refine wpList_store_row rfl 92 _ _ rfl (w.heap.size+1) (hv D) rfl rfl 92 _ X.o.2.2.1 (by rw [J.o];kernel_rfl) (by rw [J.o];rfl) (jy _) ?_)
  | (refine wpList_store_row rfl 92 _ _ rfl (w.heap.size+1+1) (hv H) rfl rfl 92 _ (X.o.set1 D).2.2.2 (by rw [U.o];kernel_rfl) (by rw [U.o];rfl) (jy _) ?_))
 have Y:=za ((X.o.set1 D).set2 H);have Z:Hid (((w3.setRow (w.heap.size+1) (hv D)).setRow (w.heap.size+1+1) (hv H)).heap[I.heap.size]?=some (.cells (hv L) 92 (0,0))):=by
  have:=aw.out;show((w3.setRow (w.heap.size+1) (hv D)).setRow (w.heap.size+1+1) (hv H)).heap[I.heap.size]?=_;rw [setRow_other _ _ _ _ (by omega),setRow_other _ _ _ _ (by omega)];exact ap.o
 generalize (w3.setRow (w.heap.size+1) (hv D)).setRow (w.heap.size+1+1) (hv H)=W4 at *
 have aa:Hid (W4.drew.heap[w.heap.size+1]?=some (.cells (hv D) 92 (0,0))∧W4.drew.heap[w.heap.size+1+1]?=some (.cells (hv H) 92 (0,0))∧W4.drew.heap[I.heap.size]?=some (.cells (hv L) 92 (0,0))):=⟨Y.o.2.2.1,Y.o.2.2.2,Z.o⟩
 refine zje (fun wz=>wz.heap[w.heap.size+1]?=some (.cells (hv D) 92 (0,0))∧wz.heap[w.heap.size+1+1]?=some (.cells (hv H) 92 (0,0))∧wz.heap[I.heap.size]?=some (.cells (hv L) 92 (0,0))) (fun j=>j==5||j==6) 4 _ (.bool R3) (by kernel_rfl) rfl rfl (by kernel_rfl) (by kernel_rfl) (by kernel_rfl) (fun _ _ _ h=>h) rfl rfl rfl ?_;refine zed [5,6] (i:=0) (v:= .agg (hv D)) rfl (by kernel_rfl) (by kernel_rfl) (by kernel_rfl) (by kernel_rfl) (fun j hj=>by simp at hj;simp;omega) (fun _ _ _ h=>h) (zbp (by rfl) 92 _ rfl (w.heap.size+1) rfl 92 _ _ (fun wz hz=>hz.1) Tryz.underlying92 rfl (by rw [J.o];kernel_rfl)) aa.o ?_;refine zed [3,5,6] (i:=1) (v:= .agg (hv H)) rfl (by kernel_rfl) (by kernel_rfl) (by kernel_rfl) (by kernel_rfl) (fun j hj=>by simp at hj;simp;omega) (fun _ _ _ h=>h) (zbp (by rfl) 92 _ rfl (w.heap.size+1+1) rfl 92 _ _ (fun wz hz=>hz.2.1) Tryz.underlying92 rfl (by rw [U.o];kernel_rfl)) aa.o ?_;refine zed [3,5,6] (i:=2) (v:= .agg (hv L)) rfl (by kernel_rfl) (by kernel_rfl) (by kernel_rfl) (by kernel_rfl) (fun j hj=>by simp at hj;simp;omega) (fun _ _ _ h=>h) (zbp (by rfl) 92 _ rfl I.heap.size rfl 92 _ _ (fun wz hz=>hz.2.2) Tryz.underlying92 rfl (by rw [ac.o];kernel_rfl)) aa.o ?_;refine zqf 3 rfl rfl (by kernel_rfl) rfl (fun K V=>?_);have HK:=za V;clear V;go_simp;refine(zay H L _ ao.o ah.o).mono ?_;rintro e w5 ⟨rfl,ae⟩;have E:=za (Y.o.drew.next ae);have aq:Hid (w5.heap[I.heap.size]?=some (.cells (hv L) 92 (0,0))):=by
  show w5.heap[I.heap.size]?=_;rw [ae.block _ (xk Z.o)];exact Z.o
 clear ae;refine HK.o _ _ ⟨E.o.2.2.1,E.o.2.2.2,aq.o⟩ ?_;clear HK;refine zpk 5 rfl rfl (by kernel_rfl) rfl (fun K V=>?_);refine wp_store_row 92 _ _ rfl (w.heap.size+1) (hv D) rfl rfl 92 _ E.o.2.2.1 (by rw [J.o];kernel_rfl) rfl (jy _) (V _ _ ?_);refine zht 6 rfl rfl (by kernel_rfl) (fun K V=>?_);refine wp_store_row 92 _ _ rfl (w.heap.size+1+1) (hv (yz H L)) rfl rfl 92 _ (E.o.set1 D).2.2.2 (by kernel_rfl) (by rw [U.o];rfl) (jy _) (V _ _ ?_);refine zht 7 rfl rfl (by kernel_rfl) (fun K V=>?_);have HK:=za V;clear V;go_simp;refine HK.o _ _ (wpAny_done (by kernel_rfl) ?_ _);clear HK;go_wp2;refine bodyPost_ret (v:= .tuple #[.agg (hv D),.agg (hv (yz H L)),.bool R3]) (vu Tryz.results137 _ _ (w.heap.size+1) (w.heap.size+1+1) 92 _ _ _ rfl ((E.o.set1 D).set2 (yz H L)).2.2.1 rfl ((E.o.set1 D).set2 (yz H L)).2.2.2 Tryz.underlying92 rfl (by rw [J.o];kernel_rfl) (by kernel_rfl) _ rfl) rfl ⟨rfl,?_⟩;exact((E.o.set1 D).set2 (yz H L)).1
theorem zz2 (a:List UInt8)(ha:a.length=8)(f m n:Nat)(a3:1≤m)(a5:m < n)(hn:n≤9223372036854775807)(a0:¬ m≤kOf n)(b S q Q:Nat)(A:List (List UInt8))(whole:Bool)(w:World)(hq:A.length=q+1)(ap:q≤1000000)(az:q+1≤Q)(h8:∀ p∈A,p.length=8)
  (hr:w.rangeAt b (S+q*8) (hv (A.getLastD [])).toList) (ht:Hss w (.slice (some ⟨b,S,none⟩) q Q) A.dropLast)
  (ih:∀(m n:Int) (v:Value) (A:List (List UInt8)) (whole:Bool) (w:World),1≤m→m≤n→n≤9223372036854775807→A.length < f→A.length≤1000000→Hss w v A→Calls Tryz.prog 137 #[.int .i64 m,.int .i64 n,.agg (hv a),v,.bool whole] w fun r w'=>r= .returned (.tuple #[.agg (hv (je z8 a f m.toNat n.toNat A whole).1),.agg (hv (je z8 a f m.toNat n.toNat A whole).2.1),.bool (je z8 a f m.toNat n.toNat A whole).2.2])∧Below w.heap.size w w')
  (hf:A.length < f+1) :
  Calls Tryz.prog 137 #[.int .i64 m,.int .i64 n,.agg (hv a),.slice (some ⟨b,S,none⟩) (q+1) Q,.bool whole] w fun r w'=>r= .returned (.tuple #[.agg (hv (je z8 a (f+1) m n A whole).1),.agg (hv (je z8 a (f+1) m n A whole).2.1),.bool (je z8 a (f+1) m n A whole).2.2])∧Below w.heap.size w w':=by
 rw [zip _ _ _ _ _ _ _ (by omega) (by omega) a0];obtain⟨k1,k2,k3⟩:=jg n (by omega);have ak:(A.getLastD []).length=8:=by
  rw [(za6 A q hq []).1];exact h8 _ (List.getElem_mem _)
 have an:A.dropLast.length=q:=by rw [List.length_dropLast,hq];rfl
 have hs:(hv a).size=8:=by rw [qm,ha]
 have Hs:=za hs;have ao:(hv (A.getLastD [])).size=8:=by rw [qm,ak]
 have V:=za ao;have ag:=za ak;have IH:=za (ih ((m:Int) - (kOf n:Int)) ((n:Int) - (kOf n:Int)) (.slice (some ⟨b,S,none⟩) q Q) A.dropLast false);have ay:=zhx z8 a rfl ha f (m - kOf n) (n - kOf n) A.dropLast false (fun p hp=>h8 p (List.dropLast_subset _ hp));have Hd:=za an;have HH:=za ht;have HR:=za hr;have Hf:=za hf;have Hq:=za hq;have HF:=za (Fq.start w a);have n1:((m:Int)==(n:Int))=false:=beq_eq_false_iff_ne.2 (by omega);have m1:(((q:Int)+1)==0)=false:=beq_eq_false_iff_ne.2 (by omega);rw [show((m:Int) - (kOf n:Int)).toNat=m - kOf n by omega,show((n:Int) - (kOf n:Int)).toNat=n - kOf n by omega] at IH;clear hs ao ak ih an ht hr hf hq h8 ha;generalize je z8 a f (m - kOf n) (n - kOf n) A.dropLast false=R at *
 obtain⟨D,H,R3⟩:=R;obtain⟨l1,l2⟩:=ay;have aq:(hv D).size=8:=by rw [qm];exact l1
 have ar:(hv H).size=8:=by rw [qm];exact l2
 have W:=za aq;have X:=za ar;have av:=za l2;have au:=za l1;clear aq ar l1 l2;generalize A.getLastD []=L at *
 go_enter Tryz.func137,Tryz.ntmps137;go_wp2_with fail;refine(zev b S q Q L _ ap az ag.o (by exact vy HR.o HF.o.1)).mono ?_;rintro e I ⟨rfl,am⟩;have al:=za (HF.o.next am);clear am;go_wp2_with (refine wpList_store_row rfl 92 _ _ rfl I.heap.size (hv L) rfl rfl 92 _ (heap_alloc_last _ _) (by rw [V.o];kernel_rfl) (by rw [V.o];rfl) (jy _) ?_);rw [World.setRow_alloc_new];refine(zd0 n _ (by omega) hn).mono ?_;rintro e w2 ⟨rfl,a2⟩;subst a2;have Z:=za (al.o.next (ze I (.cells (hv L) 92)));have a4:¬(m:Int)≤(kOf n:Int):=by omega
 go_wp2_with (refine wpList_load_row rfl 92 _ rfl w.heap.size rfl 92 _ (0,0) _ Z.o.2.1 Tryz.underlying92 rfl (by rw [Hs.o];kernel_rfl) ?_);refine(IH.out _ (by omega) (by omega) (by omega) (by rw [Hd.o];have:=Hf.o;rw [Hq.o] at this;omega) (by rw [Hd.o];exact ap) (HH.o.below Z.o.1)).mono ?_;rintro e w3 ⟨rfl,ah⟩;have aw:Hid (w3.heap[I.heap.size]?=some (.cells (hv L) 92 (0,0))):=by
  show w3.heap[I.heap.size]?=_;rw [ah.block _ (by simp)];exact heap_alloc_last _ _
 have a1:Hid (w.heap.size+1+1 < I.heap.size):=xk al.o.2.2.2;have aa:=za (Z.o.next ah);clear ah;go_wp2_with (first
  | (refine wpList_store_row rfl 92 _ _ rfl (w.heap.size+1) (hv D) rfl rfl 92 _ aa.o.2.2.1 (by rw [W.o];kernel_rfl) (by rw [W.o];rfl) (jy _) ?_)
  | (refine wpList_store_row rfl 92 _ _ rfl (w.heap.size+1+1) (hv H) rfl rfl 92 _ (aa.o.set1 D).2.2.2 (by rw [X.o];kernel_rfl) (by rw [X.o];rfl) (jy _) ?_))
 have ac:=za ((aa.o.set1 D).set2 H);have ae:Hid (((w3.setRow (w.heap.size+1) (hv D)).setRow (w.heap.size+1+1) (hv H)).heap[I.heap.size]?=some (.cells (hv L) 92 (0,0))):=by
  have:=a1.out;show((w3.setRow (w.heap.size+1) (hv D)).setRow (w.heap.size+1+1) (hv H)).heap[I.heap.size]?=_;rw [setRow_other _ _ _ _ (by omega),setRow_other _ _ _ _ (by omega)];exact aw.o
 generalize (w3.setRow (w.heap.size+1) (hv D)).setRow (w.heap.size+1+1) (hv H)=W4 at *
 have U:Hid (W4.drew.heap[w.heap.size+1]?=some (.cells (hv D) 92 (0,0))∧W4.drew.heap[w.heap.size+1+1]?=some (.cells (hv H) 92 (0,0))∧W4.drew.heap[I.heap.size]?=some (.cells (hv L) 92 (0,0))):=⟨ac.o.2.2.1,ac.o.2.2.2,ae.o⟩
 refine zje (fun wz=>wz.heap[w.heap.size+1]?=some (.cells (hv D) 92 (0,0))∧wz.heap[w.heap.size+1+1]?=some (.cells (hv H) 92 (0,0))∧wz.heap[I.heap.size]?=some (.cells (hv L) 92 (0,0))) (fun j=>j==7||j==8) 6 _ (.bool R3) (by kernel_rfl) rfl rfl (by kernel_rfl) (by kernel_rfl) (by kernel_rfl) (fun _ _ _ h=>h) rfl rfl rfl ?_;refine zed [2,7,8] (i:=0) (v:= .agg (hv L)) rfl (by kernel_rfl) (by kernel_rfl) (by kernel_rfl) (by kernel_rfl) (fun j hj=>by simp at hj;simp;omega) (fun _ _ _ h=>h) (zbp (by rfl) 92 _ rfl I.heap.size rfl 92 _ _ (fun wz hz=>hz.2.2) Tryz.underlying92 rfl (by rw [V.o];kernel_rfl)) U.o ?_;refine zed [2,7,8] (i:=1) (v:= .agg (hv D)) rfl (by kernel_rfl) (by kernel_rfl) (by kernel_rfl) (by kernel_rfl) (fun j hj=>by simp at hj;simp;omega) (fun _ _ _ h=>h) (zbp (by rfl) 92 _ rfl (w.heap.size+1) rfl 92 _ _ (fun wz hz=>hz.1) Tryz.underlying92 rfl (by rw [W.o];kernel_rfl)) U.o ?_;refine zed [5,7,8] (i:=3) (v:= .agg (hv L)) rfl (by kernel_rfl) (by kernel_rfl) (by kernel_rfl) (by kernel_rfl) (fun j hj=>by simp at hj;simp;omega) (fun _ _ _ h=>h) (zbp (by rfl) 92 _ rfl I.heap.size rfl 92 _ _ (fun wz hz=>hz.2.2) Tryz.underlying92 rfl (by rw [V.o];kernel_rfl)) U.o ?_;refine zed [5,7,8] (i:=4) (v:= .agg (hv H)) rfl (by kernel_rfl) (by kernel_rfl) (by kernel_rfl) (by kernel_rfl) (fun j hj=>by simp at hj;simp;omega) (fun _ _ _ h=>h) (zbp (by rfl) 92 _ rfl (w.heap.size+1+1) rfl 92 _ _ (fun wz hz=>hz.2.1) Tryz.underlying92 rfl (by rw [X.o];kernel_rfl)) U.o ?_;refine zqf 2 rfl rfl (by kernel_rfl) rfl (fun K J=>?_);have Y:=za J;clear J;go_simp;refine(zay L D _ ag.o au.o).mono ?_;rintro e w5 ⟨rfl,ai⟩;have ad:=za (ac.o.drew.next ai);have af:Hid (w5.heap[I.heap.size]?=some (.cells (hv L) 92 (0,0))):=by
  show w5.heap[I.heap.size]?=_;rw [ai.block _ (xk ae.o)];exact ae.o
 clear ai;refine Y.o _ _ ⟨ad.o.2.2.1,ad.o.2.2.2,af.o⟩ ?_;clear Y;refine zqf 5 rfl rfl (by kernel_rfl) rfl (fun K J=>?_);have Y:=za J;clear J;go_simp;refine(zay L H _ ag.o av.o).mono ?_;rintro e w6 ⟨rfl,aj⟩;have E:=za (ad.o.next aj);have ax:Hid (w6.heap[I.heap.size]?=some (.cells (hv L) 92 (0,0))):=by
  show w6.heap[I.heap.size]?=_;rw [aj.block _ (xk af.o)];exact af.o
 clear aj;refine Y.o _ _ ⟨E.o.2.2.1,E.o.2.2.2,ax.o⟩ ?_;clear Y;refine zpk 7 rfl rfl (by kernel_rfl) rfl (fun K J=>?_);refine wp_store_row 92 _ _ rfl (w.heap.size+1) (hv (yz L D)) rfl rfl 92 _ E.o.2.2.1 (by kernel_rfl) (by rw [W.o];rfl) (jy _) (J _ _ ?_);refine zht 8 rfl rfl (by kernel_rfl) (fun K J=>?_);refine wp_store_row 92 _ _ rfl (w.heap.size+1+1) (hv (yz L H)) rfl rfl 92 _ (E.o.set1 (yz L D)).2.2.2 (by kernel_rfl) (by rw [X.o];rfl) (jy _) (J _ _ ?_);refine zht 9 rfl rfl (by kernel_rfl) (fun K J=>?_);have Y:=za J;clear J;go_simp;refine Y.o _ _ (wpAny_done (by kernel_rfl) ?_ _);clear Y;go_wp2;refine bodyPost_ret (v:= .tuple #[.agg (hv (yz L D)),.agg (hv (yz L H)),.bool R3]) (vu Tryz.results137 _ _ (w.heap.size+1) (w.heap.size+1+1) 92 _ _ _ rfl ((E.o.set1 (yz L D)).set2 (yz L H)).2.2.1 rfl ((E.o.set1 (yz L D)).set2 (yz L H)).2.2.2 Tryz.underlying92 rfl (by kernel_rfl) (by kernel_rfl) _ rfl) rfl ⟨rfl,?_⟩;exact((E.o.set1 (yz L D)).set2 (yz L H)).1
theorem z8j (a:List UInt8)(K:a.length=8)(f:Nat):∀(m n:Int) (v:Value) (A:List (List UInt8)) (whole:Bool) (w:World),1≤m→m≤n→n≤9223372036854775807→A.length < f→A.length≤1000000→Hss w v A →
  Calls Tryz.prog 137 #[.int .i64 m,.int .i64 n,.agg (hv a),v,.bool whole] w fun r w'=>r= .returned (.tuple #[.agg (hv (je z8 a f m.toNat n.toNat A whole).1),.agg (hv (je z8 a f m.toNat n.toNat A whole).2.1),.bool (je z8 a f m.toNat n.toNat A whole).2.2])∧Below w.heap.size w w':=by
 induction f with
 | zero=>exact fun m n v A whole w _ _ _ h=>absurd h (Nat.not_lt_zero _)
 | succ f ih =>
  intro m n v A whole w h0 Z hn S U h;obtain⟨M,rfl⟩:=Int.eq_ofNat_of_zero_le (show 0≤m by omega);obtain⟨N,rfl⟩:=Int.eq_ofNat_of_zero_le (show 0≤n by omega);rw [Int.toNat_natCast,Int.toNat_natCast];by_cases h1:M=N
  ·subst h1;exact z9t a K f M v A whole w h
  by_cases W:A.length=0
  ·exact z6n a K f M N h1 v A whole w W h
  obtain⟨q,J⟩:∃ q,A.length=q+1:=⟨A.length - 1,by omega⟩
  obtain⟨c,E,rfl,X,L,Q⟩:=h;rcases Q with Q | ⟨b,D,rfl,R⟩
  ·exact absurd (by simp [Q]) W
  have hr:w.rangeAt b (D+q*8) (hv (A.getLastD [])).toList:=by
   rw [(za6 A q J []).1];exact R q (by omega)
  have V:Hss w (.slice (some ⟨b,D,none⟩) q E) A.dropLast:=by
   rw [(za6 A q J []).2];have H:(A.take q).length=q:=by simp;omega
   refine⟨_,E,by rw [H],by rw [H];omega,fun p U=>L p (List.mem_of_mem_take U),.inr ⟨b,D,rfl,fun j Y=>?_⟩⟩;rw [List.getElem_take];exact R j (by rw [H] at Y;omega)
  rw [J];by_cases I:M≤kOf N
  ·exact z5c a K f M N (by omega) (by omega) (by omega) I b D q E A whole w J (by omega) (by omega) L hr V ih S
  ·exact zz2 a K f M N (by omega) (by omega) (by omega) I b D q E A whole w J (by omega) (by omega) L hr V ih S
theorem z8r (a b:List UInt8)(m n:Int)(v:Value)(L:List (List UInt8))(w:World)(A:m < 1∨n < m)(E:a.length=8)(H:b.length=8)(h:Hss w v L):
  Calls Tryz.prog 96 #[.int .i64 m,.int .i64 n,.agg (hv a),.agg (hv b),v] w fun r w'=>r= .returned (.bool false)∧Below w.heap.size w w':=by
 obtain⟨c,D,rfl,-,-,-⟩:=h;have Q:(hv a).size=8:=by rw [qm,E]
 have K:(hv b).size=8:=by rw [qm,H]
 by_cases J:m < 1
 ·go_enter Tryz.func96,Tryz.ntmps96;go_wp2;go_ret;exact⟨rfl,zz _ _ _⟩
 ·have I:n < m:=by omega
  clear A;go_enter Tryz.func96,Tryz.ntmps96;go_wp2;go_ret;exact⟨rfl,zz _ _ _⟩
theorem z9r (f:Nat)(a b:List UInt8)(m n:Int)(hm:1≤m)(ad:m≤n)(hn:n≤9223372036854775807)(v:Value)(I:List (List UInt8))(w:World)(hf:I.length < f)(hp:I.length≤1000000)(S:a.length=8)(hb:b.length=8)(h:Hss w v I):
  Calls Tryz.prog 96 #[.int .i64 m,.int .i64 n,.agg (hv a),.agg (hv b),v] w fun r w'=>r= .returned (.bool ((je z8 a f m.toNat n.toNat I true).2.2&&eqH (je z8 a f m.toNat n.toNat I true).1 a&&eqH (je z8 a f m.toNat n.toNat I true).2.1 b))∧Below w.heap.size w w':=by
 have H:=za h;have Y:∀ p∈I,p.length=8:=by obtain⟨_,_,_,_,Y,_⟩:=h;exact Y
 obtain⟨c,Z,rfl,-,-,-⟩:=h;have HC:=za (z8j a S f m n (.slice c I.length Z) I true);obtain⟨l1,l2⟩:=zhx z8 a rfl S f m.toNat n.toNat I true Y;generalize je z8 a f m.toNat n.toNat I true=R at *
 obtain⟨W,X,R3⟩:=R;obtain⟨y0,y1,y2,y3,y4,y5,y6,y7,V⟩:=zj0 a S;obtain⟨u0,u1,u2,u3,u4,u5,u6,u7,hu⟩:=zj0 b hb;obtain⟨x0,x1,x2,x3,x4,x5,x6,x7,hx⟩:=zj0 W l1;obtain⟨z0,z1,z2,z3,z4,z5,z6,z7,hz⟩:=zj0 X l2;have aa:Hid (∀ w,(binOp .eql 92 (.agg #[.int .u8 x0,.int .u8 x1,.int .u8 x2,.int .u8 x3,.int .u8 x4,.int .u8 x5,.int .u8 x6,.int .u8 x7]) (.agg #[.int .u8 y0,.int .u8 y1,.int .u8 y2,.int .u8 y3,.int .u8 y4,.int .u8 y5,.int .u8 y6,.int .u8 y7])).run Tryz.prog w= .ok (.bool (eqH W a)) w):=fun w=>by
  rw [← hx,← V];exact zhr W a l1 S w
 have ac:Hid (∀ w,(binOp .eql 92 (.agg #[.int .u8 z0,.int .u8 z1,.int .u8 z2,.int .u8 z3,.int .u8 z4,.int .u8 z5,.int .u8 z6,.int .u8 z7]) (.agg #[.int .u8 u0,.int .u8 u1,.int .u8 u2,.int .u8 u3,.int .u8 u4,.int .u8 u5,.int .u8 u6,.int .u8 u7])).run Tryz.prog w= .ok (.bool (eqH X b)) w):=fun w=>by
  rw [← hz,← hu];exact zhr X b l2 hb w
 have Hy:=za V;have HX:=za (And.intro hx hz);have i1:¬ m < 1:=by omega
 have i2:¬ n < m:=by omega
 rw [V,hu];rw [V] at HC;generalize eqH W a=E1 at *
 generalize eqH X b=E2 at *
 clear hx V hz hu l1 l2 S hb Y;go_enter Tryz.func96,Tryz.ntmps96;go_wp2_with fail;refine(HC.o _ hm ad hn hf hp (H.o.below (zz _ _ _))).mono ?_;rintro e Q ⟨U,L⟩;rw [HX.o.1,HX.o.2] at U;subst U;have E:Hid (Below w.heap.size w Q):=(zz _ _ _).trans (L.mono (by simp;omega));have g0:Q.heap[w.heap.size]?=some (.cells #[.int .u8 y0,.int .u8 y1,.int .u8 y2,.int .u8 y3,.int .u8 y4,.int .u8 y5,.int .u8 y6,.int .u8 y7] 92 (0,0)):=by
  rw [L.block _ (by simp;omega)];exact zc (heap_alloc_last _ _)
 have g1:Q.heap[w.heap.size+1]?=some (.cells #[.int .u8 u0,.int .u8 u1,.int .u8 u2,.int .u8 u3,.int .u8 u4,.int .u8 u5,.int .u8 u6,.int .u8 u7] 92 (0,0)):=by
  rw [L.block _ (by simp),show w.heap.size+1=(w.alloc (.cells #[.int .u8 y0,.int .u8 y1,.int .u8 y2,.int .u8 y3,.int .u8 y4,.int .u8 y5,.int .u8 y6,.int .u8 y7] 92)).heap.size by simp];exact heap_alloc_last _ _
 have ae:w.heap.size+1 < Q.heap.size:=xk g1;have J:=fun(A D:Obj)=>zqy (zc (o:=D) (zc (o:=A) g0));have K:=fun(A D:Obj)=>zqy (zc (o:=D) (zc (o:=A) g1));have c0:=fun A D=>(J A D).1;have c1:=fun A D=>(J A D).2.1;have c2:=fun A D=>(J A D).2.2.1;have c3:=fun A D=>(J A D).2.2.2.1;have c4:=fun A D=>(J A D).2.2.2.2.1;have c5:=fun A D=>(J A D).2.2.2.2.2.1;have c6:=fun A D=>(J A D).2.2.2.2.2.2.1;have c7:=fun A D=>(J A D).2.2.2.2.2.2.2;have d0:=fun A D=>(K A D).1;have d1:=fun A D=>(K A D).2.1;have d2:=fun A D=>(K A D).2.2.1;have d3:=fun A D=>(K A D).2.2.2.1;have d4:=fun A D=>(K A D).2.2.2.2.1;have d5:=fun A D=>(K A D).2.2.2.2.2.1;have d6:=fun A D=>(K A D).2.2.2.2.2.2.1;have d7:=fun A D=>(K A D).2.2.2.2.2.2.2;clear J K g0 g1 L;cases R3 with
 | false =>
  go_wp2_with fail;go_ret;exact⟨rfl,E.o.trans ((zz Q _ _).mono E.o.size)⟩
 | true =>
  have h1:=aa.out;cases E1 with
  | false =>
   go_wp2_with fail;go_ret;exact⟨rfl,E.o.trans ((zz Q _ _).mono E.o.size)⟩
  | true =>
   have h2:=ac.out;go_wp2_with fail;go_ret;exact⟨rfl,E.o.trans ((zz Q _ _).mono E.o.size)⟩
def zqk (f:Nat)(m n:Int)(a b:List UInt8)(h:List (List UInt8)):Bool :=
 if m < 1∨n < m then false else (je z8 a f m.toNat n.toNat h true).2.2&&eqH (je z8 a f m.toNat n.toNat h true).1 a&&eqH (je z8 a f m.toNat n.toNat h true).2.1 b
theorem z54 {f:Nat}{a b:List UInt8}{m n:Int}{r:List (List UInt8)}(h:m < 1∨n < m):zqk f m n a b r=false:=by
 rw [zqk,if_pos h]
theorem zyj {f:Nat}{a b:List UInt8}{m n:Int}{r:List (List UInt8)}(h:¬(m < 1∨n < m)):zqk f m n a b r=((je z8 a f m.toNat n.toNat r true).2.2&&eqH (je z8 a f m.toNat n.toNat r true).1 a&&eqH (je z8 a f m.toNat n.toNat r true).2.1 b):=by
 rw [zqk,if_neg h]
theorem z7h (f:Nat)(a b:List UInt8)(m n:Int)(J:n≤9223372036854775807)(v:Value)(D:List (List UInt8))(w:World)(I:D.length < f)(K:D.length≤1000000)(E:a.length=8)(H:b.length=8)(h:Hss w v D):
  Calls Tryz.prog 96 #[.int .i64 m,.int .i64 n,.agg (hv a),.agg (hv b),v] w fun r w'=>r= .returned (.bool (zqk f m n a b D))∧Below w.heap.size w w':=by
 by_cases A:m < 1∨n < m
 ·rw [z54 A];exact z8r a b m n v D w A E H h
 ·rw [zyj A];exact z9r f a b m n (by omega) (by omega) J v D w I K E H h
end Go.Proofs.YtndkblnpbjffhaaGreatDoor
