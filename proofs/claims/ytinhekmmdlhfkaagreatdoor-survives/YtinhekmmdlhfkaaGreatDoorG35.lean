import Derived.Test.YtinhekmmdlhfkaaGreatDoorG34
import Derived.Test.YtinhekmmdlhfkaaGreatDoorG19
import Derived.Test.YtinhekmmdlhfkaaGreatDoorG32
namespace Go.Proofs.YtinhekmmdlhfkaaGreatDoor
section
set_option maxHeartbeats 4000000
open Go.RowKit
set_option maxRecDepth 100000
theorem Hss.first {w:World}{v:Value}{ps:List (List UInt8)}(h:Hss w v ps)(h1:ps.length=1):∃ b off cap,v= .slice (some ⟨b,off,none⟩) 1 cap∧w.rangeAt b off (hv (ps.headD [])).toList∧(ps.headD []).length=8:=by
 obtain⟨a,cap,rfl,hcap,h8,hh⟩:=h
 rcases hh with hh | ⟨b,off,rfl,hc⟩
 ·simp [hh] at h1
 ·match ps,h1,h8,hc with
  | [p],_,h8,hc =>
   refine⟨b,off,cap,rfl,?_,h8 p (by simp)⟩
   have:=hc 0 (by simp)
   simpa using this
theorem z38 (a:List UInt8)(ha:a.length=8)(v:Value)(ps:List (List UInt8))(f n:Nat)(whole:Bool)(w:World)(h:Hss w v ps):
  Calls Tryz.prog 154 #[.agg (hv a),v,.bool whole] w fun r w'=>r= .returned (.tuple #[.agg (hv (qv yf a (f+1) n n ps whole).1),.agg (hv (qv yf a (f+1) n n ps whole).2.1),.bool (qv yf a (f+1) n n ps whole).2.2])∧Below w.heap.size w w':=by
 cases whole with
 | true=>rw [zij];exact zvh a ha v ps w h
 | false =>
  by_cases h1:ps.length=1
  ·rw [zka _ _ _ _ _ h1]
   obtain⟨b,off,cap,rfl,hr,hp⟩:=h.first h1
   exact zxg a _ ha hp b off cap w hr
  ·rw [zsp _ _ _ _ _ h1];exact z2h a ha v ps w h1 h
theorem z8k (a:List UInt8)(ha:a.length=8)(f n:Nat)(v:Value)(ps:List (List UInt8))(whole:Bool)(w:World)(h:Hss w v ps):
  Calls Tryz.prog 104 #[.int .i64 n,.int .i64 n,.agg (hv a),v,.bool whole] w fun r w'=>r= .returned (.tuple #[.agg (hv (qv yf a (f+1) n n ps whole).1),.agg (hv (qv yf a (f+1) n n ps whole).2.1),.bool (qv yf a (f+1) n n ps whole).2.2])∧Below w.heap.size w w':=by
 have HC:=za (z38 a ha v ps f n whole)
 have h8:∀ p∈ps,p.length=8:=by obtain⟨_,_,_,_,h8,_⟩:=h;exact h8
 obtain⟨l1,l2⟩:=zg7 yf a rfl ha (f+1) n n ps whole h8
 have H:=za h
 obtain⟨b,cap,rfl,-,-,-⟩:=h
 generalize qv yf a (f+1) n n ps whole=R at *
 obtain⟨R1,R2,R3⟩:=R
 have hs:(hv a).size=8:=by rw [qd,ha]
 have Hs:=za hs
 have hs1:(hv R1).size=8:=by rw [qd];exact l1
 have hs2:(hv R2).size=8:=by rw [qd];exact l2
 have Hs1:=za hs1
 have Hs2:=za hs2
 have HF:=za (Fq.start w a)
 clear hs hs1 hs2 l1 l2 ha h8
 go_enter Tryz.func104,Tryz.ntmps104
 go_wp2_with (refine wpList_load_row rfl 91 _ rfl w.heap.size rfl 91 _ (0,0) _ HF.o.2.1 Tryz.underlying91 rfl (by rw [Hs.o];kernel_rfl) ?_)
 refine(HC.o _ (H.o.below HF.o.1)).mono ?_
 rintro e w1 ⟨rfl,hb1⟩
 have HF1:=za (HF.o.next hb1)
 clear hb1
 go_wp2_with (first
  | (refine wpList_store_row rfl 91 _ _ rfl (w.heap.size+1) (hv R1) rfl rfl 91 _ HF1.o.2.2.1 (by rw [Hs1.o];kernel_rfl) (by rw [Hs1.o];rfl) (jp _) ?_)
  | (refine wpList_store_row rfl 91 _ _ rfl (w.heap.size+1+1) (hv R2) rfl rfl 91 _ (HF1.o.set1 R1).2.2.2 (by rw [Hs2.o];kernel_rfl) (by rw [Hs2.o];rfl) (jp _) ?_))
 refine bodyPost_ret (v:= .tuple #[.agg (hv R1),.agg (hv R2),.bool R3]) (vk Tryz.results104 _ _ (w.heap.size+1) (w.heap.size+1+1) 91 _ _ _ rfl ((HF1.o.set1 R1).set2 R2).2.2.1 rfl ((HF1.o.set1 R1).set2 R2).2.2.2 Tryz.underlying91 rfl (by rw [Hs1.o];kernel_rfl) (by rw [Hs2.o];kernel_rfl) _ rfl) rfl ⟨rfl,?_⟩
 exact((HF1.o.set1 R1).set2 R2).1
theorem z1d (a:List UInt8)(ha:a.length=8)(f m n:Nat)(hmn:m≠n)(v:Value)(ps:List (List UInt8))(whole:Bool)(w:World)(h0:ps.length=0)(h:Hss w v ps):
  Calls Tryz.prog 104 #[.int .i64 m,.int .i64 n,.agg (hv a),v,.bool whole] w fun r w'=>r= .returned (.tuple #[.agg (hv (qv yf a (f+1) m n ps whole).1),.agg (hv (qv yf a (f+1) m n ps whole).2.1),.bool (qv yf a (f+1) m n ps whole).2.2])∧Below w.heap.size w w':=by
 rw [zoy _ _ _ _ _ _ _ hmn h0]
 obtain⟨b,cap,rfl,-,-,-⟩:=h
 rw [h0]
 have hs:(hv a).size=8:=by rw [qd,ha]
 have HF:=za (Fq.start w a)
 have n1:((m:Int)==(n:Int))=false:=beq_eq_false_iff_ne.2 (by omega)
 clear ha hmn
 go_enter Tryz.func104,Tryz.ntmps104
 go_wp2_with (first
  | (refine wpList_store_row rfl 91 _ _ rfl (w.heap.size+1) (hv yf) rfl rfl 91 _ HF.o.2.2.1 (by kernel_rfl) rfl (jp _) ?_)
  | (refine wpList_store_row rfl 91 _ _ rfl (w.heap.size+1+1) (hv yf) rfl rfl 91 _ (HF.o.set1 yf).2.2.2 (by kernel_rfl) rfl (jp _) ?_))
 refine bodyPost_ret (v:= .tuple #[.agg (hv yf),.agg (hv yf),.bool false]) (vk Tryz.results104 _ _ (w.heap.size+1) (w.heap.size+1+1) 91 _ _ _ rfl ((HF.o.set1 yf).set2 yf).2.2.1 rfl ((HF.o.set1 yf).set2 yf).2.2.2 Tryz.underlying91 rfl (by kernel_rfl) (by kernel_rfl) _ rfl) rfl ⟨rfl,?_⟩
 exact((HF.o.set1 yf).set2 yf).1
theorem z4k (a:List UInt8)(ha:a.length=8)(f m n:Nat)(hm1:1≤m)(hmn:m < n)(hn:n≤9223372036854775807)(hmk:m≤kOf n)(b off q cap:Nat)(ps:List (List UInt8))(whole:Bool)(w:World)(hq:ps.length=q+1)(hq6:q≤1000000)(hcap:q+1≤cap)(h8:∀ p∈ps,p.length=8)
  (hr:w.rangeAt b (off+q*8) (hv (ps.getLastD [])).toList) (ht:Hss w (.slice (some ⟨b,off,none⟩) q cap) ps.dropLast)
  (ih:∀(m n:Int) (v:Value) (ps:List (List UInt8)) (whole:Bool) (w:World),1≤m→m≤n→n≤9223372036854775807→ps.length < f→ps.length≤1000000→Hss w v ps→Calls Tryz.prog 104 #[.int .i64 m,.int .i64 n,.agg (hv a),v,.bool whole] w fun r w'=>r= .returned (.tuple #[.agg (hv (qv yf a f m.toNat n.toNat ps whole).1),.agg (hv (qv yf a f m.toNat n.toNat ps whole).2.1),.bool (qv yf a f m.toNat n.toNat ps whole).2.2])∧Below w.heap.size w w')
  (hf:ps.length < f+1) :
  Calls Tryz.prog 104 #[.int .i64 m,.int .i64 n,.agg (hv a),.slice (some ⟨b,off,none⟩) (q+1) cap,.bool whole] w fun r w'=>r= .returned (.tuple #[.agg (hv (qv yf a (f+1) m n ps whole).1),.agg (hv (qv yf a (f+1) m n ps whole).2.1),.bool (qv yf a (f+1) m n ps whole).2.2])∧Below w.heap.size w w':=by
 rw [zke _ _ _ _ _ _ _ (by omega) (by omega) hmk]
 obtain⟨k1,k2,k3⟩:=jy n (by omega)
 have hlast:(ps.getLastD []).length=8:=by
  rw [(zax ps q hq []).1];exact h8 _ (List.getElem_mem _)
 have hdl:ps.dropLast.length=q:=by rw [List.length_dropLast,hq];rfl
 have hs:(hv a).size=8:=by rw [qd,ha]
 have Hs:=za hs
 have hls:(hv (ps.getLastD [])).size=8:=by rw [qd,hlast]
 have Hls:=za hls
 have Hlast:=za hlast
 have IH:=za (ih m (kOf n) (.slice (some ⟨b,off,none⟩) q cap) ps.dropLast whole)
 have hL2:=zg7 yf a rfl ha f m (kOf n) ps.dropLast whole (fun p hp=>h8 p (List.dropLast_subset _ hp))
 have Hd:=za hdl
 have HH:=za ht
 have HR:=za hr
 have Hf:=za hf
 have Hq:=za hq
 have HF:=za (Fq.start w a)
 have n1:((m:Int)==(n:Int))=false:=beq_eq_false_iff_ne.2 (by omega)
 have m1:(((q:Int)+1)==0)=false:=beq_eq_false_iff_ne.2 (by omega)
 rw [Int.toNat_natCast,Int.toNat_natCast] at IH
 clear hs hls hlast ih hdl ht hr hf hq h8 ha
 generalize qv yf a f m (kOf n) ps.dropLast whole=R at *
 obtain⟨R1,R2,R3⟩:=R
 obtain⟨l1,l2⟩:=hL2
 have hs1:(hv R1).size=8:=by rw [qd];exact l1
 have hs2:(hv R2).size=8:=by rw [qd];exact l2
 have Hs1:=za hs1
 have Hs2:=za hs2
 have HL2:=za l2
 clear hs1 hs2 l1 l2
 generalize ps.getLastD []=L at *
 go_enter Tryz.func104,Tryz.ntmps104
 go_wp2_with fail
 refine(zd5 b off q cap L _ hq6 hcap Hlast.o (by exact vr HR.o HF.o.1)).mono ?_
 rintro e w1 ⟨rfl,hb1⟩
 have HF1:=za (HF.o.next hb1)
 clear hb1
 go_wp2_with (refine wpList_store_row rfl 91 _ _ rfl w1.heap.size (hv L) rfl rfl 91 _ (heap_alloc_last _ _) (by rw [Hls.o];kernel_rfl) (by rw [Hls.o];rfl) (jp _) ?_)
 rw [World.setRow_alloc_new]
 refine(zdj n _ (by omega) hn).mono ?_
 rintro e w2 ⟨rfl,hw2⟩
 subst hw2
 have HF2:=za (HF1.o.next (ze w1 (.cells (hv L) 91)))
 have hmk':(m:Int)≤(kOf n:Int):=by omega
 go_wp2_with (refine wpList_load_row rfl 91 _ rfl w.heap.size rfl 91 _ (0,0) _ HF2.o.2.1 Tryz.underlying91 rfl (by rw [Hs.o];kernel_rfl) ?_)
 refine(IH.out _ (by omega) (by omega) (by omega) (by rw [Hd.o];have:=Hf.o;rw [Hq.o] at this;omega) (by rw [Hd.o];exact hq6) (HH.o.below HF2.o.1)).mono ?_
 rintro e w3 ⟨rfl,hb3⟩
 have HL3:Hid (w3.heap[w1.heap.size]?=some (.cells (hv L) 91 (0,0))):=by
  show w3.heap[w1.heap.size]?=_
  rw [hb3.block _ (by simp)];exact heap_alloc_last _ _
 have hne:Hid (w.heap.size+1+1 < w1.heap.size):=xe HF1.o.2.2.2
 have HF3:=za (HF2.o.next hb3)
 clear hb3
 go_wp2_with (first
  | (refine wpList_store_row rfl 91 _ _ rfl (w.heap.size+1) (hv R1) rfl rfl 91 _ HF3.o.2.2.1 (by rw [Hs1.o];kernel_rfl) (by rw [Hs1.o];rfl) (jp _) ?_)
  | (refine wpList_store_row rfl 91 _ _ rfl (w.heap.size+1+1) (hv R2) rfl rfl 91 _ (HF3.o.set1 R1).2.2.2 (by rw [Hs2.o];kernel_rfl) (by rw [Hs2.o];rfl) (jp _) ?_))
 have HF4:=za ((HF3.o.set1 R1).set2 R2)
 have HL4:Hid (((w3.setRow (w.heap.size+1) (hv R1)).setRow (w.heap.size+1+1) (hv R2)).heap[w1.heap.size]?=some (.cells (hv L) 91 (0,0))):=by
  have:=hne.out
  show((w3.setRow (w.heap.size+1) (hv R1)).setRow (w.heap.size+1+1) (hv R2)).heap[w1.heap.size]?=_
  rw [setRow_other _ _ _ _ (by omega),setRow_other _ _ _ _ (by omega)]
  exact HL3.o
 generalize (w3.setRow (w.heap.size+1) (hv R1)).setRow (w.heap.size+1+1) (hv R2)=W4 at *
 have HS4:Hid (W4.drew.heap[w.heap.size+1]?=some (.cells (hv R1) 91 (0,0))∧W4.drew.heap[w.heap.size+1+1]?=some (.cells (hv R2) 91 (0,0))∧W4.drew.heap[w1.heap.size]?=some (.cells (hv L) 91 (0,0))):=⟨HF4.o.2.2.1,HF4.o.2.2.2,HL4.o⟩
 refine ziu (fun wz=>wz.heap[w.heap.size+1]?=some (.cells (hv R1) 91 (0,0))∧wz.heap[w.heap.size+1+1]?=some (.cells (hv R2) 91 (0,0))∧wz.heap[w1.heap.size]?=some (.cells (hv L) 91 (0,0))) (fun j=>j==5||j==6) 4 _ (.bool R3) (by kernel_rfl) rfl rfl (by kernel_rfl) (by kernel_rfl) (by kernel_rfl) (fun _ _ _ h=>h) rfl rfl rfl ?_
 refine zdy [5,6] (i:=0) (v:= .agg (hv R1)) rfl (by kernel_rfl) (by kernel_rfl) (by kernel_rfl) (by kernel_rfl) (fun j hj=>by simp at hj;simp;omega) (fun _ _ _ h=>h) (zbo (by rfl) 91 _ rfl (w.heap.size+1) rfl 91 _ _ (fun wz hz=>hz.1) Tryz.underlying91 rfl (by rw [Hs1.o];kernel_rfl)) HS4.o ?_
 refine zdy [3,5,6] (i:=1) (v:= .agg (hv R2)) rfl (by kernel_rfl) (by kernel_rfl) (by kernel_rfl) (by kernel_rfl) (fun j hj=>by simp at hj;simp;omega) (fun _ _ _ h=>h) (zbo (by rfl) 91 _ rfl (w.heap.size+1+1) rfl 91 _ _ (fun wz hz=>hz.2.1) Tryz.underlying91 rfl (by rw [Hs2.o];kernel_rfl)) HS4.o ?_
 refine zdy [3,5,6] (i:=2) (v:= .agg (hv L)) rfl (by kernel_rfl) (by kernel_rfl) (by kernel_rfl) (by kernel_rfl) (fun j hj=>by simp at hj;simp;omega) (fun _ _ _ h=>h) (zbo (by rfl) 91 _ rfl w1.heap.size rfl 91 _ _ (fun wz hz=>hz.2.2) Tryz.underlying91 rfl (by rw [Hls.o];kernel_rfl)) HS4.o ?_
 refine zpu 3 rfl rfl (by kernel_rfl) rfl (fun K hK=>?_)
 have HK:=za hK
 clear hK
 go_simp
 refine(zaw R2 L _ HL2.o Hlast.o).mono ?_
 rintro e w5 ⟨rfl,hb5⟩
 have HF5:=za (HF4.o.drew.next hb5)
 have HL5:Hid (w5.heap[w1.heap.size]?=some (.cells (hv L) 91 (0,0))):=by
  show w5.heap[w1.heap.size]?=_
  rw [hb5.block _ (xe HL4.o)];exact HL4.o
 clear hb5
 refine HK.o _ _ ⟨HF5.o.2.2.1,HF5.o.2.2.2,HL5.o⟩ ?_
 clear HK
 refine zow 5 rfl rfl (by kernel_rfl) rfl (fun K hK=>?_)
 refine wp_store_row 91 _ _ rfl (w.heap.size+1) (hv R1) rfl rfl 91 _ HF5.o.2.2.1 (by rw [Hs1.o];kernel_rfl) rfl (jp _) (hK _ _ ?_)
 refine zg9 6 rfl rfl (by kernel_rfl) (fun K hK=>?_)
 refine wp_store_row 91 _ _ rfl (w.heap.size+1+1) (hv (xa R2 L)) rfl rfl 91 _ (HF5.o.set1 R1).2.2.2 (by kernel_rfl) (by rw [Hs2.o];rfl) (jp _) (hK _ _ ?_)
 refine zg9 7 rfl rfl (by kernel_rfl) (fun K hK=>?_)
 have HK:=za hK
 clear hK
 go_simp
 refine HK.o _ _ (wpAny_done (by kernel_rfl) ?_ _)
 clear HK
 go_wp2
 refine bodyPost_ret (v:= .tuple #[.agg (hv R1),.agg (hv (xa R2 L)),.bool R3]) (vk Tryz.results104 _ _ (w.heap.size+1) (w.heap.size+1+1) 91 _ _ _ rfl ((HF5.o.set1 R1).set2 (xa R2 L)).2.2.1 rfl ((HF5.o.set1 R1).set2 (xa R2 L)).2.2.2 Tryz.underlying91 rfl (by rw [Hs1.o];kernel_rfl) (by kernel_rfl) _ rfl) rfl ⟨rfl,?_⟩
 exact((HF5.o.set1 R1).set2 (xa R2 L)).1
theorem zy0 (a:List UInt8)(ha:a.length=8)(f m n:Nat)(hm1:1≤m)(hmn:m < n)(hn:n≤9223372036854775807)(hmk:¬ m≤kOf n)(b off q cap:Nat)(ps:List (List UInt8))(whole:Bool)(w:World)(hq:ps.length=q+1)(hq6:q≤1000000)(hcap:q+1≤cap)(h8:∀ p∈ps,p.length=8)
  (hr:w.rangeAt b (off+q*8) (hv (ps.getLastD [])).toList) (ht:Hss w (.slice (some ⟨b,off,none⟩) q cap) ps.dropLast)
  (ih:∀(m n:Int) (v:Value) (ps:List (List UInt8)) (whole:Bool) (w:World),1≤m→m≤n→n≤9223372036854775807→ps.length < f→ps.length≤1000000→Hss w v ps→Calls Tryz.prog 104 #[.int .i64 m,.int .i64 n,.agg (hv a),v,.bool whole] w fun r w'=>r= .returned (.tuple #[.agg (hv (qv yf a f m.toNat n.toNat ps whole).1),.agg (hv (qv yf a f m.toNat n.toNat ps whole).2.1),.bool (qv yf a f m.toNat n.toNat ps whole).2.2])∧Below w.heap.size w w')
  (hf:ps.length < f+1) :
  Calls Tryz.prog 104 #[.int .i64 m,.int .i64 n,.agg (hv a),.slice (some ⟨b,off,none⟩) (q+1) cap,.bool whole] w fun r w'=>r= .returned (.tuple #[.agg (hv (qv yf a (f+1) m n ps whole).1),.agg (hv (qv yf a (f+1) m n ps whole).2.1),.bool (qv yf a (f+1) m n ps whole).2.2])∧Below w.heap.size w w':=by
 rw [zh4 _ _ _ _ _ _ _ (by omega) (by omega) hmk]
 obtain⟨k1,k2,k3⟩:=jy n (by omega)
 have hlast:(ps.getLastD []).length=8:=by
  rw [(zax ps q hq []).1];exact h8 _ (List.getElem_mem _)
 have hdl:ps.dropLast.length=q:=by rw [List.length_dropLast,hq];rfl
 have hs:(hv a).size=8:=by rw [qd,ha]
 have Hs:=za hs
 have hls:(hv (ps.getLastD [])).size=8:=by rw [qd,hlast]
 have Hls:=za hls
 have Hlast:=za hlast
 have IH:=za (ih ((m:Int) - (kOf n:Int)) ((n:Int) - (kOf n:Int)) (.slice (some ⟨b,off,none⟩) q cap) ps.dropLast false)
 have hL2:=zg7 yf a rfl ha f (m - kOf n) (n - kOf n) ps.dropLast false (fun p hp=>h8 p (List.dropLast_subset _ hp))
 have Hd:=za hdl
 have HH:=za ht
 have HR:=za hr
 have Hf:=za hf
 have Hq:=za hq
 have HF:=za (Fq.start w a)
 have n1:((m:Int)==(n:Int))=false:=beq_eq_false_iff_ne.2 (by omega)
 have m1:(((q:Int)+1)==0)=false:=beq_eq_false_iff_ne.2 (by omega)
 rw [show((m:Int) - (kOf n:Int)).toNat=m - kOf n by omega,show((n:Int) - (kOf n:Int)).toNat=n - kOf n by omega] at IH
 clear hs hls hlast ih hdl ht hr hf hq h8 ha
 generalize qv yf a f (m - kOf n) (n - kOf n) ps.dropLast false=R at *
 obtain⟨R1,R2,R3⟩:=R
 obtain⟨l1,l2⟩:=hL2
 have hs1:(hv R1).size=8:=by rw [qd];exact l1
 have hs2:(hv R2).size=8:=by rw [qd];exact l2
 have Hs1:=za hs1
 have Hs2:=za hs2
 have HL2:=za l2
 have HL1:=za l1
 clear hs1 hs2 l1 l2
 generalize ps.getLastD []=L at *
 go_enter Tryz.func104,Tryz.ntmps104
 go_wp2_with fail
 refine(zd5 b off q cap L _ hq6 hcap Hlast.o (by exact vr HR.o HF.o.1)).mono ?_
 rintro e w1 ⟨rfl,hb1⟩
 have HF1:=za (HF.o.next hb1)
 clear hb1
 go_wp2_with (refine wpList_store_row rfl 91 _ _ rfl w1.heap.size (hv L) rfl rfl 91 _ (heap_alloc_last _ _) (by rw [Hls.o];kernel_rfl) (by rw [Hls.o];rfl) (jp _) ?_)
 rw [World.setRow_alloc_new]
 refine(zdj n _ (by omega) hn).mono ?_
 rintro e w2 ⟨rfl,hw2⟩
 subst hw2
 have HF2:=za (HF1.o.next (ze w1 (.cells (hv L) 91)))
 have hmk':¬(m:Int)≤(kOf n:Int):=by omega
 go_wp2_with (refine wpList_load_row rfl 91 _ rfl w.heap.size rfl 91 _ (0,0) _ HF2.o.2.1 Tryz.underlying91 rfl (by rw [Hs.o];kernel_rfl) ?_)
 refine(IH.out _ (by omega) (by omega) (by omega) (by rw [Hd.o];have:=Hf.o;rw [Hq.o] at this;omega) (by rw [Hd.o];exact hq6) (HH.o.below HF2.o.1)).mono ?_
 rintro e w3 ⟨rfl,hb3⟩
 have HL3:Hid (w3.heap[w1.heap.size]?=some (.cells (hv L) 91 (0,0))):=by
  show w3.heap[w1.heap.size]?=_
  rw [hb3.block _ (by simp)];exact heap_alloc_last _ _
 have hne:Hid (w.heap.size+1+1 < w1.heap.size):=xe HF1.o.2.2.2
 have HF3:=za (HF2.o.next hb3)
 clear hb3
 go_wp2_with (first
  | (refine wpList_store_row rfl 91 _ _ rfl (w.heap.size+1) (hv R1) rfl rfl 91 _ HF3.o.2.2.1 (by rw [Hs1.o];kernel_rfl) (by rw [Hs1.o];rfl) (jp _) ?_)
  | (refine wpList_store_row rfl 91 _ _ rfl (w.heap.size+1+1) (hv R2) rfl rfl 91 _ (HF3.o.set1 R1).2.2.2 (by rw [Hs2.o];kernel_rfl) (by rw [Hs2.o];rfl) (jp _) ?_))
 have HF4:=za ((HF3.o.set1 R1).set2 R2)
 have HL4:Hid (((w3.setRow (w.heap.size+1) (hv R1)).setRow (w.heap.size+1+1) (hv R2)).heap[w1.heap.size]?=some (.cells (hv L) 91 (0,0))):=by
  have:=hne.out
  show((w3.setRow (w.heap.size+1) (hv R1)).setRow (w.heap.size+1+1) (hv R2)).heap[w1.heap.size]?=_
  rw [setRow_other _ _ _ _ (by omega),setRow_other _ _ _ _ (by omega)]
  exact HL3.o
 generalize (w3.setRow (w.heap.size+1) (hv R1)).setRow (w.heap.size+1+1) (hv R2)=W4 at *
 have HS4:Hid (W4.drew.heap[w.heap.size+1]?=some (.cells (hv R1) 91 (0,0))∧W4.drew.heap[w.heap.size+1+1]?=some (.cells (hv R2) 91 (0,0))∧W4.drew.heap[w1.heap.size]?=some (.cells (hv L) 91 (0,0))):=⟨HF4.o.2.2.1,HF4.o.2.2.2,HL4.o⟩
 refine ziu (fun wz=>wz.heap[w.heap.size+1]?=some (.cells (hv R1) 91 (0,0))∧wz.heap[w.heap.size+1+1]?=some (.cells (hv R2) 91 (0,0))∧wz.heap[w1.heap.size]?=some (.cells (hv L) 91 (0,0))) (fun j=>j==7||j==8) 6 _ (.bool R3) (by kernel_rfl) rfl rfl (by kernel_rfl) (by kernel_rfl) (by kernel_rfl) (fun _ _ _ h=>h) rfl rfl rfl ?_
 refine zdy [2,7,8] (i:=0) (v:= .agg (hv L)) rfl (by kernel_rfl) (by kernel_rfl) (by kernel_rfl) (by kernel_rfl) (fun j hj=>by simp at hj;simp;omega) (fun _ _ _ h=>h) (zbo (by rfl) 91 _ rfl w1.heap.size rfl 91 _ _ (fun wz hz=>hz.2.2) Tryz.underlying91 rfl (by rw [Hls.o];kernel_rfl)) HS4.o ?_
 refine zdy [2,7,8] (i:=1) (v:= .agg (hv R1)) rfl (by kernel_rfl) (by kernel_rfl) (by kernel_rfl) (by kernel_rfl) (fun j hj=>by simp at hj;simp;omega) (fun _ _ _ h=>h) (zbo (by rfl) 91 _ rfl (w.heap.size+1) rfl 91 _ _ (fun wz hz=>hz.1) Tryz.underlying91 rfl (by rw [Hs1.o];kernel_rfl)) HS4.o ?_
 refine zdy [5,7,8] (i:=3) (v:= .agg (hv L)) rfl (by kernel_rfl) (by kernel_rfl) (by kernel_rfl) (by kernel_rfl) (fun j hj=>by simp at hj;simp;omega) (fun _ _ _ h=>h) (zbo (by rfl) 91 _ rfl w1.heap.size rfl 91 _ _ (fun wz hz=>hz.2.2) Tryz.underlying91 rfl (by rw [Hls.o];kernel_rfl)) HS4.o ?_
 refine zdy [5,7,8] (i:=4) (v:= .agg (hv R2)) rfl (by kernel_rfl) (by kernel_rfl) (by kernel_rfl) (by kernel_rfl) (fun j hj=>by simp at hj;simp;omega) (fun _ _ _ h=>h) (zbo (by rfl) 91 _ rfl (w.heap.size+1+1) rfl 91 _ _ (fun wz hz=>hz.2.1) Tryz.underlying91 rfl (by rw [Hs2.o];kernel_rfl)) HS4.o ?_
 refine zpu 2 rfl rfl (by kernel_rfl) rfl (fun K hK=>?_)
 have HK:=za hK
 clear hK
 go_simp
 refine(zaw L R1 _ Hlast.o HL1.o).mono ?_
 rintro e w5 ⟨rfl,hb5⟩
 have HF5:=za (HF4.o.drew.next hb5)
 have HL5:Hid (w5.heap[w1.heap.size]?=some (.cells (hv L) 91 (0,0))):=by
  show w5.heap[w1.heap.size]?=_
  rw [hb5.block _ (xe HL4.o)];exact HL4.o
 clear hb5
 refine HK.o _ _ ⟨HF5.o.2.2.1,HF5.o.2.2.2,HL5.o⟩ ?_
 clear HK
 refine zpu 5 rfl rfl (by kernel_rfl) rfl (fun K hK=>?_)
 have HK:=za hK
 clear hK
 go_simp
 refine(zaw L R2 _ Hlast.o HL2.o).mono ?_
 rintro e w6 ⟨rfl,hb6⟩
 have HF6:=za (HF5.o.next hb6)
 have HL6:Hid (w6.heap[w1.heap.size]?=some (.cells (hv L) 91 (0,0))):=by
  show w6.heap[w1.heap.size]?=_
  rw [hb6.block _ (xe HL5.o)];exact HL5.o
 clear hb6
 refine HK.o _ _ ⟨HF6.o.2.2.1,HF6.o.2.2.2,HL6.o⟩ ?_
 clear HK
 refine zow 7 rfl rfl (by kernel_rfl) rfl (fun K hK=>?_)
 refine wp_store_row 91 _ _ rfl (w.heap.size+1) (hv (xa L R1)) rfl rfl 91 _ HF6.o.2.2.1 (by kernel_rfl) (by rw [Hs1.o];rfl) (jp _) (hK _ _ ?_)
 refine zg9 8 rfl rfl (by kernel_rfl) (fun K hK=>?_)
 refine wp_store_row 91 _ _ rfl (w.heap.size+1+1) (hv (xa L R2)) rfl rfl 91 _ (HF6.o.set1 (xa L R1)).2.2.2 (by kernel_rfl) (by rw [Hs2.o];rfl) (jp _) (hK _ _ ?_)
 refine zg9 9 rfl rfl (by kernel_rfl) (fun K hK=>?_)
 have HK:=za hK
 clear hK
 go_simp
 refine HK.o _ _ (wpAny_done (by kernel_rfl) ?_ _)
 clear HK
 go_wp2
 refine bodyPost_ret (v:= .tuple #[.agg (hv (xa L R1)),.agg (hv (xa L R2)),.bool R3]) (vk Tryz.results104 _ _ (w.heap.size+1) (w.heap.size+1+1) 91 _ _ _ rfl ((HF6.o.set1 (xa L R1)).set2 (xa L R2)).2.2.1 rfl ((HF6.o.set1 (xa L R1)).set2 (xa L R2)).2.2.2 Tryz.underlying91 rfl (by kernel_rfl) (by kernel_rfl) _ rfl) rfl ⟨rfl,?_⟩
 exact((HF6.o.set1 (xa L R1)).set2 (xa L R2)).1
theorem z7e (a:List UInt8)(ha:a.length=8)(f:Nat):∀(m n:Int) (v:Value) (ps:List (List UInt8)) (whole:Bool) (w:World),1≤m→m≤n→n≤9223372036854775807→ps.length < f→ps.length≤1000000→Hss w v ps →
  Calls Tryz.prog 104 #[.int .i64 m,.int .i64 n,.agg (hv a),v,.bool whole] w fun r w'=>r= .returned (.tuple #[.agg (hv (qv yf a f m.toNat n.toNat ps whole).1),.agg (hv (qv yf a f m.toNat n.toNat ps whole).2.1),.bool (qv yf a f m.toNat n.toNat ps whole).2.2])∧Below w.heap.size w w':=by
 induction f with
 | zero=>exact fun m n v ps whole w _ _ _ h=>absurd h (Nat.not_lt_zero _)
 | succ f ih =>
  intro m n v ps whole w h0 hmn hn hf hp h
  obtain⟨M,rfl⟩:=Int.eq_ofNat_of_zero_le (show 0≤m by omega)
  obtain⟨N,rfl⟩:=Int.eq_ofNat_of_zero_le (show 0≤n by omega)
  rw [Int.toNat_natCast,Int.toNat_natCast]
  by_cases h1:M=N
  ·subst h1
   exact z8k a ha f M v ps whole w h
  by_cases hz:ps.length=0
  ·exact z1d a ha f M N h1 v ps whole w hz h
  obtain⟨q,hq⟩:∃ q,ps.length=q+1:=⟨ps.length - 1,by omega⟩
  obtain⟨c,cap,rfl,hcap,h8,hh⟩:=h
  rcases hh with hh | ⟨b,off,rfl,hc⟩
  ·exact absurd (by simp [hh]) hz
  have hr:w.rangeAt b (off+q*8) (hv (ps.getLastD [])).toList:=by
   rw [(zax ps q hq []).1];exact hc q (by omega)
  have ht:Hss w (.slice (some ⟨b,off,none⟩) q cap) ps.dropLast:=by
   rw [(zax ps q hq []).2]
   have hlm:(ps.take q).length=q:=by simp;omega
   refine⟨_,cap,by rw [hlm],by rw [hlm];omega,fun p hp=>h8 p (List.mem_of_mem_take hp),.inr ⟨b,off,rfl,fun j hj=>?_⟩⟩
   rw [List.getElem_take]
   exact hc j (by rw [hlm] at hj;omega)
  rw [hq]
  by_cases hik:M≤kOf N
  ·exact z4k a ha f M N (by omega) (by omega) (by omega) hik b off q cap ps whole w hq (by omega) (by omega) h8 hr ht ih hf
  ·exact zy0 a ha f M N (by omega) (by omega) (by omega) hik b off q cap ps whole w hq (by omega) (by omega) h8 hr ht ih hf
end
section
set_option maxHeartbeats 4000000
open Go.RowKit
set_option maxRecDepth 100000
theorem z6j (a b:List UInt8)(m n:Int)(v:Value)(ps:List (List UInt8))(w:World)(hout:m < 1∨n < m)(ha:a.length=8)(hb:b.length=8)(h:Hss w v ps):
  Calls Tryz.prog 60 #[.int .i64 m,.int .i64 n,.agg (hv a),.agg (hv b),v] w fun r w'=>r= .returned (.bool false)∧Below w.heap.size w w':=by
 obtain⟨c,cap,rfl,-,-,-⟩:=h
 have hs:(hv a).size=8:=by rw [qd,ha]
 have hs':(hv b).size=8:=by rw [qd,hb]
 by_cases hneg:m < 1
 ·go_enter Tryz.func60,Tryz.ntmps60
  go_wp2
  go_ret
  exact⟨rfl,zw _ _ _⟩
 ·have hge:n < m:=by omega
  clear hout
  go_enter Tryz.func60,Tryz.ntmps60
  go_wp2
  go_ret
  exact⟨rfl,zw _ _ _⟩
theorem z89 (f:Nat)(a b:List UInt8)(m n:Int)(hm:1≤m)(hmn:m≤n)(hn:n≤9223372036854775807)(v:Value)(ps:List (List UInt8))(w:World)(hf:ps.length < f)(hp:ps.length≤1000000)(ha:a.length=8)(hb:b.length=8)(h:Hss w v ps):
  Calls Tryz.prog 60 #[.int .i64 m,.int .i64 n,.agg (hv a),.agg (hv b),v] w fun r w'=>r= .returned (.bool ((qv yf a f m.toNat n.toNat ps true).2.2&&eqH (qv yf a f m.toNat n.toNat ps true).1 a&&eqH (qv yf a f m.toNat n.toNat ps true).2.1 b))∧Below w.heap.size w w':=by
 have H:=za h
 have h8:∀ p∈ps,p.length=8:=by obtain⟨_,_,_,_,h8,_⟩:=h;exact h8
 obtain⟨c,cap,rfl,-,-,-⟩:=h
 have HC:=za (z7e a ha f m n (.slice c ps.length cap) ps true)
 obtain⟨l1,l2⟩:=zg7 yf a rfl ha f m.toNat n.toNat ps true h8
 generalize qv yf a f m.toNat n.toNat ps true=R at *
 obtain⟨R1,R2,R3⟩:=R
 obtain⟨y0,y1,y2,y3,y4,y5,y6,y7,hy⟩:=zkb a ha
 obtain⟨u0,u1,u2,u3,u4,u5,u6,u7,hu⟩:=zkb b hb
 obtain⟨x0,x1,x2,x3,x4,x5,x6,x7,hx⟩:=zkb R1 l1
 obtain⟨z0,z1,z2,z3,z4,z5,z6,z7,hz⟩:=zkb R2 l2
 have heq1:Hid (∀ w,(binOp .eql 91 (.agg #[.int .u8 x0,.int .u8 x1,.int .u8 x2,.int .u8 x3,.int .u8 x4,.int .u8 x5,.int .u8 x6,.int .u8 x7]) (.agg #[.int .u8 y0,.int .u8 y1,.int .u8 y2,.int .u8 y3,.int .u8 y4,.int .u8 y5,.int .u8 y6,.int .u8 y7])).run Tryz.prog w= .ok (.bool (eqH R1 a)) w):=fun w=>by
  rw [← hx,← hy];exact zgr R1 a l1 ha w
 have heq2:Hid (∀ w,(binOp .eql 91 (.agg #[.int .u8 z0,.int .u8 z1,.int .u8 z2,.int .u8 z3,.int .u8 z4,.int .u8 z5,.int .u8 z6,.int .u8 z7]) (.agg #[.int .u8 u0,.int .u8 u1,.int .u8 u2,.int .u8 u3,.int .u8 u4,.int .u8 u5,.int .u8 u6,.int .u8 u7])).run Tryz.prog w= .ok (.bool (eqH R2 b)) w):=fun w=>by
  rw [← hz,← hu];exact zgr R2 b l2 hb w
 have Hy:=za hy
 have HX:=za (And.intro hx hz)
 have i1:¬ m < 1:=by omega
 have i2:¬ n < m:=by omega
 rw [hy,hu]
 rw [hy] at HC
 generalize eqH R1 a=E1 at *
 generalize eqH R2 b=E2 at *
 clear hx hy hz hu l1 l2 ha hb h8
 go_enter Tryz.func60,Tryz.ntmps60
 go_wp2_with fail
 refine(HC.o _ hm hmn hn hf hp (H.o.below (zw _ _ _))).mono ?_
 rintro e w1 ⟨hr1,hb1⟩
 rw [HX.o.1,HX.o.2] at hr1
 subst hr1
 have HB1:Hid (Below w.heap.size w w1):=(zw _ _ _).trans (hb1.mono (by simp;omega))
 have g0:w1.heap[w.heap.size]?=some (.cells #[.int .u8 y0,.int .u8 y1,.int .u8 y2,.int .u8 y3,.int .u8 y4,.int .u8 y5,.int .u8 y6,.int .u8 y7] 91 (0,0)):=by
  rw [hb1.block _ (by simp;omega)]
  exact zc (heap_alloc_last _ _)
 have g1:w1.heap[w.heap.size+1]?=some (.cells #[.int .u8 u0,.int .u8 u1,.int .u8 u2,.int .u8 u3,.int .u8 u4,.int .u8 u5,.int .u8 u6,.int .u8 u7] 91 (0,0)):=by
  rw [hb1.block _ (by simp),show w.heap.size+1=(w.alloc (.cells #[.int .u8 y0,.int .u8 y1,.int .u8 y2,.int .u8 y3,.int .u8 y4,.int .u8 y5,.int .u8 y6,.int .u8 y7] 91)).heap.size by simp]
  exact heap_alloc_last _ _
 have hz1:w.heap.size+1 < w1.heap.size:=xe g1
 have cc:=fun(o1 o2:Obj)=>zpx (zc (o:=o2) (zc (o:=o1) g0))
 have dd:=fun(o1 o2:Obj)=>zpx (zc (o:=o2) (zc (o:=o1) g1))
 have c0:=fun o1 o2=>(cc o1 o2).1
 have c1:=fun o1 o2=>(cc o1 o2).2.1
 have c2:=fun o1 o2=>(cc o1 o2).2.2.1
 have c3:=fun o1 o2=>(cc o1 o2).2.2.2.1
 have c4:=fun o1 o2=>(cc o1 o2).2.2.2.2.1
 have c5:=fun o1 o2=>(cc o1 o2).2.2.2.2.2.1
 have c6:=fun o1 o2=>(cc o1 o2).2.2.2.2.2.2.1
 have c7:=fun o1 o2=>(cc o1 o2).2.2.2.2.2.2.2
 have d0:=fun o1 o2=>(dd o1 o2).1
 have d1:=fun o1 o2=>(dd o1 o2).2.1
 have d2:=fun o1 o2=>(dd o1 o2).2.2.1
 have d3:=fun o1 o2=>(dd o1 o2).2.2.2.1
 have d4:=fun o1 o2=>(dd o1 o2).2.2.2.2.1
 have d5:=fun o1 o2=>(dd o1 o2).2.2.2.2.2.1
 have d6:=fun o1 o2=>(dd o1 o2).2.2.2.2.2.2.1
 have d7:=fun o1 o2=>(dd o1 o2).2.2.2.2.2.2.2
 clear cc dd g0 g1 hb1
 cases R3 with
 | false =>
  go_wp2_with fail
  go_ret
  exact⟨rfl,HB1.o.trans ((zw w1 _ _).mono HB1.o.size)⟩
 | true =>
  have h1:=heq1.out
  cases E1 with
  | false =>
   go_wp2_with fail
   go_ret
   exact⟨rfl,HB1.o.trans ((zw w1 _ _).mono HB1.o.size)⟩
  | true =>
   have h2:=heq2.out
   go_wp2_with fail
   go_ret
   exact⟨rfl,HB1.o.trans ((zw w1 _ _).mono HB1.o.size)⟩
def zpw (f:Nat)(m n:Int)(a b:List UInt8)(ps:List (List UInt8)):Bool :=
 if m < 1∨n < m then false else (qv yf a f m.toNat n.toNat ps true).2.2&&eqH (qv yf a f m.toNat n.toNat ps true).1 a&&eqH (qv yf a f m.toNat n.toNat ps true).2.1 b
theorem z2x {f:Nat}{a b:List UInt8}{m n:Int}{ps:List (List UInt8)}(h:m < 1∨n < m):zpw f m n a b ps=false:=by
 rw [zpw,if_pos h]
theorem zws {f:Nat}{a b:List UInt8}{m n:Int}{ps:List (List UInt8)}(h:¬(m < 1∨n < m)):zpw f m n a b ps=((qv yf a f m.toNat n.toNat ps true).2.2&&eqH (qv yf a f m.toNat n.toNat ps true).1 a&&eqH (qv yf a f m.toNat n.toNat ps true).2.1 b):=by
 rw [zpw,if_neg h]
theorem z5l (f:Nat)(a b:List UInt8)(m n:Int)(hn:n≤9223372036854775807)(v:Value)(ps:List (List UInt8))(w:World)(hf:ps.length < f)(hp:ps.length≤1000000)(ha:a.length=8)(hb:b.length=8)(h:Hss w v ps):
  Calls Tryz.prog 60 #[.int .i64 m,.int .i64 n,.agg (hv a),.agg (hv b),v] w fun r w'=>r= .returned (.bool (zpw f m n a b ps))∧Below w.heap.size w w':=by
 by_cases hout:m < 1∨n < m
 ·rw [z2x hout];exact z6j a b m n v ps w hout ha hb h
 ·rw [zws hout];exact z89 f a b m n (by omega) (by omega) hn v ps w hf hp ha hb h
end
end Go.Proofs.YtinhekmmdlhfkaaGreatDoor
