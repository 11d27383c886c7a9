import Derived.Test.YtndkblnpbjffhaaGreatDoorG36
set_option maxHeartbeats 4000000
set_option maxRecDepth 100000
open Go.RowKit
namespace Go.Proofs.YtndkblnpbjffhaaGreatDoor
theorem zp9 (u:FrameMode)(O:Nat→Prop)(H R h:Nat)(room:Int)(l:Ks)(o n:Option Addr)(w:World)(hO:O H∧O R∧O h)(E:w.heap[H]?=some (.cells #[.int .i64 room,.map (some R),zo h] MeN (0,0)))
  (J:w.heap[h]?=some (.cells #[.int .i64 0,.int .i64 0,.int .i64 0,.pointer none,.pointer o,.pointer n] LkN (0,0))) (D:jq w R l) :
  CallsD Tryz.prog 73 #[zo H] u w fun r u' w'=>u'=u∧(r= .returned (.tuple #[])∧zg O [LkN] w w'∧zab w' O H room []∧w'.heap.size=w.heap.size):=by
 obtain⟨Q,ae,W,K⟩:=D.clear Tryz.underlying167 0;have X:Q.heap.size=w.heap.size:=by
  obtain⟨es,c,hm⟩:=D.isMap;have e:=ae;simp [Builtin.clear_,run_underlying Tryz.underlying167,MapKept.run_getObj_map hm,MapKept.run_setObj_map _ hm,Result.andThen] at e;rw [← e];simp
 have L:=(K.block H (zb E) (D.not E)).trans E;have A:=(K.block h (zb J) (D.not J)).trans J;have m1:w.cell? ⟨H,1,none⟩=some (.map (some R)):=(zf E 1 _ rfl).1;have m2:Q.cell? ⟨H,2,none⟩=some (.pointer (some ⟨h,0,none⟩)):=(zf L 2 _ rfl).1;have e4:Q.cell? ⟨h,4,none⟩=some (.pointer o):=(zf A 4 _ rfl).1;have g4:Q.frozen? ⟨h,4,none⟩=false:=(zf A 4 _ rfl).2;have e5:Q.cell? ⟨h,5,none⟩=some (.pointer n):=(zf A 5 _ rfl).1;have g5:Q.frozen? ⟨h,5,none⟩=false:=(zf A 5 _ rfl).2;have z0:¬ h=H:=fun e=>by
  have h1:some (Obj.cells _ _ _)=some (Obj.cells _ _ _):=A.symm.trans (by rw [e];exact L);simp only [Option.some.injEq,Obj.cells.injEq] at h1;exact absurd h1.2.1 (by decide)
 have z1:¬ H=h:=fun e=>z0 e.symm;have U:=za hO;have S:=za W;have aa:Hid (zg O [LkN] w Q):=(zg.refl O [LkN] w).map (.inl hO.2.1) D K;have I:=za (And.intro L A);have Z:=za X;unfold zo;clear hO D E J W K L A X;refine callsD_of_wp Tryz.func73 rfl ?_;simp only [Tryz.ntmps73,List.size_toArray,List.length_cons,List.length_nil,Nat.reduceAdd,Nat.reduceSub,Array.replicate_succ,Array.replicate_zero,List.push_toArray,List.append_toArray,List.nil_append,List.cons_append];go_wp2_with fail;go_region_held3 (fun w'=>w'.cell? ⟨H,2,none⟩=some (.pointer (some ⟨h,0,none⟩))) (go_keep) (fail);rename_i ad;clear ad;go_wp2_with fail;go_end0;have V:=qo I.o.2 4 (.pointer (some ⟨h,0,none⟩));have ac:=qo V 5 (.pointer (some ⟨h,0,none⟩));refine⟨rfl,((aa.o.set (.inl U.o.2.2) I.o.2 (by simp) _).set (.inl U.o.2.2) V (by simp) _).drew,⟨R,h,fun _=>h,fun _=>h,⟨U.o.1,U.o.2.1,U.o.2.2,fun x Y=>by simp at Y⟩,?_,⟨ac,fun x Y=>by simp at Y,zks h⟩,?_,fun x Y=>by simp at Y⟩,?_⟩
 ·show((Q.setCell _ _).setCell _ _).heap[H]?=_;rw [heap_setCell_other _ _ _ _ z1,heap_setCell_other _ _ _ _ z1];exact I.o.1
 ·refine S.o.same ?_;show((Q.setCell _ _).setCell _ _).heap[R]?=_;have zh:R≠h:=fun e=>S.o.not I.o.2 (by rw [e]);rw [heap_setCell_other _ _ _ _ zh,heap_setCell_other _ _ _ _ zh]
 ·simp [World.setCell,World.drew,Z.o]
theorem zax (u:FrameMode)(O:Nat→Prop)(A:Nat)(room:Int)(L:LsN)(w:World)(h:zab w O A room L):
  CallsD Tryz.prog 73 #[zo A] u w fun r H w'=>H=u∧(r= .returned (.tuple #[])∧zg O [LkN] w w'∧zab w' O A room []∧w'.heap.size=w.heap.size):=by
 obtain⟨E,D,nx,pv,h⟩:=h;exact zp9 u O A E D room L.ks _ _ w ⟨h.own.1,h.own.2.1,h.own.2.2.1⟩ h.mem h.ring.ends h.map
theorem z6p {w:World}{b o:Nat}{r A D E H I J K:Int}(h:w.rangeAt b o [.int .u8 r,.int .u8 A,.int .u8 D,.int .u8 E,.int .u8 H,.int .u8 I,.int .u8 J,.int .u8 K]):
  w.cell? ⟨b,o,none⟩=some (.int .u8 r)∧w.cell? ⟨b,o+1,none⟩=some (.int .u8 A)∧w.cell? ⟨b,o+2,none⟩=some (.int .u8 D)∧w.cell? ⟨b,o+3,none⟩=some (.int .u8 E)∧w.cell? ⟨b,o+4,none⟩=some (.int .u8 H)∧w.cell? ⟨b,o+5,none⟩=some (.int .u8 I)∧w.cell? ⟨b,o+6,none⟩=some (.int .u8 J)∧w.cell? ⟨b,o+7,none⟩=some (.int .u8 K) :=
 ⟨h 0 _ rfl,h 1 _ rfl,h 2 _ rfl,h 3 _ rfl,h 4 _ rfl,h 5 _ rfl,h 6 _ rfl,h 7 _ rfl⟩
theorem zev (b A m h:Nat)(l:List UInt8)(w:World)(hm:m≤1000000)(V:m+1≤h)(W:l.length=8)(hr:w.rangeAt b (A+m*8) (hv l).toList):
  Calls Tryz.prog 187 #[.slice (some ⟨b,A,none⟩) (m+1) h] w fun r w'=>r= .returned (.tuple #[.slice (some ⟨b,A,none⟩) m h,.agg (hv l)])∧Below w.heap.size w w':=by
 obtain⟨H,I,J,K,L,Q,R,S,E⟩:=zj0 l W;rw [E] at hr;have U:=za E;have D:∀ o,(w.alloc o).rangeAt b (A+m*8) [.int .u8 H,.int .u8 I,.int .u8 J,.int .u8 K,.int .u8 L,.int .u8 Q,.int .u8 R,.int .u8 S]:=fun o=>vy hr (ze w o);obtain⟨X,Y,Z,c3,c4,c5,c6,c7⟩:=z6p (D (.cells #[Value.int IntKind.u8 0,Value.int IntKind.u8 0,Value.int IntKind.u8 0,Value.int IntKind.u8 0,Value.int IntKind.u8 0,Value.int IntKind.u8 0,Value.int IntKind.u8 0,Value.int IntKind.u8 0] 92));have i1:(m:Int)≤(h:Int):=by omega
 have i2:(m:Int) < (m:Int)+1:=by omega
 clear hr D E;go_enter Tryz.func187,Tryz.ntmps187;go_wp2_with fail;go_region;go_wp2;refine bodyPost_ret (v:= .tuple #[.slice (some ⟨b,A,none⟩) m h,.agg #[.int .u8 H,.int .u8 I,.int .u8 J,.int .u8 K,.int .u8 L,.int .u8 Q,.int .u8 R,.int .u8 S]]) (by simp [results,Tryz.results187,go_sem]) rfl ⟨by rw [U.o],?_⟩;exact(ze w _).drew
theorem zbm {P:Program}{A:Func}{p u:Tmp}{r:TypeId}(h:A.results=#[.cell p r,.tmp u])(tmps:Array Value)(w:World)(g:Nat)(t:TypeId)(cs:Array Value)(D:Nat×Nat)(d:TypeDesc)
  (J:tmps.getD p undef= .pointer (some ⟨g,0,none⟩)) (H:w.heap[g]?=some (.cells cs t D))
  (hu:P.underlying r=some d) (E:(match d with | .struct _ | .array _ _=>true | _=>false)=true) (I:(P.info? r).map (·.size)=some cs.size) (x:Value) (K:tmps.getD u undef=x) :
  (results A tmps).run P w= .ok (.tuple #[.agg cs,x]) w:=by
 rw [results_cell_tmp h,J,K];simp [asAddr,run_loadVar_row w g t r cs D d H hu E I]
def Fr (w:World)(h:List UInt8)(r:World):Prop :=
 Below w.heap.size w r∧r.heap[w.heap.size]?=some (.cells (hv h) 92 (0,0))∧r.heap[w.heap.size+1]?=some (.cells #[Value.int IntKind.u8 0,Value.int IntKind.u8 0,Value.int IntKind.u8 0,Value.int IntKind.u8 0,Value.int IntKind.u8 0,Value.int IntKind.u8 0,Value.int IntKind.u8 0,Value.int IntKind.u8 0] 92 (0,0))
theorem Fr.start (w:World)(h:List UInt8):Fr w h ((w.alloc (.cells (hv h) 92)).alloc (.cells #[Value.int IntKind.u8 0,Value.int IntKind.u8 0,Value.int IntKind.u8 0,Value.int IntKind.u8 0,Value.int IntKind.u8 0,Value.int IntKind.u8 0,Value.int IntKind.u8 0,Value.int IntKind.u8 0] 92)):=by
 refine⟨zz _ _ _,zc (heap_alloc_last _ _),?_⟩;rw [show w.heap.size+1=(w.alloc (.cells (hv h) 92)).heap.size by simp];exact heap_alloc_last _ _
theorem Fr.next {w D E:World}{r:List UInt8}(h:Fr w r D)(A:Below D.heap.size D E):Fr w r E :=
 ⟨h.1.trans (A.mono h.1.size),by rw [A.block _ (xk h.2.1)];exact h.2.1,by rw [A.block _ (xk h.2.2)];exact h.2.2⟩
theorem z7m (A:List UInt8)(J:A.length=8)(f:Nat)(i:Int)(v:Value)(D:List (List UInt8))(w:World)(h:Hss w v D):
  Calls Tryz.prog 200 #[.agg (hv A),.int .i64 i,.int .i64 1,v] w fun r w'=>r= .returned (.tuple #[.agg (hv (vq z8 (f+1) A i.toNat 1 D).1),.bool (vq z8 (f+1) A i.toNat 1 D).2])∧Below w.heap.size w w':=by
 rw [znb];obtain⟨a,Q,rfl,-,-,-⟩:=h;have K:(hv A).size=8:=by rw [qm,J]
 have H:=za K;clear K J;have E:=za (Fr.start w A);have I:((D.length:Int)==0)=decide (D.length=0):=by
  rw [Bool.eq_iff_iff];simp
 have L:=za I;clear I;go_enter Tryz.func200,Tryz.ntmps200;go_wp2_with (first
  | (refine wpList_load_row rfl 92 _ rfl w.heap.size rfl 92 _ (0,0) _ E.o.2.1 Tryz.underlying92 rfl (by rw [H.o];kernel_rfl) ?_)
  | (refine wpList_store_row rfl 92 _ _ rfl (w.heap.size+1) (hv A) rfl rfl 92 _ E.o.2.2 (by rw [H.o];kernel_rfl) (by rw [H.o];rfl) (jy _) ?_))
 refine bodyPost_ret (v:= .tuple #[.agg (hv A),.bool ((D.length:Int)==0)]) (zbm Tryz.results200 _ _ (w.heap.size+1) 92 _ (0,0) _ rfl (setRow_heap _ _ _ _ _ _ E.o.2.2) Tryz.underlying92 rfl (by rw [H.o];kernel_rfl) _ rfl) rfl ⟨by rw [L.o],?_⟩;exact below_setRow E.o.1 (Nat.le_succ _) _
theorem z5s (A:List UInt8)(H:A.length=8)(f:Nat)(i n:Nat)(h1:n≠1)(v:Value)(D:List (List UInt8))(w:World)(h0:D.length=0)(h:Hss w v D):
  Calls Tryz.prog 200 #[.agg (hv A),.int .i64 i,.int .i64 n,v] w fun r w'=>r= .returned (.tuple #[.agg (hv (vq z8 (f+1) A i n D).1),.bool (vq z8 (f+1) A i n D).2])∧Below w.heap.size w w':=by
 rw [zpq _ _ _ _ _ _ h1 h0];obtain⟨a,J,rfl,-,-,-⟩:=h;rw [h0];have I:(hv A).size=8:=by rw [qm,H]
 have K:=za I;clear I H;have E:=za (Fr.start w A);have L:((n:Int)==1)=false:=beq_eq_false_iff_ne.2 (by omega);clear h1;go_enter Tryz.func200,Tryz.ntmps200;go_wp2_with (first
  | (refine wpList_store_row rfl 92 _ _ rfl (w.heap.size+1) (hv z8) rfl rfl 92 _ E.o.2.2 (by kernel_rfl) rfl (jy _) ?_))
 refine bodyPost_ret (v:= .tuple #[.agg (hv z8),.bool false]) (zbm Tryz.results200 _ _ (w.heap.size+1) 92 _ (0,0) _ rfl (setRow_heap _ _ _ _ _ _ E.o.2.2) Tryz.underlying92 rfl (by kernel_rfl) _ rfl) rfl ⟨rfl,?_⟩;exact below_setRow E.o.1 (Nat.le_succ _) _
theorem z4z (h:List UInt8)(hl:h.length=8)(f:Nat)(i n:Nat)(h2:2≤n)(hn:n≤9223372036854775807)(_hin:i < n)(al:i < kOf n)(b E m D:Nat)(A:List (List UInt8))(w:World)(hm:A.length=m+1)(ae:m≤1000000)(ak:m+1≤D)(h8:∀ p∈A,p.length=8)
  (hr:w.rangeAt b (E+m*8) (hv (A.getLastD [])).toList) (ht:Hss w (.slice (some ⟨b,E,none⟩) m D) A.dropLast)
  (ih:∀(i n:Int) (v:Value) (A:List (List UInt8)) (w:World),0≤i→i < n→n≤9223372036854775807→A.length < f→A.length≤1000000→Hss w v A→Calls Tryz.prog 200 #[.agg (hv h),.int .i64 i,.int .i64 n,v] w fun r w'=>r= .returned (.tuple #[.agg (hv (vq z8 f h i.toNat n.toNat A).1),.bool (vq z8 f h i.toNat n.toNat A).2])∧Below w.heap.size w w')
  (hf:A.length < f+1) :
  Calls Tryz.prog 200 #[.agg (hv h),.int .i64 i,.int .i64 n,.slice (some ⟨b,E,none⟩) (m+1) D] w fun r w'=>r= .returned (.tuple #[.agg (hv (vq z8 (f+1) h i n A).1),.bool (vq z8 (f+1) h i n A).2])∧Below w.heap.size w w':=by
 rw [zkm _ _ _ _ _ _ (by omega) (by omega) al];obtain⟨k1,k2,k3⟩:=jg n h2;have U:(A.getLastD []).length=8:=by
  rw [(za6 A m hm []).1];exact h8 _ (List.getElem_mem _)
 have ac:A.dropLast.length=m:=by rw [List.length_dropLast,hm];rfl
 have hs:(hv h).size=8:=by rw [qm,hl]
 have Hs:=za hs;have ad:(hv (A.getLastD [])).size=8:=by rw [qm,U]
 have Q:=za ad;have X:=za U;have IH:=za (ih i (kOf n) (.slice (some ⟨b,E,none⟩) m D) A.dropLast);have Hd:=za ac;have HH:=za ht;have HR:=za hr;have Hf:=za hf;have HF:=za (Fr.start w h);have Hz:Hid (z8.length=8):=rfl;have aj:=za hl;have Hm:=za hm;have n1:((n:Int)==1)=false:=beq_eq_false_iff_ne.2 (by omega);have m1:(((m:Int)+1)==0)=false:=beq_eq_false_iff_ne.2 (by omega);clear hs ad U ih ac ht hr hf hl hm h8;have K:=za (zka z8 h rfl aj.o f (i:Int).toNat ((kOf n):Int).toNat A.dropLast);have HE:=za (And.intro (show(i:Int).toNat=i by omega) (show((kOf n):Int).toNat=(kOf n) by omega));rw [HE.o.1,HE.o.2] at IH K;generalize hR:vq z8 f h i (kOf n) A.dropLast=R at *
 have ao:=za hR;clear hR;obtain⟨Y,R2⟩:=R;generalize A.getLastD []=L at *
 have af:(hv Y).size=8:=by rw [qm];exact K.o
 have S:=za af;clear af;go_enter Tryz.func200,Tryz.ntmps200;go_wp2_with fail;refine(zev b E m D L _ ae ak X.o (by exact vy HR.o HF.o.1)).mono ?_;rintro e V ⟨rfl,Z⟩;have ag:=za (HF.o.next Z);clear Z;go_wp2_with (refine wpList_store_row rfl 92 _ _ rfl V.heap.size (hv L) rfl rfl 92 _ (heap_alloc_last _ _) (by rw [Q.o];kernel_rfl) (by rw [Q.o];rfl) (jy _) ?_);rw [World.setRow_alloc_new];refine(zd0 n _ h2 hn).mono ?_;rintro e w2 ⟨rfl,an⟩;subst an;have I:=za (ag.o.next (ze V (.cells (hv L) 92)));have ap:(i:Int) < (kOf n:Int):=by omega
 go_wp2_with (refine wpList_load_row rfl 92 _ rfl w.heap.size rfl 92 _ (0,0) _ I.o.2.1 Tryz.underlying92 rfl (by rw [Hs.o];kernel_rfl) ?_);refine(IH.out _ (by omega) (by omega) (by omega) (by rw [Hd.o];have:=Hf.o;rw [Hm.o] at this;omega) (by rw [Hd.o];exact ae) (HH.o.below I.o.1)).mono ?_;rintro e W ⟨rfl,H⟩;have ai:Hid (W.heap[V.heap.size]?=some (.cells (hv L) 92 (0,0))):=by
  show W.heap[V.heap.size]?=_;rw [H.block _ (by simp)];exact heap_alloc_last _ _
 have ah:=za (I.o.next H);have am:Hid (V.heap.size≠W.heap.size):=by
  have:=H.size;simp only [zmm] at this;show V.heap.size≠W.heap.size;omega
 clear H;go_wp2_with (first
  | (refine wpList_store_row rfl 92 _ _ rfl W.heap.size (hv Y) rfl rfl 92 _ (heap_alloc_last _ _) (by rw [S.o];kernel_rfl) (by rw [S.o];rfl) (jy _) ?_)
  | (refine wpList_load_row rfl 92 _ rfl W.heap.size rfl 92 _ (0,0) _ (setRow_heap _ _ _ _ _ _ (heap_alloc_last _ _)) Tryz.underlying92 rfl (by rw [S.o];kernel_rfl) ?_)
  | (refine wpList_load_row rfl 92 _ rfl V.heap.size rfl 92 _ (0,0) _ (by rw [setRow_other _ _ _ _ am.out];exact zc ai.o) Tryz.underlying92 rfl (by rw [Q.o];kernel_rfl) ?_))
 rw [World.setRow_alloc_new];refine(zay Y L _ K.o X.o).mono ?_;rintro e w4 ⟨rfl,aa⟩;have J:=za ((ah.o.next (ze W _)).next aa);clear aa;go_wp2_with (refine wpList_store_row rfl 92 _ _ rfl (w.heap.size+1) (hv (yz Y L)) rfl rfl 92 _ J.o.2.2 (by kernel_rfl) rfl (jy _) ?_);refine bodyPost_ret (v:= .tuple #[.agg (hv (yz Y L)),.bool R2]) (zbm Tryz.results200 _ _ (w.heap.size+1) 92 _ (0,0) _ rfl (setRow_heap _ _ _ _ _ _ J.o.2.2) Tryz.underlying92 rfl (by kernel_rfl) _ rfl) rfl ⟨rfl,?_⟩;exact below_setRow J.o.1 (Nat.le_succ _) _
theorem z2n (h:List UInt8)(hl:h.length=8)(f:Nat)(i n:Nat)(h2:2≤n)(hn:n≤9223372036854775807)(_hin:i < n)(al:¬ i < kOf n)(b E m D:Nat)(A:List (List UInt8))(w:World)(hm:A.length=m+1)(ae:m≤1000000)(ak:m+1≤D)(h8:∀ p∈A,p.length=8)
  (hr:w.rangeAt b (E+m*8) (hv (A.getLastD [])).toList) (ht:Hss w (.slice (some ⟨b,E,none⟩) m D) A.dropLast)
  (ih:∀(i n:Int) (v:Value) (A:List (List UInt8)) (w:World),0≤i→i < n→n≤9223372036854775807→A.length < f→A.length≤1000000→Hss w v A→Calls Tryz.prog 200 #[.agg (hv h),.int .i64 i,.int .i64 n,v] w fun r w'=>r= .returned (.tuple #[.agg (hv (vq z8 f h i.toNat n.toNat A).1),.bool (vq z8 f h i.toNat n.toNat A).2])∧Below w.heap.size w w')
  (hf:A.length < f+1) :
  Calls Tryz.prog 200 #[.agg (hv h),.int .i64 i,.int .i64 n,.slice (some ⟨b,E,none⟩) (m+1) D] w fun r w'=>r= .returned (.tuple #[.agg (hv (vq z8 (f+1) h i n A).1),.bool (vq z8 (f+1) h i n A).2])∧Below w.heap.size w w':=by
 rw [zit _ _ _ _ _ _ (by omega) (by omega) al];obtain⟨k1,k2,k3⟩:=jg n h2;have U:(A.getLastD []).length=8:=by
  rw [(za6 A m hm []).1];exact h8 _ (List.getElem_mem _)
 have ac:A.dropLast.length=m:=by rw [List.length_dropLast,hm];rfl
 have hs:(hv h).size=8:=by rw [qm,hl]
 have Hs:=za hs;have ad:(hv (A.getLastD [])).size=8:=by rw [qm,U]
 have Q:=za ad;have X:=za U;have IH:=za (ih ((i:Int) - (kOf n:Int)) ((n:Int) - (kOf n:Int)) (.slice (some ⟨b,E,none⟩) m D) A.dropLast);have Hd:=za ac;have HH:=za ht;have HR:=za hr;have Hf:=za hf;have HF:=za (Fr.start w h);have Hz:Hid (z8.length=8):=rfl;have aj:=za hl;have Hm:=za hm;have n1:((n:Int)==1)=false:=beq_eq_false_iff_ne.2 (by omega);have m1:(((m:Int)+1)==0)=false:=beq_eq_false_iff_ne.2 (by omega);clear hs ad U ih ac ht hr hf hl hm h8;have K:=za (zka z8 h rfl aj.o f (((i:Int) - (kOf n:Int)):Int).toNat (((n:Int) - (kOf n:Int)):Int).toNat A.dropLast);have HE:=za (And.intro (show((i:Int) - (kOf n:Int)).toNat=i - kOf n by omega) (show(((n:Int) - (kOf n:Int)):Int).toNat=(n - kOf n) by omega));rw [HE.o.1,HE.o.2] at IH K;generalize hR:vq z8 f h (i - kOf n) (n - kOf n) A.dropLast=R at *
 have ao:=za hR;clear hR;obtain⟨Y,R2⟩:=R;generalize A.getLastD []=L at *
 have af:(hv Y).size=8:=by rw [qm];exact K.o
 have S:=za af;clear af;go_enter Tryz.func200,Tryz.ntmps200;go_wp2_with fail;refine(zev b E m D L _ ae ak X.o (by exact vy HR.o HF.o.1)).mono ?_;rintro e V ⟨rfl,Z⟩;have ag:=za (HF.o.next Z);clear Z;go_wp2_with (refine wpList_store_row rfl 92 _ _ rfl V.heap.size (hv L) rfl rfl 92 _ (heap_alloc_last _ _) (by rw [Q.o];kernel_rfl) (by rw [Q.o];rfl) (jy _) ?_);rw [World.setRow_alloc_new];refine(zd0 n _ h2 hn).mono ?_;rintro e w2 ⟨rfl,an⟩;subst an;have I:=za (ag.o.next (ze V (.cells (hv L) 92)));have ap:¬(i:Int) < (kOf n:Int):=by omega
 go_wp2_with (refine wpList_load_row rfl 92 _ rfl w.heap.size rfl 92 _ (0,0) _ I.o.2.1 Tryz.underlying92 rfl (by rw [Hs.o];kernel_rfl) ?_);refine(IH.out _ (by omega) (by omega) (by omega) (by rw [Hd.o];have:=Hf.o;rw [Hm.o] at this;omega) (by rw [Hd.o];exact ae) (HH.o.below I.o.1)).mono ?_;rintro e W ⟨rfl,H⟩;have ai:Hid (W.heap[V.heap.size]?=some (.cells (hv L) 92 (0,0))):=by
  show W.heap[V.heap.size]?=_;rw [H.block _ (by simp)];exact heap_alloc_last _ _
 have ah:=za (I.o.next H);have am:Hid (V.heap.size≠W.heap.size):=by
  have:=H.size;simp only [zmm] at this;show V.heap.size≠W.heap.size;omega
 clear H;go_wp2_with (first
  | (refine wpList_store_row rfl 92 _ _ rfl W.heap.size (hv Y) rfl rfl 92 _ (heap_alloc_last _ _) (by rw [S.o];kernel_rfl) (by rw [S.o];rfl) (jy _) ?_)
  | (refine wpList_load_row rfl 92 _ rfl W.heap.size rfl 92 _ (0,0) _ (setRow_heap _ _ _ _ _ _ (heap_alloc_last _ _)) Tryz.underlying92 rfl (by rw [S.o];kernel_rfl) ?_)
  | (refine wpList_load_row rfl 92 _ rfl V.heap.size rfl 92 _ (0,0) _ (by rw [setRow_other _ _ _ _ am.out];exact zc ai.o) Tryz.underlying92 rfl (by rw [Q.o];kernel_rfl) ?_))
 rw [World.setRow_alloc_new];refine(zay L Y _ X.o K.o).mono ?_;rintro e w4 ⟨rfl,aa⟩;have J:=za ((ah.o.next (ze W _)).next aa);clear aa;go_wp2_with (refine wpList_store_row rfl 92 _ _ rfl (w.heap.size+1) (hv (yz L Y)) rfl rfl 92 _ J.o.2.2 (by kernel_rfl) rfl (jy _) ?_);refine bodyPost_ret (v:= .tuple #[.agg (hv (yz L Y)),.bool R2]) (zbm Tryz.results200 _ _ (w.heap.size+1) 92 _ (0,0) _ rfl (setRow_heap _ _ _ _ _ _ J.o.2.2) Tryz.underlying92 rfl (by kernel_rfl) _ rfl) rfl ⟨rfl,?_⟩;exact below_setRow J.o.1 (Nat.le_succ _) _
theorem z64 (D:List UInt8)(L:D.length=8)(f:Nat):∀(i n:Int) (v:Value) (A:List (List UInt8)) (w:World),0≤i→i < n→n≤9223372036854775807→A.length < f→A.length≤1000000→Hss w v A →
  Calls Tryz.prog 200 #[.agg (hv D),.int .i64 i,.int .i64 n,v] w fun r w'=>r= .returned (.tuple #[.agg (hv (vq z8 f D i.toNat n.toNat A).1),.bool (vq z8 f D i.toNat n.toNat A).2])∧Below w.heap.size w w':=by
 induction f with
 | zero=>exact fun i n v A w _ _ _ h=>absurd h (Nat.not_lt_zero _)
 | succ f ih =>
  intro i n v A w h0 Z hn U V h;obtain⟨I,rfl⟩:=Int.eq_ofNat_of_zero_le h0;obtain⟨N,rfl⟩:=Int.eq_ofNat_of_zero_le (show 0≤n by omega);rw [Int.toNat_natCast,Int.toNat_natCast];by_cases h1:N=1
  ·subst h1;have:=z7m D L f (I:Int) v A w h;rwa [Int.toNat_natCast] at this
  by_cases X:A.length=0
  ·exact z5s D L f I N h1 v A w X h
  obtain⟨m,hm⟩:∃ m,A.length=m+1:=⟨A.length - 1,by omega⟩
  have h':=h;obtain⟨a,H,rfl,Y,Q,R⟩:=h;rcases R with R | ⟨b,E,rfl,S⟩
  ·exact absurd (by simp [R]) X
  have hr:w.rangeAt b (E+m*8) (hv (A.getLastD [])).toList:=by
   rw [(za6 A m hm []).1];exact S m (by omega)
  have W:Hss w (.slice (some ⟨b,E,none⟩) m H) A.dropLast:=by
   rw [(za6 A m hm []).2];have J:(A.take m).length=m:=by simp;omega
   refine⟨_,H,by rw [J],by rw [J];omega,fun p V=>Q p (List.mem_of_mem_take V),.inr ⟨b,E,rfl,fun j hj=>?_⟩⟩;rw [List.getElem_take];exact S j (by rw [J] at hj;omega)
  rw [hm];by_cases K:I < kOf N
  ·exact z4z D L f I N (by omega) (by omega) (by omega) K b E m H A w hm (by omega) (by omega) Q hr W ih U
  ·exact z2n D L f I N (by omega) (by omega) (by omega) K b E m H A w hm (by omega) (by omega) Q hr W ih U
theorem zqy {w:World}{g:Nat}{t:TypeId}{h r A D E H I J:Int}(K:w.heap[g]?=some (.cells #[.int .u8 h,.int .u8 r,.int .u8 A,.int .u8 D,.int .u8 E,.int .u8 H,.int .u8 I,.int .u8 J] t (0,0))):
  w.cell? ⟨g,0,none⟩=some (.int .u8 h)∧w.cell? ⟨g,1,none⟩=some (.int .u8 r)∧w.cell? ⟨g,2,none⟩=some (.int .u8 A)∧w.cell? ⟨g,3,none⟩=some (.int .u8 D)∧w.cell? ⟨g,4,none⟩=some (.int .u8 E)∧w.cell? ⟨g,5,none⟩=some (.int .u8 H)∧w.cell? ⟨g,6,none⟩=some (.int .u8 I)∧w.cell? ⟨g,7,none⟩=some (.int .u8 J):=by
 refine⟨?_,?_,?_,?_,?_,?_,?_,?_⟩<;>(rw [cell_of_row _ _ _ _ _ _ K];rfl)
theorem z7o (A root:List UInt8)(i n:Int)(v:Value)(L:List (List UInt8))(w:World)(D:i < 0∨n≤i)(I:A.length=8)(hr:root.length=8)(h:Hss w v L):
  Calls Tryz.prog 153 #[.agg (hv A),.int .i64 i,.int .i64 n,v,.agg (hv root)] w fun r w'=>r= .returned (.bool false)∧Below w.heap.size w w':=by
 obtain⟨a,E,rfl,-,-,-⟩:=h;have Q:(hv A).size=8:=by rw [qm,I]
 have K:(hv root).size=8:=by rw [qm,hr]
 by_cases J:i < 0
 ·go_enter Tryz.func153,Tryz.ntmps153;go_wp2;go_ret;exact⟨rfl,zz _ _ _⟩
 ·have H:n≤i:=by omega
  clear D;go_enter Tryz.func153,Tryz.ntmps153;go_wp2;go_ret;exact⟨rfl,zz _ _ _⟩
theorem z9c (f:Nat)(A root:List UInt8)(i n:Int)(X:0≤i)(Y:i < n)(hn:n≤9223372036854775807)(v:Value)(E:List (List UInt8))(w:World)(hf:E.length < f)(hp:E.length≤1000000)(S:A.length=8)(hr:root.length=8)(h:Hss w v E):
  Calls Tryz.prog 153 #[.agg (hv A),.int .i64 i,.int .i64 n,v,.agg (hv root)] w fun r w'=>r= .returned (.bool ((vq z8 f A i.toNat n.toNat E).2&&eqH (vq z8 f A i.toNat n.toNat E).1 root))∧Below w.heap.size w w':=by
 have H:=za h;obtain⟨a,V,rfl,-,-,-⟩:=h;have hs:(hv A).size=8:=by rw [qm,S]
 have Hs:=za hs;have HC:=za (z64 A S f i n (.slice a E.length V) E);have K:=za (zka z8 A rfl S f i.toNat n.toNat E);obtain⟨y0,y1,y2,y3,y4,y5,y6,y7,Z⟩:=zj0 root hr;have Hy:=za Z;generalize hR:vq z8 f A i.toNat n.toNat E=R at *
 clear hR;obtain⟨U,R2⟩:=R;obtain⟨x0,x1,x2,x3,x4,x5,x6,x7,hx⟩:=zj0 U K.o;have Hx:=za hx;have ad:¬ i < 0:=by omega
 have ac:¬ n≤i:=by omega
 rw [Z];clear hx hs S Z;have ae:(hv A).size=8:=Hs.o;go_enter Tryz.func153,Tryz.ntmps153;go_wp2_with (refine wpList_load_row rfl 92 _ rfl w.heap.size rfl 92 _ (0,0) _ (by exact zc (heap_alloc_last _ _)) Tryz.underlying92 rfl (by rw [Hs.o];kernel_rfl) ?_);refine(HC.o _ X Y hn hf hp (H.o.below (zz _ _ _))).mono ?_;rintro e J ⟨Q,I⟩;rw [Hx.o] at Q;subst Q;have D:Hid (Below w.heap.size w J):=(zz _ _ _).trans (I.mono (by simp;omega));have W:J.heap[w.heap.size+1]?=some (.cells #[.int .u8 y0,.int .u8 y1,.int .u8 y2,.int .u8 y3,.int .u8 y4,.int .u8 y5,.int .u8 y6,.int .u8 y7] 92 (0,0)):=by
  rw [I.block _ (by simp),show w.heap.size+1=(w.alloc (.cells (hv A) 92)).heap.size by simp];exact heap_alloc_last _ _
 have hz:w.heap.size+1 < J.heap.size:=xk W;have L:∀ o,(J.alloc o).heap[w.heap.size+1]?=some (.cells #[.int .u8 y0,.int .u8 y1,.int .u8 y2,.int .u8 y3,.int .u8 y4,.int .u8 y5,.int .u8 y6,.int .u8 y7] 92 (0,0)):=fun o=>zc W;obtain⟨c0,c1,c2,c3,c4,c5,c6,c7⟩:=zqy (L (.cells #[.int .u8 x0,.int .u8 x1,.int .u8 x2,.int .u8 x3,.int .u8 x4,.int .u8 x5,.int .u8 x6,.int .u8 x7] 92));clear W L I;cases R2 with
 | false =>
  go_wp2_with fail;go_ret;exact⟨rfl,D.o.trans ((ze J _).mono D.o.size)⟩
 | true =>
  have aa:∀ w,(binOp .eql 92 (.agg #[.int .u8 x0,.int .u8 x1,.int .u8 x2,.int .u8 x3,.int .u8 x4,.int .u8 x5,.int .u8 x6,.int .u8 x7]) (.agg #[.int .u8 y0,.int .u8 y1,.int .u8 y2,.int .u8 y3,.int .u8 y4,.int .u8 y5,.int .u8 y6,.int .u8 y7])).run Tryz.prog w= .ok (.bool (eqH U root)) w:=fun w=>by
   rw [← Hx.o,← Hy.o];exact zhr U root K.o hr w
  go_wp2_with fail;go_ret;exact⟨rfl,D.o.trans ((ze J _).mono D.o.size)⟩
def zro (f:Nat)(h:List UInt8)(i n:Int)(r:List (List UInt8))(root:List UInt8):Bool :=
 if i < 0∨n≤i then false else (vq z8 f h i.toNat n.toNat r).2&&eqH (vq z8 f h i.toNat n.toNat r).1 root
theorem z3b {f:Nat}{r root:List UInt8}{i n:Int}{A:List (List UInt8)}(h:i < 0∨n≤i):zro f r i n A root=false:=by
 rw [zro,if_pos h]
theorem zyp {f:Nat}{r root:List UInt8}{i n:Int}{A:List (List UInt8)}(h:¬(i < 0∨n≤i)):zro f r i n A root=((vq z8 f r i.toNat n.toNat A).2&&eqH (vq z8 f r i.toNat n.toNat A).1 root):=by
 rw [zro,if_neg h]
theorem z7b (f:Nat)(A root:List UInt8)(i n:Int)(J:n≤9223372036854775807)(v:Value)(E:List (List UInt8))(w:World)(I:E.length < f)(K:E.length≤1000000)(H:A.length=8)(hr:root.length=8)(h:Hss w v E):
  Calls Tryz.prog 153 #[.agg (hv A),.int .i64 i,.int .i64 n,v,.agg (hv root)] w fun r w'=>r= .returned (.bool (zro f A i n E root))∧Below w.heap.size w w':=by
 by_cases D:i < 0∨n≤i
 ·rw [z3b D];exact z7o A root i n v E w D H hr h
 ·rw [zyp D];exact z9c f A root i n (by omega) (by omega) J v E w I K H hr h
section
attribute [local go_sem ↓] yv yl yy yo yj ym yx yk
theorem CS.forget {H w w':World}{O A E:Nat→Prop}{cb J I K nm:Nat}{C:Array Value}{d:Dk}{room:Int}{L:Mm}{m:Ms Nt}{k:Nat}(h:CS H w O A E cb J I K nm C d room L m k)(r:zg A [LkN] w w')(hm:zab w' A nm zbh []):CS H w' O A E cb J I K nm C d room L { m with needed:=[] } k :=
 ⟨h.base.trans (r.below (fun b D=>h.own b (.inr D)) h.base.size),h.own,h.apart,fun b D=>Nat.lt_of_lt_of_le (h.lt b D) r.size,h.disk.stay r (by decide) (by decide),h.net.turn r (by decide) (by decide) (by decide),h.st,h.few,r.keep h.cli (by decide),h.cells,h.prv.stay r (fun b D e=>h.away b D (.inr e)) (by decide) (fun _ h=>h),h.away,⟨[],hm,.nil,by simp⟩,by have:=h.short;simp only [List.length_nil];omega⟩
theorem CS.mem {D w:World}{O A r:Nat→Prop}{cb H E I nm:Nat}{C:Array Value}{d:Dk}{room:Int}{J:Mm}{m:Ms Nt}{k:Nat}(h:CS D w O A r cb H E I nm C d room J m k):∃ L,zab w A nm zbh L:=by
 obtain⟨L,hm,-⟩:=h.nee;exact⟨L,hm⟩
theorem z0t (w:World):Calls Tryz.prog 149 #[.slice none 0 0] w fun r w'=>r= .returned (.slice none 0 0)∧w'=w:=by
 have q:∀(w:World) (a:Option Addr) (n c h c':Nat),(binOp .eql 100 (.slice a n c) (.slice none h c')).run Tryz.prog w= .ok (.bool a.isNone) w:=fun w a n c h c'=>Lib.run_eql_slice_nil w _ _ a n c h c' Tryz.underlying100;go_enter Tryz.func149,Tryz.ntmps149;go_wp2_with fail;go_ret;exact⟨rfl,rfl⟩
def z8y (B:Nat)(w:World)(v:Value)(l:List UInt8):Prop:=(v= .slice none 0 0∧l=[])∨OB w B v l
theorem zz4 (v:Value)(l:List UInt8)(w:World)(h:zsz w v l)(L:l.length≤1000000):Calls Tryz.prog 149 #[v] w fun r w'=>∃ x,r= .returned x∧z8y w.heap.size w' x l∧Below w.heap.size w w':=by
 rcases h with ⟨rfl,rfl⟩ | ⟨g,A,C,S,rfl,I,J,H⟩
 ·refine(z0t w).mono ?_;rintro r w' ⟨rfl,rfl⟩;exact⟨_,rfl,.inl ⟨rfl,rfl⟩,Below.refl _ _⟩
 ·refine(zfa ⟨g,0,none⟩ l.length A l w rfl L (fun j u hu=>?_)).mono ?_
  ·rw [List.getElem?_map] at hu;obtain⟨y,R,rfl⟩:=Option.map_eq_some_iff.1 hu;obtain⟨K,D⟩:=List.getElem?_eq_some_iff.1 R;have:=H j K;rw [Addr.add_mid,Nat.zero_add];rw [← D];simp [World.cell?,J,this]
  ·rintro r w' ⟨x,rfl,Q,E⟩;exact⟨x,rfl,.inr Q,E⟩
def zav (h:List UInt8)(i n:Nat)(r:List (List UInt8))(root:List UInt8):Bool:=zro 1001 h i n r root
def zme (h:Nat→Addr)(B:Nat)(w':World)(o:Sum Er (List UInt8×List (List UInt8)))(r:Ending):Prop :=
 (∃ e A x v,o= .inr (e,A)∧z8y B w' x e∧zbl B w' v A∧(∀ p∈A,p.length=8)∧r= .returned (.tuple #[x,v,.nilIface])) ∨
 (∃ p g,o= .inl (.tile p)∧w'.heap[g]?=some (.cells #[txv p,j4 h 5] 141 (0,0))∧r= .returned (.tuple #[.slice none 0 0,.slice none 0 0,qq g])) ∨
 (o= .inl .proof∧r= .returned (.tuple #[.slice none 0 0,.slice none 0 0,j4 h 4]))
abbrev clT:List Nat:=[76,3,LkN,zt,LkP]
end
end Go.Proofs.YtndkblnpbjffhaaGreatDoor
