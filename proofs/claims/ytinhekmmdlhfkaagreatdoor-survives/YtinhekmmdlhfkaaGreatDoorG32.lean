import Derived.Test.YtinhekmmdlhfkaaGreatDoorG26
import Derived.Defers
import Derived.Deep.RegionHeld3
import Derived.Test.YtinhekmmdlhfkaaGreatDoorG04
import Derived.Test.YtinhekmmdlhfkaaGreatDoorG06
import Derived.Test.YtinhekmmdlhfkaaGreatDoorG19
namespace Go.Proofs.YtinhekmmdlhfkaaGreatDoor
section
set_option maxHeartbeats 4000000
open Go.RowKit
set_option maxRecDepth 100000
theorem zqo (u:FrameMode)(O:Nat→Prop)(mb hb eb:Nat)(room:Int)(l:Ks)(o n:Option Addr)(w:World)(hO:O mb∧O hb∧O eb)(hmem:w.heap[mb]?=some (.cells #[.int .i64 room,.map (some hb),zt eb] MeN (0,0)))
  (hend:w.heap[eb]?=some (.cells #[.int .i64 0,.int .i64 0,.int .i64 0,.pointer none,.pointer o,.pointer n] LkN (0,0))) (hmap:jc w hb l) :
  CallsD Tryz.prog 88 #[zt mb] u w fun r u' w'=>u'=u∧(r= .returned (.tuple #[])∧zf O [LkN] w w'∧vt w' O mb room []∧w'.heap.size=w.heap.size):=by
 obtain⟨w1,hrun,hmap1,hgrow⟩:=hmap.clear Tryz.underlying191 0
 have hsz:w1.heap.size=w.heap.size:=by
  obtain⟨es,c,hm⟩:=hmap.isMap
  have e:=hrun
  simp [Builtin.clear_,run_underlying Tryz.underlying191,MapKept.run_getObj_map hm,MapKept.run_setObj_map _ hm,Result.andThen] at e
  rw [← e];simp
 have hmem1:=(hgrow.block mb (zb hmem) (hmap.not hmem)).trans hmem
 have hend1:=(hgrow.block eb (zb hend) (hmap.not hend)).trans hend
 have m1:w.cell? ⟨mb,1,none⟩=some (.map (some hb)):=(zg hmem 1 _ rfl).1
 have m2:w1.cell? ⟨mb,2,none⟩=some (.pointer (some ⟨eb,0,none⟩)):=(zg hmem1 2 _ rfl).1
 have e4:w1.cell? ⟨eb,4,none⟩=some (.pointer o):=(zg hend1 4 _ rfl).1
 have g4:w1.frozen? ⟨eb,4,none⟩=false:=(zg hend1 4 _ rfl).2
 have e5:w1.cell? ⟨eb,5,none⟩=some (.pointer n):=(zg hend1 5 _ rfl).1
 have g5:w1.frozen? ⟨eb,5,none⟩=false:=(zg hend1 5 _ rfl).2
 have z0:¬ eb=mb:=fun e=>by
  have h1:some (Obj.cells _ _ _)=some (Obj.cells _ _ _):=hend1.symm.trans (by rw [e];exact hmem1)
  simp only [Option.some.injEq,Obj.cells.injEq] at h1
  exact absurd h1.2.1 (by decide)
 have z1:¬ mb=eb:=fun e=>z0 e.symm
 have HO:=za hO
 have HM1:=za hmap1
 have HT1:Hid (zf O [LkN] w w1):=(zf.refl O [LkN] w).map (.inl hO.2.1) hmap hgrow
 have HE1:=za (And.intro hmem1 hend1)
 have HSZ:=za hsz
 unfold zt
 clear hO hmap hmem hend hmap1 hgrow hmem1 hend1 hsz
 refine callsD_of_wp Tryz.func88 rfl ?_
 simp only [Tryz.ntmps88,List.size_toArray,List.length_cons,List.length_nil,Nat.reduceAdd,Nat.reduceSub,Array.replicate_succ,Array.replicate_zero,List.push_toArray,List.append_toArray,List.nil_append,List.cons_append]
 go_wp2_with fail
 go_region_held3 (fun w'=>w'.cell? ⟨mb,2,none⟩=some (.pointer (some ⟨eb,0,none⟩))) (go_keep) (fail)
 rename_i hheld
 clear hheld
 go_wp2_with fail
 go_end0
 have hb4:=qj HE1.o.2 4 (.pointer (some ⟨eb,0,none⟩))
 have hb5:=qj hb4 5 (.pointer (some ⟨eb,0,none⟩))
 refine⟨rfl,((HT1.o.set (.inl HO.o.2.2) HE1.o.2 (by simp) _).set (.inl HO.o.2.2) hb4 (by simp) _).drew,⟨hb,eb,fun _=>eb,fun _=>eb,⟨HO.o.1,HO.o.2.1,HO.o.2.2,fun x hx=>by simp at hx⟩,?_,⟨hb5,fun x hx=>by simp at hx,zkj eb⟩,?_,fun x hx=>by simp at hx⟩,?_⟩
 ·show((w1.setCell _ _).setCell _ _).heap[mb]?=_
  rw [heap_setCell_other _ _ _ _ z1,heap_setCell_other _ _ _ _ z1];exact HE1.o.1
 ·refine HM1.o.same ?_
  show((w1.setCell _ _).setCell _ _).heap[hb]?=_
  have zh:hb≠eb:=fun e=>HM1.o.not HE1.o.2 (by rw [e])
  rw [heap_setCell_other _ _ _ _ zh,heap_setCell_other _ _ _ _ zh]
 ·simp [World.setCell,World.drew,HSZ.o]
theorem za0 (u:FrameMode)(O:Nat→Prop)(mb:Nat)(room:Int)(L:LsN)(w:World)(h:vt w O mb room L):
  CallsD Tryz.prog 88 #[zt mb] u w fun r u' w'=>u'=u∧(r= .returned (.tuple #[])∧zf O [LkN] w w'∧vt w' O mb room []∧w'.heap.size=w.heap.size):=by
 obtain⟨hb,eb,nx,pv,h⟩:=h
 exact zqo u O mb hb eb room L.ks _ _ w ⟨h.own.1,h.own.2.1,h.own.2.2.1⟩ h.mem h.ring.ends h.map
end
section
set_option maxHeartbeats 1000000
open Go.RowKit
set_option maxRecDepth 100000
theorem z3m {w:World}{b o:Nat}{x0 x1 x2 x3 x4 x5 x6 x7:Int}(h:w.rangeAt b o [.int .u8 x0,.int .u8 x1,.int .u8 x2,.int .u8 x3,.int .u8 x4,.int .u8 x5,.int .u8 x6,.int .u8 x7]):
  w.cell? ⟨b,o,none⟩=some (.int .u8 x0)∧w.cell? ⟨b,o+1,none⟩=some (.int .u8 x1)∧w.cell? ⟨b,o+2,none⟩=some (.int .u8 x2)∧w.cell? ⟨b,o+3,none⟩=some (.int .u8 x3)∧w.cell? ⟨b,o+4,none⟩=some (.int .u8 x4)∧w.cell? ⟨b,o+5,none⟩=some (.int .u8 x5)∧w.cell? ⟨b,o+6,none⟩=some (.int .u8 x6)∧w.cell? ⟨b,o+7,none⟩=some (.int .u8 x7) :=
 ⟨h 0 _ rfl,h 1 _ rfl,h 2 _ rfl,h 3 _ rfl,h 4 _ rfl,h 5 _ rfl,h 6 _ rfl,h 7 _ rfl⟩
theorem zd5 (b off m cap:Nat)(l:List UInt8)(w:World)(hm:m≤1000000)(hcap:m+1≤cap)(hl:l.length=8)(hr:w.rangeAt b (off+m*8) (hv l).toList):
  Calls Tryz.prog 155 #[.slice (some ⟨b,off,none⟩) (m+1) cap] w fun r w'=>r= .returned (.tuple #[.slice (some ⟨b,off,none⟩) m cap,.agg (hv l)])∧Below w.heap.size w w':=by
 obtain⟨x0,x1,x2,x3,x4,x5,x6,x7,hx⟩:=zkb l hl
 rw [hx] at hr
 have HX:=za hx
 have hr':∀ o,(w.alloc o).rangeAt b (off+m*8) [.int .u8 x0,.int .u8 x1,.int .u8 x2,.int .u8 x3,.int .u8 x4,.int .u8 x5,.int .u8 x6,.int .u8 x7]:=fun o=>vr hr (ze w o)
 obtain⟨c0,c1,c2,c3,c4,c5,c6,c7⟩:=z3m (hr' (.cells #[Value.int IntKind.u8 0,Value.int IntKind.u8 0,Value.int IntKind.u8 0,Value.int IntKind.u8 0,Value.int IntKind.u8 0,Value.int IntKind.u8 0,Value.int IntKind.u8 0,Value.int IntKind.u8 0] 91))
 have i1:(m:Int)≤(cap:Int):=by omega
 have i2:(m:Int) < (m:Int)+1:=by omega
 clear hr hr' hx
 go_enter Tryz.func155,Tryz.ntmps155
 go_wp2_with fail
 go_region
 go_wp2
 refine bodyPost_ret (v:= .tuple #[.slice (some ⟨b,off,none⟩) m cap,.agg #[.int .u8 x0,.int .u8 x1,.int .u8 x2,.int .u8 x3,.int .u8 x4,.int .u8 x5,.int .u8 x6,.int .u8 x7]]) (by simp [results,Tryz.results155,go_sem]) rfl ⟨by rw [HX.o],?_⟩
 exact(ze w _).drew
end
section
set_option maxHeartbeats 2000000
open Go.RowKit
set_option maxRecDepth 100000
theorem zbj {P:Program}{fn:Func}{p u:Tmp}{ty:TypeId}(h:fn.results=#[.cell p ty,.tmp u])(tmps:Array Value)(w:World)(g:Nat)(t:TypeId)(cs:Array Value)(fr:Nat×Nat)(d:TypeDesc)
  (hp:tmps.getD p undef= .pointer (some ⟨g,0,none⟩)) (hg:w.heap[g]?=some (.cells cs t fr))
  (hu:P.underlying ty=some d) (hd:(match d with | .struct _ | .array _ _=>true | _=>false)=true) (hi:(P.info? ty).map (·.size)=some cs.size) (x:Value) (hx:tmps.getD u undef=x) :
  (results fn tmps).run P w= .ok (.tuple #[.agg cs,x]) w:=by
 rw [_root_.Go.results_cell_tmp h,hp,hx]
 simp [asAddr,run_loadVar_row w g t ty cs fr d hg hu hd hi]
def Fr (w:World)(leaf:List UInt8)(wz:World):Prop :=
 Below w.heap.size w wz∧wz.heap[w.heap.size]?=some (.cells (hv leaf) 91 (0,0))∧wz.heap[w.heap.size+1]?=some (.cells #[Value.int IntKind.u8 0,Value.int IntKind.u8 0,Value.int IntKind.u8 0,Value.int IntKind.u8 0,Value.int IntKind.u8 0,Value.int IntKind.u8 0,Value.int IntKind.u8 0,Value.int IntKind.u8 0] 91 (0,0))
theorem Fr.start (w:World)(leaf:List UInt8):Fr w leaf ((w.alloc (.cells (hv leaf) 91)).alloc (.cells #[Value.int IntKind.u8 0,Value.int IntKind.u8 0,Value.int IntKind.u8 0,Value.int IntKind.u8 0,Value.int IntKind.u8 0,Value.int IntKind.u8 0,Value.int IntKind.u8 0,Value.int IntKind.u8 0] 91)):=by
 refine⟨zw _ _ _,zc (heap_alloc_last _ _),?_⟩
 rw [show w.heap.size+1=(w.alloc (.cells (hv leaf) 91)).heap.size by simp]
 exact heap_alloc_last _ _
theorem Fr.next {w wz wy:World}{leaf:List UInt8}(h:Fr w leaf wz)(hb:Below wz.heap.size wz wy):Fr w leaf wy :=
 ⟨h.1.trans (hb.mono h.1.size),by rw [hb.block _ (xe h.2.1)];exact h.2.1,by rw [hb.block _ (xe h.2.2)];exact h.2.2⟩
theorem z6y (leaf:List UInt8)(hl:leaf.length=8)(f:Nat)(i:Int)(v:Value)(ps:List (List UInt8))(w:World)(h:Hss w v ps):
  Calls Tryz.prog 105 #[.agg (hv leaf),.int .i64 i,.int .i64 1,v] w fun r w'=>r= .returned (.tuple #[.agg (hv (vg yf (f+1) leaf i.toNat 1 ps).1),.bool (vg yf (f+1) leaf i.toNat 1 ps).2])∧Below w.heap.size w w':=by
 rw [zme]
 obtain⟨a,cap,rfl,-,-,-⟩:=h
 have hs:(hv leaf).size=8:=by rw [qd,hl]
 have Hs:=za hs
 clear hs hl
 have HF:=za (Fr.start w leaf)
 have hd:((ps.length:Int)==0)=decide (ps.length=0):=by
  rw [Bool.eq_iff_iff];simp
 have Hd:=za hd
 clear hd
 go_enter Tryz.func105,Tryz.ntmps105
 go_wp2_with (first
  | (refine wpList_load_row rfl 91 _ rfl w.heap.size rfl 91 _ (0,0) _ HF.o.2.1 Tryz.underlying91 rfl (by rw [Hs.o];kernel_rfl) ?_)
  | (refine wpList_store_row rfl 91 _ _ rfl (w.heap.size+1) (hv leaf) rfl rfl 91 _ HF.o.2.2 (by rw [Hs.o];kernel_rfl) (by rw [Hs.o];rfl) (jp _) ?_))
 refine bodyPost_ret (v:= .tuple #[.agg (hv leaf),.bool ((ps.length:Int)==0)]) (zbj Tryz.results105 _ _ (w.heap.size+1) 91 _ (0,0) _ rfl (setRow_heap _ _ _ _ _ _ HF.o.2.2) Tryz.underlying91 rfl (by rw [Hs.o];kernel_rfl) _ rfl) rfl ⟨by rw [Hd.o],?_⟩
 exact below_setRow HF.o.1 (Nat.le_succ _) _
theorem z2s (leaf:List UInt8)(hl:leaf.length=8)(f:Nat)(i n:Nat)(h1:n≠1)(v:Value)(ps:List (List UInt8))(w:World)(h0:ps.length=0)(h:Hss w v ps):
  Calls Tryz.prog 105 #[.agg (hv leaf),.int .i64 i,.int .i64 n,v] w fun r w'=>r= .returned (.tuple #[.agg (hv (vg yf (f+1) leaf i n ps).1),.bool (vg yf (f+1) leaf i n ps).2])∧Below w.heap.size w w':=by
 rw [zpj _ _ _ _ _ _ h1 h0]
 obtain⟨a,cap,rfl,-,-,-⟩:=h
 rw [h0]
 have hs:(hv leaf).size=8:=by rw [qd,hl]
 have Hs:=za hs
 clear hs hl
 have HF:=za (Fr.start w leaf)
 have n1:((n:Int)==1)=false:=beq_eq_false_iff_ne.2 (by omega)
 clear h1
 go_enter Tryz.func105,Tryz.ntmps105
 go_wp2_with (first
  | (refine wpList_store_row rfl 91 _ _ rfl (w.heap.size+1) (hv yf) rfl rfl 91 _ HF.o.2.2 (by kernel_rfl) rfl (jp _) ?_))
 refine bodyPost_ret (v:= .tuple #[.agg (hv yf),.bool false]) (zbj Tryz.results105 _ _ (w.heap.size+1) 91 _ (0,0) _ rfl (setRow_heap _ _ _ _ _ _ HF.o.2.2) Tryz.underlying91 rfl (by kernel_rfl) _ rfl) rfl ⟨rfl,?_⟩
 exact below_setRow HF.o.1 (Nat.le_succ _) _
theorem z03 (leaf:List UInt8)(hl:leaf.length=8)(f:Nat)(i n:Nat)(h2:2≤n)(hn:n≤9223372036854775807)(_hin:i < n)(hik:i < kOf n)(b off m cap:Nat)(ps:List (List UInt8))(w:World)(hm:ps.length=m+1)(hm6:m≤1000000)(hcap:m+1≤cap)(h8:∀ p∈ps,p.length=8)
  (hr:w.rangeAt b (off+m*8) (hv (ps.getLastD [])).toList) (ht:Hss w (.slice (some ⟨b,off,none⟩) m cap) ps.dropLast)
  (ih:∀(i n:Int) (v:Value) (ps:List (List UInt8)) (w:World),0≤i→i < n→n≤9223372036854775807→ps.length < f→ps.length≤1000000→Hss w v ps→Calls Tryz.prog 105 #[.agg (hv leaf),.int .i64 i,.int .i64 n,v] w fun r w'=>r= .returned (.tuple #[.agg (hv (vg yf f leaf i.toNat n.toNat ps).1),.bool (vg yf f leaf i.toNat n.toNat ps).2])∧Below w.heap.size w w')
  (hf:ps.length < f+1) :
  Calls Tryz.prog 105 #[.agg (hv leaf),.int .i64 i,.int .i64 n,.slice (some ⟨b,off,none⟩) (m+1) cap] w fun r w'=>r= .returned (.tuple #[.agg (hv (vg yf (f+1) leaf i n ps).1),.bool (vg yf (f+1) leaf i n ps).2])∧Below w.heap.size w w':=by
 rw [zj9 _ _ _ _ _ _ (by omega) (by omega) hik]
 obtain⟨k1,k2,k3⟩:=jy n h2
 have hlast:(ps.getLastD []).length=8:=by
  rw [(zax ps m hm []).1];exact h8 _ (List.getElem_mem _)
 have hdl:ps.dropLast.length=m:=by rw [List.length_dropLast,hm];rfl
 have hs:(hv leaf).size=8:=by rw [qd,hl]
 have Hs:=za hs
 have hls:(hv (ps.getLastD [])).size=8:=by rw [qd,hlast]
 have Hls:=za hls
 have Hlast:=za hlast
 have IH:=za (ih i (kOf n) (.slice (some ⟨b,off,none⟩) m cap) ps.dropLast)
 have Hd:=za hdl
 have HH:=za ht
 have HR:=za hr
 have Hf:=za hf
 have HF:=za (Fr.start w leaf)
 have Hz:Hid (yf.length=8):=rfl
 have Hll:=za hl
 have Hm:=za hm
 have n1:((n:Int)==1)=false:=beq_eq_false_iff_ne.2 (by omega)
 have m1:(((m:Int)+1)==0)=false:=beq_eq_false_iff_ne.2 (by omega)
 clear hs hls hlast ih hdl ht hr hf hl hm h8
 have HLf:=za (zkh yf leaf rfl Hll.o f (i:Int).toNat ((kOf n):Int).toNat ps.dropLast)
 have HE:=za (And.intro (show(i:Int).toNat=i by omega) (show((kOf n):Int).toNat=(kOf n) by omega))
 rw [HE.o.1,HE.o.2] at IH HLf
 generalize hR:vg yf f leaf i (kOf n) ps.dropLast=R at *
 have HRR:=za hR
 clear hR
 obtain⟨R1,R2⟩:=R
 generalize ps.getLastD []=L at *
 have hrs:(hv R1).size=8:=by rw [qd];exact HLf.o
 have Hrs:=za hrs
 clear hrs
 go_enter Tryz.func105,Tryz.ntmps105
 go_wp2_with fail
 refine(zd5 b off m cap L _ hm6 hcap Hlast.o (by exact vr HR.o HF.o.1)).mono ?_
 rintro e w1 ⟨rfl,hb1⟩
 have HF1:=za (HF.o.next hb1)
 clear hb1
 go_wp2_with (refine wpList_store_row rfl 91 _ _ rfl w1.heap.size (hv L) rfl rfl 91 _ (heap_alloc_last _ _) (by rw [Hls.o];kernel_rfl) (by rw [Hls.o];rfl) (jp _) ?_)
 rw [World.setRow_alloc_new]
 refine(zdj n _ h2 hn).mono ?_
 rintro e w2 ⟨rfl,hw2⟩
 subst hw2
 have HF2:=za (HF1.o.next (ze w1 (.cells (hv L) 91)))
 have hik':(i:Int) < (kOf n:Int):=by omega
 go_wp2_with (refine wpList_load_row rfl 91 _ rfl w.heap.size rfl 91 _ (0,0) _ HF2.o.2.1 Tryz.underlying91 rfl (by rw [Hs.o];kernel_rfl) ?_)
 refine(IH.out _ (by omega) (by omega) (by omega) (by rw [Hd.o];have:=Hf.o;rw [Hm.o] at this;omega) (by rw [Hd.o];exact hm6) (HH.o.below HF2.o.1)).mono ?_
 rintro e w3 ⟨rfl,hb3⟩
 have HL3:Hid (w3.heap[w1.heap.size]?=some (.cells (hv L) 91 (0,0))):=by
  show w3.heap[w1.heap.size]?=_
  rw [hb3.block _ (by simp)];exact heap_alloc_last _ _
 have HF3:=za (HF2.o.next hb3)
 have hne:Hid (w1.heap.size≠w3.heap.size):=by
  have:=hb3.size
  simp only [zmx] at this
  show w1.heap.size≠w3.heap.size
  omega
 clear hb3
 go_wp2_with (first
  | (refine wpList_store_row rfl 91 _ _ rfl w3.heap.size (hv R1) rfl rfl 91 _ (heap_alloc_last _ _) (by rw [Hrs.o];kernel_rfl) (by rw [Hrs.o];rfl) (jp _) ?_)
  | (refine wpList_load_row rfl 91 _ rfl w3.heap.size rfl 91 _ (0,0) _ (setRow_heap _ _ _ _ _ _ (heap_alloc_last _ _)) Tryz.underlying91 rfl (by rw [Hrs.o];kernel_rfl) ?_)
  | (refine wpList_load_row rfl 91 _ rfl w1.heap.size rfl 91 _ (0,0) _ (by rw [setRow_other _ _ _ _ hne.out];exact zc HL3.o) Tryz.underlying91 rfl (by rw [Hls.o];kernel_rfl) ?_))
 rw [World.setRow_alloc_new]
 refine(zaw R1 L _ HLf.o Hlast.o).mono ?_
 rintro e w4 ⟨rfl,hb4⟩
 have HF4:=za ((HF3.o.next (ze w3 _)).next hb4)
 clear hb4
 go_wp2_with (refine wpList_store_row rfl 91 _ _ rfl (w.heap.size+1) (hv (xa R1 L)) rfl rfl 91 _ HF4.o.2.2 (by kernel_rfl) rfl (jp _) ?_)
 refine bodyPost_ret (v:= .tuple #[.agg (hv (xa R1 L)),.bool R2]) (zbj Tryz.results105 _ _ (w.heap.size+1) 91 _ (0,0) _ rfl (setRow_heap _ _ _ _ _ _ HF4.o.2.2) Tryz.underlying91 rfl (by kernel_rfl) _ rfl) rfl ⟨rfl,?_⟩
 exact below_setRow HF4.o.1 (Nat.le_succ _) _
theorem zy4 (leaf:List UInt8)(hl:leaf.length=8)(f:Nat)(i n:Nat)(h2:2≤n)(hn:n≤9223372036854775807)(_hin:i < n)(hik:¬ i < kOf n)(b off m cap:Nat)(ps:List (List UInt8))(w:World)(hm:ps.length=m+1)(hm6:m≤1000000)(hcap:m+1≤cap)(h8:∀ p∈ps,p.length=8)
  (hr:w.rangeAt b (off+m*8) (hv (ps.getLastD [])).toList) (ht:Hss w (.slice (some ⟨b,off,none⟩) m cap) ps.dropLast)
  (ih:∀(i n:Int) (v:Value) (ps:List (List UInt8)) (w:World),0≤i→i < n→n≤9223372036854775807→ps.length < f→ps.length≤1000000→Hss w v ps→Calls Tryz.prog 105 #[.agg (hv leaf),.int .i64 i,.int .i64 n,v] w fun r w'=>r= .returned (.tuple #[.agg (hv (vg yf f leaf i.toNat n.toNat ps).1),.bool (vg yf f leaf i.toNat n.toNat ps).2])∧Below w.heap.size w w')
  (hf:ps.length < f+1) :
  Calls Tryz.prog 105 #[.agg (hv leaf),.int .i64 i,.int .i64 n,.slice (some ⟨b,off,none⟩) (m+1) cap] w fun r w'=>r= .returned (.tuple #[.agg (hv (vg yf (f+1) leaf i n ps).1),.bool (vg yf (f+1) leaf i n ps).2])∧Below w.heap.size w w':=by
 rw [zin _ _ _ _ _ _ (by omega) (by omega) hik]
 obtain⟨k1,k2,k3⟩:=jy n h2
 have hlast:(ps.getLastD []).length=8:=by
  rw [(zax ps m hm []).1];exact h8 _ (List.getElem_mem _)
 have hdl:ps.dropLast.length=m:=by rw [List.length_dropLast,hm];rfl
 have hs:(hv leaf).size=8:=by rw [qd,hl]
 have Hs:=za hs
 have hls:(hv (ps.getLastD [])).size=8:=by rw [qd,hlast]
 have Hls:=za hls
 have Hlast:=za hlast
 have IH:=za (ih ((i:Int) - (kOf n:Int)) ((n:Int) - (kOf n:Int)) (.slice (some ⟨b,off,none⟩) m cap) ps.dropLast)
 have Hd:=za hdl
 have HH:=za ht
 have HR:=za hr
 have Hf:=za hf
 have HF:=za (Fr.start w leaf)
 have Hz:Hid (yf.length=8):=rfl
 have Hll:=za hl
 have Hm:=za hm
 have n1:((n:Int)==1)=false:=beq_eq_false_iff_ne.2 (by omega)
 have m1:(((m:Int)+1)==0)=false:=beq_eq_false_iff_ne.2 (by omega)
 clear hs hls hlast ih hdl ht hr hf hl hm h8
 have HLf:=za (zkh yf leaf rfl Hll.o f (((i:Int) - (kOf n:Int)):Int).toNat (((n:Int) - (kOf n:Int)):Int).toNat ps.dropLast)
 have HE:=za (And.intro (show((i:Int) - (kOf n:Int)).toNat=i - kOf n by omega) (show(((n:Int) - (kOf n:Int)):Int).toNat=(n - kOf n) by omega))
 rw [HE.o.1,HE.o.2] at IH HLf
 generalize hR:vg yf f leaf (i - kOf n) (n - kOf n) ps.dropLast=R at *
 have HRR:=za hR
 clear hR
 obtain⟨R1,R2⟩:=R
 generalize ps.getLastD []=L at *
 have hrs:(hv R1).size=8:=by rw [qd];exact HLf.o
 have Hrs:=za hrs
 clear hrs
 go_enter Tryz.func105,Tryz.ntmps105
 go_wp2_with fail
 refine(zd5 b off m cap L _ hm6 hcap Hlast.o (by exact vr HR.o HF.o.1)).mono ?_
 rintro e w1 ⟨rfl,hb1⟩
 have HF1:=za (HF.o.next hb1)
 clear hb1
 go_wp2_with (refine wpList_store_row rfl 91 _ _ rfl w1.heap.size (hv L) rfl rfl 91 _ (heap_alloc_last _ _) (by rw [Hls.o];kernel_rfl) (by rw [Hls.o];rfl) (jp _) ?_)
 rw [World.setRow_alloc_new]
 refine(zdj n _ h2 hn).mono ?_
 rintro e w2 ⟨rfl,hw2⟩
 subst hw2
 have HF2:=za (HF1.o.next (ze w1 (.cells (hv L) 91)))
 have hik':¬(i:Int) < (kOf n:Int):=by omega
 go_wp2_with (refine wpList_load_row rfl 91 _ rfl w.heap.size rfl 91 _ (0,0) _ HF2.o.2.1 Tryz.underlying91 rfl (by rw [Hs.o];kernel_rfl) ?_)
 refine(IH.out _ (by omega) (by omega) (by omega) (by rw [Hd.o];have:=Hf.o;rw [Hm.o] at this;omega) (by rw [Hd.o];exact hm6) (HH.o.below HF2.o.1)).mono ?_
 rintro e w3 ⟨rfl,hb3⟩
 have HL3:Hid (w3.heap[w1.heap.size]?=some (.cells (hv L) 91 (0,0))):=by
  show w3.heap[w1.heap.size]?=_
  rw [hb3.block _ (by simp)];exact heap_alloc_last _ _
 have HF3:=za (HF2.o.next hb3)
 have hne:Hid (w1.heap.size≠w3.heap.size):=by
  have:=hb3.size
  simp only [zmx] at this
  show w1.heap.size≠w3.heap.size
  omega
 clear hb3
 go_wp2_with (first
  | (refine wpList_store_row rfl 91 _ _ rfl w3.heap.size (hv R1) rfl rfl 91 _ (heap_alloc_last _ _) (by rw [Hrs.o];kernel_rfl) (by rw [Hrs.o];rfl) (jp _) ?_)
  | (refine wpList_load_row rfl 91 _ rfl w3.heap.size rfl 91 _ (0,0) _ (setRow_heap _ _ _ _ _ _ (heap_alloc_last _ _)) Tryz.underlying91 rfl (by rw [Hrs.o];kernel_rfl) ?_)
  | (refine wpList_load_row rfl 91 _ rfl w1.heap.size rfl 91 _ (0,0) _ (by rw [setRow_other _ _ _ _ hne.out];exact zc HL3.o) Tryz.underlying91 rfl (by rw [Hls.o];kernel_rfl) ?_))
 rw [World.setRow_alloc_new]
 refine(zaw L R1 _ Hlast.o HLf.o).mono ?_
 rintro e w4 ⟨rfl,hb4⟩
 have HF4:=za ((HF3.o.next (ze w3 _)).next hb4)
 clear hb4
 go_wp2_with (refine wpList_store_row rfl 91 _ _ rfl (w.heap.size+1) (hv (xa L R1)) rfl rfl 91 _ HF4.o.2.2 (by kernel_rfl) rfl (jp _) ?_)
 refine bodyPost_ret (v:= .tuple #[.agg (hv (xa L R1)),.bool R2]) (zbj Tryz.results105 _ _ (w.heap.size+1) 91 _ (0,0) _ rfl (setRow_heap _ _ _ _ _ _ HF4.o.2.2) Tryz.underlying91 rfl (by kernel_rfl) _ rfl) rfl ⟨rfl,?_⟩
 exact below_setRow HF4.o.1 (Nat.le_succ _) _
theorem z6z (leaf:List UInt8)(hl:leaf.length=8)(f:Nat):∀(i n:Int) (v:Value) (ps:List (List UInt8)) (w:World),0≤i→i < n→n≤9223372036854775807→ps.length < f→ps.length≤1000000→Hss w v ps →
  Calls Tryz.prog 105 #[.agg (hv leaf),.int .i64 i,.int .i64 n,v] w fun r w'=>r= .returned (.tuple #[.agg (hv (vg yf f leaf i.toNat n.toNat ps).1),.bool (vg yf f leaf i.toNat n.toNat ps).2])∧Below w.heap.size w w':=by
 induction f with
 | zero=>exact fun i n v ps w _ _ _ h=>absurd h (Nat.not_lt_zero _)
 | succ f ih =>
  intro i n v ps w h0 hin hn hf hp h
  obtain⟨I,rfl⟩:=Int.eq_ofNat_of_zero_le h0
  obtain⟨N,rfl⟩:=Int.eq_ofNat_of_zero_le (show 0≤n by omega)
  rw [Int.toNat_natCast,Int.toNat_natCast]
  by_cases h1:N=1
  ·subst h1
   have:=z6y leaf hl f (I:Int) v ps w h
   rwa [Int.toNat_natCast] at this
  by_cases hz:ps.length=0
  ·exact z2s leaf hl f I N h1 v ps w hz h
  obtain⟨m,hm⟩:∃ m,ps.length=m+1:=⟨ps.length - 1,by omega⟩
  have h':=h
  obtain⟨a,cap,rfl,hcap,h8,hh⟩:=h
  rcases hh with hh | ⟨b,off,rfl,hc⟩
  ·exact absurd (by simp [hh]) hz
  have hr:w.rangeAt b (off+m*8) (hv (ps.getLastD [])).toList:=by
   rw [(zax ps m hm []).1];exact hc m (by omega)
  have ht:Hss w (.slice (some ⟨b,off,none⟩) m cap) ps.dropLast:=by
   rw [(zax ps m hm []).2]
   have hlm:(ps.take m).length=m:=by simp;omega
   refine⟨_,cap,by rw [hlm],by rw [hlm];omega,fun p hp=>h8 p (List.mem_of_mem_take hp),.inr ⟨b,off,rfl,fun j hj=>?_⟩⟩
   rw [List.getElem_take]
   exact hc j (by rw [hlm] at hj;omega)
  rw [hm]
  by_cases hik:I < kOf N
  ·exact z03 leaf hl f I N (by omega) (by omega) (by omega) hik b off m cap ps w hm (by omega) (by omega) h8 hr ht ih hf
  ·exact zy4 leaf hl f I N (by omega) (by omega) (by omega) hik b off m cap ps w hm (by omega) (by omega) h8 hr ht ih hf
end
section
set_option maxHeartbeats 2000000
open Go.RowKit
set_option maxRecDepth 100000
theorem zpx {w:World}{g:Nat}{t:TypeId}{x0 x1 x2 x3 x4 x5 x6 x7:Int}(hg:w.heap[g]?=some (.cells #[.int .u8 x0,.int .u8 x1,.int .u8 x2,.int .u8 x3,.int .u8 x4,.int .u8 x5,.int .u8 x6,.int .u8 x7] t (0,0))):
  w.cell? ⟨g,0,none⟩=some (.int .u8 x0)∧w.cell? ⟨g,1,none⟩=some (.int .u8 x1)∧w.cell? ⟨g,2,none⟩=some (.int .u8 x2)∧w.cell? ⟨g,3,none⟩=some (.int .u8 x3)∧w.cell? ⟨g,4,none⟩=some (.int .u8 x4)∧w.cell? ⟨g,5,none⟩=some (.int .u8 x5)∧w.cell? ⟨g,6,none⟩=some (.int .u8 x6)∧w.cell? ⟨g,7,none⟩=some (.int .u8 x7):=by
 refine⟨?_,?_,?_,?_,?_,?_,?_,?_⟩<;>(rw [cell_of_row _ _ _ _ _ _ hg];rfl)
theorem z5w (leaf root:List UInt8)(i n:Int)(v:Value)(ps:List (List UInt8))(w:World)(hout:i < 0∨n≤i)(hl:leaf.length=8)(hr:root.length=8)(h:Hss w v ps):
  Calls Tryz.prog 64 #[.agg (hv leaf),.int .i64 i,.int .i64 n,v,.agg (hv root)] w fun r w'=>r= .returned (.bool false)∧Below w.heap.size w w':=by
 obtain⟨a,cap,rfl,-,-,-⟩:=h
 have hs:(hv leaf).size=8:=by rw [qd,hl]
 have hs':(hv root).size=8:=by rw [qd,hr]
 by_cases hneg:i < 0
 ·go_enter Tryz.func64,Tryz.ntmps64
  go_wp2
  go_ret
  exact⟨rfl,zw _ _ _⟩
 ·have hge:n≤i:=by omega
  clear hout
  go_enter Tryz.func64,Tryz.ntmps64
  go_wp2
  go_ret
  exact⟨rfl,zw _ _ _⟩
theorem z8r (f:Nat)(leaf root:List UInt8)(i n:Int)(hi0:0≤i)(hin:i < n)(hn:n≤9223372036854775807)(v:Value)(ps:List (List UInt8))(w:World)(hf:ps.length < f)(hp:ps.length≤1000000)(hl:leaf.length=8)(hr:root.length=8)(h:Hss w v ps):
  Calls Tryz.prog 64 #[.agg (hv leaf),.int .i64 i,.int .i64 n,v,.agg (hv root)] w fun r w'=>r= .returned (.bool ((vg yf f leaf i.toNat n.toNat ps).2&&eqH (vg yf f leaf i.toNat n.toNat ps).1 root))∧Below w.heap.size w w':=by
 have H:=za h
 obtain⟨a,cap,rfl,-,-,-⟩:=h
 have hs:(hv leaf).size=8:=by rw [qd,hl]
 have Hs:=za hs
 have HC:=za (z6z leaf hl f i n (.slice a ps.length cap) ps)
 have HLf:=za (zkh yf leaf rfl hl f i.toNat n.toNat ps)
 obtain⟨y0,y1,y2,y3,y4,y5,y6,y7,hy⟩:=zkb root hr
 have Hy:=za hy
 generalize hR:vg yf f leaf i.toNat n.toNat ps=R at *
 clear hR
 obtain⟨R1,R2⟩:=R
 obtain⟨x0,x1,x2,x3,x4,x5,x6,x7,hx⟩:=zkb R1 HLf.o
 have Hx:=za hx
 have hlt:¬ i < 0:=by omega
 have hge:¬ n≤i:=by omega
 rw [hy]
 clear hx hs hl hy
 have hs2:(hv leaf).size=8:=Hs.o
 go_enter Tryz.func64,Tryz.ntmps64
 go_wp2_with (refine wpList_load_row rfl 91 _ rfl w.heap.size rfl 91 _ (0,0) _ (by exact zc (heap_alloc_last _ _)) Tryz.underlying91 rfl (by rw [Hs.o];kernel_rfl) ?_)
 refine(HC.o _ hi0 hin hn hf hp (H.o.below (zw _ _ _))).mono ?_
 rintro e w1 ⟨hr1,hb1⟩
 rw [Hx.o] at hr1
 subst hr1
 have HB1:Hid (Below w.heap.size w w1):=(zw _ _ _).trans (hb1.mono (by simp;omega))
 have hg:w1.heap[w.heap.size+1]?=some (.cells #[.int .u8 y0,.int .u8 y1,.int .u8 y2,.int .u8 y3,.int .u8 y4,.int .u8 y5,.int .u8 y6,.int .u8 y7] 91 (0,0)):=by
  rw [hb1.block _ (by simp),show w.heap.size+1=(w.alloc (.cells (hv leaf) 91)).heap.size by simp]
  exact heap_alloc_last _ _
 have hz:w.heap.size+1 < w1.heap.size:=xe hg
 have hg':∀ o,(w1.alloc o).heap[w.heap.size+1]?=some (.cells #[.int .u8 y0,.int .u8 y1,.int .u8 y2,.int .u8 y3,.int .u8 y4,.int .u8 y5,.int .u8 y6,.int .u8 y7] 91 (0,0)):=fun o=>zc hg
 obtain⟨c0,c1,c2,c3,c4,c5,c6,c7⟩:=zpx (hg' (.cells #[.int .u8 x0,.int .u8 x1,.int .u8 x2,.int .u8 x3,.int .u8 x4,.int .u8 x5,.int .u8 x6,.int .u8 x7] 91))
 clear hg hg' hb1
 cases R2 with
 | false =>
  go_wp2_with fail
  go_ret
  exact⟨rfl,HB1.o.trans ((ze w1 _).mono HB1.o.size)⟩
 | true =>
  have heq:∀ w,(binOp .eql 91 (.agg #[.int .u8 x0,.int .u8 x1,.int .u8 x2,.int .u8 x3,.int .u8 x4,.int .u8 x5,.int .u8 x6,.int .u8 x7]) (.agg #[.int .u8 y0,.int .u8 y1,.int .u8 y2,.int .u8 y3,.int .u8 y4,.int .u8 y5,.int .u8 y6,.int .u8 y7])).run Tryz.prog w= .ok (.bool (eqH R1 root)) w:=fun w=>by
   rw [← Hx.o,← Hy.o];exact zgr R1 root HLf.o hr w
  go_wp2_with fail
  go_ret
  exact⟨rfl,HB1.o.trans ((ze w1 _).mono HB1.o.size)⟩
def zqe (f:Nat)(leaf:List UInt8)(i n:Int)(ps:List (List UInt8))(root:List UInt8):Bool :=
 if i < 0∨n≤i then false else (vg yf f leaf i.toNat n.toNat ps).2&&eqH (vg yf f leaf i.toNat n.toNat ps).1 root
theorem z2o {f:Nat}{leaf root:List UInt8}{i n:Int}{ps:List (List UInt8)}(h:i < 0∨n≤i):zqe f leaf i n ps root=false:=by
 rw [zqe,if_pos h]
theorem zwm {f:Nat}{leaf root:List UInt8}{i n:Int}{ps:List (List UInt8)}(h:¬(i < 0∨n≤i)):zqe f leaf i n ps root=((vg yf f leaf i.toNat n.toNat ps).2&&eqH (vg yf f leaf i.toNat n.toNat ps).1 root):=by
 rw [zqe,if_neg h]
theorem z5t (f:Nat)(leaf root:List UInt8)(i n:Int)(hn:n≤9223372036854775807)(v:Value)(ps:List (List UInt8))(w:World)(hf:ps.length < f)(hp:ps.length≤1000000)(hl:leaf.length=8)(hr:root.length=8)(h:Hss w v ps):
  Calls Tryz.prog 64 #[.agg (hv leaf),.int .i64 i,.int .i64 n,v,.agg (hv root)] w fun r w'=>r= .returned (.bool (zqe f leaf i n ps root))∧Below w.heap.size w w':=by
 by_cases hout:i < 0∨n≤i
 ·rw [z2o hout];exact z5w leaf root i n v ps w hout hl hr h
 ·rw [zwm hout];exact z8r f leaf root i n (by omega) (by omega) hn v ps w hf hp hl hr h
end
end Go.Proofs.YtinhekmmdlhfkaaGreatDoor
