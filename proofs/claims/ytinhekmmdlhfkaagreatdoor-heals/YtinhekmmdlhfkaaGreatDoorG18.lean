import Derived.Test.YtinhekmmdlhfkaaGreatDoorG17
import Derived.Test.YtinhekmmdlhfkaaGreatDoorG01
import Derived.ChangeKeysEq
import Derived.Deep.RegionHeld3
import Derived.Deep.CutRange
import Derived.Test.YtinhekmmdlhfkaaGreatDoorG10
import Derived.Shelf.Spec.TrailingZeros
namespace Go.Proofs.YtinhekmmdlhfkaaGreatDoor
section
set_option maxHeartbeats 4000000
open Go.RowKit
set_option maxRecDepth 100000
theorem results_row_one {P:Program}{fn:Func}{p u:Tmp}{ty:TypeId}(h:fn.results=#[.cell p ty,.tmp u])(tmps:Array Value)(w:World)(g:Nat)(t:TypeId)(cs:Array Value)(fr:Nat×Nat)(d:TypeDesc)
  (hp:tmps.getD p undef= .pointer (some ⟨g,0,none⟩)) (hg:w.heap[g]?=some (.cells cs t fr))
  (hu:P.underlying ty=some d) (hd:(match d with | .struct _ | .array _ _=>true | _=>false)=true) (hi:(P.info? ty).map (·.size)=some cs.size) (x:Value) (hx:tmps.getD u undef=x) :
  (results fn tmps).run P w= .ok (.tuple #[.agg cs,x]) w:=by
 rw [_root_.Go.results_cell_tmp h,hp,hx]
 simp [asAddr,run_loadVar_row w g t ty cs fr d hg hu hd hi]
def z9:Array Value:=#[.int .i64 0,.int .u8 0,.int .u8 0,.int .u8 0,.int .u8 0,.int .u8 0,.int .u8 0,.int .u8 0,.int .u8 0]
theorem z9_one:z9.all (·.oneCell') =true:=by simp [z9,Value.oneCell']
theorem z9_info:(Tryz.prog.info? 93).map (·.size)=some z9.size:=by kernel_rfl
theorem tv_one (n:Int)(b0 b1 b2 b3 b4 b5 b6 b7:UInt8):(tv n b0 b1 b2 b3 b4 b5 b6 b7).all (·.oneCell')=true:=by simp [tv,Value.oneCell']
theorem tv_info (n:Int)(b0 b1 b2 b3 b4 b5 b6 b7:UInt8):(Tryz.prog.info? 93).map (·.size)=some (tv n b0 b1 b2 b3 b4 b5 b6 b7).size:=z9_info
theorem splitK_len:∀(k:Nat) (s:List UInt8) ,(Lib.splitK [10] 0 k s).length≤k+1
 | 0,_=>Nat.le_refl _
 | k+1,s=>by
  rw [Lib.splitK]
  split
  ·simp
  ·have:=splitK_len k (s.drop ((Lib.index s [10]).toNat+[10].length))
   simp only [List.length_cons] at this ⊢
   omega
theorem splitK_piece (c:List UInt8):∀(k:Nat) (s:List UInt8),∀ x∈Lib.splitK c 0 k s,x.length≤s.length
 | 0,s,x,hx=>by
  obtain rfl:x=s:=by simpa [Lib.splitK] using hx
  exact Nat.le_refl _
 | k+1,s,x,hx=>by
  rw [Lib.splitK] at hx
  split at hx
  ·obtain rfl:x=s:=by simpa using hx
   exact Nat.le_refl _
  ·rcases List.mem_cons.1 hx with rfl | h
   ·simp;omega
   ·have:=splitK_piece c k _ x h
    simp at this
    omega
theorem parseUint_call (l:List UInt8)(hl:l.length≤1000000000)(w:World)(E:Env w):
  Calls Tryz.prog 93 #[.string ⟨l.toArray⟩,.int .i64 16,.int .i64 64] w fun r w'=>∃ v e,r= .returned (.tuple #[.int .u64 v,e])∧0≤v∧v≤18446744073709551615∧(e= .nilIface∨∃ t p,e= .iface t p)∧(∀ root,root.length=8→l=hexF root→e= .nilIface∧out8 v=root)∧Below w.heap.size w w':=by
 by_cases hg:∃ root,root.length=8∧l=hexF root
 ·obtain⟨root,hr,rfl⟩:=hg
  refine(parseUint_good root hr w).mono ?_
  rintro r w' ⟨rfl,hb⟩
  have hlt:=hexN_lt (hexF root) (hexF_hex root) 0 0 (by decide)
  rw [hexF_len,hr] at hlt
  have hlt':hexN 0 (hexF root) < 18446744073709551616:=hlt
  refine⟨_,_,rfl,by omega,by omega,.inl rfl,fun root' hr' e=>⟨rfl,?_⟩,hb⟩
  rw [hexF_inj hr hr' e]
  exact out8_hex root' hr'
 ·refine(parseUint_any l hl w E).mono ?_
  rintro r w' ⟨v,e,rfl,v0,v1,he,hb⟩
  exact⟨v,e,rfl,v0,v1,he,fun root hr h=>absurd ⟨root,hr,h⟩ hg,hb⟩
theorem lines_sign {t key:List UInt8}{n:Nat}{root:List UInt8}(h:IsSign t key n root):Lib.splitK [10] 0 (min 4 (t.length+1) - 1) t=[[116,105,108,101,115],dec n,hexF root,lastF n root key++[10]]:=by
 obtain⟨_,_,rfl⟩:=h
 have:=signF_len n root key
 rw [show min 4 ((signF n root key).length+1) - 1=3 by omega]
 exact split_sign n root key
theorem check_any (t key:List UInt8)(ht:t.length≤1048576)(hk:key.length≤9223372036854775807)(w:World)(E:Env w):
  Calls Tryz.prog 57 #[.string ⟨t.toArray⟩,.string ⟨key.toArray⟩] w fun r w'=>Below w.heap.size w w' ∧
   ((∃ n b0 b1 b2 b3 b4 b5 b6 b7,IsSign t key n [b0,b1,b2,b3,b4,b5,b6,b7]∧r= .returned (.tuple #[.agg (tv n b0 b1 b2 b3 b4 b5 b6 b7),.bool true]))∨((∀ n root,¬ IsSign t key n root)∧r= .returned (.tuple #[.agg z9,.bool false]))):=by
 have HE:=hide E
 clear E
 go_enter Tryz.func57,Tryz.ntmps57
 go_wp2_with fail
 have HB1:=hide (below_alloc w (.cells z9 93))
 have HG1:=hide (heap_alloc_last w (.cells z9 93))
 unfold z9 at HB1 HG1
 generalize w.alloc (.cells #[.int .i64 0,.int .u8 0,.int .u8 0,.int .u8 0,.int .u8 0,.int .u8 0,.int .u8 0,.int .u8 0,.int .u8 0] 93)=W1 at *
 refine(splitN_call t (by omega) W1 (HE.out.below HB1.out)).mono ?_
 rintro r w2 ⟨ps,hps,rfl,rfl⟩
 have HPS:=hide hps
 have HL2:=hide (heap_alloc_last W1 (.cells (Lib.cellsOf ps (min 4 (t.length+1))) 9))
 have HB2:Hid (Below w.heap.size w (W1.alloc (.cells (Lib.cellsOf ps (min 4 (t.length+1))) 9))):=HB1.out.trans ((below_alloc W1 _).mono HB1.out.size)
 have HG2:=hide (heap_alloc_old (o:= .cells (Lib.cellsOf ps (min 4 (t.length+1))) 9) HG1.out)
 generalize W1.alloc (.cells (Lib.cellsOf ps (min 4 (t.length+1))) 9)=W2 at *
 generalize W1.heap.size=gl at *
 have HLB:Hid (∀ x∈ps.map (·.data.toList),x.length≤t.length):=fun x hx=>by rw [HPS.out] at hx;exact splitK_piece _ _ _ x hx
 have HNE:Hid (ps.length≤min 4 (t.length+1)):=by
  show ps.length≤_
  have:=splitK_len (min 4 (t.length+1) - 1) t
  rw [← HPS.out,List.length_map] at this
  omega
 have hg0:∃ g0,w.heap.size=g0:=⟨_,rfl⟩
 obtain⟨g0,hg0⟩:=hg0
 rw [hg0] at HG2 ⊢
 have HGE:=hide hg0
 clear hps HG1 HB1 hg0
 by_cases h4:ps.length < 4
 ·have n4:(ps.length:Int) < 4:=by omega
  have HN:Hid (∀ n root,¬ IsSign t key n root):=fun n root h=>by
   have e:=HPS.out
   rw [lines_sign h] at e
   have:=congrArg List.length e
   simp at this
   omega
  generalize min 4 (t.length+1)=N at *
  go_wp2_with (show wpList _ _ _ ({ dst:=none,op:=Op.store _ _ _,type:=_,pos:=_,after:=_,guard:=_ }::_) _ _;refine wpList_store_row rfl 93 _ _ rfl g0 z9 rfl rfl 93 _ HG2.out z9_info rfl z9_one ?_)
  refine bodyPost_ret (v:= .tuple #[.agg z9,.bool false]) (results_row_one Tryz.results57 _ _ g0 93 _ (0,0) _ rfl (setRow_heap _ _ _ _ _ _ HG2.out) Tryz.underlying93 rfl z9_info _ rfl) rfl ⟨below_setRow HB2.out (Nat.le_of_eq HGE.out) _,.inr ⟨HN.out,rfl⟩⟩
 ·have hp4:ps.length=4:=by have:=HNE.out;omega
  have hN4:min 4 (t.length+1)=4:=by have:=HNE.out;omega
  rw [hN4] at HL2 ⊢
  obtain⟨p0,p1,p2,p3,rfl⟩:∃ p0 p1 p2 p3,ps=[p0,p1,p2,p3]:=by
   match ps,hp4 with
   | [p0,p1,p2,p3],_=>exact⟨p0,p1,p2,p3,rfl⟩
  obtain⟨l1,rfl⟩:∃ l:List UInt8,p1=⟨l.toArray⟩:=⟨p1.data.toList,by simp⟩
  obtain⟨l2,rfl⟩:∃ l:List UInt8,p2=⟨l.toArray⟩:=⟨p2.data.toList,by simp⟩
  have b1:l1.length≤1048576:=Nat.le_trans (HLB.out l1 (by simp)) ht
  have b2:l2.length≤1048576:=Nat.le_trans (HLB.out l2 (by simp)) ht
  have HSG:Hid (∀ n root,IsSign t key n root→l1=dec n∧l2=hexF root):=fun n root h=>by
   have e:=HPS.out
   rw [lines_sign h] at e
   simp only [List.map_cons,List.map_nil,List.cons.injEq] at e
   exact⟨e.2.1,e.2.2.1⟩
  have c1:W2.cell? ⟨gl,1,none⟩=some (.string ⟨l1.toArray⟩):=by rw [cell_of_row _ _ _ _ _ _ HL2.out];rfl
  have c2:W2.cell? ⟨gl,2,none⟩=some (.string ⟨l2.toArray⟩):=by rw [cell_of_row _ _ _ _ _ _ HL2.out];rfl
  have hl4:([p0,⟨l1.toArray⟩,⟨l2.toArray⟩,p3]:List ByteArray).length=4:=rfl
  clear h4 hp4 HNE HLB HPS hN4
  rw [hl4]
  clear hl4
  go_wp2_with fail
  refine(parseUint_call l2 (by omega) W2 (HE.out.below HB2.out)).mono ?_
  rintro r w3 ⟨v,e,rfl,v0,v1,he,hF,hb3⟩
  have HB3:Hid (Below w.heap.size w w3):=HB2.out.trans (hb3.mono HB2.out.size)
  have HG3:=hide ((hb3.block g0 (own_lt HG2.out)).trans HG2.out)
  rw [← hb3.cell (p:=⟨gl,1,none⟩) (cell_lt (p:=⟨gl,1,none⟩) c1)] at c1
  have HF:=hide hF
  have HV:=hide (And.intro v0 v1)
  have HEE:=hide he
  clear hb3 hF v0 v1 he c2 HB2 HG2 HL2
  go_wp2_with fail
  refine(number_call l1 (by omega) w3 (HE.out.below HB3.out)).mono ?_
  rintro r w4 ⟨rfl,hb4⟩
  have HB4:Hid (Below w.heap.size w w4):=HB3.out.trans (hb4.mono HB3.out.size)
  have HG4:=hide ((hb4.block g0 (own_lt HG3.out)).trans HG3.out)
  have hnb:=numP_bounds l1
  have HNP:Hid (∀ n,l1=dec n→n≤9223372036854775807→numP l1=(n:Int)):=fun n e h=>by rw [e];exact numP_dec n h
  generalize numP l1=nn at *
  clear hb4 HB3 HG3 c1
  go_wp2_with fail
  refine(hf_any v w4 HV.out.1 HV.out.2).mono ?_
  rintro r w5 ⟨rfl,hb5⟩
  have HB5:Hid (Below w.heap.size w w5):=HB4.out.trans (hb5.mono HB4.out.size)
  have HG5:=hide ((hb5.block g0 (own_lt HG4.out)).trans HG4.out)
  clear hb5 HB4 HG4
  obtain⟨b0,b1,b2,b3,b4,b5,b6,b7,hx⟩:=hv8 (out8 v) rfl
  have HX:=hide hx
  rw [hx,show hv [b0,b1,b2,b3,b4,b5,b6,b7]=#[.int .u8 b0.toNat,.int .u8 b1.toNat,.int .u8 b2.toNat,.int .u8 b3.toNat,.int .u8 b4.toNat,.int .u8 b5.toNat,.int .u8 b6.toNat,.int .u8 b7.toNat] from rfl]
  clear hx
  have HB6:Hid (Below w.heap.size w (w5.alloc (.cells (tv nn b0 b1 b2 b3 b4 b5 b6 b7) 93))):=HB5.out.trans ((below_alloc w5 _).mono HB5.out.size)
  have HG6:=hide (heap_alloc_old (o:= .cells (tv nn b0 b1 b2 b3 b4 b5 b6 b7) 93) HG5.out)
  have HT6:=hide (heap_alloc_last w5 (.cells (tv nn b0 b1 b2 b3 b4 b5 b6 b7) 93))
  obtain⟨d0,d1,d2,d3,d4,d5,d6,d7,d8⟩:=cells9 HT6.out
  rcases HEE.out with rfl | ⟨te,pe,rfl⟩
  ·by_cases hneg:nn < 0
   ·have HN:Hid (∀ n root,¬ IsSign t key n root):=fun n root h=>by
     have:=HNP.out n (HSG.out n root h).1 h.1
     omega
    go_wp2_with (first | (show wpList _ _ _ ({ dst:=none,op:=Op.store _ _ _,type:=_,pos:=_,after:=_,guard:=_ }::_) _ _;refine wpList_store_row rfl 93 _ _ rfl w5.heap.size (tv nn b0 b1 b2 b3 b4 b5 b6 b7) rfl rfl 93 _ (heap_alloc_last _ _) z9_info rfl (tv_one _ _ _ _ _ _ _ _ _) ?_;rw [World.setRow_alloc_new];generalize w5.alloc (.cells (tv nn b0 b1 b2 b3 b4 b5 b6 b7) 93)=W6 at *;generalize w5.heap.size=g9 at *) | (show wpList _ _ _ ({ dst:=none,op:=Op.store _ _ _,type:=_,pos:=_,after:=_,guard:=_ }::_) _ _;refine wpList_store_row rfl 93 _ _ rfl g0 z9 rfl rfl 93 _ HG6.out z9_info rfl z9_one ?_))
    refine bodyPost_ret (v:= .tuple #[.agg z9,.bool false]) (results_row_one Tryz.results57 _ _ g0 93 _ (0,0) _ rfl (setRow_heap _ _ _ _ _ _ HG6.out) Tryz.underlying93 rfl z9_info _ rfl) rfl ⟨below_setRow HB6.out (Nat.le_of_eq HGE.out) _,.inr ⟨HN.out,rfl⟩⟩
   ·have n0:¬ nn < 0:=hneg
    go_wp2_with (show wpList _ _ _ ({ dst:=none,op:=Op.store _ _ _,type:=_,pos:=_,after:=_,guard:=_ }::_) _ _;refine wpList_store_row rfl 93 _ _ rfl w5.heap.size (tv nn b0 b1 b2 b3 b4 b5 b6 b7) rfl rfl 93 _ (heap_alloc_last _ _) z9_info rfl (tv_one _ _ _ _ _ _ _ _ _) ?_;rw [World.setRow_alloc_new];generalize w5.alloc (.cells (tv nn b0 b1 b2 b3 b4 b5 b6 b7) 93)=W6 at *;generalize w5.heap.size=g9 at *)
    refine(sign_any nn (by omega) (by omega) b0 b1 b2 b3 b4 b5 b6 b7 key hk W6 (HE.out.below HB6.out)).mono ?_
    rintro r w7 ⟨rfl,hb7⟩
    have HB7:Hid (Below w.heap.size w w7):=HB6.out.trans (hb7.mono HB6.out.size)
    have HG7:=hide ((hb7.block g0 (own_lt HG6.out)).trans HG6.out)
    obtain⟨f0,f1,f2,f3,f4,f5,f6,f7,f8⟩:=cells9 ((hb7.block g9 (own_lt HT6.out)).trans HT6.out)
    clear hb7 d0 d1 d2 d3 d4 d5 d6 d7 d8
    have HSN:Hid (signF nn.toNat [b0,b1,b2,b3,b4,b5,b6,b7] key=signF nn.toNat [b0,b1,b2,b3,b4,b5,b6,b7] key):=rfl
    generalize hS:signF nn.toNat [b0,b1,b2,b3,b4,b5,b6,b7] key=S at *
    have HSS:=hide hS
    clear hS HSN
    by_cases heq:S=t
    ·have hq1:(S==t)=true:=by rw [beq_iff_eq];exact heq
     have HQ:=hide heq
     clear heq
     have HIS:Hid (IsSign t key nn.toNat [b0,b1,b2,b3,b4,b5,b6,b7]):=⟨by omega,rfl,by rw [← HQ.out,← HSS.out]⟩
     have HNN:Hid (((nn.toNat:Nat):Int)=nn):=by show _=_;omega
     go_wp2_with (show wpList _ _ _ ({ dst:=none,op:=Op.store _ _ _,type:=_,pos:=_,after:=_,guard:=_ }::_) _ _;refine wpList_store_row rfl 93 _ _ rfl g0 (tv nn b0 b1 b2 b3 b4 b5 b6 b7) rfl rfl 93 _ HG7.out z9_info rfl (tv_one _ _ _ _ _ _ _ _ _) ?_)
     refine bodyPost_ret (v:= .tuple #[.agg (tv nn b0 b1 b2 b3 b4 b5 b6 b7),.bool true]) (results_row_one Tryz.results57 _ _ g0 93 _ (0,0) _ rfl (setRow_heap _ _ _ _ _ _ HG7.out) Tryz.underlying93 rfl (tv_info _ _ _ _ _ _ _ _ _) _ rfl) rfl ⟨below_setRow HB7.out (Nat.le_of_eq HGE.out) _,.inl ⟨nn.toNat,b0,b1,b2,b3,b4,b5,b6,b7,HIS.out,by rw [HNN.out]⟩⟩
    ·have hq1:(S==t)=false:=by rw [beq_eq_false_iff_ne];exact heq
     have HQ:=hide heq
     clear heq
     have HN:Hid (∀ n root,¬ IsSign t key n root):=fun n root h=>by
      have e1:=HNP.out n (HSG.out n root h).1 h.1
      have e2:=(HF.out root h.2.1 (HSG.out n root h).2).2
      refine HQ.out ?_
      rw [← HSS.out,← HX.out,e2,e1,Int.toNat_natCast]
      exact h.2.2.symm
     go_wp2_with (show wpList _ _ _ ({ dst:=none,op:=Op.store _ _ _,type:=_,pos:=_,after:=_,guard:=_ }::_) _ _;refine wpList_store_row rfl 93 _ _ rfl g0 z9 rfl rfl 93 _ HG7.out z9_info rfl z9_one ?_)
     refine bodyPost_ret (v:= .tuple #[.agg z9,.bool false]) (results_row_one Tryz.results57 _ _ g0 93 _ (0,0) _ rfl (setRow_heap _ _ _ _ _ _ HG7.out) Tryz.underlying93 rfl z9_info _ rfl) rfl ⟨below_setRow HB7.out (Nat.le_of_eq HGE.out) _,.inr ⟨HN.out,rfl⟩⟩
  ·have HN:Hid (∀ n root,¬ IsSign t key n root):=fun n root h=>by
    have:=(HF.out root h.2.1 (HSG.out n root h).2).1
    simp at this
   go_wp2_with (first | (show wpList _ _ _ ({ dst:=none,op:=Op.store _ _ _,type:=_,pos:=_,after:=_,guard:=_ }::_) _ _;refine wpList_store_row rfl 93 _ _ rfl w5.heap.size (tv nn b0 b1 b2 b3 b4 b5 b6 b7) rfl rfl 93 _ (heap_alloc_last _ _) z9_info rfl (tv_one _ _ _ _ _ _ _ _ _) ?_;rw [World.setRow_alloc_new];generalize w5.alloc (.cells (tv nn b0 b1 b2 b3 b4 b5 b6 b7) 93)=W6 at *;generalize w5.heap.size=g9 at *) | (show wpList _ _ _ ({ dst:=none,op:=Op.store _ _ _,type:=_,pos:=_,after:=_,guard:=_ }::_) _ _;refine wpList_store_row rfl 93 _ _ rfl g0 z9 rfl rfl 93 _ HG6.out z9_info rfl z9_one ?_))
   refine bodyPost_ret (v:= .tuple #[.agg z9,.bool false]) (results_row_one Tryz.results57 _ _ g0 93 _ (0,0) _ rfl (setRow_heap _ _ _ _ _ _ HG6.out) Tryz.underlying93 rfl z9_info _ rfl) rfl ⟨below_setRow HB6.out (Nat.le_of_eq HGE.out) _,.inr ⟨HN.out,rfl⟩⟩
end
section
open Go.RowKit
theorem compPtr:(Tryz.prog.info? 326).map (·.comparable)=some true:=by kernel_rfl
theorem sizeStr:(Tryz.prog.info? 328).map (·.size)=some 1:=by kernel_rfl
theorem errs_differ {w:World}{a b:Addr}(hne:a≠b)(ha:∃ c t,w.heap[a.block]?=some (.cells c t (0,0)))(hb:∃ c t,w.heap[b.block]?=some (.cells c t (0,0))):
  (binOp .eql 70 (.iface 326 (.pointer (some a))) (.iface 326 (.pointer (some b)))).run Tryz.prog w= .ok (.bool false) w:=by
 obtain⟨i,hi,hcmp⟩:=Option.map_eq_some_iff.1 compPtr
 obtain⟨j,hj,hjs⟩:=Option.map_eq_some_iff.1 sizeStr
 obtain⟨ca,ta,ha⟩:=ha
 obtain⟨cb,tb,hb⟩:=hb
 exact run_eql_iface_ptr_other w Tryz.underlying70 Tryz.underlying326 hi hcmp hj (by rw [hjs];decide) hne ha hb
structure Sents (w:World)(at_:Nat→Addr):Prop where
 entry:w.cell? ⟨1,0,none⟩=some (.iface 326 (.pointer (some (at_ 0))))
 range:w.cell? ⟨2,0,none⟩=some (.iface 326 (.pointer (some (at_ 1))))
 check:w.cell? ⟨3,0,none⟩=some (.iface 326 (.pointer (some (at_ 2))))
 old:w.cell? ⟨4,0,none⟩=some (.iface 326 (.pointer (some (at_ 3))))
 proof:w.cell? ⟨5,0,none⟩=some (.iface 326 (.pointer (some (at_ 4))))
 tile:w.cell? ⟨6,0,none⟩=some (.iface 326 (.pointer (some (at_ 5))))
 failed:w.cell? ⟨0,0,none⟩=some (.iface 326 (.pointer (some (at_ 6))))
 apart:∀ i j,i < 7→j < 7→i≠j→at_ i≠at_ j
 block:∀ i,i < 7→∃ c t,w.heap[(at_ i).block]?=some (.cells c t (0,0))
end
section
open Go.RowKit
set_option maxRecDepth 100000
theorem part_byte (a:List UInt8)(i:Nat)(h:i < a.length)(w:World):(part 5 (hv a) (i*Tryz.prog.cellsOf 5)).run Tryz.prog w= .ok (bv a[i]) w:=by
 have hc:Tryz.prog.cellsOf 5=1:=by kernel_rfl
 rw [hc,Nat.mul_one]
 exact run_part_plain w (by kernel_rfl) (by simp [hv,h])
theorem eq_byte (d:Nat)(x y:UInt8)(w:World):(Op.equalIn (d+1) 5 (bv x) (bv y)).run Tryz.prog w= .ok (decide (x=y)) w:=by
 have e:((x.toNat:Int)==(y.toNat:Int))=decide (x=y):=by
  rw [Bool.eq_iff_iff,beq_iff_eq,decide_eq_true_eq]
  constructor
  ·intro h;exact UInt8.toNat_inj.1 (by omega)
  ·rintro rfl;rfl
 rw [← e]
 unfold bv
 simp [Op.equalIn,run_underlying Tryz.underlying5]
theorem eqItems_bytes (d:Nat)(a b:List UInt8)(w:World):∀ l:List Nat,(∀ i∈l,i < a.length∧i < b.length) →
  (Op.eqItems (d+1) 5 (Tryz.prog.cellsOf 5) (hv a) (hv b) l).run Tryz.prog w= .ok (l.all fun i=>decide (a[i]?=b[i]?)) w
 | [],_=>by simp [Op.eqItems]
 | i::l,h=>by
  obtain⟨h1,h2⟩:=h i (by simp)
  have ih:=eqItems_bytes d a b w l (fun j hj=>h j (by simp [hj]))
  simp only [Op.eqItems,Sem.run_bind,part_byte a i h1,part_byte b i h2,eq_byte,Result.andThen_ok]
  have e:decide (a[i]?=b[i]?)=decide (a[i]=b[i]):=by
   rw [List.getElem?_eq_getElem h1,List.getElem?_eq_getElem h2];simp
  rw [List.all_cons,e]
  cases hq:decide (a[i]=b[i])
  ·simp
  ·simp [ih]
theorem all_eq (a b:List UInt8)(ha:a.length=8)(hb:b.length=8):((List.range 8).all fun i=>decide (a[i]?=b[i]?))=decide (a=b):=by
 rw [Bool.eq_iff_iff]
 simp only [List.all_eq_true,List.mem_range,decide_eq_true_eq]
 constructor
 ·intro h
  apply List.ext_getElem?
  intro i
  by_cases hi:i < 8
  ·exact h i hi
  ·rw [List.getElem?_eq_none (by omega),List.getElem?_eq_none (by omega)]
 ·rintro rfl i _;rfl
def eqH (a b:List UInt8):Bool:=decide (a=b)
theorem eql_hash (a b:List UInt8)(ha:a.length=8)(hb:b.length=8)(w:World):
  (binOp .eql 91 (.agg (hv a)) (.agg (hv b))).run Tryz.prog w= .ok (.bool (eqH a b)) w:=by
 unfold eqH
 have hs:∃ i,Tryz.prog.info? 5=some i:=by
  have:(Tryz.prog.info? 5).map (·.size)=some 1:=by kernel_rfl
  obtain⟨i,hi,_⟩:=Option.map_eq_some_iff.1 this
  exact⟨i,hi⟩
 obtain⟨i,hi⟩:=hs
 simp only [binOp]
 have he:=run_equalIn_array (P:=Tryz.prog) w 9999 (hv a) (hv b) Tryz.underlying91 hi
 rw [eqItems_bytes 9998 a b w _ (fun j hj=>by simp at hj;omega),all_eq a b ha hb] at he
 simp [Op.equal,Op.maxDepth,he]
end
section
open Go.RowKit
set_option maxRecDepth 100000
def errS (at_:Nat→Addr)(i:Nat):Value:= .iface 326 (.pointer (some (at_ i)))
theorem lok {w:World}{O:Nat→Prop}{db lb:Nat}{l:Lg}(h:LogAt w O db lb l):∃ a cap,(w.heap[lb]?=some (.cells (lcells db (.slice a l.es.length cap) l) 109 (0,0)))∧OBs w 0 (.slice a l.es.length cap) l.es∧(∀ g,(Value.slice a l.es.length cap).ownBlock=some g→O g)∧O lb:=by
 obtain⟨ev,hO,hb,hes,hg⟩:=h
 obtain⟨a,cap,rfl⟩:=obs_shape hes
 exact⟨a,cap,hb,hes,hg,hO⟩
theorem sents_below {w w':World}{at_:Nat→Addr}(h:Sents w at_)(hb:Below w.heap.size w w'):Sents w' at_:=by
 have c:∀ {a:Addr} {v:Value},w.cell? a=some v→w'.cell? a=some v:=fun {a v} e=>by rw [hb.cell (p:=a) (cell_lt e)];exact e
 refine⟨c h.entry,c h.range,c h.check,c h.old,c h.proof,c h.tile,c h.failed,h.apart,fun i hi=>?_⟩
 obtain⟨cs,t,e⟩:=h.block i hi
 refine⟨cs,t,?_⟩
 rw [hb.block _ (heap_some_lt e)]
 exact e
theorem neq_hash (a b:List UInt8)(ha:a.length=8)(hb:b.length=8)(w:World):
  (binOp .neq 91 (.agg (hv a)) (.agg (hv b))).run Tryz.prog w= .ok (.bool !eqH a b) w:=by
 have h:=eql_hash a b ha hb w
 simp only [binOp] at h ⊢
 cases e:(Op.equal 91 (.agg (hv a)) (.agg (hv b))).run Tryz.prog w with
 | ok x w' =>
  simp [e] at h ⊢
  exact⟨by rw [← h.1],h.2⟩
 | halt x w'=>simp [e] at h
end
section
open Go.RowKit
set_option maxRecDepth 100000
end
section
set_option maxHeartbeats 400000
open Go.RowKit
set_option maxRecDepth 100000
theorem failed_any (O:Nat→Prop)(db lb:Nat)(l:Lg)(w:World)(h:LogAt w O db lb l):
  Calls Tryz.prog 48 #[.pointer (some ⟨lb,0,none⟩)] w fun r w'=>r= .returned (.bool !l.live)∧w'=w:=by
 obtain⟨a,cap,hb,-⟩:=lok h
 obtain⟨⟨c0,f0⟩,-⟩:=lall hb
 clear h hb
 cases hl:l.live with
 | true =>
  rw [hl] at c0
  unfold stV dptr at c0
  simp only [if_true] at c0
  clear hl
  go_enter Tryz.func48,Tryz.ntmps48
  go_wp2_with fail
  go_ret
  exact⟨rfl,rfl⟩
 | false =>
  rw [hl] at c0
  unfold stV at c0
  simp only [Bool.false_eq_true,if_false] at c0
  clear hl
  go_enter Tryz.func48,Tryz.ntmps48
  go_wp2_with fail
  go_ret
  exact⟨rfl,rfl⟩
theorem bits_any (l:Int)(h1:-1≤l)(h2:l≤30)(w:World):
  Calls Tryz.prog 122 #[.int .i64 l] w fun r w'=>r= .returned (.int .i64 ((2*l.toNat:Nat):Int))∧w'=w:=by
 by_cases hl:l=-1
 ·subst hl
  go_enter Tryz.func122,Tryz.ntmps122
  go_wp2_with fail
  go_ret
  exact⟨rfl,rfl⟩
 ·obtain⟨k,rfl⟩:=Int.eq_ofNat_of_zero_le (show 0≤l by omega)
  have hmx:max (k:Int) 0=(k:Int):=by omega
  go_enter Tryz.func122,Tryz.ntmps122
  go_wp2_with fail
  go_ret
  exact⟨congrArg (fun x=>Ending.returned (.int .i64 x)) (by simp),rfl⟩
theorem pow_two_four (l:Int):2 ^ (2*l.toNat)=4 ^ l.toNat:=by rw [Nat.pow_mul]
theorem countAt_any (l:Int)(h1:-1≤l)(h2:l≤30)(n:Nat)(w:World):
  Calls Tryz.prog 81 #[.int .i64 l,.int .i64 n] w fun r w'=>r= .returned (.int .i64 ((cntL l n:Nat):Int))∧w'=w:=by
 go_enter Tryz.func81,Tryz.ntmps81
 go_wp2_with fail
 refine(bits_any l h1 h2 w).mono ?_
 rintro r w1 ⟨rfl,rfl⟩
 have HP:=hide (pow_two_four l)
 generalize hb:2*l.toNat=b at *
 have hb60:b≤60:=by omega
 clear hb
 go_wp2_with fail
 go_ret
 refine⟨congrArg (fun x=>Ending.returned (.int .i64 x)) ?_,rfl⟩
 show((n:Int) / 2 ^ b)=((cntL l n:Nat):Int)
 unfold cntL
 rw [← HP.out]
 simp
theorem firstOf_any (l:Int)(h1:0≤l)(h2:l≤20)(n:Nat)(hn:n*4 ^ l.toNat≤1000000)(w:World):
  Calls Tryz.prog 165 #[.int .i64 l,.int .i64 n] w fun r w'=>r= .returned (.int .i64 ((n*4 ^ l.toNat:Nat):Int))∧w'=w:=by
 rw [← pow_two_four l] at hn ⊢
 go_enter Tryz.func165,Tryz.ntmps165
 go_wp2_with fail
 refine(bits_any l (by omega) (by omega) w).mono ?_
 rintro r w1 ⟨rfl,rfl⟩
 generalize hb:2*l.toNat=b at *
 have hb60:b≤60:=by omega
 have HBB:=hide hb
 clear hb
 have hcast:((n:Int)*2 ^ b)=((n*2 ^ b:Nat):Int):=by simp
 have h00:(0:Int)≤(n:Int)*2 ^ b:=by rw [hcast];omega
 have h01:(n:Int)*2 ^ b≤1000000:=by rw [hcast];omega
 have HCA:=hide hcast
 clear hcast
 go_wp2_with fail
 go_ret
 exact⟨by rw [HBB.out];exact congrArg (fun x=>Ending.returned (.int .i64 x)) HCA.out,rfl⟩
end
section
set_option maxHeartbeats 1000000
open Go.RowKit
set_option maxRecDepth 100000
theorem bits_wide (l:Int)(h1:-1≤l)(h2:l≤100)(w:World):
  Calls Tryz.prog 122 #[.int .i64 l] w fun r w'=>r= .returned (.int .i64 ((2*l.toNat:Nat):Int))∧w'=w:=by
 by_cases hl:l=-1
 ·subst hl
  go_enter Tryz.func122,Tryz.ntmps122
  go_wp2_with fail
  go_ret
  exact⟨rfl,rfl⟩
 ·obtain⟨k,rfl⟩:=Int.eq_ofNat_of_zero_le (show 0≤l by omega)
  have hmx:max (k:Int) 0=(k:Int):=by omega
  go_enter Tryz.func122,Tryz.ntmps122
  go_wp2_with fail
  go_ret
  exact⟨congrArg (fun x=>Ending.returned (.int .i64 x)) (by simp),rfl⟩
theorem countAt_wide (l:Int)(h1:-1≤l)(h2:l≤100)(n:Nat)(hn:n < 9223372036854775808)(w:World):
  Calls Tryz.prog 81 #[.int .i64 l,.int .i64 n] w fun r w'=>r= .returned (.int .i64 ((cntL l n:Nat):Int))∧w'=w:=by
 go_enter Tryz.func81,Tryz.ntmps81
 go_wp2_with fail
 refine(bits_wide l h1 h2 w).mono ?_
 rintro r w1 ⟨rfl,rfl⟩
 have HP:=hide (pow_two_four l)
 generalize hb:2*l.toNat=b at *
 have hb60:b≤200:=by omega
 clear hb
 go_wp2_with fail
 go_ret
 refine⟨congrArg (fun x=>Ending.returned (.int .i64 x)) ?_,rfl⟩
 have hm:(n:Int) / 2 ^ min b 64=(n:Int) / 2 ^ b:=by
  rcases Nat.le_total b 64 with h | h
  ·rw [Nat.min_eq_left h]
  ·rw [Nat.min_eq_right h]
   have e1:n / 2 ^ 64=0:=Nat.div_eq_of_lt (by omega)
   have e2:n / 2 ^ b=0:=Nat.div_eq_of_lt (Nat.lt_of_lt_of_le (show n < 2 ^ 64 by omega) (Nat.pow_le_pow_right (by omega) h))
   have f1:(n:Int) / 2 ^ 64=((n / 2 ^ 64:Nat):Int):=by simp
   have f2:(n:Int) / 2 ^ b=((n / 2 ^ b:Nat):Int):=by simp
   rw [f1,f2,e1,e2]
 refine hm.trans ?_
 show((n:Int) / 2 ^ b)=((cntL l n:Nat):Int)
 unfold cntL
 rw [← HP.out]
 simp
theorem tz64_core (x k idx:Nat)(w:World)(hx0:((x:Int)==0)=false)
  (key:IntKind.u64.wrap (bits BinOp.and IntKind.u64 (x:Int) (IntKind.u64.wrap (-(x:Int)))*285870213051353865) / 288230376151711744=(idx:Int))
  (hi:idx < 64) (hk:k < 64) (hcell:w.cell? ⟨11,idx,none⟩=some (.int .u8 k)) :
  Calls Tryz.prog 184 #[.int .u64 x] w fun e w'=>e= .returned (.int .i64 k)∧w'=w:=by
 go_enter Tryz.func184,Tryz.ntmps184
 go_wp2_with (simp only [key])
 go_ret
 exact⟨rfl,rfl⟩
def Tabs (w:World):Prop:=TabAt 11 Lib.deBruijn64tab w
theorem tz64_any (x:Nat)(hx:x < 18446744073709551616)(hx0:x≠0)(w:World)(hT:Tabs w):
  Calls Tryz.prog 184 #[.int .u64 x] w fun e w'=>e= .returned (.int .i64 (Lib.ctz 64 x))∧w'=w:=by
 obtain⟨hlow,hk⟩:=Lib.lowest_bit 64 x hx0 hx
 obtain⟨hi,htab⟩:=Lib.deBruijn64_at _ hk
 have hcell:=hT _ hi
 rw [htab] at hcell
 exact tz64_core x _ _ w (by simp;omega) (tz64_key x _ hx hx0 hlow) hi hk hcell
theorem tz_any (x:Nat)(hx:x < 18446744073709551616)(hx0:x≠0)(w:World)(hT:Tabs w):
  Calls Tryz.prog 143 #[.int .u64 x] w fun e w'=>e= .returned (.int .i64 (Lib.ctz 64 x))∧w'=w:=by
 have HT:=hide hT
 clear hT
 go_enter Tryz.func143,Tryz.ntmps143
 go_wp2_with (go_at_call 184;refine(tz64_any x hx hx0 _ HT.out).mono ?_;rintro r w1 ⟨rfl,rfl⟩)
 go_ret
 exact⟨rfl,rfl⟩
theorem results_one {P:Program}{fn:Func}{p:Tmp}{ty:TypeId}(h:fn.results=#[.cell p ty])(tmps:Array Value)(w:World)(g:Nat)(t:TypeId)(cs:Array Value)(fr:Nat×Nat)(d:TypeDesc)
  (hp:tmps.getD p undef= .pointer (some ⟨g,0,none⟩)) (hg:w.heap[g]?=some (.cells cs t fr))
  (hu:P.underlying ty=some d) (hd:(match d with | .struct _ | .array _ _=>true | _=>false)=true) (hi:(P.info? ty).map (·.size)=some cs.size) :
  (results fn tmps).run P w= .ok (.agg cs) w:=by
 have hl:=run_loadVar_row (P:=P) w g t ty cs fr d hg hu hd hi
 simp only [Array.getD_eq_getD_getElem?] at hp
 simp [results,h,hp,asAddr,hl]
theorem infoPl:(Tryz.prog.info? 126).map (·.size)=some 3:=by kernel_rfl
theorem placeIn_any (n:Nat)(hn:n < 9223372036854775808)(l:Int)(h1:-1≤l)(h2:l≤100)(j:Nat)(hj:j < 9223372036854775808)(w:World):
  Calls Tryz.prog 145 #[.int .i64 n,.int .i64 l,.int .i64 j] w fun r w'=>r= .returned (plV (placeN n l j))∧Below w.heap.size w w':=by
 have hq:((j:Int).tdiv 4)=((j / 4:Nat):Int):=by rw [Int.tdiv_eq_ediv_of_nonneg (by omega)];omega
 have HQ:=hide hq
 have hc:cntL l n≤n:=Nat.div_le_self _ _
 have HP:Hid (placeN n l j=(l,((j / 4:Nat):Int),min ((cntL l n:Int) - ((j / 4:Nat):Int)*4) 4)):=rfl
 generalize hix:j / 4=ix at *
 have hx4:ix*4 < 9223372036854775808:=by omega
 clear hix
 generalize hcc:cntL l n=c at *
 have HC:=hide hcc
 clear hcc
 go_enter Tryz.func145,Tryz.ntmps145
 go_wp2_with (first | (go_at_call 81;refine(countAt_wide l h1 h2 n hn _).mono ?_;rintro r w1 ⟨rfl,rfl⟩;rw [HC.out]))
 exact bodyPost_ret (v:=plV (placeN n l j)) (by rw [HP.out];exact results_one Tryz.results145 _ _ w.heap.size 126 _ (0,0) _ rfl (heap_alloc_last _ _) Tryz.underlying126 rfl infoPl) rfl ⟨rfl,below_alloc _ _⟩
end
end Go.Proofs.YtinhekmmdlhfkaaGreatDoor
