import Derived.Test.YtndkblnpbjffhaaGreatDoorG20
import Derived.Shelf.Spec.TrailingZeros
set_option maxHeartbeats 1000000
set_option maxRecDepth 100000
open Go.RowKit
namespace Go.Proofs.YtndkblnpbjffhaaGreatDoor
theorem zdy:(Tryz.prog.info? 344).map (·.comparable)=some true:=by kernel_rfl
theorem zdr:(Tryz.prog.info? 346).map (·.size)=some 1:=by kernel_rfl
theorem qx {w:World}{a b:Addr}(E:a≠b)(h:∃ c t,w.heap[a.block]?=some (.cells c t (0,0)))(r:∃ c t,w.heap[b.block]?=some (.cells c t (0,0))):
  (binOp .eql 68 (.iface 344 (.pointer (some a))) (.iface 344 (.pointer (some b)))).run Tryz.prog w= .ok (.bool false) w:=by
 obtain⟨i,H,A⟩:=Option.map_eq_some_iff.1 zdy;obtain⟨j,I,D⟩:=Option.map_eq_some_iff.1 zdr;obtain⟨J,K,h⟩:=h;obtain⟨cb,tb,r⟩:=r;exact run_eql_iface_ptr_other w Tryz.underlying68 Tryz.underlying344 H A I (by rw [D];decide) E h r
structure ja (w:World)(at_:Nat→Addr):Prop where
 entry:w.cell? ⟨1,0,none⟩=some (.iface 344 (.pointer (some (at_ 0))))
 range:w.cell? ⟨2,0,none⟩=some (.iface 344 (.pointer (some (at_ 1))))
 check:w.cell? ⟨0,0,none⟩=some (.iface 344 (.pointer (some (at_ 2))))
 old:w.cell? ⟨3,0,none⟩=some (.iface 344 (.pointer (some (at_ 3))))
 proof:w.cell? ⟨4,0,none⟩=some (.iface 344 (.pointer (some (at_ 4))))
 tile:w.cell? ⟨6,0,none⟩=some (.iface 344 (.pointer (some (at_ 5))))
 failed:w.cell? ⟨5,0,none⟩=some (.iface 344 (.pointer (some (at_ 6))))
 apart:∀ i j,i < 7→j < 7→i≠j→at_ i≠at_ j
 block:∀ i,i < 7→∃ c t,w.heap[(at_ i).block]?=some (.cells c t (0,0))
theorem zpw (a:List UInt8)(i:Nat)(h:i < a.length)(w:World):(part 5 (hv a) (i*Tryz.prog.cellsOf 5)).run Tryz.prog w= .ok (bv a[i]) w:=by
 have r:Tryz.prog.cellsOf 5=1:=by kernel_rfl
 rw [r,Nat.mul_one];exact run_part_plain w (by kernel_rfl) (by simp [hv,h])
theorem z8w (d:Nat)(x y:UInt8)(w:World):(Op.equalIn (d+1) 5 (bv x) (bv y)).run Tryz.prog w= .ok (decide (x=y)) w:=by
 have e:((x.toNat:Int)==(y.toNat:Int))=decide (x=y):=by
  rw [Bool.eq_iff_iff,beq_iff_eq,decide_eq_true_eq];constructor
  ·intro h;exact UInt8.toNat_inj.1 (by omega)
  ·rintro rfl;rfl
 rw [← e];unfold bv;simp [Op.equalIn,run_underlying Tryz.underlying5]
theorem zif (d:Nat)(a b:List UInt8)(w:World):∀ l:List Nat,(∀ i∈l,i < a.length∧i < b.length) →
  (Op.eqItems (d+1) 5 (Tryz.prog.cellsOf 5) (hv a) (hv b) l).run Tryz.prog w= .ok (l.all fun i=>decide (a[i]?=b[i]?)) w
 | [],_=>by simp [Op.eqItems]
 | i::l,h=>by
  obtain⟨h1,h2⟩:=h i (by simp);have A:=zif d a b w l (fun j r=>h j (by simp [r]));simp only [Op.eqItems,Sem.run_bind,zpw a i h1,zpw b i h2,z8w,Result.andThen_ok];have e:decide (a[i]?=b[i]?)=decide (a[i]=b[i]):=by
   rw [List.getElem?_eq_getElem h1,List.getElem?_eq_getElem h2];simp
  rw [List.all_cons,e];cases hq:decide (a[i]=b[i])
  ·simp
  ·simp [A]
theorem z9q (a b:List UInt8)(A:a.length=8)(D:b.length=8):((List.range 8).all fun i=>decide (a[i]?=b[i]?))=decide (a=b):=by
 rw [Bool.eq_iff_iff];simp only [List.all_eq_true,List.mem_range,decide_eq_true_eq];constructor
 ·intro h;apply List.ext_getElem?;intro i;by_cases r:i < 8
  ·exact h i r
  ·rw [List.getElem?_eq_none (by omega),List.getElem?_eq_none (by omega)]
 ·rintro rfl i _;rfl
def eqH (a b:List UInt8):Bool:=decide (a=b)
theorem zhr (a b:List UInt8)(A:a.length=8)(D:b.length=8)(w:World):
  (binOp .eql 92 (.agg (hv a)) (.agg (hv b))).run Tryz.prog w= .ok (.bool (eqH a b)) w:=by
 unfold eqH;have H:∃ i,Tryz.prog.info? 5=some i:=by
  have:(Tryz.prog.info? 5).map (·.size)=some 1:=by kernel_rfl
  obtain⟨i,h,_⟩:=Option.map_eq_some_iff.1 this;exact⟨i,h⟩
 obtain⟨i,h⟩:=H;simp only [binOp];have r:=run_equalIn_array (P:=Tryz.prog) w 9999 (hv a) (hv b) Tryz.underlying92 h;rw [zif 9998 a b w _ (fun j E=>by simp at E;omega),z9q a b A D] at r;simp [Op.equal,Op.maxDepth,r]
def j4 (h:Nat→Addr)(i:Nat):Value:= .iface 344 (.pointer (some (h i)))
theorem lok {w:World}{O:Nat→Prop}{D lb:Nat}{l:Lg}(h:qz w O D lb l):∃ a r,(w.heap[lb]?=some (.cells (zd8 D (.slice a l.es.length r) l) 189 (0,0)))∧OBs w 0 (.slice a l.es.length r) l.es∧(∀ g,(Value.slice a l.es.length r).ownBlock=some g→O g)∧O lb:=by
 obtain⟨J,E,H,A,I⟩:=h;obtain⟨a,r,rfl⟩:=zkq A;exact⟨a,r,H,A,I,E⟩
theorem j5 {w w':World}{r:Nat→Addr}(h:ja w r)(A:Below w.heap.size w w'):ja w' r:=by
 have c:∀ {a:Addr} {v:Value},w.cell? a=some v→w'.cell? a=some v:=fun {a v} e=>by rw [A.cell (p:=a) (zk e)];exact e
 refine⟨c h.entry,c h.range,c h.check,c h.old,c h.proof,c h.tile,c h.failed,h.apart,fun i D=>?_⟩;obtain⟨cs,t,e⟩:=h.block i D;refine⟨cs,t,?_⟩;rw [A.block _ (zb e)];exact e
theorem zsd (a b:List UInt8)(r:a.length=8)(A:b.length=8)(w:World):
  (binOp .neq 92 (.agg (hv a)) (.agg (hv b))).run Tryz.prog w= .ok (.bool !eqH a b) w:=by
 have h:=zhr a b r A w;simp only [binOp] at h ⊢;cases e:(Op.equal 92 (.agg (hv a)) (.agg (hv b))).run Tryz.prog w with
 | ok x w' =>
  simp [e] at h ⊢;exact⟨by rw [← h.1],h.2⟩
 | halt x w'=>simp [e] at h
theorem zgb (O:Nat→Prop)(H lb:Nat)(l:Lg)(w:World)(h:qz w O H lb l):
  Calls Tryz.prog 148 #[.pointer (some ⟨lb,0,none⟩)] w fun r w'=>r= .returned (.bool !l.live)∧w'=w:=by
 obtain⟨a,E,D,-⟩:=lok h;obtain⟨⟨A,I⟩,-⟩:=zmq D;clear h D;cases hl:l.live with
 | true =>
  rw [hl] at A;unfold stV vr at A;simp only [if_true] at A;clear hl;go_enter Tryz.func148,Tryz.ntmps148;go_wp2_with fail;go_ret;exact⟨rfl,rfl⟩
 | false =>
  rw [hl] at A;unfold stV at A;simp only [Bool.false_eq_true,if_false] at A;clear hl;go_enter Tryz.func148,Tryz.ntmps148;go_wp2_with fail;go_ret;exact⟨rfl,rfl⟩
theorem z6f (O:Nat→Prop)(E lb:Nat)(l:Lg)(w:World)(h:qz w O E lb l):
  Calls Tryz.prog 47 #[.pointer (some ⟨lb,0,none⟩)] w fun r w'=>r= .returned (.int .i64 (l.es.length:Int))∧w'=w:=by
 obtain⟨a,D,A,-⟩:=lok h;obtain⟨-,-,⟨H,I⟩,-⟩:=zmq A;clear h A;go_enter Tryz.func47,Tryz.ntmps47;go_wp2_with fail;go_ret;exact⟨rfl,rfl⟩
theorem ztn (l:Int)(h1:-1≤l)(h2:l≤30)(w:World):
  Calls Tryz.prog 190 #[.int .i64 l] w fun r w'=>r= .returned (.int .i64 ((2*l.toNat:Nat):Int))∧w'=w:=by
 by_cases h:l=-1
 ·subst h;go_enter Tryz.func190,Tryz.ntmps190;go_wp2_with fail;go_ret;exact⟨rfl,rfl⟩
 ·obtain⟨k,rfl⟩:=Int.eq_ofNat_of_zero_le (show 0≤l by omega);have A:max (k:Int) 0=(k:Int):=by omega
  go_enter Tryz.func190,Tryz.ntmps190;go_wp2_with fail;go_ret;exact⟨congrArg (fun x=>Ending.returned (.int .i64 x)) (by simp),rfl⟩
theorem zga (l:Int):2 ^ (2*l.toNat)=4 ^ l.toNat:=by rw [Nat.pow_mul]
theorem zk2 (l:Int)(h1:-1≤l)(h2:l≤30)(n:Nat)(w:World):
  Calls Tryz.prog 139 #[.int .i64 l,.int .i64 n] w fun r w'=>r= .returned (.int .i64 ((yd l n:Nat):Int))∧w'=w:=by
 go_enter Tryz.func139,Tryz.ntmps139;go_wp2_with fail;refine(ztn l h1 h2 w).mono ?_;rintro r E ⟨rfl,rfl⟩;have h:=za (zga l);generalize A:2*l.toNat=b at *
 have D:b≤60:=by omega
 clear A;go_wp2_with fail;go_ret;refine⟨congrArg (fun x=>Ending.returned (.int .i64 x)) ?_,rfl⟩;show((n:Int) / 2 ^ b)=((yd l n:Nat):Int)
 unfold yd;rw [← h.o];simp
theorem zs6 (l:Int)(h1:0≤l)(h2:l≤20)(n:Nat)(K:n*4 ^ l.toNat≤1000000)(w:World):
  Calls Tryz.prog 232 #[.int .i64 l,.int .i64 n] w fun r w'=>r= .returned (.int .i64 ((n*4 ^ l.toNat:Nat):Int))∧w'=w:=by
 rw [← zga l] at K ⊢;go_enter Tryz.func232,Tryz.ntmps232;go_wp2_with fail;refine(ztn l (by omega) (by omega) w).mono ?_;rintro r L ⟨rfl,rfl⟩;generalize E:2*l.toNat=b at *
 have J:b≤60:=by omega
 have A:=za E;clear E;have h:((n:Int)*2 ^ b)=((n*2 ^ b:Nat):Int):=by simp
 have H:(0:Int)≤(n:Int)*2 ^ b:=by rw [h];omega
 have I:(n:Int)*2 ^ b≤1000000:=by rw [h];omega
 have D:=za h;clear h;go_wp2_with fail;go_ret;exact⟨by rw [A.o];exact congrArg (fun x=>Ending.returned (.int .i64 x)) D.o,rfl⟩
theorem zzl (l:Int)(h1:-1≤l)(h2:l≤100)(w:World):
  Calls Tryz.prog 190 #[.int .i64 l] w fun r w'=>r= .returned (.int .i64 ((2*l.toNat:Nat):Int))∧w'=w:=by
 by_cases h:l=-1
 ·subst h;go_enter Tryz.func190,Tryz.ntmps190;go_wp2_with fail;go_ret;exact⟨rfl,rfl⟩
 ·obtain⟨k,rfl⟩:=Int.eq_ofNat_of_zero_le (show 0≤l by omega);have A:max (k:Int) 0=(k:Int):=by omega
  go_enter Tryz.func190,Tryz.ntmps190;go_wp2_with fail;go_ret;exact⟨congrArg (fun x=>Ending.returned (.int .i64 x)) (by simp),rfl⟩
theorem zdw (l:Int)(h1:-1≤l)(h2:l≤100)(n:Nat)(L:n < 9223372036854775808)(w:World):
  Calls Tryz.prog 139 #[.int .i64 l,.int .i64 n] w fun r w'=>r= .returned (.int .i64 ((yd l n:Nat):Int))∧w'=w:=by
 go_enter Tryz.func139,Tryz.ntmps139;go_wp2_with fail;refine(zzl l h1 h2 w).mono ?_;rintro r Q ⟨rfl,rfl⟩;have A:=za (zga l);generalize J:2*l.toNat=b at *
 have K:b≤200:=by omega
 clear J;go_wp2_with fail;go_ret;refine⟨congrArg (fun x=>Ending.returned (.int .i64 x)) ?_,rfl⟩;have hm:(n:Int) / 2 ^ min b 64=(n:Int) / 2 ^ b:=by
  rcases Nat.le_total b 64 with h | h
  ·rw [Nat.min_eq_left h]
  ·rw [Nat.min_eq_right h];have D:n / 2 ^ 64=0:=Nat.div_eq_of_lt (by omega);have E:n / 2 ^ b=0:=Nat.div_eq_of_lt (Nat.lt_of_lt_of_le (show n < 2 ^ 64 by omega) (Nat.pow_le_pow_right (by omega) h));have H:(n:Int) / 2 ^ 64=((n / 2 ^ 64:Nat):Int):=by simp
   have I:(n:Int) / 2 ^ b=((n / 2 ^ b:Nat):Int):=by simp
   rw [H,I,D,E]
 refine hm.trans ?_;show((n:Int) / 2 ^ b)=((yd l n:Nat):Int)
 unfold yd;rw [← A.o];simp
theorem z07 (x k h:Nat)(w:World)(A:((x:Int)==0)=false)
  (key:IntKind.u64.wrap (bits BinOp.and IntKind.u64 (x:Int) (IntKind.u64.wrap (-(x:Int)))*285870213051353865) / 288230376151711744=(h:Int))
  (D:h < 64) (E:k < 64) (r:w.cell? ⟨11,h,none⟩=some (.int .u8 k)) :
  Calls Tryz.prog 189 #[.int .u64 x] w fun e w'=>e= .returned (.int .i64 k)∧w'=w:=by
 go_enter Tryz.func189,Tryz.ntmps189;go_wp2_with (simp only [key]);go_ret;exact⟨rfl,rfl⟩
def zdq (w:World):Prop:=TabAt 11 Lib.deBruijn64tab w
theorem z5j (x:Nat)(I:x < 18446744073709551616)(r:x≠0)(w:World)(J:zdq w):
  Calls Tryz.prog 189 #[.int .u64 x] w fun e w'=>e= .returned (.int .i64 (Lib.ctz 64 x))∧w'=w:=by
 obtain⟨A,H⟩:=Lib.lowest_bit 64 x r I;obtain⟨E,D⟩:=Lib.deBruijn64_at _ H;have h:=J _ E;rw [D] at h;exact z07 x _ _ w (by simp;omega) (tz64_key x _ I r A) E H h
theorem zvr (x:Nat)(E:x < 18446744073709551616)(h:x≠0)(w:World)(A:zdq w):
  Calls Tryz.prog 138 #[.int .u64 x] w fun e w'=>e= .returned (.int .i64 (Lib.ctz 64 x))∧w'=w:=by
 have D:=za A;clear A;go_enter Tryz.func138,Tryz.ntmps138;go_wp2_with (go_at_call 189;refine(z5j x E h _ D.o).mono ?_;rintro r H ⟨rfl,rfl⟩);go_ret;exact⟨rfl,rfl⟩
theorem ztg {P:Program}{A:Func}{p:Tmp}{r:TypeId}(h:A.results=#[.cell p r])(tmps:Array Value)(w:World)(g:Nat)(t:TypeId)(cs:Array Value)(D:Nat×Nat)(d:TypeDesc)
  (E:tmps.getD p undef= .pointer (some ⟨g,0,none⟩)) (I:w.heap[g]?=some (.cells cs t D))
  (hu:P.underlying r=some d) (H:(match d with | .struct _ | .array _ _=>true | _=>false)=true) (J:(P.info? r).map (·.size)=some cs.size) :
  (results A tmps).run P w= .ok (.agg cs) w:=by
 have K:=run_loadVar_row (P:=P) w g t r cs D d I hu H J;simp only [Array.getD_eq_getD_getElem?] at E;simp [results,h,E,asAddr,K]
theorem z84:(Tryz.prog.info? 99).map (·.size)=some 3:=by kernel_rfl
theorem zbv (n:Nat)(H:n < 9223372036854775808)(l:Int)(h1:-1≤l)(h2:l≤100)(j:Nat)(R:j < 9223372036854775808)(w:World):
  Calls Tryz.prog 141 #[.int .i64 n,.int .i64 l,.int .i64 j] w fun r w'=>r= .returned (plV (zj n l j))∧Below w.heap.size w w':=by
 have I:((j:Int).tdiv 4)=((j / 4:Nat):Int):=by rw [Int.tdiv_eq_ediv_of_nonneg (by omega)];omega
 have L:=za I;have Q:yd l n≤n:=Nat.div_le_self _ _;have E:Hid (zj n l j=(l,((j / 4:Nat):Int),min ((yd l n:Int) - ((j / 4:Nat):Int)*4) 4)):=rfl;generalize A:j / 4=K at *
 have J:K*4 < 9223372036854775808:=by omega
 clear A;generalize h:yd l n=c at *
 have D:=za h;clear h;go_enter Tryz.func141,Tryz.ntmps141;go_wp2_with (first | (go_at_call 139;refine(zdw l h1 h2 n H _).mono ?_;rintro r S ⟨rfl,rfl⟩;rw [D.o]));exact bodyPost_ret (v:=plV (zj n l j)) (by rw [E.o];exact ztg Tryz.results141 _ _ w.heap.size 99 _ (0,0) _ rfl (heap_alloc_last _ _) Tryz.underlying99 rfl z84) rfl ⟨rfl,ze _ _⟩
end Go.Proofs.YtndkblnpbjffhaaGreatDoor
