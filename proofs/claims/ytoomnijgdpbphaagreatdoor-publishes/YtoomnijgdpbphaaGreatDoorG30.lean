import Derived.Test.YtoomnijgdpbphaaGreatDoorG01
import Derived.ChangeKeysEq
import Derived.Test.YtoomnijgdpbphaaGreatDoorG23
import Derived.Test.YtoomnijgdpbphaaGreatDoorG28
import Derived.Test.YtoomnijgdpbphaaGreatDoorG29
import Derived.Deep.RegionHeld3
import Derived.Deep.CutRange

namespace Go.Proofs.YtoomnijgdpbphaaGreatDoor
open Go.RowKit
set_option maxRecDepth 100000

theorem part_byte (a : List UInt8) (i : Nat) (h : i < a.length) (w : World) : (part 5 (hv a) (i * Tryz.prog.cellsOf 5)).run Tryz.prog w = .ok (bv a[i]) w := by
  have hc : Tryz.prog.cellsOf 5 = 1 := by kernel_rfl
  rw [hc, Nat.mul_one]
  exact run_part_plain w (by kernel_rfl) (by simp [hv, h])
theorem eq_byte (d : Nat) (x y : UInt8) (w : World) : (Op.equalIn (d + 1) 5 (bv x) (bv y)).run Tryz.prog w = .ok (decide (x = y)) w := by
  have e : ((x.toNat : Int) == (y.toNat : Int)) = decide (x = y) := by
    rw [Bool.eq_iff_iff, beq_iff_eq, decide_eq_true_eq]
    constructor
    · intro h; exact UInt8.toNat_inj.1 (by omega)
    · rintro rfl; rfl
  rw [← e]
  unfold bv
  simp [Op.equalIn, run_underlying Tryz.underlying5]
theorem eqItems_bytes (d : Nat) (a b : List UInt8) (w : World) : ∀ l : List Nat, (∀ i ∈ l, i < a.length ∧ i < b.length) →
    (Op.eqItems (d + 1) 5 (Tryz.prog.cellsOf 5) (hv a) (hv b) l).run Tryz.prog w = .ok (l.all fun i => decide (a[i]? = b[i]?)) w
  | [], _ => by simp [Op.eqItems]
  | i :: l, h => by
    obtain ⟨h1, h2⟩ := h i (by simp)
    have ih := eqItems_bytes d a b w l (fun j hj => h j (by simp [hj]))
    simp only [Op.eqItems, Sem.run_bind, part_byte a i h1, part_byte b i h2, eq_byte, Result.andThen_ok]
    have e : decide (a[i]? = b[i]?) = decide (a[i] = b[i]) := by
      rw [List.getElem?_eq_getElem h1, List.getElem?_eq_getElem h2]; simp
    rw [List.all_cons, e]
    cases hq : decide (a[i] = b[i])
    · simp
    · simp [ih]
theorem all_eq (a b : List UInt8) (ha : a.length = 8) (hb : b.length = 8) : ((List.range 8).all fun i => decide (a[i]? = b[i]?)) = decide (a = b) := by
  rw [Bool.eq_iff_iff]
  simp only [List.all_eq_true, List.mem_range, decide_eq_true_eq]
  constructor
  · intro h
    apply List.ext_getElem?
    intro i
    by_cases hi : i < 8
    · exact h i hi
    · rw [List.getElem?_eq_none (by omega), List.getElem?_eq_none (by omega)]
  · rintro rfl i _; rfl
def eqH (a b : List UInt8) : Bool := decide (a = b)
/-- '==' of two hashes. -/
theorem eql_hash (a b : List UInt8) (ha : a.length = 8) (hb : b.length = 8) (w : World) :
    (binOp .eql 93 (.agg (hv a)) (.agg (hv b))).run Tryz.prog w = .ok (.bool (eqH a b)) w := by
  unfold eqH
  have hs : ∃ i, Tryz.prog.info? 5 = some i := by
    have : (Tryz.prog.info? 5).map (·.size) = some 1 := by kernel_rfl
    obtain ⟨i, hi, _⟩ := Option.map_eq_some_iff.1 this
    exact ⟨i, hi⟩
  obtain ⟨i, hi⟩ := hs
  simp only [binOp]
  have he := run_equalIn_array (P := Tryz.prog) w 9999 (hv a) (hv b) Tryz.underlying93 hi
  rw [eqItems_bytes 9998 a b w _ (fun j hj => by simp at hj; omega), all_eq a b ha hb] at he
  simp [Op.equal, Op.maxDepth, he]
end Go.Proofs.YtoomnijgdpbphaaGreatDoor

namespace Go.Proofs.YtoomnijgdpbphaaGreatDoor
open Go.RowKit
set_option maxRecDepth 100000

def errS (at_ : Nat → Addr) (i : Nat) : Value := .iface 221 (.pointer (some (at_ i)))
theorem lok {w : World} {O : Nat → Prop} {db lb : Nat} {l : Lg} (h : LogAt w O db lb l) : ∃ a cap, (w.heap[lb]? = some (.cells (lcells db (.slice a l.es.length cap) l) 58 (0, 0))) ∧ OBs w 0 (.slice a l.es.length cap) l.es ∧ (∀ g, (Value.slice a l.es.length cap).ownBlock = some g → O g) ∧ O lb := by
  obtain ⟨ev, hO, hb, hes, hg⟩ := h
  obtain ⟨a, cap, rfl⟩ := obs_shape hes
  exact ⟨a, cap, hb, hes, hg, hO⟩

/-- What Check says, as numbers. -/
def Chk (t key : List UInt8) (n y0 y1 y2 y3 y4 y5 y6 y7 : Int) (b : Bool) : Prop := (∃ (m : Nat) (b0 b1 b2 b3 b4 b5 b6 b7 : UInt8), IsSign t key m [b0, b1, b2, b3, b4, b5, b6, b7] ∧ n = m ∧ y0 = b0.toNat ∧ y1 = b1.toNat ∧ y2 = b2.toNat ∧ y3 = b3.toNat ∧ y4 = b4.toNat ∧ y5 = b5.toNat ∧ y6 = b6.toNat ∧ y7 = b7.toNat ∧ b = true) ∨ ((∀ n root, ¬ IsSign t key n root) ∧ b = false)
theorem check_ints (t key : List UInt8) (ht : t.length ≤ 1048576) (hk : key.length ≤ 9223372036854775807) (w : World) (E : Env w) :
    Calls Tryz.prog 39 #[.string ⟨t.toArray⟩, .string ⟨key.toArray⟩] w fun r w' => Below w.heap.size w w' ∧ ∃ (n y0 y1 y2 y3 y4 y5 y6 y7 : Int) (b : Bool), r = .returned (.tuple #[.agg #[.int .i64 n, .int .u8 y0, .int .u8 y1, .int .u8 y2, .int .u8 y3, .int .u8 y4, .int .u8 y5, .int .u8 y6, .int .u8 y7], .bool b]) ∧ Chk t key n y0 y1 y2 y3 y4 y5 y6 y7 b := by
  refine (check_any t key ht hk w E).mono ?_
  rintro r w' ⟨hb, ⟨m, b0, b1, b2, b3, b4, b5, b6, b7, hs, rfl⟩ | ⟨hs, rfl⟩⟩
  · exact ⟨hb, _, _, _, _, _, _, _, _, _, _, rfl, .inl ⟨m, b0, b1, b2, b3, b4, b5, b6, b7, hs, rfl, rfl, rfl, rfl, rfl, rfl, rfl, rfl, rfl, rfl⟩⟩
  · exact ⟨hb, _, _, _, _, _, _, _, _, _, _, rfl, .inr ⟨hs, rfl⟩⟩

theorem bun20 {lk : Lk} {j w : Nat} {es : List (List UInt8)} (h : bunAt lk j w = some es) : ∀ e ∈ es, e.length ≤ 20 := by
  unfold bunAt at h
  cases e : lk (nameF (-1) j w) with
  | none => rw [e] at h; simp at h
  | some d =>
    rw [e] at h
    simp only at h
    cases e2 : unbF d with
    | none => rw [e2] at h; simp at h
    | some x =>
      rw [e2] at h
      simp only at h
      split at h
      · obtain rfl : x = es := by simpa using h
        unfold unbF at e2
        cases e3 : unb d with
        | none => rw [e3] at e2; simp at e2
        | some y =>
          rw [e3] at e2
          simp only at e2
          split at e2
          · rename_i hok
            obtain rfl : y = x := by simpa using e2
            simp only [okB, Bool.and_eq_true, decide_eq_true_eq, List.all_eq_true] at hok
            exact hok.2.2
          · simp at e2
      · simp at h
theorem es20 {lk : Lk} {n : Nat} : ∀ {k : Nat} {d : List (List UInt8)}, rdTo lk n k = some d → ∀ e ∈ d, e.length ≤ 20
  | 0, d, h => by
    obtain rfl : [] = d := by simpa [rdTo] using h
    intro e he
    simp at he
  | k + 1, d, h => by
    unfold rdTo at h
    cases e : rdTo lk n k with
    | none => rw [e] at h; simp at h
    | some x =>
      rw [e] at h
      obtain ⟨b, hb, rfl⟩ := Option.map_eq_some_iff.1 h
      intro y hy
      rcases List.mem_append.1 hy with hy | hy
      · exact es20 e y hy
      · exact bun20 hb y hy
theorem sents_below {w w' : World} {at_ : Nat → Addr} (h : Sents w at_) (hb : Below w.heap.size w w') : Sents w' at_ := by
  have c : ∀ {a : Addr} {v : Value}, w.cell? a = some v → w'.cell? a = some v := fun {a v} e => by rw [hb.cell (p := a) (cell_lt e)]; exact e
  refine ⟨c h.entry, c h.range, c h.check, c h.old, c h.proof, c h.tile, c h.failed, h.apart, fun i hi => ?_⟩
  obtain ⟨cs, t, e⟩ := h.block i hi
  refine ⟨cs, t, ?_⟩
  rw [hb.block _ (heap_some_lt e)]
  exact e

theorem neq_hash (a b : List UInt8) (ha : a.length = 8) (hb : b.length = 8) (w : World) :
    (binOp .neq 93 (.agg (hv a)) (.agg (hv b))).run Tryz.prog w = .ok (.bool !eqH a b) w := by
  have h := eql_hash a b ha hb w
  simp only [binOp] at h ⊢
  cases e : (Op.equal 93 (.agg (hv a)) (.agg (hv b))).run Tryz.prog w with
  | ok x w' =>
    simp [e] at h ⊢
    exact ⟨by rw [← h.1], h.2⟩
  | halt x w' => simp [e] at h
set_option maxHeartbeats 4000000 in
theorem rpub_any (O : Nat → Prop) (W : World) (at_ : Nat → Addr) (hE : Env W) (hSN : Sents W at_) (hOW : ∀ k, O k → W.heap.size ≤ k) (db lb : Nat) (d : Dk) (l : Lg) (w : World) (hn : d.fs.length ≤ 1000000000) (hl : ∀ f ∈ d.fs, f.2.length ≤ 1048576) (hk : l.key.length ≤ 9223372036854775807) (hc : Calm d) (hW : Below W.heap.size W w) (h : DiskAt w O db d) (hL : LogAt w O db lb l) (hlv : l.live = true) (hes0 : l.es = [])
    (s : List Nat) (hs : Among (look d.fs) s) (hsl : s.length ≤ 100000) :
    Calls Tryz.prog 18 #[.pointer (some ⟨lb, 0, none⟩)] w fun r w' => ∃ (d' : Dk) (es' : List (List UInt8)), Turn O rT w w' ∧ DiskAt w' O db d' ∧ LogAt w' (Ext O w w') db lb { l with es := es' } ∧ d'.fs = d.fs ∧ tk d' = tk d ∧
      ((d'.hit = true ∧ ∃ p e, r = .returned e ∧ GotErr true p w.heap.size e w') ∨ (Calm d' ∧
        ((r = .returned .nilIface ∧ ∃ n R, HasCp (look d.fs) l.key n R ∧ rdTo (look d.fs) n ((n + 3) / 4) = some es' ∧ rootT es' = R) ∨
         (r = .returned (errS at_ 2) ∧ ∃ t, look d.fs cpF = some t ∧ ∀ n R, ¬ IsSign t l.key n R) ∨
         (∃ n R k d0 g, HasCp (look d.fs) l.key n R ∧ 4 * k < n ∧ rdTo (look d.fs) n k = some d0 ∧ bunAt (look d.fs) k (wid n k) = none ∧ r = .returned (pathE g) ∧ w'.heap[g]? = some (.cells #[txv (nameF (-1) k (wid n k)), errS at_ 5] 64 (0, 0))) ∨
         (r = .returned (errS at_ 4) ∧ ∃ n R, HasCp (look d.fs) l.key n R ∧ rdTo (look d.fs) n ((n + 3) / 4) = some es' ∧ rootT es' ≠ R)))) := by
  have HL := hide hl
  have HD := hide h
  have HLG := hide hL
  have HW := hide hW
  have HC := hide hc
  have HO := hide hOW
  have hEE := hide hE
  have HSN := hide hSN
  have HS := hide hs
  have H00 := hide hes0
  clear hl h hL hW hc hOW hE hs hSN hes0
  obtain ⟨a, cap, hb, hes, hg, hO⟩ := lok HLG.out
  have HB := hide hb
  have HEV := hide hes
  have HG := hide hg
  obtain ⟨⟨c0, f0⟩, ⟨c1, f1⟩, ⟨c2, f2⟩, -⟩ := lall hb
  rw [hlv] at c0
  clear hb hes hg
  have q : ∀ (w : World) (a : Option Addr) (n c n' c' : Nat), (binOp .eql 89 (.slice a n c) (.slice none n' c')).run Tryz.prog w = .ok (.bool a.isNone) w := fun w a n c n' c' => Lib.run_eql_slice_nil w _ _ a n c n' c' Tryz.underlying89
  go_enter Tryz.func18, Tryz.ntmps18
  go_wp2_with fail
  refine (lget_any O db lb d cpF w hn (fun f hf => Nat.le_trans (HL.out f hf) (by omega)) HD.out c0).mono ?_
  rintro r w1 ⟨v, e, rfl, hge, ht1, hd1, hv1⟩
  have HT1 := hide ht1
  have HD1 := hide hd1
  have HGE := hide hge
  have HLG1 := hide (HLG.out.stay ht1 (by decide) (by decide) (by decide))
  have HB1 := hide (ht1.keep HB.out (by decide))
  clear ht1 hd1
  rcases gotErr_cases hge with ⟨hbd, rfl⟩ | ⟨hbd, g, rfl⟩
  · have HC1 : Hid (Calm (enterD d)) := by
      rcases calm_enter HC.out with ⟨-, h⟩ | ⟨h, -⟩
      · exact h
      · simp [bad, h] at hbd
    have HG1 := hide (got_of hbd hv1)
    clear hge hbd hv1
    rcases gotV_shape HG1.out with ⟨hx, rfl⟩ | ⟨t, ga, gn, gc, hx, rfl⟩
    · have HX := hide hx
      clear hx
      go_wp2_with fail
      go_ret
      refine ⟨enterD d, [], HT1.out.to_rT, HD1.out, ?_, enterD_fs d, enterD_tk d, .inr ⟨HC1.out, .inl ⟨rfl, 0, hash [], .inl ⟨HX.out, rfl, rfl⟩, rfl, rootF_nil _ _ rfl⟩⟩⟩
      have := HLG1.out.mono (O' := Ext O w w1) (fun _ h => .inl h)
      rw [← H00.out]
      exact this
    · have HX := hide hx
      have hq1 : Bq w1 (.slice (some ga) gn gc) t := by
        rcases HG1.out with ⟨t', e, hb⟩ | ⟨-, e⟩
        · rw [hx] at e
          obtain rfl : t = t' := by simpa using e
          exact hb
        · simp at e
      have htl : t.length ≤ 1048576 := HL.out (cpF, t) (look_mem hx)
      have HQ1 := hide hq1
      obtain ⟨-, ⟨k1, z1⟩, -⟩ := lall HB1.out
      have hlt1 := heap_some_lt HB1.out
      clear hx hq1 c0 c1 c2 f0 f1 f2
      have HEW := hide (Env.turn hEE.out HW.out HT1.out HO.out)
      go_upto_region 4 with fail
      have hcv : ∀ W', Below w1.heap.size w1 W' → (convert 89 9 (.slice (some ga) gn gc)).run Tryz.prog W' = .ok (.string ⟨t.toArray⟩) W' := fun W' hb => (HQ1.out.below hb).conv
      have hcv0 := hcv _ ((Below.refl _ w1).drew)
      have hcv1 : ∀ o, (convert 89 9 (.slice (some ga) gn gc)).run Tryz.prog (w1.alloc o).drew = .ok (.string ⟨t.toArray⟩) (w1.alloc o).drew := fun o => hcv _ (below_alloc w1 o).drew
      have k1' : ∀ o, (w1.alloc o).cell? ⟨lb, 1, none⟩ = some (.string ⟨l.key.toArray⟩) := fun o => by rw [cell_old _ _ ⟨_, 1, none⟩ hlt1]; exact k1
      have hD0 : Hid (Below w1.heap.size w1 w1.drew) := (Below.refl _ _).drew
      have hD1 : Hid (∀ o, Below w1.heap.size w1 (w1.alloc o).drew) := fun o => (below_alloc _ _).drew
      clear hcv
      go_cut [5, 6] from 13 to 37 (fun s5 s6 wx => ∃ (B : Nat) (n y0 y1 y2 y3 y4 y5 y6 y7 : Int) (b : Bool), s5 = .pointer (some ⟨B, 0, none⟩) ∧ wx.heap[B]? = some (.cells #[.int .i64 n, .int .u8 y0, .int .u8 y1, .int .u8 y2, .int .u8 y3, .int .u8 y4, .int .u8 y5, .int .u8 y6, .int .u8 y7] 95 (0, 0)) ∧ w1.heap.size ≤ B ∧ Below w1.heap.size w1 wx ∧ s6 = .bool b ∧ Chk t l.key n y0 y1 y2 y3 y4 y5 y6 y7 b)
      case first =>
        clear hn hlv HD HLG HD1 HLG1 HC1 HG1 HX HL HS H00 HGE HC hsl z1 hO q
        go_region_with (first
          | (go_at_call 39; refine (check_ints t l.key htl hk w1.drew (by exact HEW.out.1.below hD0.out)).mono ?_; rintro r w2 ⟨hb2, n, y0, y1, y2, y3, y4, y5, y6, y7, b, rfl, hck⟩; have hbb : Below w1.heap.size w1 w2 := (hD0.out).trans (hb2.mono (hD0.out).size); have HB2 := hide hbb; have HCK := hide hck; clear hb2 hbb hck)
          | (go_at_call 39; refine (check_ints t l.key htl hk (w1.alloc (.cells z9v 95)).drew (by exact HEW.out.1.below (hD1.out _))).mono ?_; rintro r w2 ⟨hb2, n, y0, y1, y2, y3, y4, y5, y6, y7, b, rfl, hck⟩; have hbb : Below w1.heap.size w1 w2 := ((hD1.out _)).trans (hb2.mono ((hD1.out _)).size); have HB2 := hide hbb; have HCK := hide hck; have hnw : w2.heap[w1.heap.size]? = some (.cells z9v 95 (0, 0)) := (by rw [hb2.block _ (by show w1.heap.size < (w1.heap.push _).size; simp)]; exact heap_alloc_last w1 _); obtain ⟨x0, x1, x2, x3, x4, x5, x6, x7, x8⟩ := cells9 hnw; have xz := frozen9 hnw; have HNW := hide hnw; clear hnw; clear hb2 hbb hck))
        all_goals go_wp2_with fail
        all_goals go_meet
        all_goals first
          | (have hN := HNW.out; exact ⟨w1.heap.size, n, y0, y1, y2, y3, y4, y5, y6, y7, b, rfl, nine_set (.int .i64 n) (.int .u8 y0) (.int .u8 y1) (.int .u8 y2) (.int .u8 y3) (.int .u8 y4) (.int .u8 y5) (.int .u8 y6) (.int .u8 y7) hN, Nat.le_refl _, nine_below HB2.out (Nat.le_refl _) (.int .i64 n) (.int .u8 y0) (.int .u8 y1) (.int .u8 y2) (.int .u8 y3) (.int .u8 y4) (.int .u8 y5) (.int .u8 y6) (.int .u8 y7), rfl, HCK.out⟩)
          | exact ⟨w2.heap.size, n, y0, y1, y2, y3, y4, y5, y6, y7, b, rfl, heap_alloc_last _ _, HB2.out.size, HB2.out.alloc HB2.out.size _, rfl, HCK.out⟩
      case rest =>
        obtain ⟨B, n, y0, y1, y2, y3, y4, y5, y6, y7, b, rfl, hB, hB1, hbw, rfl, hck⟩ := hcut
        clear hcv0 hcv1 k1' hD0 hD1 k1 z1 q HEW HG1 HQ1
        have ht1 : Turn O dT1 w wc := HT1.out.then_below hbw
        have HTc := hide ht1
        have hTc : Turn O [] w1 wc := .of_below hbw
        have HDc := hide (HD1.out.stay hTc (by decide) (by decide))
        have HLc := hide (HLG1.out.stay hTc (by decide) (by decide) (by decide))
        have HBWc := hide (HW.out.trans (ht1.below HO.out HW.out.size))
        have HBB := hide hB
        have hBw : Hid (w.heap.size ≤ B) := Nat.le_trans HT1.out.size hB1
        clear HT1 HD1 HLG1 HB1 hlt1 hbw hTc ht1 hB hB1
        rcases hck with ⟨m, b0, b1, b2, b3, b4, b5, b6, b7, hsg, rfl, rfl, rfl, rfl, rfl, rfl, rfl, rfl, rfl, rfl⟩ | ⟨hno, rfl⟩
        · have HSG := hide hsg
          clear hsg
          have hgT := (sents_below HSN.out HBWc.out).tile
          go_wp2_with fail
          go_loopg [7, 8, 9, 10, 11, 12] (m + 1) (fun gg _ _ _ _ _ _ wr => ∃ (k : Nat) (d1 : Dk) (es : List (List UInt8)), m + 1 - 4 * k ≤ gg ∧ 4 * k < m + 4 ∧ rdTo (look d.fs) m k = some es ∧ Turn O rT w wr ∧ DiskAt wr O db d1 ∧ LogAt wr (Ext O w wr) db lb { l with es := es } ∧ d1.fs = d.fs ∧ tk d1 = tk d ∧ Calm d1 ∧ wr.heap[B]? = some (.cells (tv m b0 b1 b2 b3 b4 b5 b6 b7) 95 (0, 0)))
          case atStart => exact ⟨0, enterD d, [], by omega, by omega, rfl, HTc.out.to_rT, HDc.out, by have := HLc.out.mono (O' := Ext O w wc) (fun _ h => .inl h); rw [← H00.out]; exact this, enterD_fs d, enterD_tk d, HC1.out, HBB.out⟩
          case round =>
            clear HTc HDc HLc HC1 HBB hgT HBWc
            obtain ⟨k, d1, es, hgg, hk4, hrd, ht, hd, hlg, hfs, htu, hcm, hB⟩ := hrel
            have hlen := rdTo_len hrd hk4
            have hbnd := (rdTo_bound HS.out hrd hk4).1
            have HT := hide ht
            have HD1 := hide hd
            have HF := hide (And.intro hfs htu)
            have HCM := hide hcm
            have HRD := hide hrd
            have HBB := hide hB
            have HLG1 := hide hlg
            have HBW := hide (HW.out.trans (ht.below HO.out HW.out.size))
            have HLEN := hide hlen
            have hle : es.length ≤ 4 * k := by omega
            have hle2 : es.length ≤ m := by omega
            have hm4 : es.length ≤ 400000 := by omega
            obtain ⟨a, cap, hb, hes, hg, hO⟩ := lok hlg
            obtain ⟨⟨c0, f0⟩, -, ⟨c2, f2⟩, -⟩ := lall hb
            obtain ⟨n0, n1, n2, n3, n4, n5, n6, n7, n8⟩ := cells9 hB
            simp only at c0 c2
            have HEV := hide hes
            have HHB := hide hb
            have HG := hide hg
            have HOX := hide hO
            clear hrd ht hd hlg hfs htu hcm hlen hB hb hes hg hO n1 n2 n3 n4 n5 n6 n7 n8 f0 f2
            by_cases hlt : es.length < m
            · have hlti : (es.length : Int) < (m : Int) := by omega
              go_wp2_with fail
              go_quiet (fail)
              go_upto_region 8 with fail
              have hmn : min ((m : Int) - (es.length : Int)) 4 = ((wid m k : Nat) : Int) := by have := HLEN.out; unfold wid; omega
              go_cut [7] from 38 to 93 (fun s7 wx => s7 = .int .i64 (wid m k : Nat) ∧ Below wr.heap.size wr wx)
              case first =>
                have hw64 : wrap64 ((m : Int) - (es.length : Int)) = (m : Int) - (es.length : Int) := by have := HSG.out.1; unfold wrap64; omega
                go_region
                all_goals go_wp2_with fail
                all_goals go_meet
                all_goals exact ⟨rfl, ⟨rfl, rfl, rfl, Nat.le_refl _, fun _ _ => rfl⟩⟩
              case rest =>
                obtain ⟨rfl, hbx⟩ := hcut
                have hTx : Turn O [] wr wc := .of_below hbx
                have HTx : Hid (Turn O rT w wc) := HT.out.then_below hbx
                have HDx := hide (HD1.out.stay hTx (by decide) (by decide))
                have HLx := hide ((HLG1.out.stay hTx (by decide) (by decide) (by decide)).mono (Ext.more hbx.size))
                have HBx := hide (hTx.keep HBB.out (by decide))
                have hBWx := HBW.out.trans (hbx.mono HBW.out.size)
                have HBWx := hide hBWx
                have hEx := hEE.out.below hBWx
                have HHx := hide (hTx.keep HHB.out (by decide))
                have hle4 : 4 * k ≤ es.length := by have := HLEN.out; omega
                have hk1 : k ≤ 100000 := by omega
                clear hTx hbx hmn c2 c0 n0 hBWx
                obtain ⟨⟨c0, -⟩, -, ⟨c2, f2⟩, -⟩ := lall HHx.out
                simp only at c0 c2
                rw [hlv] at c0
                have hw1 : 1 ≤ wid m k := by unfold wid; omega
                have hw4 : wid m k ≤ 4 := by unfold wid; omega
                go_wp2_with fail
                rw [show ((es.length : Int) / 4) = (k : Int) by omega]
                refine (name_any (-1) k (wid m k) (by omega) wc hEx).mono ?_
                rintro r w2 ⟨rfl, hb2⟩
                have hT2 : Turn O [] wc w2 := .of_below hb2
                have c0' : w2.cell? ⟨lb, 0, none⟩ = some (stV db true) := by rw [hb2.cell (p := ⟨lb, 0, none⟩) (cell_lt c0)]; exact c0
                have HT2 : Hid (Turn O rT w w2) := HTx.out.then_below hb2
                have HD2 := hide (HDx.out.stay hT2 (by decide) (by decide))
                have HL2 := hide ((HLx.out.stay hT2 (by decide) (by decide) (by decide)).mono (Ext.more hb2.size))
                have HBx2 := hide (hT2.keep HBx.out (by decide))
                have HBW2 := hide (HBWx.out.trans (hb2.mono HBWx.out.size))
                clear hb2 hT2 hEx c2 f2
                go_wp2_with fail
                refine (lget_any O db lb d1 (nameF (-1) k (wid m k)) w2 (by rw [HF.out.1]; exact hn) (by rw [HF.out.1]; exact fun f hf => Nat.le_trans (HL.out f hf) (by omega)) HD2.out c0').mono ?_
                rintro r w3 ⟨v, e, rfl, hge, ht3, hd3, hv3⟩
                have HT3 : Hid (Turn O rT w w3) := HT2.out.trans (ht3.to_rT.mono (fun _ h => .inl h) (fun _ h => h))
                have HD3 := hide hd3
                have HL3 := hide ((HL2.out.stay ht3 (by decide) (by decide) (by decide)).mono (Ext.more ht3.size))
                have HBx3 := hide (ht3.keep HBx2.out (by decide))
                have HBW3 := hide (HBW2.out.trans (ht3.below HO.out HBW2.out.size))
                have HGE3 := hide (hge.weaken HT2.out.size)
                have HF3 : Hid ((enterD d1).fs = d.fs ∧ tk (enterD d1) = tk d) := ⟨(enterD_fs d1).trans HF.out.1, (enterD_tk d1).trans HF.out.2⟩
                clear ht3 hd3 c0 c0'
                rcases gotErr_cases hge with ⟨hbd, rfl⟩ | ⟨hbd, g, rfl⟩
                · have HC3 : Hid (Calm (enterD d1)) := by
                    rcases calm_enter HCM.out with ⟨-, h⟩ | ⟨h, -⟩
                    · exact h
                    · simp [bad, h] at hbd
                  have HG3 := hide (got_of hbd hv3)
                  clear hge hbd hv3
                  obtain ⟨va, vn, vc, rfl⟩ : ∃ a n c, v = .slice a n c := by
                    rcases gotV_shape HG3.out with ⟨-, rfl⟩ | ⟨_, _, _, _, -, rfl⟩
                    · exact ⟨_, _, _, rfl⟩
                    · exact ⟨_, _, _, rfl⟩
                  go_wp2_with fail
                  refine (unbOf_any (wid m k) (.slice va vn vc) _ w3 HG3.out).mono ?_
                  rintro r w4 ⟨hb4, hr⟩
                  rw [HF.out.1, bunD_at] at hr
                  have hT4 : Turn O [] w3 w4 := .of_below hb4
                  have HT4 : Hid (Turn O rT w w4) := HT3.out.then_below hb4
                  have HD4 := hide (HD3.out.stay hT4 (by decide) (by decide))
                  have hL4 := (HL3.out.stay hT4 (by decide) (by decide) (by decide)).mono (Ext.more hb4.size)
                  have HL4 := hide hL4
                  have HBx4 := hide (hT4.keep HBx3.out (by decide))
                  have HBW4 := hide (HBW3.out.trans (hb4.mono HBW3.out.size))
                  clear hT4 hb4
                  rcases hr with ⟨b, y, hbun, rfl, hob⟩ | ⟨hbun, rfl⟩
                  · have hbl := (bunAt_len hbun).1
                    obtain ⟨ya, yc, rfl⟩ := obs_shape hob
                    obtain ⟨gb, rfl, -⟩ := obs_block hob (by omega)
                    have HRK : Hid (rdTo (look d.fs) m (k + 1) = some (es ++ b)) := by
                      show rdTo (look d.fs) m (k + 1) = _
                      rw [rdTo, HRD.out]
                      simp only [hbun, Option.map_some]
                    have hbl1 : b.length ≤ 4 := by omega
                    have hbl2 : 1 ≤ b.length := by omega
                    have HBU := hide hbun
                    obtain ⟨a4, cap4, hb4, hes4, hg4, hO4⟩ := lok hL4
                    obtain ⟨-, -, ⟨c2, f2⟩, -⟩ := lall hb4
                    simp only at c2 hes4
                    obtain ⟨i, hi, hi'⟩ := Option.map_eq_some_iff.1 infoBytes
                    obtain ⟨hz0, hz1, hz2⟩ : i.zero = some (.slice none 0 0) ∧ i.size = 1 ∧ i.bytes = 24 := by simpa using hi'
                    clear hi'
                    have HI := hide hi
                    have HZ := hide (And.intro hz0 (And.intro hz1 hz2))
                    clear hi hz0 hz1 hz2
                    obtain ⟨xs, hoe, hxe⟩ := hes4
                    obtain ⟨ys, hoy, hyb⟩ := hob
                    have hyl : ys.length = b.length := by rw [hoy.1, Nat.mul_one]
                    have hnw : Hid (∀ j u, ys[j]? = some u → w4.cell? ((⟨gb, 0, none⟩ : Addr).add j) = some u) := fun j u hj => hoy.cells rfl _ _ hj
                    have hn1 : Hid (∀ u ∈ ys, u.oneCell' = true) := fun u hu => by
                      obtain ⟨j, hj, rfl⟩ := List.getElem_of_mem hu
                      obtain ⟨x, hx, hx'⟩ := hyb j (by omega)
                      rw [List.getElem?_eq_getElem hj] at hx
                      obtain rfl : ys[j] = x := by simpa using hx
                      exact ob_one hx' _ (by simp)
                    have HOE := hide hoe
                    have HXE := hide hxe
                    have HYB := hide hyb
                    have HYL := hide hyl
                    have HB4 := hide hb4
                    have HG4 := hide hg4
                    have HO4 := hide hO4
                    have hdl : Hid (ys.length = b.length * 1) := by show _ = _; rw [hyl]; omega
                    have HLB5 : Hid (∀ w5, w4.grownBy w5 (Value.slice a4 es.length cap4).ownBlock → w5.heap[lb]? = some (.cells (lcells db (.slice a4 es.length cap4) { key := l.key, es := es, put := l.put, live := l.live }) 58 (0, 0))) := fun w5 hgr => by
                      rw [hgr.block lb (heap_some_lt HB4.out) (fun e => ?_)]
                      · exact HB4.out
                      · rcases HOE.out.2 with ⟨h, -⟩ | ⟨g, cp, cur, h, -, hg, -⟩
                        · simp at h; rw [h.1] at e; simp [Value.ownBlock] at e
                        · simp at h
                          rw [h.1] at e
                          simp only [Value.ownBlock, Option.some.injEq] at e
                          subst e
                          have := HB4.out
                          rw [hg] at this
                          simp at this
                    clear hbl hbun hb4 hg4 hO4 hoe hxe hoy hyb hyl hL4
                    go_wp2_with (at_builtin; refine wpList_append_lies _ rfl _ _ _ rfl 0 89 i (.slice none 0 0) 1 24 Tryz.underlying56 HI.out HZ.out.1 HZ.out.2.1 HZ.out.2.2 rfl (by omega) (.slice a4 es.length cap4) es.length xs rfl HOE.out ⟨gb, 0, none⟩ b.length yc ys rfl hdl.out hnw.out hn1.out (by omega) (by unfold maxLen; omega) (by omega) (by omega) w4.heap.size rfl ?_; intro g5 cap5 w5 hown hgrow hat hltg; have hb5 := HLB5.out w5 hgrow; obtain ⟨-, -, ⟨k5, z5⟩, -⟩ := lall hb5; have HOW := hide hown; have HGR := hide hgrow; have HAT := hide hat; have HB5 := hide hb5; clear hown hgrow hat hb5)
                    go_roundg (gk - 1)
                    case rel =>
                      have hfin := log_append (l := l) (b := b) (hv := 0) HT4.out HO4.out HG4.out HOE.out HXE.out HYB.out (Nat.zero_le _) HYL.out HOW.out ⟨HGR.out.os, HGR.out.tape, HGR.out.output, HGR.out.size, HGR.out.block⟩ HAT.out HB5.out
                      refine ⟨k + 1, enterD d1, es ++ b, by omega, by omega, HRK.out, hfin.1, hfin.2.2.1 _ HD4.out, hfin.2.1, HF3.out.1, HF3.out.2, HC3.out, hfin.2.2.2.keep HBx4.out (by decide)⟩
                    case measure => omega
                  · have HBU := hide hbun
                    have hgT := (sents_below HSN.out HBW4.out).tile
                    clear hbun hL4
                    go_wp2_with fail
                    go_ret
                    have hTA : Turn O [] w4 (w4.alloc (.cells #[txv (nameF (-1) k (wid m k)), errS at_ 5] 64)) := (Turn.refl _ _ _).alloc _
                    refine ⟨enterD d1, es, HT4.out.alloc _, HD4.out.stay hTA (by decide) (by decide), (HL4.out.stay hTA (by decide) (by decide) (by decide)).mono (Ext.more hTA.size), HF3.out.1, HF3.out.2, .inr ⟨HC3.out, .inr (.inr (.inl ⟨m, _, k, es, w4.heap.size, .inr ⟨t, HX.out, HSG.out⟩, by omega, HRD.out, HBU.out, rfl, heap_alloc_last _ _⟩))⟩⟩
                · have HH : Hid ((enterD d1).hit = true) := by
                    rcases calm_enter HCM.out with ⟨h, -⟩ | ⟨-, h⟩
                    · rw [bad, h] at hbd; simp at hbd
                    · exact h
                  rw [hbd] at HGE3
                  obtain ⟨va, vn, vc, rfl⟩ := got_slice hv3
                  clear hge hbd hv3
                  go_wp2_with fail
                  go_ret
                  exact ⟨enterD d1, es, HT3.out, HD3.out, HL3.out, HF3.out.1, HF3.out.2, .inl ⟨HH.out, _, _, rfl, HGE3.out⟩⟩
            · have hlti : ¬ (es.length : Int) < (m : Int) := by omega
              go_wp2_with fail
              go_quiet (fail)
              go_wp2_with fail
              obtain ⟨n0, n1, n2, n3, n4, n5, n6, n7, n8⟩ := cells9 HBB.out
              obtain ⟨r0, r1, r2, r3, r4, r5, r6, r7, hR⟩ := hv8 (rootF es.length es) (rootF_length _ _)
              have hR' : hv (rootF es.length es) = #[.int .u8 r0.toNat, .int .u8 r1.toNat, .int .u8 r2.toNat, .int .u8 r3.toNat, .int .u8 r4.toNat, .int .u8 r5.toNat, .int .u8 r6.toNat, .int .u8 r7.toNat] := by rw [hR]; rfl
              have HR := hide hR
              have HR' := hide hR'
              clear hR hR'
              have hneq : ∀ X, (binOp .neq 93 (.agg #[.int .u8 r0.toNat, .int .u8 r1.toNat, .int .u8 r2.toNat, .int .u8 r3.toNat, .int .u8 r4.toNat, .int .u8 r5.toNat, .int .u8 r6.toNat, .int .u8 r7.toNat]) (.agg #[.int .u8 b0.toNat, .int .u8 b1.toNat, .int .u8 b2.toNat, .int .u8 b3.toNat, .int .u8 b4.toNat, .int .u8 b5.toNat, .int .u8 b6.toNat, .int .u8 b7.toNat])).run Tryz.prog X = .ok (.bool !eqH [r0, r1, r2, r3, r4, r5, r6, r7] [b0, b1, b2, b3, b4, b5, b6, b7]) X := fun X => neq_hash [r0, r1, r2, r3, r4, r5, r6, r7] [b0, b1, b2, b3, b4, b5, b6, b7] rfl rfl X
              have hSS : Hid (∀ X, Below wr.heap.size wr X → (fun X => X.cell? ⟨lb, 2, none⟩ = some (.slice a es.length cap) ∧ X.cell? ⟨B, 1, none⟩ = some (.int .u8 (b0.toNat : Int)) ∧ X.cell? ⟨B, 2, none⟩ = some (.int .u8 (b1.toNat : Int)) ∧ X.cell? ⟨B, 3, none⟩ = some (.int .u8 (b2.toNat : Int)) ∧ X.cell? ⟨B, 4, none⟩ = some (.int .u8 (b3.toNat : Int)) ∧ X.cell? ⟨B, 5, none⟩ = some (.int .u8 (b4.toNat : Int)) ∧ X.cell? ⟨B, 6, none⟩ = some (.int .u8 (b5.toNat : Int)) ∧ X.cell? ⟨B, 7, none⟩ = some (.int .u8 (b6.toNat : Int)) ∧ X.cell? ⟨B, 8, none⟩ = some (.int .u8 (b7.toNat : Int))) X) := fun X hb => by
                have cc : ∀ {p : Addr} {v : Value}, wr.cell? p = some v → X.cell? p = some v := fun {p v} h => by rw [hb.cell (cell_lt h)]; exact h
                exact ⟨cc c2, cc n1, cc n2, cc n3, cc n4, cc n5, cc n6, cc n7, cc n8⟩
              have hNQ : Hid (∀ q, Below wr.heap.size wr (wr.drewN q).drew) := fun q => ⟨rfl, rfl, rfl, Nat.le_refl _, fun _ _ => rfl⟩
              go_region_held3 (fun X => X.cell? ⟨lb, 2, none⟩ = some (.slice a es.length cap) ∧ X.cell? ⟨B, 1, none⟩ = some (.int .u8 (b0.toNat : Int)) ∧ X.cell? ⟨B, 2, none⟩ = some (.int .u8 (b1.toNat : Int)) ∧ X.cell? ⟨B, 3, none⟩ = some (.int .u8 (b2.toNat : Int)) ∧ X.cell? ⟨B, 4, none⟩ = some (.int .u8 (b3.toNat : Int)) ∧ X.cell? ⟨B, 5, none⟩ = some (.int .u8 (b4.toNat : Int)) ∧ X.cell? ⟨B, 6, none⟩ = some (.int .u8 (b5.toNat : Int)) ∧ X.cell? ⟨B, 7, none⟩ = some (.int .u8 (b6.toNat : Int)) ∧ X.cell? ⟨B, 8, none⟩ = some (.int .u8 (b7.toNat : Int))) (go_keep) (first | (go_at_call 42; refine (root_any es.length _ es (wr.drewN nq).drew (Nat.le_refl _) (by omega) (by intro e he'; exact Nat.le_trans (es20 HRD.out e he') (by unfold maxLen; omega)) (by exact (HEV.out.bss'.below (hNQ.out nq)))).mono ?_; rintro r w2 ⟨rfl, hb2⟩; rw [HR'.out]; have hbb : Below wr.heap.size wr w2 := (hNQ.out nq).trans (hb2.mono (hNQ.out nq).size); obtain ⟨q0, q1, q2, q3, q4, q5, q6, q7, q8⟩ := hSS.out w2 hbb; have HB2 := hide hbb; clear hb2 hbb))
              have HT2 : Hid (Turn O rT w w2) := HT.out.then_below HB2.out
              have hT2 : Turn O [] wr w2 := .of_below HB2.out
              have HD2 := hide (HD1.out.stay hT2 (by decide) (by decide))
              have HL2 := hide ((HLG1.out.stay hT2 (by decide) (by decide) (by decide)).mono (Ext.more HB2.out.size))
              have hgP := (sents_below HSN.out (HBW.out.trans (HB2.out.mono HBW.out.size))).proof
              have hkk : Hid (k = (m + 3) / 4) := by show _ = _; have := HLEN.out; omega
              have HCP : Hid (HasCp (look d.fs) l.key m [b0, b1, b2, b3, b4, b5, b6, b7]) := .inr ⟨t, HX.out, HSG.out⟩
              have HRT : Hid (rootT es = [r0, r1, r2, r3, r4, r5, r6, r7]) := HR.out
              clear hT2 q0 q1 q2 q3 q4 q5 q6 q7 q8 c2 c0 n0 n1 n2 n3 n4 n5 n6 n7 n8 hneq
              cases hq : eqH [r0, r1, r2, r3, r4, r5, r6, r7] [b0, b1, b2, b3, b4, b5, b6, b7] with
              | true =>
                have HQ : Hid ([r0, r1, r2, r3, r4, r5, r6, r7] = [b0, b1, b2, b3, b4, b5, b6, b7]) := hide (of_decide_eq_true hq)
                go_wp2_with fail
                go_ret
                exact ⟨d1, es, HT2.out, HD2.out, HL2.out, HF.out.1, HF.out.2, .inr ⟨HCM.out, .inl ⟨rfl, m, _, HCP.out, by rw [← hkk.out]; exact HRD.out, by rw [HRT.out]; exact HQ.out⟩⟩⟩
              | false =>
                have HQ : Hid ([r0, r1, r2, r3, r4, r5, r6, r7] ≠ [b0, b1, b2, b3, b4, b5, b6, b7]) := by
                  have := of_decide_eq_false hq
                  exact this
                go_wp2_with fail
                go_ret
                exact ⟨d1, es, HT2.out, HD2.out, HL2.out, HF.out.1, HF.out.2, .inr ⟨HCM.out, .inr (.inr (.inr ⟨rfl, m, _, HCP.out, by rw [← hkk.out]; exact HRD.out, by rw [HRT.out]; exact HQ.out⟩))⟩⟩
        · have HNO := hide hno
          have hg3 := (sents_below HSN.out HBWc.out).check
          clear hno
          go_wp2_with fail
          go_ret
          refine ⟨enterD d, [], HTc.out.to_rT, HDc.out, ?_, enterD_fs d, enterD_tk d, .inr ⟨HC1.out, .inr (.inl ⟨rfl, t, HX.out, HNO.out⟩)⟩⟩
          have := HLc.out.mono (O' := Ext O w wc) (fun _ h => .inl h)
          rw [← H00.out]
          exact this
  · have HH : Hid ((enterD d).hit = true) := by
      rcases calm_enter HC.out with ⟨h, -⟩ | ⟨-, h⟩
      · rw [bad, h] at hbd; simp at hbd
      · exact h
    rw [hbd] at HGE
    obtain ⟨va, vn, vc, rfl⟩ := got_slice hv1
    clear hge hbd hv1
    go_wp2_with fail
    go_ret
    refine ⟨enterD d, [], HT1.out.to_rT, HD1.out, ?_, enterD_fs d, enterD_tk d, .inl ⟨HH.out, _, _, rfl, HGE.out⟩⟩
    have := HLG1.out.mono (O' := Ext O w w1) (fun _ h => .inl h)
    rw [← H00.out]
    exact this
end Go.Proofs.YtoomnijgdpbphaaGreatDoor
