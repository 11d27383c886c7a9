import Derived.Test.YtoomnijgdpbphaaGreatDoorG31
import Derived.Test.YtoomnijgdpbphaaGreatDoorG37
import Derived.Test.YtoomnijgdpbphaaGreatDoorG07

namespace Go.Proofs.YtoomnijgdpbphaaGreatDoor
open Go.RowKit
set_option maxRecDepth 100000

/-- None of the publisher's entries lies in block g. -/
def LFree (w : World) (lb g : Nat) : Prop := ∃ (ev : Value) (n : Nat) (xs : List Value), w.cell? ⟨lb, 2, none⟩ = some ev ∧ w.ownsRow 0 89 1 ev n xs ∧ ∀ x ∈ xs, x.ownBlock ≠ some g
theorem owns_same {w : World} {B B' : Nat} {e : TypeId} {v : Value} {n n' : Nat} {xs xs' : List Value} (h : w.ownsRow B e 1 v n xs) (h' : w.ownsRow B' e 1 v n' xs') : xs = xs' := by
  obtain ⟨l1, h⟩ := h
  obtain ⟨l2, h'⟩ := h'
  rcases h with ⟨rfl, rfl⟩ | ⟨g, cap, cur, rfl, -, hg, -, -, -, ht⟩
  · rcases h' with ⟨-, rfl⟩ | ⟨g', cap', cur', e', -⟩
    · rw [List.eq_nil_of_length_eq_zero (l := xs) (by omega), List.eq_nil_of_length_eq_zero (l := xs') (by omega)]
    · simp at e'
  · rcases h' with ⟨e', -⟩ | ⟨g', cap', cur', e', -, hg', -, -, -, ht'⟩
    · simp at e'
    · simp only [Value.slice.injEq, Option.some.injEq, Addr.mk.injEq, and_true] at e'
      obtain ⟨rfl, rfl, rfl⟩ := e'
      rw [hg] at hg'
      simp only [Option.some.injEq, Obj.cells.injEq, and_true] at hg'
      rw [← ht, ← ht', hg']
theorem LFree.fresh {w : World} {O : Nat → Prop} {db lb : Nat} {l : Lg} (h : LogAt w O db lb l) (g : Nat) (hg : w.heap.size ≤ g) : LFree w lb g := by
  obtain ⟨ev, -, hb, ⟨xs, ho, hx⟩, -⟩ := h
  refine ⟨ev, l.es.length, xs, (dcell hb 2 _ rfl).1, ho, fun x hm e => ?_⟩
  obtain ⟨j, hj, rfl⟩ := List.getElem_of_mem hm
  have hjl : j < l.es.length := by rw [ho.1] at hj; omega
  obtain ⟨y, e', hy⟩ := hx j hjl
  rw [List.getElem?_eq_getElem hj] at e'
  simp only [Option.some.injEq] at e'
  obtain ⟨g', cap, hf, -, hl, -⟩ := hy.form
  rw [e', hf] at e
  simp only [Value.ownBlock, Option.some.injEq] at e
  omega
theorem LFree.below {w w' : World} {lb g : Nat} (h : LFree w lb g) (hb : Below w.heap.size w w') : LFree w' lb g := by
  obtain ⟨ev, n, xs, hc, ho, hx⟩ := h
  exact ⟨ev, n, xs, by rw [hb.cell (p := ⟨lb, 2, none⟩) (cell_lt hc)]; exact hc, ownsRow_below ho hb, hx⟩
/-- Block g may turn. -/
theorem LogAt.clear {w w' : World} {O : Nat → Prop} {db lb g : Nat} {l : Lg} {C : Array Value} {f : Nat × Nat} (h : LogAt w O db lb l) (hf : LFree w lb g) (hg : w.heap[g]? = some (.cells C 5 f)) (hk : ∀ k, k ≠ g → w'.heap[k]? = w.heap[k]?) : LogAt w' O db lb l := by
  obtain ⟨ev, a, hb, ⟨xs, ho, hx⟩, hgo⟩ := h
  obtain ⟨ev2, n2, xs2, hc2, ho2, hx2⟩ := hf
  rw [(dcell hb 2 ev rfl).1] at hc2
  simp only [Option.some.injEq] at hc2
  subst hc2
  obtain rfl := owns_same ho ho2
  have hne : ∀ (k : Nat) (c : Array Value) (t : TypeId) (x : Nat × Nat), w.heap[k]? = some (Obj.cells c t x) → t ≠ 5 → w'.heap[k]? = some (Obj.cells c t x) := fun k c t x e ht => by
    rw [hk k (fun e' => ?_)]
    · exact e
    · subst e'
      rw [hg] at e
      simp only [Option.some.injEq, Obj.cells.injEq] at e
      exact ht e.2.1.symm
  refine ⟨ev, a, hne _ _ _ _ hb (by decide), ⟨xs, ⟨ho.1, ?_⟩, fun j hj => ?_⟩, hgo⟩
  · rcases ho.2 with h | ⟨g', cap, cur, e1, e2, e3, r⟩
    · exact .inl h
    · exact .inr ⟨g', cap, cur, e1, e2, hne _ _ _ _ e3 (by decide), r⟩
  · obtain ⟨x, e, hob⟩ := hx j hj
    refine ⟨x, e, ⟨hob.1.1, ?_⟩, hob.2⟩
    have hm := hx2 x (List.mem_of_getElem? e)
    rcases hob.1.2 with h | ⟨g', cap, cur, e1, e2, e3, r⟩
    · exact .inl h
    · refine .inr ⟨g', cap, cur, e1, e2, ?_, r⟩
      rw [hk g' (fun e' => ?_)]
      · exact e3
      · rw [e1, e'] at hm
        exact hm rfl

theorem lb_stays {w w3 : World} {lb db n : Nat} {a : Option Addr} {cap : Nat} {l : Lg} {xs : List Value} (ho : w.ownsRow 0 89 1 (.slice a n cap) n xs) (hb : w.heap[lb]? = some (.cells (lcells db (.slice a n cap) l) 58 (0, 0))) (hgr : w.grownBy w3 (Value.slice a n cap).ownBlock) : w3.heap[lb]? = some (.cells (lcells db (.slice a n cap) l) 58 (0, 0)) := by
  rw [hgr.block lb (heap_some_lt hb) (fun e => ?_)]
  · exact hb
  · rcases ho.2 with ⟨h, -⟩ | ⟨g, cp, cur, h, -, hg, -⟩
    · simp at h; rw [h.1] at e; simp [Value.ownBlock] at e
    · simp at h
      rw [h.1] at e
      simp only [Value.ownBlock, Option.some.injEq] at e
      subst e
      rw [hg] at hb
      simp at hb
set_option maxHeartbeats 1000000 in
theorem append_any (O : Nat → Prop) (W : World) (at_ : Nat → Addr) (hSN : Sents W at_) (db lb : Nat) (l : Lg) (v : Value) (x : List UInt8) (w : World) (hW : Below W.heap.size W w) (he : l.es.length ≤ 1000000) (h : LogAt w O db lb l) (hx : Bq w v x) (hxl : x.length ≤ 9223372036854775807) :
    Calls Tryz.prog 60 #[.pointer (some ⟨lb, 0, none⟩), v] w fun r w' => Turn O lT w w' ∧
      ((20 < x.length ∧ r = .returned (.tuple #[.int .i64 0, errS at_ 0]) ∧ Below w.heap.size w w') ∨ (x.length ≤ 20 ∧ l.live = false ∧ r = .returned (.tuple #[.int .i64 0, errS at_ 6]) ∧ Below w.heap.size w w') ∨
       (x.length ≤ 20 ∧ l.live = true ∧ r = .returned (.tuple #[.int .i64 (l.es.length : Int), .nilIface]) ∧ LogAt w' (Ext O w w') db lb { l with es := l.es ++ [x] } ∧ ∀ g, g < w.heap.size → LFree w lb g → LFree w' lb g)) := by
  have HS := hide (sents_below hSN hW)
  have HLG := hide h
  have HX := hide hx
  obtain ⟨g, cap, C, fr, rfl, hcap, hg, hc⟩ := hx
  have HCC := hide (And.intro hg hc)
  clear hSN hW h hg hc
  by_cases h20 : 20 < x.length
  · have h0 := HS.out.entry
    go_enter Tryz.func60, Tryz.ntmps60
    go_wp2_with fail
    go_region
    all_goals go_wp2_with fail
    all_goals go_ret2
    all_goals exact ⟨(Turn.refl _ _ _).drew, .inl ⟨h20, rfl, (Below.refl _ _).drew⟩⟩
  · have h20' : ¬ (20 : Int) < (x.length : Int) := by omega
    cases hlv : l.live with
    | false =>
      have h6 := HS.out.failed
      go_enter Tryz.func60, Tryz.ntmps60
      go_wp2_with fail
      refine (failed_any O db lb l w HLG.out).mono ?_
      rintro r w1 ⟨rfl, rfl⟩
      rw [hlv]
      go_wp2_with fail
      go_region
      all_goals go_wp2_with fail
      all_goals go_ret2
      all_goals exact ⟨(Turn.refl _ _ _).drew, .inr (.inl ⟨by omega, by first | rfl | trivial, rfl, (Below.refl _ _).drew⟩)⟩
    | true =>
      obtain ⟨a, ecap, hb, hes, hgg, hO⟩ := lok HLG.out
      obtain ⟨-, -, ⟨c2, f2⟩, -⟩ := lall hb
      go_enter Tryz.func60, Tryz.ntmps60
      go_wp2_with fail
      refine (failed_any O db lb l w HLG.out).mono ?_
      rintro r w1 ⟨rfl, rfl⟩
      rw [hlv]
      have HLV := hide hlv
      clear hlv
      obtain ⟨i, hi, hi'⟩ := Option.map_eq_some_iff.1 infoBytes
      obtain ⟨hz0, hz1, hz2⟩ : i.zero = some (.slice none 0 0) ∧ i.size = 1 ∧ i.bytes = 24 := by simpa using hi'
      clear hi'
      have HI := hide hi
      have HZ := hide (And.intro hz0 (And.intro hz1 hz2))
      clear hi hz0 hz1 hz2
      have HB := hide hb
      have HES := hide hes
      have HG := hide hgg
      have HOL := hide hO
      have hlt := heap_some_lt hb
      obtain ⟨xs, hoe, hxe⟩ := hes
      have HOE := hide hoe
      have HXE := hide hxe
      have HCL : Hid (∀ j u, (x.map bv)[j]? = some u → w1.drew.cell? ((⟨g, 0, none⟩ : Addr).add j) = some u) := fun j u hj => by
        have hjl : j < x.length := by simpa using (List.getElem?_eq_some_iff.1 hj).1
        rw [Addr.add_mid, Nat.zero_add]
        show w1.cell? ⟨g, j, none⟩ = _
        rw [cell_of_row _ _ _ _ _ _ HCC.out.1, HCC.out.2 j hjl]
        simpa [hjl] using hj
      clear hb hgg hO hoe hxe
      go_wp2_with fail
      go_region_law (first
        | (go_simp; go_at_call 92; (refine (clone_any ⟨g, 0, none⟩ x.length cap x w1.drew rfl (by omega) (by exact HCL.out)).mono ?_; rintro r w2 ⟨y, rfl, hob, hb2⟩; obtain ⟨gy, cy, ny, rfl⟩ := ob_shape hob; have hbb : Below w1.heap.size w1 w2 := (Below.refl _ w1).drew.trans hb2; have m2 : w2.cell? ⟨lb, 2, none⟩ = some (.slice a l.es.length ecap) := (by rw [hbb.cell (p := ⟨lb, 2, none⟩) hlt]; exact c2); have m2' : ∀ o, (w2.alloc o).cell? ⟨lb, 2, none⟩ = some (.slice a l.es.length ecap) := (fun o => by rw [cell_old _ _ ⟨_, 2, none⟩ (cell_lt m2)]; exact m2); have HOB := hide hob; have HBB := hide hbb; have HO2 : Hid (∀ o, (w2.alloc o).ownsRow 0 89 1 (.slice a l.es.length ecap) l.es.length xs) := (fun o => ownsRow_below (ownsRow_below HOE.out hbb) (below_alloc w2 o)); have HLB : Hid (∀ o w3, (w2.alloc o).grownBy w3 (Value.slice a l.es.length ecap).ownBlock → w3.heap[lb]? = some (.cells (lcells db (.slice a l.es.length ecap) l) 58 (0, 0))) := (fun o w3 hgr => lb_stays (HO2.out o) (heap_alloc_old (by rw [hbb.block _ hlt]; exact HB.out)) hgr); clear hob hb2 hbb))
        | (refine step_append_lies _ (by rfl) _ _ _ (by rfl) 0 89 i (.slice none 0 0) 1 24 Tryz.underlying56 HI.out HZ.out.1 HZ.out.2.1 HZ.out.2.2 rfl (by omega) (.slice a l.es.length ecap) l.es.length xs (by rfl) (HO2.out _) ⟨w2.heap.size, 0, none⟩ 1 1 [.slice (some ⟨gy, 0, none⟩) ny cy] (by rfl) rfl (World.news_of_block (heap_alloc_last _ _)) (by simp [Value.oneCell']) (by omega) (by unfold maxLen; omega) (by omega) (by omega) (w2.heap.size + 1) (by simp) ?_; intro g3 cap3 w3 hown hgrow hat hltg; have hb3 := HLB.out _ w3 hgrow; obtain ⟨-, -, ⟨k3, z3⟩, -⟩ := lall hb3; have HOW := hide hown; have HGR := hide hgrow; have HAT := hide hat; have HB3 := hide hb3; clear hown hgrow hat hb3))
      all_goals
        have k6 := (dcell (dset HB3.out 2 (.slice (some ⟨g3, 0, none⟩) (l.es.length + 1) cap3)) 2 _ rfl).1
        go_wp2_with fail
        go_ret2
        have hbo := HBB.out
        have hT2 : Turn O lT w1 (w2.alloc (.cells #[.slice (some ⟨gy, 0, none⟩) ny cy] 89)) := (Turn.of_below hbo).alloc _
        have hTe : Turn O [] w1 (w2.alloc (.cells #[.slice (some ⟨gy, 0, none⟩) ny cy] 89)) := (Turn.of_below hbo).alloc _
        have hszz : w1.heap.size ≤ (w2.alloc (.cells #[.slice (some ⟨gy, 0, none⟩) ny cy] 89)).heap.size := hT2.size
        have hfin := log_append (l := l) (es := l.es) (b := [x]) (ys := [.slice (some ⟨gy, 0, none⟩) ny cy]) (hv := 0) (B := w1.drew.heap.size) hT2 (.inl HOL.out) (fun g' hg' => .inl (HG.out g' hg')) (HO2.out _)
          (fun j hj => by
            obtain ⟨z, e, hz⟩ := HXE.out j hj
            exact ⟨z, e, ownsRow_turn hz.1 hTe (by decide), hz.2⟩)
          (fun j hj => by
            obtain rfl : j = 0 := by simpa using hj
            exact ⟨_, rfl, HOB.out.below (below_alloc _ _)⟩)
          (Nat.zero_le _) rfl HOW.out ⟨HGR.out.os, HGR.out.tape, HGR.out.output, HGR.out.size, HGR.out.block⟩ (by have h := HAT.out; simpa using h) HB3.out
        refine ⟨hfin.1, .inr (.inr ⟨by omega, by first | rfl | trivial, congrArg (fun z => Ending.returned (.tuple #[.int .i64 z, .nilIface])) (by simp), by have h9 := hfin.2.1; rw [HLV.out] at h9; exact h9, fun gf hgf hfr => ?_⟩)⟩
        obtain ⟨ev2, n2, xs2, hc2, ho2, hx2⟩ := hfr
        rw [(dcell HB.out 2 _ rfl).1] at hc2
        simp only [Option.some.injEq] at hc2
        subst hc2
        obtain rfl := owns_same HOE.out ho2
        refine ⟨_, _, _, (dcell (dset HB3.out 2 (.slice (some ⟨g3, 0, none⟩) (l.es.length + 1) cap3)) 2 _ rfl).1, ownsRow_turn HOW.out ((Turn.refl (fun _ => True) [58] w3).set (.inl trivial) HB3.out (by simp) _) (by decide), fun z hz => ?_⟩
        rcases List.mem_append.1 hz with hz | hz
        · exact hx2 z hz
        · obtain rfl : z = _ := by simpa using hz
          obtain ⟨gy', cy', hfm, hby, -, -⟩ := HOB.out.form
          simp only [Value.slice.injEq, Option.some.injEq, Addr.mk.injEq, and_true] at hfm
          have hby' : w1.heap.size ≤ gy' := hby
          intro e9
          simp only [Value.ownBlock, Option.some.injEq] at e9
          omega
end Go.Proofs.YtoomnijgdpbphaaGreatDoor

namespace Go.Proofs.YtoomnijgdpbphaaGreatDoor
open Go.RowKit
set_option maxRecDepth 100000

theorem below_cells {B g : Nat} {a w : World} (hg : B ≤ g) (h : Below B a w) (o : Nat) (vs : List Value) : Below B a (w.setCells g o vs) := by
  obtain ⟨r1, r2, r3, r4⟩ := setCells_rest g vs o w
  exact ⟨r1.trans h.os, r2.trans h.tape, r3.trans h.output, by rw [r4]; exact h.size, fun k hk => by rw [setCells_other _ _ _ _ _ (by omega)]; exact h.block k hk⟩
theorem turn_cells {O : Nat → Prop} {T : List Nat} {a w : World} {g : Nat} (h : Turn O T a w) (hg : a.heap.size ≤ g) (o : Nat) (vs : List Value) : Turn O T a (w.setCells g o vs) := by
  obtain ⟨r1, r2, r3, r4⟩ := setCells_rest g vs o w
  exact ⟨r1.trans h.os, r2.trans h.tape, r3.trans h.output, by rw [r4]; exact h.size, fun k hk => by rw [setCells_other _ _ _ _ _ (by omega)]; exact h.block k hk⟩
/-- The bytes that are handed in lie at g, of an own block. -/
def InRow (g n : Nat) (w : World) : Prop := ∃ C fr, w.heap[g]? = some (.cells C 5 fr) ∧ n ≤ C.size ∧ n ≤ fr.1
theorem in_row_conv (w0 : World) (s : List UInt8) (cap : Nat) : InRow w0.heap.size s.length (w0.alloc (.cells (bytesRow ⟨s.toArray⟩ cap) 5 ((bytesRow ⟨s.toArray⟩ cap).size, (bytesRow ⟨s.toArray⟩ cap).size + 1))) := ⟨_, _, heap_alloc_last _ _, by simp [bytesRow, ByteArray.size], by simp [bytesRow, ByteArray.size]⟩
theorem InRow.there {g n : Nat} {w : World} (h : InRow g n w) : w.there g 0 n := by
  obtain ⟨C, fr, h1, h2, h3⟩ := h
  exact there_of_row h1 h2 (.inl h3)
theorem InRow.turn {g n : Nat} {w w' : World} {O : Nat → Prop} {T : List Nat} (h : InRow g n w) (ht : Turn O T w w') (hT : 5 ∉ T) : InRow g n w' := by
  obtain ⟨C, fr, h1, h2, h3⟩ := h
  exact ⟨C, fr, ht.keep h1 hT, h2, h3⟩

set_option maxHeartbeats 1000000 in
theorem pappend_any (O : Nat → Prop) (W : World) (at_ : Nat → Addr) (hSN : Sents W at_) (hOW : ∀ k, O k → W.heap.size ≤ k) (db pb lb : Nat) (l : Lg) (s : List UInt8) (w : World) (hW : Below W.heap.size W w) (he : l.es.length ≤ 1000000) (hsl : s.length ≤ 9223372036854775807) (hp : PlAt w pb lb) (hL : LogAt w O db lb l) :
    Calls Tryz.prog 28 #[.pointer (some ⟨pb, 0, none⟩), .string ⟨s.toArray⟩] w fun r w' => Turn O lT w w' ∧
      ((20 < s.length ∧ r = .returned (.tuple #[.int .i64 0, told 1]) ∧ Below w.heap.size w w') ∨ (s.length ≤ 20 ∧ l.live = false ∧ r = .returned (.tuple #[.int .i64 0, told 7]) ∧ Below w.heap.size w w') ∨
       (s.length ≤ 20 ∧ l.live = true ∧ r = .returned (.tuple #[.int .i64 (l.es.length : Int), told 0]) ∧ LogAt w' (Ext O w w') db lb { l with es := l.es ++ [s] })) := by
  have hplt : pb < w.heap.size := heap_some_lt hp
  have HPB : Hid (w.cell? ⟨pb, 0, none⟩ = some (.pointer (some ⟨lb, 0, none⟩))) := (dcell hp 0 _ rfl).1
  have HL := hide hL
  have HW := hide hW
  have HO := hide hOW
  have HS := hide hSN
  clear hL hW hOW hSN hp
  have hcv := run_bytes_of_string (P := Tryz.prog) (w.alloc (.cells #[.int .i64 0, .string ⟨#[]⟩] 26)) 9 89 5 ⟨s.toArray⟩ Tryz.underlying9 Tryz.underlying89 Tryz.underlying5
  have hge : (⟨s.toArray⟩ : ByteArray).size ≤ grownCap (w.alloc (.cells #[.int .i64 0, .string ⟨#[]⟩] 26)) (⟨s.toArray⟩ : ByteArray).size 0 5 := grownCap_ge _ _ _ _
  have hss : (⟨s.toArray⟩ : ByteArray).size = s.length := by simp [ByteArray.size]
  rw [hss] at hge
  have HQ := hide (bq_conv (w.alloc (.cells #[.int .i64 0, .string ⟨#[]⟩] 26)) s (grownCap (w.alloc (.cells #[.int .i64 0, .string ⟨#[]⟩] 26)) s.length 0 5) hge)
  clear hss
  have hc0 : ∀ o1 o2, ((w.alloc o1).alloc o2).cell? ⟨pb, 0, none⟩ = some (.pointer (some ⟨lb, 0, none⟩)) := fun o1 o2 => by
    rw [cell_old _ _ ⟨_, 0, none⟩ (by simp; omega), cell_old _ _ ⟨_, 0, none⟩ hplt]
    exact HPB.out
  have hb0 : ∀ o1 o2, Below w.heap.size w ((w.alloc o1).alloc o2) := fun o1 o2 => (below_alloc w o1).trans ((below_alloc _ o2).mono (by simp))
  have HB0 := hide hb0
  have HIR := hide (in_row_conv (w.alloc (.cells #[.int .i64 0, .string ⟨#[]⟩] 26)) s (grownCap (w.alloc (.cells #[.int .i64 0, .string ⟨#[]⟩] 26)) s.length 0 5))
  have HR0 : Hid (∀ o, TRow w.heap.size ((w.alloc (.cells #[.int .i64 0, .string ⟨#[]⟩] 26)).alloc o)) := fun o => heap_alloc_old (heap_alloc_last _ _)
  have HSZ : Hid (∀ o1 o2, ((w.alloc o1).alloc o2).heap.size = w.heap.size + 2) := fun o1 o2 => by simp
  have e1 : (w.alloc (.cells #[.int .i64 0, .string ⟨#[]⟩] 26)).heap.size = w.heap.size + 1 := by simp
  rw [e1] at HQ HIR
  clear hb0 e1
  go_enter Tryz.func28, Tryz.ntmps28
  go_wp2_with fail
  have HR1 := hide (HR0.out (.cells (bytesRow ⟨s.toArray⟩ (grownCap (w.alloc (.cells #[.int .i64 0, .string ⟨#[]⟩] 26)) s.length 0 5)) 5 ((bytesRow ⟨s.toArray⟩ (grownCap (w.alloc (.cells #[.int .i64 0, .string ⟨#[]⟩] 26)) s.length 0 5)).size, (bytesRow ⟨s.toArray⟩ (grownCap (w.alloc (.cells #[.int .i64 0, .string ⟨#[]⟩] 26)) s.length 0 5)).size + 1)))
  have HB1 := hide (HB0.out (.cells #[.int .i64 0, .string ⟨#[]⟩] 26) (.cells (bytesRow ⟨s.toArray⟩ (grownCap (w.alloc (.cells #[.int .i64 0, .string ⟨#[]⟩] 26)) s.length 0 5)) 5 ((bytesRow ⟨s.toArray⟩ (grownCap (w.alloc (.cells #[.int .i64 0, .string ⟨#[]⟩] 26)) s.length 0 5)).size, (bytesRow ⟨s.toArray⟩ (grownCap (w.alloc (.cells #[.int .i64 0, .string ⟨#[]⟩] 26)) s.length 0 5)).size + 1)))
  have HZ1 := hide (HSZ.out (.cells #[.int .i64 0, .string ⟨#[]⟩] 26) (.cells (bytesRow ⟨s.toArray⟩ (grownCap (w.alloc (.cells #[.int .i64 0, .string ⟨#[]⟩] 26)) s.length 0 5)) 5 ((bytesRow ⟨s.toArray⟩ (grownCap (w.alloc (.cells #[.int .i64 0, .string ⟨#[]⟩] 26)) s.length 0 5)).size, (bytesRow ⟨s.toArray⟩ (grownCap (w.alloc (.cells #[.int .i64 0, .string ⟨#[]⟩] 26)) s.length 0 5)).size + 1)))
  clear HR0 HB0 HSZ hc0 hcv hge
  generalize ((w.alloc (.cells #[.int .i64 0, .string ⟨#[]⟩] 26)).alloc (.cells (bytesRow ⟨s.toArray⟩ (grownCap (w.alloc (.cells #[.int .i64 0, .string ⟨#[]⟩] 26)) s.length 0 5)) 5 ((bytesRow ⟨s.toArray⟩ (grownCap (w.alloc (.cells #[.int .i64 0, .string ⟨#[]⟩] 26)) s.length 0 5)).size, (bytesRow ⟨s.toArray⟩ (grownCap (w.alloc (.cells #[.int .i64 0, .string ⟨#[]⟩] 26)) s.length 0 5)).size + 1))) = X at *
  generalize grownCap (w.alloc (.cells #[.int .i64 0, .string ⟨#[]⟩] 26)) s.length 0 5 = cp at *
  have HX : Hid (Turn O lT w X) := .of_below HB1.out
  have HLX : Hid (LogAt X O db lb l) := HL.out.stay (O1 := fun _ => False) (T := []) (.of_below HB1.out) (by simp) (by simp) (by simp)
  have HFX : Hid (LFree X lb (w.heap.size + 1)) := (LFree.fresh HL.out (w.heap.size + 1) (by omega)).below HB1.out
  have HBX : Hid (Below W.heap.size W X) := HW.out.trans (HB1.out.mono HW.out.size)
  refine (append_any O W at_ HS.out db lb l _ s X.drew HBX.out.drew he (by exact HLX.out) (by exact HQ.out) hsl).mono ?_
  rintro r w2 ⟨ht2, hres⟩
  have HT2 : Hid (Turn O lT w w2) := HX.out.trans ((ht2.undrew).mono (fun _ h => .inl h) (fun _ h => h))
  have HR2 : Hid (TRow w.heap.size w2) := HR1.out.turn ht2.undrew (by decide)
  have HI2 : Hid (InRow (w.heap.size + 1) s.length w2) := HIR.out.turn ht2.undrew (by decide)
  have HB2 : Hid (Below W.heap.size W w2) := HW.out.trans (HT2.out.below HO.out HW.out.size)
  have HE2 : Hid (∀ k, Ext O X.drew w2 k → Ext O w w2 k) := fun k hk => by
    rcases hk with h | h
    · exact .inl h
    · exact .inr ⟨Nat.le_trans HB1.out.size h.1, h.2⟩
  clear ht2
  have hcl := fun ty => clear_el (P := Tryz.prog) w2 89 5 ty (.int .u8 0) Tryz.underlying89 zeroByte rfl rfl (w.heap.size + 1) s.length cp HI2.out.there
  have HT3 : Hid (Turn O lT w (w2.setCells (w.heap.size + 1) 0 (List.replicate s.length (.int .u8 0)))) := turn_cells HT2.out (by omega) _ _
  have HR3 : Hid (TRow w.heap.size (w2.setCells (w.heap.size + 1) 0 (List.replicate s.length (.int .u8 0)))) := by
    show TRow _ _
    unfold TRow
    rw [setCells_other _ _ _ _ _ (by omega)]
    exact HR2.out
  have HB3 : Hid (Below W.heap.size W (w2.setCells (w.heap.size + 1) 0 (List.replicate s.length (.int .u8 0)))) := below_cells (Nat.le_trans HW.out.size (by omega)) HB2.out _ _
  have HS3 : Hid ((w2.setCells (w.heap.size + 1) 0 (List.replicate s.length (.int .u8 0))).heap.size = w2.heap.size) := (setCells_rest (w.heap.size + 1) (List.replicate s.length (.int .u8 0)) 0 w2).2.2.2
  have HBL : Hid (Below X.heap.size X w2 → Below w.heap.size w (w2.setCells (w.heap.size + 1) 0 (List.replicate s.length (.int .u8 0)))) := fun h => below_cells (by omega) (HB1.out.trans (h.mono HB1.out.size)) _ _
  have HLL : Hid (∀ l', LogAt w2 (Ext O X.drew w2) db lb l' → LFree w2 lb (w.heap.size + 1) → LogAt (w2.setCells (w.heap.size + 1) 0 (List.replicate s.length (.int .u8 0))) (Ext O w (w2.setCells (w.heap.size + 1) 0 (List.replicate s.length (.int .u8 0)))) db lb l') := fun l' h hf => by
    obtain ⟨C, fr, hg, -, -⟩ := HI2.out
    refine (h.clear hf hg (fun k hk => setCells_other _ _ _ _ _ hk)).mono (fun k hk => ?_)
    rcases HE2.out k hk with h | h
    · exact .inl h
    · exact .inr ⟨h.1, by rw [HS3.out]; exact h.2⟩
  generalize w2.setCells (w.heap.size + 1) 0 (List.replicate s.length (.int .u8 0)) = Y at *
  rcases hres with ⟨h20, rfl, hb⟩ | ⟨h20, hlv, rfl, hb⟩ | ⟨h20, hlv, rfl, hl, hfr⟩
  · have HH := hide (And.intro h20 (HBL.out ⟨hb.os, hb.tape, hb.output, hb.size, hb.block⟩))
    clear h20 hb
    unfold errS
    go_wp2_with fail
    refine (of_sent0 at_ Y (sents_below HS.out HB3.out)).mono ?_
    rintro r w4 ⟨rfl, hb4⟩
    have HB4 := hide hb4
    have HR4 := hide (HR3.out.below hb4)
    obtain ⟨c0, z0⟩ := dcell HR4.out 0 _ rfl
    obtain ⟨c1, z1⟩ := dcell HR4.out 1 _ rfl
    clear hb4
    unfold told
    go_wp2_with fail
    exact bodyPost_ret (v := .tuple #[.int .i64 0, .agg #[.int .i64 1, .string ⟨([] : List UInt8).toArray⟩]]) (results_tmp_cell Tryz.results28 _ _ w.heap.size 26 _ (0, 0) _ rfl (told_end HR4.out _ _ rfl) Tryz.underlying26 rfl (by kernel_rfl) _ rfl) rfl ⟨turn_sets2 (HT3.out.then_below HB4.out), .inl ⟨HH.out.1, rfl, below_sets2 (HH.out.2.trans (HB4.out.mono HT3.out.size))⟩⟩
  · have HH := hide (And.intro h20 (And.intro hlv (HBL.out ⟨hb.os, hb.tape, hb.output, hb.size, hb.block⟩)))
    clear h20 hb hlv
    unfold errS
    go_wp2_with fail
    refine (of_sent6 at_ Y (sents_below HS.out HB3.out)).mono ?_
    rintro r w4 ⟨rfl, hb4⟩
    have HB4 := hide hb4
    have HR4 := hide (HR3.out.below hb4)
    obtain ⟨c0, z0⟩ := dcell HR4.out 0 _ rfl
    obtain ⟨c1, z1⟩ := dcell HR4.out 1 _ rfl
    clear hb4
    unfold told
    go_wp2_with fail
    exact bodyPost_ret (v := .tuple #[.int .i64 0, .agg #[.int .i64 7, .string ⟨([] : List UInt8).toArray⟩]]) (results_tmp_cell Tryz.results28 _ _ w.heap.size 26 _ (0, 0) _ rfl (told_end HR4.out _ _ rfl) Tryz.underlying26 rfl (by kernel_rfl) _ rfl) rfl ⟨turn_sets2 (HT3.out.then_below HB4.out), .inr (.inl ⟨HH.out.1, HH.out.2.1, rfl, below_sets2 (HH.out.2.2.trans (HB4.out.mono HT3.out.size))⟩)⟩
  · have HH := hide (And.intro h20 (And.intro hlv (HLL.out _ hl (hfr _ (by have := HZ1.out; show _ < X.heap.size; omega) HFX.out))))
    clear h20 hlv hl hfr
    go_wp2_with fail
    refine (of_nil at_ Y (sents_below HS.out HB3.out)).mono ?_
    rintro r w4 ⟨rfl, hb4⟩
    have HB4 := hide hb4
    have HR4 := hide (HR3.out.below hb4)
    obtain ⟨c0, z0⟩ := dcell HR4.out 0 _ rfl
    obtain ⟨c1, z1⟩ := dcell HR4.out 1 _ rfl
    clear hb4
    unfold told
    go_wp2_with fail
    exact bodyPost_ret (v := .tuple #[.int .i64 (l.es.length : Int), .agg #[.int .i64 0, .string ⟨([] : List UInt8).toArray⟩]]) (results_tmp_cell Tryz.results28 _ _ w.heap.size 26 _ (0, 0) _ rfl (told_end HR4.out _ _ rfl) Tryz.underlying26 rfl (by kernel_rfl) _ rfl) rfl ⟨turn_sets2 (HT3.out.then_below HB4.out), .inr (.inr ⟨HH.out.1, HH.out.2.1, rfl, (HH.out.2.2.later HB4.out).sets2 HR4.out⟩)⟩
end Go.Proofs.YtoomnijgdpbphaaGreatDoor
