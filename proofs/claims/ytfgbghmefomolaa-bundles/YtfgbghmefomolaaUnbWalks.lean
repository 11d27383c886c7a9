
import Derived.Test.YtfgbghmefomolaaRefUnb
namespace Go.Proofs.Ytfgbghmefomolaa
open Go.RowKit
set_option maxRecDepth 100000

set_option maxHeartbeats 2000000 in
theorem clone_any (a : Addr) (n c : Nat) (l : List UInt8) (w : World) (hl : l.length = n) (hn : n ≤ 1000000) (hc : ∀ j u, (l.map bv)[j]? = some u → w.cell? (a.add j) = some u) :
    Calls Try.prog 43 #[.slice (some a) n c] w fun r w' => ∃ x, r = .returned x ∧ OB w' w.heap.size x l ∧ Below w.heap.size w w' := by
  obtain ⟨i, hi, hi'⟩ := Option.map_eq_some_iff.1 infoByte
  obtain ⟨hz0, hz1, hz2⟩ : i.zero = some (.int .u8 0) ∧ i.size = 1 ∧ i.bytes = 1 := by simpa using hi'
  clear hi'
  have HI := hide hi
  have HZ := hide (And.intro hz0 (And.intro hz1 hz2))
  clear hi hz0 hz1 hz2
  have q : ∀ (w : World) (a : Option Addr) (n c n' c' : Nat), (binOp .eql 41 (.slice a n c) (.slice none n' c')).run Try.prog w = .ok (.bool a.isNone) w := fun w a n c n' c' => Lib.run_eql_slice_nil w _ _ a n c n' c' Try.underlying41
  have HC := hide hc
  clear hc
  go_enter Try.func43, Try.ntmps43
  go_wp2_with (at_builtin; refine wpList_append_own _ rfl _ _ 41 rfl w.heap.size 5 i (.int .u8 0) 1 1 Try.underlying41 HI.out HZ.out.1 HZ.out.2.1 HZ.out.2.2 rfl (by decide) (.slice (some ⟨w.heap.size, 0, none⟩) 0 0) 0 [] rfl (World.ownsRow_made w #[] 0 (Nat.le_refl _) (Nat.zero_le _) rfl) a n c (l.map bv) rfl (by simp; omega) (fun j u hj => Lib.cell?_alloc_some _ (HC.out j u hj)) (bv_one l) (by unfold maxLen; omega) (by omega) (by simp) ?_; intro v' w1 hown hgrow hnil; have HO := hide hown; have HG := hide hgrow; have HN := hide hnil; clear hown hgrow hnil)
  go_ret
  refine ⟨v', rfl, ⟨by have := HO.out; rw [hl]; simpa using this, fun e => absurd (HN.out.1 e).1 (by simp)⟩, ?_⟩
  exact ((Below.refl _ w).alloc (Nat.le_refl _) _).grown HG.out (by simp) (by intro k hk; simp [Value.ownBlock] at hk; omega)

theorem OB.grown {w w' : World} {B B' : Nat} {x v : Value} {l : List UInt8} {n : Nat} {xs : List Value} (h : OB w B x l) (ho : w.ownsRow B' 41 1 v n xs) (hg' : w.grownBy w' v.ownBlock) : OB w' B x l := by
  refine ⟨⟨h.1.1, ?_⟩, h.2⟩
  rcases h.1.2 with h0 | ⟨g, cap, cur, rfl, hB, hg, r⟩
  · exact .inl h0
  · refine .inr ⟨g, cap, cur, rfl, hB, ?_, r⟩
    rw [hg'.block g (heap_lt hg) ?_]
    · exact hg
    · intro hq
      rcases ho.2 with ⟨rfl, _⟩ | ⟨g', c', cur', rfl, _, hg2, _⟩
      · simp [Value.ownBlock] at hq
      · simp only [Value.ownBlock, Option.some.injEq] at hq
        subst hq
        rw [hg] at hg2
        simp at hg2
theorem OB.weaken {w : World} {B B' : Nat} {x : Value} {l : List UInt8} (h : OB w B x l) (hB : B' ≤ B) : OB w B' x l := by
  refine ⟨⟨h.1.1, ?_⟩, h.2⟩
  rcases h.1.2 with h0 | ⟨g, cap, cur, rfl, hg, r⟩
  · exact .inl h0
  · exact .inr ⟨g, cap, cur, rfl, Nat.le_trans hB hg, r⟩
def OBs (w : World) (B : Nat) (v : Value) (ls : List (List UInt8)) : Prop :=
  ∃ xs : List Value, w.ownsRow B 41 1 v ls.length xs ∧ ∀ j (h : j < ls.length), ∃ x, xs[j]? = some x ∧ OB w B x ls[j]
theorem OBs.nil (w : World) (B : Nat) : OBs w B (.slice none 0 0) [] := ⟨[], ⟨rfl, .inl ⟨rfl, rfl⟩⟩, fun j hj => by simp at hj⟩
theorem obs_step {wr w1 w2 : World} {B : Nat} {u x : Value} {xs : List Value} {ls : List (List UInt8)} {l : List UInt8} {g cap' : Nat} {o : Obj} (hB : B ≤ wr.heap.size) (ho : wr.ownsRow B 41 1 u ls.length xs)
    (hx : ∀ j (h : j < ls.length), ∃ x, xs[j]? = some x ∧ OB wr B x ls[j])
    (hb1 : Below wr.heap.size wr w1) (hl : OB w1 wr.heap.size x l)
    (hown : w2.ownsRow B 41 1 (.slice (some ⟨g, 0, none⟩) (ls.length + 1) cap') (ls.length + 1) (xs ++ [x]))
    (hgrow : (w1.alloc o).grownBy w2 u.ownBlock) :
    OBs w2 B (.slice (some ⟨g, 0, none⟩) (ls.length + 1) cap') (ls ++ [l]) := by
  have hxl : xs.length = ls.length := by rw [ho.1, Nat.mul_one]
  have ho1 : (w1.alloc o).ownsRow B 41 1 u ls.length xs := ownsRow_below (ownsRow_below ho hb1) (below_alloc _ _)
  refine ⟨xs ++ [x], by simpa using hown, fun j hj => ?_⟩
  by_cases hjl : j < ls.length
  · obtain ⟨y, e, hb⟩ := hx j hjl
    refine ⟨y, by rw [List.getElem?_append_left (by omega)]; exact e, ?_⟩
    rw [List.getElem_append_left hjl]
    exact ((hb.below hb1).below (below_alloc _ _)).grown ho1 hgrow
  · obtain rfl : j = ls.length := by simp at hj; omega
    refine ⟨x, by rw [List.getElem?_append_right (by omega), hxl]; simp, ?_⟩
    rw [List.getElem_append_right (Nat.le_refl _)]
    simp only [Nat.sub_self, List.getElem_cons_zero]
    exact ((hl.weaken hB).below (below_alloc _ _)).grown ho1 hgrow

theorem ret_two {x : Value} {p q : Bool} (h : p = q) : Ending.returned (.tuple #[x, .bool p]) = .returned (.tuple #[x, .bool q]) := by rw [h]
/-- What is left of the bytes: where they lie. -/
def Rest (w : World) (v : Value) (r : List UInt8) : Prop := ∃ a cap, v = .slice (some a) r.length cap ∧ r.length ≤ cap ∧ a.spot = none ∧ ∀ i (h : i < r.length), w.cell? ⟨a.block, a.off + i, none⟩ = some (bv r[i])
theorem ob_one {w : World} {B : Nat} {x : Value} {l : List UInt8} (h : OB w B x l) : ∀ u ∈ [x], u.oneCell' = true := by
  intro u hu
  obtain rfl : u = x := by simpa using hu
  obtain ⟨g, cap, rfl, -⟩ := h.form
  rfl
theorem no_cells {wr : World} {a : Addr} {rr : List UInt8} (h : rr.length = 0) (n : Nat) : ∀ j u, ((rr.take n).map bv)[j]? = some u → wr.drew.cell? (a.add j) = some u := by
  intro j u hj
  obtain rfl : rr = [] := List.length_eq_zero_iff.1 h
  simp at hj
theorem ob_shape {w : World} {B : Nat} {x : Value} {l : List UInt8} (h : OB w B x l) : ∃ g c n, x = .slice (some ⟨g, 0, none⟩) n c := by
  obtain ⟨g, cap, rfl, -⟩ := h.form
  exact ⟨g, cap, _, rfl⟩
theorem all20 {acc : List (List UInt8)} {l : List UInt8} (h : ∀ l ∈ acc, l.length ≤ 20) (hl : l.length ≤ 20) : ∀ m ∈ acc ++ [l], m.length ≤ 20 := by
  intro m hm
  rcases List.mem_append.1 hm with h' | h'
  · exact h m h'
  · obtain rfl : m = l := by simpa using h'
    exact hl
def slen : Value → Nat
  | .slice _ n _ => n
  | _ => 0

theorem rest_drop {w : World} {b off : Nat} {rr : List UInt8} (hs : ∀ i (h : i < rr.length), w.cell? ⟨b, off + 1 + i, none⟩ = some (bv rr[i])) (n cap' o' : Nat) (hcap : rr.length - n ≤ cap') (ho : n < rr.length → o' = off + 1 + n) :
    Rest w (.slice (some ⟨b, o', none⟩) (rr.length - n) cap') (rr.drop n) := by
  refine ⟨⟨b, o', none⟩, cap', by rw [List.length_drop], by rw [List.length_drop]; exact hcap, rfl, fun i hi => ?_⟩
  rw [List.length_drop] at hi
  obtain rfl := ho (by omega)
  rw [List.getElem_drop]
  show w.cell? ⟨b, off + 1 + n + i, none⟩ = _
  rw [Nat.add_assoc (off + 1)]
  exact hs (n + i) (by omega)
theorem rest_nil {w : World} {b o : Nat} {l : List UInt8} (h : l.length = 0) : Rest w (.slice (some ⟨b, o, none⟩) 0 0) l :=
  ⟨⟨b, o, none⟩, 0, by rw [h], by rw [h]; exact Nat.le_refl _, rfl, fun i hi => by omega⟩
theorem take_cells {w wr : World} {b off : Nat} {rr : List UInt8} (hs : ∀ i (h : i < rr.length), w.cell? ⟨b, off + 1 + i, none⟩ = some (bv rr[i])) (hb : Below w.heap.size w wr) (n : Nat) : ∀ j u, ((rr.take n).map bv)[j]? = some u → wr.drew.cell? ((⟨b, off + 1, none⟩ : Addr).add j) = some u := by
  intro j u hj
  have hjl : j < (rr.take n).length := by simpa using (List.getElem?_eq_some_iff.1 hj).1
  have hjr : j < rr.length := by simp at hjl; omega
  have hx := hs j hjr
  rw [Addr.add_mid]
  show wr.cell? ⟨b, off + 1 + j, none⟩ = _
  rw [hb.cell (p := ⟨b, off + 1 + j, none⟩) (cell_lt (p := ⟨b, off + 1 + j, none⟩) hx), hx]
  rw [List.getElem?_map, List.getElem?_eq_getElem hjl, List.getElem_take] at hj
  simpa using hj

set_option maxHeartbeats 1000000 in
theorem unb_any (v : Value) (d : List UInt8) (w : World) (h : Rest w v d) :
    Calls Try.prog 37 #[v] w fun r w' => ∃ x, r = .returned (.tuple #[x, .bool (unbF d).isSome]) ∧ Below w.heap.size w w' ∧ OBs w' w.heap.size x ((unbF d).getD []) := by
  obtain ⟨i, hi, hi'⟩ := Option.map_eq_some_iff.1 infoBytes
  obtain ⟨hz0, hz1, hz2⟩ : i.zero = some (.slice none 0 0) ∧ i.size = 1 ∧ i.bytes = 24 := by simpa using hi'
  clear hi'
  have HI := hide hi
  have HZ := hide (And.intro hz0 (And.intro hz1 hz2))
  clear hi hz0 hz1 hz2
  have HR0 := hide h
  clear h
  go_enter Try.func37, Try.ntmps37
  go_wp2_with fail
  go_loopw [0, 4] (fun t u wr => ∃ (r : List UInt8) (acc : List (List UInt8)), Rest w t r ∧ Un d acc r ∧ Below w.heap.size w wr ∧ OBs wr w.heap.size u acc ∧ acc.length ≤ 4 ∧ ∀ l ∈ acc, l.length ≤ 20) (fun t _ _ => slen t)
  case atStart => exact ⟨d, [], HR0.out, Un.start _, Below.refl _ _, OBs.nil _ _, Nat.zero_le _, fun l hl => by simp at hl⟩
  case round =>
    obtain ⟨r, acc, ⟨⟨b, off, spot⟩, cap, rfl, hcap, hspot, hcell⟩, hun, hbe, hobs, h4, hall⟩ := hrel
    obtain rfl : spot = none := hspot
    have HU := hide hun
    have HB := hide hbe
    have HA := hide hall
    have HC := hide hcell
    obtain ⟨xs, ho, hxs⟩ := hobs
    have HO := hide ho
    have HX := hide hxs
    obtain ⟨ae, ce, hue⟩ : ∃ ae ce, u4 = .slice ae acc.length ce := by
      rcases ho.2 with ⟨e, e0⟩ | ⟨g, cap, cur, e, _⟩
      · exact ⟨none, 0, by rw [e, e0]⟩
      · exact ⟨_, _, e⟩
    subst hue
    have hlen := hun.2
    clear hun hbe hall hcell ho hxs
    cases r with
    | nil =>
      by_cases h1 : 1 ≤ acc.length
      · have n1 : (0 : Int) < (acc.length : Int) := by omega
        have HR := hide (HU.out.end_ok (okB_mk h1 h4 (fun j hj => HA.out _ (List.getElem_mem hj)))).1
        have HD := hide (show decide (0 < acc.length) = true by simp; omega)
        go_wp2
        go_ret2
        exact ⟨_, by rw [HR.out]; exact ret_two HD.out, HB.out, by rw [HR.out]; exact ⟨xs, HO.out, HX.out⟩⟩
      · have h0 : acc.length = 0 := by omega
        have HR := hide (HU.out.end_not (okB_none h0))
        obtain rfl : acc = [] := List.length_eq_zero_iff.1 h0
        go_wp2
        go_ret2
        exact ⟨_, by rw [HR.out]; rfl, HB.out, by rw [HR.out]; exact ⟨xs, HO.out, HX.out⟩⟩
    | cons c rr =>
      simp only [List.length_cons] at hcap hlen ⊢
      have hc0 := HC.out 0 (by simp)
      rw [Nat.add_zero] at hc0
      simp only [List.getElem_cons_zero] at hc0
      rw [← HB.out.cell (cell_lt (p := ⟨b, off, none⟩) hc0)] at hc0
      unfold bv at hc0
      have hcl := c.toNat_lt
      have HS : Hid (∀ i (h : i < rr.length), w.cell? ⟨b, off + 1 + i, none⟩ = some (bv rr[i])) := fun i h => by
        have := HC.out (i + 1) (by simp; omega)
        rw [show off + (i + 1) = off + 1 + i by omega] at this
        simpa using this
      clear HC
      by_cases e4 : acc.length = 4
      · have HR := hide (HU.out.many (by omega))
        have n4 : ((acc.length : Int) == 4) = true := by rw [beq_iff_eq]; omega
        clear e4
        by_cases ec : cap = 1
        · subst ec
          go_wp2_with fail
          go_region
          all_goals go_wp2
          all_goals go_ret2
          all_goals exact ⟨_, by rw [HR.out]; rfl, HB.out.drew, by rw [HR.out]; exact OBs.nil _ _⟩
        · go_wp2_with fail
          go_region
          all_goals go_wp2
          all_goals go_ret2
          all_goals exact ⟨_, by rw [HR.out]; rfl, HB.out.drew, by rw [HR.out]; exact OBs.nil _ _⟩
      · have n4 : ((acc.length : Int) == 4) = false := by rw [beq_eq_false_iff_ne]; omega
        by_cases e20 : 20 < c.toNat
        · have HR := hide (HU.out.long e20)
          have n20 : (20 : Int) < (c.toNat : Int) := by omega
          by_cases ec : cap = 1
          · subst ec
            go_wp2_with fail
            go_region
            all_goals go_wp2
            all_goals go_ret2
            all_goals exact ⟨_, by rw [HR.out]; rfl, HB.out.drew, by rw [HR.out]; exact OBs.nil _ _⟩
          · go_wp2_with fail
            go_region
            all_goals go_wp2
            all_goals go_ret2
            all_goals exact ⟨_, by rw [HR.out]; rfl, HB.out.drew, by rw [HR.out]; exact OBs.nil _ _⟩
        · have n20 : ¬ (20 : Int) < (c.toNat : Int) := by omega
          by_cases hfit : c.toNat ≤ rr.length
          · have nf : ¬ (rr.length : Int) < (c.toNat : Int) := by omega
            by_cases ec : cap = 1
            · have hr0 : rr.length = 0 := by omega
              have hc00 : c.toNat = 0 := by omega
              subst ec
              go_wp2_with fail
              go_region
              go_wp2_with fail
              refine (clone_any ⟨b, off, none⟩ 0 0 (rr.take c.toNat) wr.drew (by simp; omega) (by omega) (no_cells (by omega) _)).mono ?_
              rintro r w1 ⟨x, rfl, hob, hb1⟩
              obtain ⟨gx, cx, nx, rfl⟩ := ob_shape hob
              have HOB := hide hob
              have HB1 : Hid (Below wr.heap.size wr w1) := Below.trans (Below.refl _ _).drew hb1
              have HOO : Hid (∀ o, (w1.alloc o).ownsRow w.heap.size 41 1 (.slice ae acc.length ce) acc.length xs) := fun o => ownsRow_below (ownsRow_below HO.out HB1.out) (below_alloc w1 o)
              have hsz : Hid (w.heap.size ≤ w1.heap.size) := Nat.le_trans HB.out.size HB1.out.size
              clear hob hb1
              go_wp2_with (at_builtin; (refine wpList_append_lies _ rfl _ _ _ rfl w.heap.size 41 i (.slice none 0 0) 1 24 Try.underlying35 HI.out HZ.out.1 HZ.out.2.1 HZ.out.2.2 rfl (by omega) (.slice ae acc.length ce) acc.length xs rfl (HOO.out _) ⟨w1.heap.size, 0, none⟩ 1 1 [.slice (some ⟨gx, 0, none⟩) nx cx] rfl rfl (World.news_of_block (heap_alloc_last _ _)) (ob_one HOB.out) (by omega) (by unfold maxLen; omega) (by omega) (by have := hsz.out; simp; omega) (w1.heap.size + 1) (by simp) ?_; intro g' cap' w2 hown hgrow hat hltg; have HST := hide (obs_step HB.out.size HO.out HX.out HB1.out HOB.out hown hgrow); have HB2 : Hid (Below w.heap.size w w2) := ((HB.out.trans (HB1.out.mono HB.out.size)).trans ((below_alloc w1 _).mono hsz.out)).grown hgrow (by have := hsz.out; simp; omega) (own_base HO.out); clear hgrow hat hltg hown))
              refine ⟨⟨rr.drop c.toNat, acc ++ [rr.take c.toNat], rest_nil (by simp; omega), HU.out.step hfit, HB2.out, HST.out, by simp; omega, all20 HA.out (by simp; omega)⟩, by show 0 < _; simp [slen]⟩
            · by_cases ec2 : cap - 1 = c.toNat
              · go_wp2_with fail
                go_region
                go_wp2_with fail
                refine (clone_any ⟨b, off + 1, none⟩ c.toNat c.toNat (rr.take c.toNat) wr.drew (by simp; omega) (by omega) (take_cells HS.out HB.out _)).mono ?_
                rintro r w1 ⟨x, rfl, hob, hb1⟩
                obtain ⟨gx, cx, nx, rfl⟩ := ob_shape hob
                have HOB := hide hob
                have HB1 : Hid (Below wr.heap.size wr w1) := Below.trans (Below.refl _ _).drew hb1
                have HOO : Hid (∀ o, (w1.alloc o).ownsRow w.heap.size 41 1 (.slice ae acc.length ce) acc.length xs) := fun o => ownsRow_below (ownsRow_below HO.out HB1.out) (below_alloc w1 o)
                have hsz : Hid (w.heap.size ≤ w1.heap.size) := Nat.le_trans HB.out.size HB1.out.size
                clear hob hb1
                go_wp2_with (at_builtin; (refine wpList_append_lies _ rfl _ _ _ rfl w.heap.size 41 i (.slice none 0 0) 1 24 Try.underlying35 HI.out HZ.out.1 HZ.out.2.1 HZ.out.2.2 rfl (by omega) (.slice ae acc.length ce) acc.length xs rfl (HOO.out _) ⟨w1.heap.size, 0, none⟩ 1 1 [.slice (some ⟨gx, 0, none⟩) nx cx] rfl rfl (World.news_of_block (heap_alloc_last _ _)) (ob_one HOB.out) (by omega) (by unfold maxLen; omega) (by omega) (by have := hsz.out; simp; omega) (w1.heap.size + 1) (by simp) ?_; intro g' cap' w2 hown hgrow hat hltg; have HST := hide (obs_step HB.out.size HO.out HX.out HB1.out HOB.out hown hgrow); have HB2 : Hid (Below w.heap.size w w2) := ((HB.out.trans (HB1.out.mono HB.out.size)).trans ((below_alloc w1 _).mono hsz.out)).grown hgrow (by have := hsz.out; simp; omega) (own_base HO.out); clear hgrow hat hltg hown))
                refine ⟨⟨rr.drop c.toNat, acc ++ [rr.take c.toNat], rest_drop HS.out c.toNat _ _ (by omega) (fun h => by omega), HU.out.step hfit, HB2.out, HST.out, by simp; omega, all20 HA.out (by simp; omega)⟩, by show rr.length - c.toNat < rr.length + 1; omega⟩
              · go_wp2_with fail
                go_region
                go_wp2_with fail
                refine (clone_any ⟨b, off + 1, none⟩ c.toNat (cap - 1) (rr.take c.toNat) wr.drew (by simp; omega) (by omega) (take_cells HS.out HB.out _)).mono ?_
                rintro r w1 ⟨x, rfl, hob, hb1⟩
                obtain ⟨gx, cx, nx, rfl⟩ := ob_shape hob
                have HOB := hide hob
                have HB1 : Hid (Below wr.heap.size wr w1) := Below.trans (Below.refl _ _).drew hb1
                have HOO : Hid (∀ o, (w1.alloc o).ownsRow w.heap.size 41 1 (.slice ae acc.length ce) acc.length xs) := fun o => ownsRow_below (ownsRow_below HO.out HB1.out) (below_alloc w1 o)
                have hsz : Hid (w.heap.size ≤ w1.heap.size) := Nat.le_trans HB.out.size HB1.out.size
                clear hob hb1
                go_wp2_with (at_builtin; (refine wpList_append_lies _ rfl _ _ _ rfl w.heap.size 41 i (.slice none 0 0) 1 24 Try.underlying35 HI.out HZ.out.1 HZ.out.2.1 HZ.out.2.2 rfl (by omega) (.slice ae acc.length ce) acc.length xs rfl (HOO.out _) ⟨w1.heap.size, 0, none⟩ 1 1 [.slice (some ⟨gx, 0, none⟩) nx cx] rfl rfl (World.news_of_block (heap_alloc_last _ _)) (ob_one HOB.out) (by omega) (by unfold maxLen; omega) (by omega) (by have := hsz.out; simp; omega) (w1.heap.size + 1) (by simp) ?_; intro g' cap' w2 hown hgrow hat hltg; have HST := hide (obs_step HB.out.size HO.out HX.out HB1.out HOB.out hown hgrow); have HB2 : Hid (Below w.heap.size w w2) := ((HB.out.trans (HB1.out.mono HB.out.size)).trans ((below_alloc w1 _).mono hsz.out)).grown hgrow (by have := hsz.out; simp; omega) (own_base HO.out); clear hgrow hat hltg hown))
                refine ⟨⟨rr.drop c.toNat, acc ++ [rr.take c.toNat], rest_drop HS.out c.toNat _ _ (by omega) (fun h => by omega), HU.out.step hfit, HB2.out, HST.out, by simp; omega, all20 HA.out (by simp; omega)⟩, by show rr.length - c.toNat < rr.length + 1; omega⟩
          · have nf : (rr.length : Int) < (c.toNat : Int) := by omega
            have HR := hide (HU.out.fail hfit)
            by_cases ec : cap = 1
            · subst ec
              go_wp2_with fail
              go_region
              all_goals go_wp2
              all_goals go_ret2
              all_goals exact ⟨_, by rw [HR.out]; rfl, HB.out.drew, by rw [HR.out]; exact OBs.nil _ _⟩
            · go_wp2_with fail
              go_region
              all_goals go_wp2
              all_goals go_ret2
              all_goals exact ⟨_, by rw [HR.out]; rfl, HB.out.drew, by rw [HR.out]; exact OBs.nil _ _⟩
end Go.Proofs.Ytfgbghmefomolaa
