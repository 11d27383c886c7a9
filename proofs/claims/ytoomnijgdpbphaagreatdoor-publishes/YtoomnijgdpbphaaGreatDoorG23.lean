import Derived.Test.YtoomnijgdpbphaaGreatDoorG18
import Derived.Test.YtoomnijgdpbphaaGreatDoorG22
import Derived.Deep.LoopGhost
import Derived.Deep.CutRange
import Derived.Deep.RegionLaw
import Derived.Test.YtoomnijgdpbphaaGreatDoorG17

namespace Go.Proofs.YtoomnijgdpbphaaGreatDoor
open Go.RowKit
set_option maxRecDepth 100000

abbrev rT : List Nat := [69, 58, 89]
abbrev lT : List Nat := [58, 89]
theorem Turn.to_rT {O : Nat → Prop} {w w' : World} (h : Turn O dT1 w w') : Turn O rT w w' := h.mono (fun _ h => h) (fun t ht => by simp at ht; simp [ht])
theorem LogAt.stay {w w' : World} {O O1 : Nat → Prop} {T : List Nat} {db b : Nat} {l : Lg} (h : LogAt w O db b l) (ht : Turn O1 T w w') (h1 : 58 ∉ T) (h2 : 89 ∉ T) (h3 : 5 ∉ T) : LogAt w' O db b l := by
  obtain ⟨ev, a, hb, ⟨xs, ho, hx⟩, hg⟩ := h
  refine ⟨ev, a, ht.keep hb h1, ⟨xs, ownsRow_turn ho ht h2, fun j hj => ?_⟩, hg⟩
  obtain ⟨x, e, hob⟩ := hx j hj
  exact ⟨x, e, ownsRow_turn hob.1 ht h3, hob.2⟩
theorem LogAt.mono {w : World} {O O' : Nat → Prop} {db b : Nat} {l : Lg} (h : LogAt w O db b l) (hO : ∀ k, O k → O' k) : LogAt w O' db b l := by
  obtain ⟨ev, a, hb, hes, hg⟩ := h
  exact ⟨ev, hO _ a, hb, hes, fun g e => hO g (hg g e)⟩
theorem LogAt.out {w w' : World} {O O1 : Nat → Prop} {T : List Nat} {db b : Nat} {l : Lg} (h : LogAt w O db b l) (ht : Turn O1 T w w') (h1 : ∀ k, O k → ¬ O1 k) (h3 : 5 ∉ T) : LogAt w' O db b l := by
  obtain ⟨ev, a, hb, ⟨xs, ho, hx⟩, hg⟩ := h
  refine ⟨ev, a, ht.stay hb (h1 b a), ⟨xs, ownsRow_stay ho ht (fun g hg' => h1 g (hg g hg')), fun j hj => ?_⟩, hg⟩
  obtain ⟨x, e, hob⟩ := hx j hj
  exact ⟨x, e, ownsRow_turn hob.1 ht h3, hob.2⟩

theorem obs_turn {w w' : World} {O : Nat → Prop} {T : List Nat} {B : Nat} {v : Value} {es : List (List UInt8)} (h : OBs w B v es) (ht : Turn O T w w') (h2 : 89 ∉ T) (h3 : 5 ∉ T) : OBs w' B v es := by
  obtain ⟨xs, ho, hx⟩ := h
  refine ⟨xs, ownsRow_turn ho ht h2, fun j hj => ?_⟩
  obtain ⟨x, e, hob⟩ := hx j hj
  exact ⟨x, e, ownsRow_turn hob.1 ht h3, hob.2⟩
theorem step_no {lk : Lk} {es : List (List UInt8)} {q hv : Nat} (hq : es.length / 4 = q) (hh : es.length % 4 = hv) (h : (wdF lk q hv).bind (fun k => bunAt lk q k) = none) : stepB lk es = ([], false) := by
  subst hq hh
  unfold stepB
  cases e : wdF lk (es.length / 4) (es.length % 4) with
  | none => rfl
  | some w => rw [e] at h; simp only [Option.bind_some] at h; simp only [h]
theorem step_diff {lk : Lk} {es b : List (List UInt8)} {q hv : Nat} (hq : es.length / 4 = q) (hh : es.length % 4 = hv) (h : (wdF lk q hv).bind (fun k => bunAt lk q k) = some b) (hd : ¬ b.take hv = es.drop (4 * q)) : stepB lk es = ([], false) := by
  subst hq hh
  unfold stepB
  cases e : wdF lk (es.length / 4) (es.length % 4) with
  | none => rfl
  | some w => rw [e] at h; simp only [Option.bind_some] at h; simp only [h, if_neg hd]
theorem step_yes {lk : Lk} {es b : List (List UInt8)} {n q hv : Nat} (hq : es.length / 4 = q) (hh : es.length % 4 = hv) (hn : wdF lk q hv = some n) (h : (wdF lk q hv).bind (fun k => bunAt lk q k) = some b) (hd : b.take hv = es.drop (4 * q)) : stepB lk es = (b.drop hv, decide (n = 4)) ∧ b.length = n := by
  subst hq hh
  rw [hn] at h
  simp only [Option.bind_some] at h
  refine ⟨?_, (bunAt_len h).1⟩
  unfold stepB
  simp only [hn, h, if_pos hd]
theorem Behind.of {lk : Lk} {d : List (List UInt8)} {k : Nat} (h1 : ∀ i, i < k → (stepB lk (bhTo lk d i)).2 = true) (h2 : (stepB lk (bhTo lk d k)).2 = false) : Behind lk d (bhTo lk d k ++ (stepB lk (bhTo lk d k)).1) := ⟨k, h1, h2, rfl⟩
theorem obs_block {w : World} {B : Nat} {a : Option Addr} {cap : Nat} {es : List (List UInt8)} (h : OBs w B (.slice a es.length cap) es) (h0 : 0 < es.length) : ∃ g, a = some ⟨g, 0, none⟩ ∧ ∃ xs : List Value, w.ownsRow B 89 1 (.slice a es.length cap) es.length xs := by
  obtain ⟨xs, ho, hx⟩ := h
  rcases ho.2 with ⟨e, e0⟩ | ⟨g, c, cur, e, r⟩
  · omega
  · simp at e
    exact ⟨g, e.1, xs, ho⟩
theorem obs_cap {w : World} {B : Nat} {a : Option Addr} {cap : Nat} {es : List (List UInt8)} (h : OBs w B (.slice a es.length cap) es) : es.length ≤ cap := by
  obtain ⟨a', cap', e, hc, -⟩ := h.bss'
  simp only [Value.slice.injEq, true_and] at e
  omega
theorem take_bss {w : World} {B g : Nat} {cap : Nat} {es : List (List UInt8)} (h : OBs w B (.slice (some ⟨g, 0, none⟩) es.length cap) es) {k : Nat} (hk : k ≤ es.length) : Bss w (.slice (some ⟨g, 0, none⟩) k cap) (es.take k) := h.bss'.take k hk
theorem log_append {O : Nat → Prop} {w0 w w4 : World} {db lb : Nat} {l : Lg} {es b : List (List UInt8)} {a : Option Addr} {cap g cap' hv B : Nat} {xs ys : List Value}
    {T : List Nat} (HT : Turn O T w0 w) (hO : Ext O w0 w lb) (hg : ∀ g, (Value.slice a es.length cap).ownBlock = some g → Ext O w0 w g)
    (HOE : w.ownsRow 0 89 1 (.slice a es.length cap) es.length xs) (HXE : ∀ j (h : j < es.length), ∃ x, xs[j]? = some x ∧ OB w 0 x es[j])
    (HYB : ∀ j (h : j < b.length), ∃ x, ys[j]? = some x ∧ OB w B x b[j]) (hvb : hv ≤ b.length) (hyl : ys.length = b.length)
    (HOW : w4.ownsRow 0 89 1 (.slice (some ⟨g, 0, none⟩) (es.length + (b.length - hv)) cap') (es.length + (b.length - hv)) (xs ++ ys.drop hv))
    (HGR : w.drew.grownBy w4 (Value.slice a es.length cap).ownBlock) (HAT : (Value.slice a es.length cap).ownBlock = some g ∨ g = w.heap.size)
    (HB4 : w4.heap[lb]? = some (.cells (lcells db (.slice a es.length cap) { key := l.key, es := es, put := l.put, live := l.live }) 58 (0, 0))) (hTa : 89 ∈ T := by decide) (hTb : 58 ∈ T := by decide) :
    Turn O T w0 (w4.setCell ⟨lb, 2, none⟩ (.slice (some ⟨g, 0, none⟩) (es.length + (b.length - hv)) cap')) ∧ LogAt (w4.setCell ⟨lb, 2, none⟩ (.slice (some ⟨g, 0, none⟩) (es.length + (b.length - hv)) cap')) (Ext O w0 (w4.setCell ⟨lb, 2, none⟩ (.slice (some ⟨g, 0, none⟩) (es.length + (b.length - hv)) cap'))) db lb { l with es := es ++ b.drop hv } ∧
      (∀ d, DiskAt w O db d → DiskAt (w4.setCell ⟨lb, 2, none⟩ (.slice (some ⟨g, 0, none⟩) (es.length + (b.length - hv)) cap')) O db d) ∧ Turn (fun _ => True) [89, 58] w (w4.setCell ⟨lb, 2, none⟩ (.slice (some ⟨g, 0, none⟩) (es.length + (b.length - hv)) cap')) := by
  have hT1 : Turn (fun _ => True) [89] w w4 := (Turn.refl _ _ w).drew.grown (w := w.drew) HOE HGR (fun _ _ => .inl trivial) (by decide)
  have hT2 : Turn (fun _ => True) [58] w4 (w4.setCell ⟨lb, 2, none⟩ (.slice (some ⟨g, 0, none⟩) (es.length + (b.length - hv)) cap')) := (Turn.refl _ _ w4).set (.inl trivial) HB4 (by decide) _
  have t4 : Turn O T w0 w4 := HT.drew.grown (w := w.drew) HOE HGR hg hTa
  have hsz : w.heap.size ≤ w4.heap.size := HGR.size
  have hlb4 : Ext O w0 w4 lb := Ext.more hsz _ hO
  have hss : (w4.setCell ⟨lb, 2, none⟩ (.slice (some ⟨g, 0, none⟩) (es.length + (b.length - hv)) cap')).heap.size = w4.heap.size := by simp [World.setCell]
  have hxl : xs.length = es.length := by rw [HOE.1, Nat.mul_one]
  have hgl : g < w4.heap.size := by
    rcases HOW.2 with ⟨e, -⟩ | ⟨g', c', cur, e, -, hg', -⟩
    · simp at e
    · simp at e
      rw [e.1]
      exact heap_some_lt hg'
  have hel : (es ++ b.drop hv).length = es.length + (b.length - hv) := by simp
  refine ⟨t4.set hlb4 HB4 hTb _, ⟨.slice (some ⟨g, 0, none⟩) (es.length + (b.length - hv)) cap', ?_, dset HB4 2 _, ?_, ?_⟩, fun d hd => ?_, (hT1.mono (fun _ h => h) (by simp)).trans (hT2.mono (fun _ _ => .inl trivial) (by simp))⟩
  · exact Ext.more (by rw [hss]; exact Nat.le_refl _) _ hlb4
  · show OBs _ 0 _ (es ++ b.drop hv)
    refine obs_turn ⟨xs ++ ys.drop hv, by rw [hel]; exact HOW, fun j hj => ?_⟩ hT2 (by decide) (by decide)
    by_cases hjl : j < es.length
    · obtain ⟨x, e, hb⟩ := HXE j hjl
      refine ⟨x, by rw [List.getElem?_append_left (by omega)]; exact e, ?_⟩
      rw [List.getElem_append_left hjl]
      exact ⟨ownsRow_turn hb.1 hT1 (by decide), hb.2⟩
    · obtain ⟨x, e, hb⟩ := HYB (hv + (j - es.length)) (by omega)
      refine ⟨x, by rw [List.getElem?_append_right (by omega), hxl, List.getElem?_drop]; exact e, ?_⟩
      rw [List.getElem_append_right (by omega), List.getElem_drop]
      exact (show OB w4 B x _ from ⟨ownsRow_turn hb.1 hT1 (by decide), hb.2⟩).weaken (Nat.zero_le _)
  · intro g' e
    simp only [Value.ownBlock, Option.some.injEq] at e
    subst e
    rcases HAT with h | h
    · exact Ext.more (by rw [hss]; exact hsz) _ (hg _ h)
    · exact .inr ⟨by have := HT.size; omega, by rw [hss]; exact hgl⟩
  · exact (hd.stay hT1 (by decide) (by decide)).stay hT2 (by decide) (by decide)
/-- What begins at the last bundle. -/
theorem begun_bss {w : World} {B : Nat} {a : Option Addr} {cap : Nat} {es : List (List UInt8)} (h : OBs w B (.slice a es.length cap) es) : ∀ i, 4 * i ≤ es.length → (cap = 4 * i → Bss w (.slice a (es.length - 4 * i) 0) (es.drop (4 * i))) ∧ (Bss w (.slice (a.map fun x => x.add (4 * i)) (es.length - 4 * i) (cap - 4 * i)) (es.drop (4 * i))) := by
  intro i hi
  have hb := h.bss'
  obtain ⟨a', cap', e, hc, hx⟩ := hb
  simp only [Value.slice.injEq, true_and] at e
  obtain ⟨rfl, rfl⟩ := e
  refine ⟨fun hcap => ⟨a, 0, by rw [List.length_drop], by rw [List.length_drop]; omega, .inl (by rw [List.drop_eq_nil_iff]; omega)⟩, ?_⟩
  refine ⟨_, _, by rw [List.length_drop], by rw [List.length_drop]; omega, ?_⟩
  rcases hx with rfl | ⟨b, off, rfl, hx⟩
  · exact .inl (by simp)
  · refine .inr ⟨b, off + 4 * i, by simp [Addr.add_mid], fun j hj => ?_⟩
    rw [List.length_drop] at hj
    obtain ⟨x, hx1, hx2⟩ := hx (4 * i + j) (by omega)
    refine ⟨x, by rw [Nat.add_assoc]; exact hx1, ?_⟩
    rw [List.getElem_drop]
    exact hx2

set_option maxHeartbeats 1000000 in
theorem behind_any (O : Nat → Prop) (W : World) (hE : Env W) (hOW : ∀ k, O k → W.heap.size ≤ k) (db lb : Nat) (d : Dk) (l : Lg) (w : World) (hn : d.fs.length ≤ 1000000000) (hl : ∀ f ∈ d.fs, f.2.length ≤ 1000000000) (hc : Calm d) (hW : Below W.heap.size W w) (h : DiskAt w O db d) (hL : LogAt w O db lb l) (hlv : l.live = true)
    (s : List Nat) (hs : Among (look d.fs) s) (hsl : s.length ≤ 100000) (h0 : ∀ j, 4 * j < l.es.length → j ∈ s) :
    Calls Tryz.prog 19 #[.pointer (some ⟨lb, 0, none⟩)] w fun r w' => ∃ (d' : Dk) (es' : List (List UInt8)), Turn O rT w w' ∧ DiskAt w' O db d' ∧ LogAt w' (Ext O w w') db lb { l with es := es' } ∧ d'.fs = d.fs ∧ tk d' = tk d ∧
      ((d'.hit = true ∧ ∃ p e, r = .returned e ∧ GotErr true p w.heap.size e w') ∨ (Calm d' ∧ r = .returned .nilIface ∧ Behind (look d.fs) l.es es')) := by
  have HL := hide hl
  have HD := hide h
  have HLG := hide hL
  have HW := hide hW
  have HC := hide hc
  have HO := hide hOW
  have hEE := hide hE
  have HS := hide hs
  have H0 := hide h0
  clear hl h hL hW hc hOW hE hs h0
  go_enter Tryz.func19, Tryz.ntmps19
  go_wp2_with fail
  go_loopg [3, 4, 5, 6, 7, 8, 9] (s.length + 1) (fun gg _ _ _ _ _ _ _ wr => ∃ (k : Nat) (d1 : Dk), s.length + 1 - k ≤ gg ∧ Turn O rT w wr ∧ DiskAt wr O db d1 ∧ LogAt wr (Ext O w wr) db lb { l with es := bhTo (look d.fs) l.es k } ∧ d1.fs = d.fs ∧ tk d1 = tk d ∧ Calm d1 ∧ ∀ i, i < k → (stepB (look d.fs) (bhTo (look d.fs) l.es i)).2 = true)
  case atStart => exact ⟨0, d, by omega, Turn.refl _ _ _, HD.out, HLG.out.mono (fun _ h => .inl h), rfl, rfl, HC.out, fun i hi => absurd hi (Nat.not_lt_zero _)⟩
  case round =>
    obtain ⟨k, d1, hgg, ht, hd, hlg, hfs, htu, hcm, hst⟩ := hrel
    have hbd := bh_bound HS.out H0.out hst
    have HT := hide ht
    have HD1 := hide hd
    have HF := hide (And.intro hfs htu)
    have HCM := hide hcm
    have HST := hide hst
    have HEW := hide (Env.turn hEE.out HW.out ht HO.out)
    have HB4 := hide hbd
    have HLG1 := hide hlg
    obtain ⟨ev, hO, hb, hes, hg⟩ := hlg
    generalize hes0 : bhTo (look d.fs) l.es k = es at *
    have HES := hide hes0
    have hm : es.length ≤ 400000 := by omega
    obtain ⟨⟨c0, f0⟩, -, ⟨c2, f2⟩, -⟩ := lall hb
    obtain ⟨a, cap, hev⟩ := obs_shape hes
    subst hev
    have HBL := hide hb
    have HEV := hide hes
    have HG := hide hg
    clear ht hd hfs htu hcm hst hb hes hg hes0 hbd
    go_upto_region 2 with fail
    go_cut [3, 4] from 10 to 66 (fun s3 s4 wx => s3 = .int .i64 (es.length / 4 : Nat) ∧ wx = wr ∧ ∃ a' c', s4 = .slice a' (es.length % 4) c' ∧ ∀ W', OBs W' 0 (.slice a es.length cap) es → Bss W' s4 (es.drop (4 * (es.length / 4))))
    case first =>
      have e1 : es.length - es.length / 4 * 4 = es.length % 4 := by omega
      have e2 : ((es.length : Int) / 4) = ((es.length / 4 : Nat) : Int) := by omega
      have E1 := hide e1
      have E2 := hide e2
      have hdm : 4 * (es.length / 4) ≤ es.length := by omega
      clear e1 e2
      go_wp2_with fail
      all_goals go_meet
      all_goals refine ⟨by rw [E2.out], rfl, _, _, by rw [E1.out], fun W' hW' => ?_⟩
      · have := (begun_bss hW' (es.length / 4) hdm).1 (by omega)
        rw [show es.length / 4 * 4 = 4 * (es.length / 4) by omega]
        exact this
      · have := (begun_bss hW' (es.length / 4) hdm).2
        rw [show es.length / 4 * 4 = 4 * (es.length / 4) by omega]
        exact this
    case rest =>
      obtain ⟨rfl, rfl, a', c', rfl, hbg⟩ := hcut
      have hq1 : 4 * (es.length / 4) + es.length % 4 ≤ es.length := by omega
      have hq2 : es.length ≤ 4 * (es.length / 4) + es.length % 4 := by omega
      have h4 : es.length % 4 < 4 := by omega
      generalize hqq : es.length / 4 = q at *
      generalize hhh : es.length % 4 = hv at *
      have HQ := hide (And.intro hqq hhh)
      have HBG := hide hbg
      clear hbg hqq hhh
      have hi100 : q ≤ 1000000 := by omega
      go_wp2_with fail
      refine (widest_any O W hEE.out HO.out db lb d1 q hv wc (by rw [HF.out.1]; exact hn) (by rw [HF.out.1]; exact HL.out) hi100 h4 HCM.out HEW.out.2 HD1.out _ HBL.out (by show some (stV db l.live) = _; rw [hlv])).mono ?_
      rintro r w1 ⟨d2, n, v, e, rfl, ht1, hd2, hf2, hu2, hres⟩
      have HT1 := hide ht1
      have HD2 := hide hd2
      have HF2 : Hid (d2.fs = d.fs ∧ tk d2 = tk d) := ⟨hf2.trans HF.out.1, hu2.trans HF.out.2⟩
      have HLG2 := hide (HLG1.out.stay ht1 (by decide) (by decide) (by decide))
      have HTT : Hid (Turn O rT w w1) := HT.out.trans (ht1.to_rT.mono (fun _ h => .inl h) (fun _ h => h))
      have HEV1 : Hid (OBs w1 0 (.slice a es.length cap) es) := obs_turn HEV.out ht1 (by decide) (by decide)
      have HBL1 := hide (ht1.keep HBL.out (by decide))
      have HW1 := hide (HEW.out.2.trans (ht1.below HO.out HEW.out.2.size))
      rw [HF.out.1] at hres
      clear ht1 hd2 hf2 hu2
      rcases hres with ⟨hh, p, hge⟩ | ⟨hc2, rfl, hres⟩
      · have HH := hide hh
        have HGE := hide hge
        obtain ⟨g, rfl⟩ : ∃ g, e = .iface 62 (.pointer (some ⟨g, 0, none⟩)) := by
          rcases gotErr_cases hge with ⟨h, -⟩ | ⟨-, h⟩
          · simp at h
          · exact h
        clear hh hge
        go_wp2_with fail
        go_ret
        exact ⟨d2, es, HTT.out, HD2.out, HLG2.out.mono (Ext.more HT1.out.size), HF2.out.1, HF2.out.2, .inl ⟨HH.out, p, _, rfl, HGE.out.weaken HT.out.size⟩⟩
      · have HC2 := hide hc2
        have hgot : GotV w1 v ((wdF (look d.fs) q hv).bind fun k => look d.fs (nameF (-1) (q : Nat) (k : Nat))) ∧ bunD ((wdF (look d.fs) q hv).bind fun k => look d.fs (nameF (-1) (q : Nat) (k : Nat))) n = (wdF (look d.fs) q hv).bind fun k => bunAt (look d.fs) q k := by
          rcases hres with ⟨h1, rfl, rfl⟩ | ⟨h1, x, h2, h3⟩
          · rw [h1]; exact ⟨.inr ⟨rfl, rfl⟩, rfl⟩
          · rw [h1]
            refine ⟨.inl ⟨x, h2, h3⟩, ?_⟩
            show bunD (look d.fs (nameF (-1) (q : Nat) (n : Nat))) n = bunAt (look d.fs) q n
            rfl
        have hn4 : n ≤ 4 := by
          rcases hres with ⟨-, rfl, -⟩ | ⟨h1, -⟩
          · omega
          · exact (wdF_some h1).2.1
        have HRES : Hid (n = 0 ∧ wdF (look d.fs) q hv = none ∨ wdF (look d.fs) q hv = some n) := by
          rcases hres with ⟨h1, h2, -⟩ | ⟨h1, -⟩
          · exact .inl ⟨h2, h1⟩
          · exact .inr h1
        obtain ⟨va, vn, vc, rfl⟩ : ∃ a n c, v = .slice a n c := by
          rcases gotV_shape hgot.1 with ⟨-, rfl⟩ | ⟨_, _, _, _, -, rfl⟩
          · exact ⟨_, _, _, rfl⟩
          · exact ⟨_, _, _, rfl⟩
        have HGOT := hide hgot
        clear hc2 hgot hres
        go_wp2_with fail
        refine (unbOf_any n (.slice va vn vc) _ w1 HGOT.out.1).mono ?_
        rintro r w2 ⟨hb2, hr⟩
        rw [HGOT.out.2] at hr
        have hT2 : Turn O [] w1 w2 := .of_below hb2
        have HD3 := hide (HD2.out.stay hT2 (by decide) (by decide))
        have HLG3 := hide (HLG2.out.stay hT2 (by decide) (by decide) (by decide))
        have HTT2 : Hid (Turn O rT w w2) := HTT.out.then_below hb2
        have HEV2 : Hid (OBs w2 0 (.slice a es.length cap) es) := obs_turn HEV1.out hT2 (by decide) (by decide)
        have HBL2 := hide (hT2.keep HBL1.out (by decide))
        have hsz12 : Hid (wc.heap.size ≤ w2.heap.size) := Nat.le_trans HT1.out.size hb2.size
        clear hb2 hT2
        rcases hr with ⟨b, y, hb, rfl, hob⟩ | ⟨hb, rfl⟩
        · obtain ⟨ya, yc, rfl⟩ := obs_shape hob
          have hnn : wdF (look d.fs) q hv = some n := by
            rcases HRES.out with ⟨-, h⟩ | h
            · rw [h] at hb; simp at hb
            · exact h
          have hlt4 := wdF_some hnn
          have hbl : b.length = n := by
            have h := hb
            rw [hnn] at h
            exact (bunAt_len h).1
          obtain ⟨gb, rfl, hbs⟩ := obs_block hob (by omega)
          have HOB := hide hob
          have HBS := hide hbs
          have HHB := hide hb
          have HNN := hide hnn
          have HBL4 := hide hbl
          have hbn : hv < b.length := by omega
          have hyc := obs_cap hob
          have hlt5 := hlt4.1
          clear hob hbs hb hnn hlt4 hbl
          by_cases heq : b.take hv = es.drop (4 * q)
          · have HSB := hide (step_yes HQ.out.1 HQ.out.2 HNN.out HHB.out heq)
            have hcall := eqf_any (.slice (some ⟨gb, 0, none⟩) hv yc) (.slice a' hv c') (b.take hv) (es.drop (4 * q)) w2 (by simp; omega) (by simp; omega) (by exact take_bss HOB.out (by omega)) (HBG.out w2 HEV2.out)
            rw [show decide (b.take hv = es.drop (4 * q)) = true by simp [heq]] at hcall
            clear heq
            go_wp2_with fail
            refine hcall.mono ?_
            rintro r w3 ⟨rfl, rfl⟩
            clear hcall
            obtain ⟨i, hi, hi'⟩ := Option.map_eq_some_iff.1 infoBytes
            obtain ⟨hz0, hz1, hz2⟩ : i.zero = some (.slice none 0 0) ∧ i.size = 1 ∧ i.bytes = 24 := by simpa using hi'
            clear hi'
            have HI := hide hi
            have HZ := hide (And.intro hz0 (And.intro hz1 hz2))
            clear hi hz0 hz1 hz2
            obtain ⟨-, -, ⟨c2', f2'⟩, -⟩ := lall HBL2.out
            obtain ⟨xs, hoe, hxe⟩ := HEV2.out
            obtain ⟨ys, hob, hyb⟩ := HOB.out
            have hyl : ys.length = b.length := by rw [hob.1, Nat.mul_one]
            have hnw : Hid (∀ j u, (ys.drop hv)[j]? = some u → w3.drew.cell? ((⟨gb, hv, none⟩ : Addr).add j) = some u) := fun j u hj => by
              rw [List.getElem?_drop] at hj
              have := hob.cells rfl _ _ hj
              rw [Addr.add_mid] at this ⊢
              rw [Nat.zero_add] at this
              exact this
            have hn1 : Hid (∀ u ∈ ys.drop hv, u.oneCell' = true) := fun u hu => by
              obtain ⟨j, hj, rfl⟩ := List.getElem_of_mem (List.mem_of_mem_drop hu)
              obtain ⟨x, hx, hx'⟩ := hyb j (by omega)
              rw [List.getElem?_eq_getElem hj] at hx
              obtain rfl : ys[j] = x := by simpa using hx
              exact ob_one hx' _ (by simp)
            have HOE := hide hoe
            have HXE := hide hxe
            have HOY := hide hob
            have HYB := hide hyb
            have HYL := hide hyl
            have hyn : ¬ yc = hv := by omega
            have hvb : hv ≤ b.length := by omega
            have hb4l : b.length ≤ 4 := by have := HBL4.out; omega
            have hks : k ≤ s.length := HB4.out.2
            have hdl : Hid ((ys.drop hv).length = (b.length - hv) * 1) := by show _ = _; rw [List.length_drop, hyl]; omega
            clear hoe hxe hob hyb hyl
            have HOD : Hid (w3.drew.ownsRow 0 89 1 (.slice a es.length cap) es.length xs) := HOE.out
            have HLB3 : Hid (∀ w4, w3.drew.grownBy w4 (Value.slice a es.length cap).ownBlock → w4.heap[lb]? = some (.cells (lcells db (.slice a es.length cap) { key := l.key, es := es, put := l.put, live := l.live }) 58 (0, 0))) := fun w4 hgr => by
              rw [hgr.block lb (show lb < w3.heap.size from heap_some_lt HBL2.out) (fun e => ?_)]
              · exact HBL2.out
              · rcases HOE.out.2 with ⟨h, -⟩ | ⟨g, cp, cur, h, -, hg, -⟩
                · simp at h; rw [h.1] at e; simp [Value.ownBlock] at e
                · simp at h
                  rw [h.1] at e
                  simp only [Value.ownBlock, Option.some.injEq] at e
                  subst e
                  have := HBL2.out
                  rw [hg] at this
                  simp at this
            have HOX := hide hO
            by_cases hn4' : n < 4
            · have hn4b : (n : Int) < 4 := by omega
              go_wp2_with fail
              go_region_law (refine step_append_lies _ (by rfl) _ _ _ (by rfl) 0 89 i (.slice none 0 0) 1 24 Tryz.underlying56 HI.out HZ.out.1 HZ.out.2.1 HZ.out.2.2 rfl (by omega) (.slice a es.length cap) es.length xs (by rfl) HOD.out ⟨gb, hv, none⟩ (b.length - hv) (yc - hv) (ys.drop hv) (by rfl) hdl.out hnw.out hn1.out (by omega) (by unfold maxLen; omega) (by omega) (by omega) w3.heap.size (by rfl) ?_; intro g cap' w4 hown hgrow hat hltg; have hb4 := HLB3.out w4 hgrow; obtain ⟨-, -, ⟨k4, z4⟩, -⟩ := lall hb4; have HOW := hide hown; have HGR := hide hgrow; have HAT := hide hat; have HB4' := hide hb4; clear hown hgrow hat hb4)
              all_goals go_wp2_with fail
              all_goals go_ret
              all_goals
                have hfin := log_append (l := l) HTT2.out (Ext.more hsz12.out _ HOX.out) (fun g' hg' => Ext.more hsz12.out _ (HG.out g' hg')) HOE.out HXE.out HYB.out hvb HYL.out HOW.out HGR.out HAT.out HB4'.out
                refine ⟨d2, es ++ b.drop hv, hfin.1, hfin.2.2.1 d2 HD3.out, hfin.2.1, HF2.out.1, HF2.out.2, .inr ⟨HC2.out, rfl, ?_⟩⟩
                have hsb := HSB.out.1
                rw [show decide (n = 4) = false by simp; omega] at hsb
                rw [← HES.out] at hsb ⊢
                have := Behind.of HST.out (by rw [hsb])
                rw [hsb] at this
                exact this
            · have hn4b : ¬ (n : Int) < 4 := by omega
              go_wp2_with fail
              go_region_law (refine step_append_lies _ (by rfl) _ _ _ (by rfl) 0 89 i (.slice none 0 0) 1 24 Tryz.underlying56 HI.out HZ.out.1 HZ.out.2.1 HZ.out.2.2 rfl (by omega) (.slice a es.length cap) es.length xs (by rfl) HOD.out ⟨gb, hv, none⟩ (b.length - hv) (yc - hv) (ys.drop hv) (by rfl) hdl.out hnw.out hn1.out (by omega) (by unfold maxLen; omega) (by omega) (by omega) w3.heap.size (by rfl) ?_; intro g cap' w4 hown hgrow hat hltg; have hb4 := HLB3.out w4 hgrow; obtain ⟨-, -, ⟨k4, z4⟩, -⟩ := lall hb4; have HOW := hide hown; have HGR := hide hgrow; have HAT := hide hat; have HB4' := hide hb4; clear hown hgrow hat hb4)
              all_goals go_wp2_with fail
              all_goals go_roundg (gk - 1)
              case rel =>
                have hfin := log_append (l := l) HTT2.out (Ext.more hsz12.out _ HOX.out) (fun g' hg' => Ext.more hsz12.out _ (HG.out g' hg')) HOE.out HXE.out HYB.out hvb HYL.out HOW.out HGR.out HAT.out HB4'.out
                have hsb := HSB.out.1
                rw [show decide (n = 4) = true by simp; omega] at hsb
                have hbh : bhTo (look d.fs) l.es (k + 1) = es ++ b.drop hv := by
                  rw [bhTo, HES.out, hsb]
                refine ⟨k + 1, d2, by omega, hfin.1, hfin.2.2.1 d2 HD3.out, by rw [hbh]; exact hfin.2.1, HF2.out.1, HF2.out.2, HC2.out, fun j hj => ?_⟩
                by_cases hjk : j < k
                · exact HST.out j hjk
                · obtain rfl : j = k := by omega
                  rw [HES.out, hsb]
              case measure => omega
          · have HSB := hide (step_diff HQ.out.1 HQ.out.2 HHB.out heq)
            have hcall := eqf_any (.slice (some ⟨gb, 0, none⟩) hv yc) (.slice a' hv c') (b.take hv) (es.drop (4 * q)) w2 (by simp; omega) (by simp; omega) (by exact take_bss HOB.out (by omega)) (HBG.out w2 HEV2.out)
            rw [show decide (b.take hv = es.drop (4 * q)) = false by simp [heq]] at hcall
            clear heq
            go_wp2_with fail
            refine hcall.mono ?_
            rintro r w3 ⟨rfl, rfl⟩
            go_wp2_with fail
            go_ret
            refine ⟨d2, es, HTT2.out, HD3.out, HLG3.out.mono (Ext.more hsz12.out), HF2.out.1, HF2.out.2, .inr ⟨HC2.out, rfl, ?_⟩⟩
            rw [← HES.out] at HSB ⊢
            have := Behind.of HST.out (by rw [HSB.out])
            rw [HSB.out, List.append_nil] at this
            exact this
        · have HSB := hide (step_no HQ.out.1 HQ.out.2 hb)
          go_wp2_with fail
          go_ret
          refine ⟨d2, es, HTT2.out, HD3.out, HLG3.out.mono (Ext.more hsz12.out), HF2.out.1, HF2.out.2, .inr ⟨HC2.out, rfl, ?_⟩⟩
          rw [← HES.out] at HSB ⊢
          have := Behind.of HST.out (by rw [HSB.out])
          rw [HSB.out, List.append_nil] at this
          exact this
end Go.Proofs.YtoomnijgdpbphaaGreatDoor

namespace Go.Proofs.YtoomnijgdpbphaaGreatDoor
open Go.RowKit
set_option maxRecDepth 100000

/-- Texts in a slice. -/
def Tss (w : World) (v : Value) (ls : List (List UInt8)) : Prop :=
  ∃ a cap, v = .slice a ls.length cap ∧ ls.length ≤ cap ∧ (ls = [] ∨ ∃ b off, a = some ⟨b, off, none⟩ ∧ ∀ i (h : i < ls.length), w.cell? ⟨b, off + i, none⟩ = some (txv ls[i]))
theorem Tss.of {w : World} {v : Value} {ls : List (List UInt8)} (h : Sss w v (ls.map tb)) : Tss w v ls := by
  obtain ⟨a, cap, e, hc, hx⟩ := h
  rw [List.length_map] at e hc
  refine ⟨a, cap, e, hc, ?_⟩
  rcases hx with h | ⟨b, off, ea, hx⟩
  · exact .inl (by simpa using h)
  · refine .inr ⟨b, off, ea, fun i hi => ?_⟩
    have := hx i (by simpa using hi)
    rw [List.getElem_map] at this
    exact this
theorem Tss.to {w : World} {v : Value} {ls : List (List UInt8)} (h : Tss w v ls) : Sss w v (ls.map tb) := by
  obtain ⟨a, cap, e, hc, hx⟩ := h
  refine ⟨a, cap, by rw [List.length_map]; exact e, by rw [List.length_map]; exact hc, ?_⟩
  rcases hx with h | ⟨b, off, ea, hx⟩
  · exact .inl (by simp [h])
  · refine .inr ⟨b, off, ea, fun i hi => ?_⟩
    rw [List.getElem_map]
    exact hx i (by simpa using hi)
theorem Tss.below {w w' : World} {v : Value} {ls : List (List UInt8)} (h : Tss w v ls) (hb : Below w.heap.size w w') : Tss w' v ls := by
  obtain ⟨a, cap, e, hc, h | ⟨b, off, ea, hx⟩⟩ := h
  · exact ⟨a, cap, e, hc, .inl h⟩
  · exact ⟨a, cap, e, hc, .inr ⟨b, off, ea, fun i hi => by rw [hb.cell (p := ⟨b, _, none⟩) (cell_lt (hx i hi))]; exact hx i hi⟩⟩
theorem Tss.nil (w : World) : Tss w (.slice none 0 0) [] := ⟨none, 0, rfl, Nat.le_refl _, .inl rfl⟩
theorem Tss.at {w : World} {a : Option Addr} {n cap : Nat} {ls : List (List UInt8)} (h : Tss w (.slice a n cap) ls) : n = ls.length ∧ ls.length ≤ cap ∧ (0 < ls.length → ∃ b off, a = some ⟨b, off, none⟩ ∧ ∀ i (h : i < ls.length), w.cell? ⟨b, off + i, none⟩ = some (txv ls[i])) := by
  obtain ⟨a', cap', e, hc, hx⟩ := h
  simp only [Value.slice.injEq] at e
  obtain ⟨rfl, rfl, rfl⟩ := e
  refine ⟨rfl, hc, fun h0 => ?_⟩
  rcases hx with h | h
  · rw [h] at h0; simp at h0
  · exact h

set_option maxHeartbeats 1000000 in
/-- tilesref.further. -/
theorem refFur_any (v : Value) (a : Option Addr) (cap : Nat) (fs : Fs) (ds : List (List UInt8)) (q hv : Nat) (w : World) (hn : fs.length ≤ 1000000000) (hl : ∀ f ∈ fs, f.2.length ≤ 1048576) (hd : ds.length = 4 * q + hv) (hv4 : hv < 4) (hq : q ≤ 1000000) (h : Fss w v fs) (hs : Tss w (.slice a ds.length cap) ds) :
    Calls Tryz.prog 59 #[v, .slice a ds.length cap] w fun r w' => Below w.heap.size w w' ∧ ∃ x, r = .returned (.tuple #[x, .bool (stepB (look fs) ds).2]) ∧ Tss w' x (stepB (look fs) ds).1 := by
  have HF := hide h
  have HL := hide hl
  have HS := hide hs
  have HQ : Hid (ds.length / 4 = q ∧ ds.length % 4 = hv) := by constructor <;> omega
  have HD := hide hd
  obtain ⟨fa, fcap, rfl, hcap, -⟩ := h
  clear hl hcap hs
  rw [hd]
  clear hd
  go_enter Tryz.func59, Tryz.ntmps59
  go_wp2_with fail
  rw [show (4 * (q : Int) + (hv : Int)) / 4 = q by omega, show 4 * (q : Int) + (hv : Int) - (q : Int) * 4 = hv by omega]
  go_loopw [8] (fun i wr => ∃ k : Nat, hv ≤ k ∧ k ≤ 4 ∧ i = .int .i64 k ∧ Below w.heap.size w wr ∧ ∀ j : Nat, k < j → j ≤ 4 → hv < j → (look fs (nameF (-1) q (j : Nat))).isSome = false) (fun i _ => (intOf i).toNat)
  case atStart => exact ⟨4, by omega, by omega, rfl, Below.refl _ _, fun j h1 h2 => by omega⟩
  case round =>
    obtain ⟨k, hk0, hk4, rfl, hbe, hno⟩ := hrel
    have HB := hide hbe
    have HN := hide hno
    clear hbe hno
    by_cases hlt : hv < k
    · go_wp2_with fail
      refine (refName_any (-1) q k (by omega) wr).mono ?_
      rintro r w1 ⟨rfl, hb1⟩
      have HB1 : Hid (Below w.heap.size w w1) := HB.out.trans (hb1.mono HB.out.size)
      have HF1 := hide (HF.out.below HB1.out)
      have hnm : ∃ nm, nameF (-1) (q : Int) (k : Int) = nm := ⟨_, rfl⟩
      obtain ⟨nm, hnm⟩ := hnm
      have HNM := hide hnm
      rw [hnm]
      clear hb1 hnm
      go_wp2_with fail
      refine (refFind_any _ fs nm w1 hn HF1.out).mono ?_
      rintro r w2 ⟨rfl, rfl⟩
      cases e : ixF fs nm with
      | none =>
        have he : ixI fs nm = -1 := by unfold ixI; rw [e]
        rw [he]
        have HN' : Hid (∀ j : Nat, k - 1 < j → j ≤ 4 → hv < j → (look fs (nameF (-1) q (j : Nat))).isSome = false) := fun j h1 h2 h3 => by
          rcases Nat.lt_or_ge k j with h | h
          · exact HN.out j h h2 h3
          · obtain rfl : j = k := by omega
            rw [HNM.out, (ixF_none e).1]
            rfl
        clear e he
        have hcast : (k : Int) - 1 = ((k - 1 : Nat) : Int) := by omega
        have HCA := hide hcast
        clear hcast
        go_wp2_with fail
        go_round
        case rel => exact ⟨k - 1, by omega, by omega, congrArg (Value.int .i64) HCA.out, HB1.out, HN'.out⟩
        case measure => simp [intOf]; omega
      | some kk =>
        have he : ixI fs nm = kk := by unfold ixI; rw [e]
        rw [he]
        have HWD : Hid (wdF (look fs) q hv = some k) := wdF_eq hlt hk4 (by rw [HNM.out]; obtain ⟨_, _, h3, _⟩ := ixF_some e; rw [h3]; rfl) HN.out
        clear e he
        go_wp2_with fail
        refine (refBunAt_any _ fs q k w2 hn HL.out hq HF1.out).mono ?_
        rintro r w3 ⟨hb3, ea, en, ec, rfl, hes⟩
        have HB3 : Hid (Below w.heap.size w w3) := HB1.out.trans (hb3.mono HB1.out.size)
        have HES := hide hes
        clear hb3 hes
        cases hbu : bunAt (look fs) q k with
        | none =>
          have HNO : Hid (stepB (look fs) ds = ([], false)) := step_no HQ.out.1 HQ.out.2 (by rw [HWD.out]; exact hbu)
          clear hbu
          go_wp2_with fail
          go_ret2
          exact ⟨HB3.out, _, by rw [HNO.out]; rfl, by rw [HNO.out]; exact Tss.nil _⟩
        | some es =>
          obtain ⟨hel, hss⟩ := HES.out es hbu
          obtain ⟨rfl, hec, heb⟩ := (Tss.of hss).at
          have hbi : (wdF (look fs) q hv).bind (fun k => bunAt (look fs) q k) = some es := by rw [HWD.out]; exact hbu
          have HBI := hide hbi
          obtain ⟨eb, eo, rfl, hec2⟩ := heb (by omega)
          have HEC := hide hec2
          have HEL := hide hel
          have hnc : ¬ ec = hv := by omega
          have hec' : k ≤ ec := by omega
          rw [hel]
          clear hbu hbi heb hec2 hss hel hec
          go_wp2_with fail
          go_loopw [13] (fun i wr => ∃ j : Nat, j ≤ hv ∧ i = .int .i64 j ∧ Below w3.heap.size w3 wr ∧ ∀ m (h : m < j) (h1 : m < es.length) (h2 : 4 * q + m < ds.length), es[m] = ds[4 * q + m]) (fun i _ => hv - (intOf i).toNat)
          case atStart => exact ⟨0, by omega, rfl, Below.refl _ _, fun m h => by omega⟩
          case round =>
            obtain ⟨j, hj, rfl, hbe, hall⟩ := hrel
            have HBE := hide hbe
            have HAL := hide hall
            clear hbe hall
            by_cases hjl : j < hv
            · obtain ⟨-, hdc, hdx0⟩ := HS.out.at
              obtain ⟨db, dof, rfl, hdx⟩ := hdx0 (by have := HD.out; omega)
              have hjd : 4 * q + j < ds.length := by have := HD.out; omega
              have hje : j < es.length := by have := HEL.out; omega
              have y2 := hdx (4 * q + j) hjd
              have y1 := HEC.out j hje
              obtain ⟨p, hp⟩ : ∃ p, es[j] = p := ⟨_, rfl⟩
              obtain ⟨p', hp'⟩ : ∃ p', ds[4 * q + j] = p' := ⟨_, rfl⟩
              rw [hp] at y1
              rw [hp'] at y2
              unfold txv at y1 y2
              have r1 : wr.cell? ⟨eb, eo + j, none⟩ = some (.string ⟨p.toArray⟩) := by rw [HBE.out.cell (p := ⟨eb, _, none⟩) (cell_lt y1)]; exact y1
              have y3 : w3.cell? ⟨db, dof + (4 * q + j), none⟩ = some (.string ⟨p'.toArray⟩) := by rw [HB3.out.cell (p := ⟨db, _, none⟩) (cell_lt y2)]; exact y2
              have r2 : wr.cell? ⟨db, dof + (q * 4 + j), none⟩ = some (.string ⟨p'.toArray⟩) := by
                rw [Nat.mul_comm q 4, HBE.out.cell (p := ⟨db, _, none⟩) (cell_lt y3)]; exact y3
              have HP := hide hp
              have HP' := hide hp'
              clear y1 y2 y3 hdx hdx0 hp hp'
              go_wp2_with fail
              go_region
              all_goals
                by_cases hpp : p = p'
                · have HPP := hide hpp
                  have HAL' : Hid (∀ m (h : m < j + 1) (h1 : m < es.length) (h2 : 4 * q + m < ds.length), es[m] = ds[4 * q + m]) := fun m h h1 h2 => by
                    rcases Nat.lt_or_ge m j with h' | h'
                    · exact HAL.out m h' h1 h2
                    · obtain rfl : m = j := by omega
                      exact HP.out.trans (HPP.out.trans HP'.out.symm)
                  rw [show (p == p') = true by simpa using hpp]
                  clear hpp HPP HP HP' r1 r2
                  go_wp2_with fail
                  go_round
                  case rel => exact ⟨j + 1, by omega, by go_num, HBE.out.drew, HAL'.out⟩
                  case measure => simp [intOf]; omega
                · have hdiff : ¬ es.take hv = ds.drop (4 * q) := fun h => by
                    have h1 : (es.take hv)[j]? = some p := by
                      rw [List.getElem?_take, if_pos hjl, List.getElem?_eq_getElem hje, HP.out]
                    rw [h, List.getElem?_drop, List.getElem?_eq_getElem hjd, HP'.out] at h1
                    exact hpp (by simpa using h1.symm)
                  have HNO := hide (step_diff HQ.out.1 HQ.out.2 HBI.out hdiff)
                  rw [show (p == p') = false by simpa using hpp]
                  clear hdiff r1 r2 HP HP'
                  go_wp2_with fail
                  go_ret2
                  exact ⟨(HB3.out.trans (HBE.out.mono HB3.out.size)).drew, _, by rw [HNO.out]; rfl, by rw [HNO.out]; exact Tss.nil _⟩
            · obtain rfl : j = hv := by omega
              have hyes : es.take j = ds.drop (4 * q) := by
                have h1 := HEL.out
                have h2 := HD.out
                apply List.ext_getElem
                · simp; omega
                · intro m hm1 hm2
                  rw [List.getElem_take, List.getElem_drop]
                  exact HAL.out m (by simp at hm1; omega) (by simp at hm1; omega) (by simp at hm1; omega)
              have HY := hide (step_yes HQ.out.1 HQ.out.2 HWD.out HBI.out hyes)
              clear hyes
              go_wp2_with fail
              go_ret2
              refine ⟨HB3.out.trans (HBE.out.mono HB3.out.size), .slice (some ⟨eb, eo + j, none⟩) (k - j) (ec - j), ?_, ?_⟩
              · rw [HY.out.1]
                refine congrArg (fun z => Ending.returned (.tuple #[.slice (some ⟨eb, eo + j, none⟩) (k - j) (ec - j), .bool z])) ?_
                show ((k : Int) == 4) = decide (k = 4)
                by_cases h4 : k = 4
                · simp [h4]
                · rw [decide_eq_false h4]
                  simp only [beq_eq_false_iff_ne, ne_eq]
                  omega
              · rw [HY.out.1]
                have hl := HEL.out
                refine ⟨_, _, by rw [List.length_drop, hl], by rw [List.length_drop, hl]; omega, .inr ⟨eb, eo + j, rfl, fun i hi => ?_⟩⟩
                rw [List.length_drop] at hi
                have hx := HEC.out (j + i) (by omega)
                rw [List.getElem_drop, Nat.add_assoc, HBE.out.cell (p := ⟨eb, _, none⟩) (cell_lt hx)]
                exact hx
    · have HNO : Hid (stepB (look fs) ds = ([], false)) := step_no HQ.out.1 HQ.out.2 (by rw [wdF_no (fun j h1 h2 => HN.out j (by omega) h1 h2)]; rfl)
      go_wp2_with fail
      go_ret2
      exact ⟨HB.out, _, by rw [HNO.out]; rfl, by rw [HNO.out]; exact Tss.nil _⟩
end Go.Proofs.YtoomnijgdpbphaaGreatDoor
