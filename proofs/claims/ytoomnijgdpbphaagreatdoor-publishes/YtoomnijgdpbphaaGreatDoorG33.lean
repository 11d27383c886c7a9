import Derived.Test.YtoomnijgdpbphaaGreatDoorG32
import Derived.Test.YtoomnijgdpbphaaGreatDoorG28

namespace Go.Proofs.YtoomnijgdpbphaaGreatDoor
open Go.RowKit
set_option maxRecDepth 100000

/-- The files of the first levels that are to be put. -/
def tlv (es : List (List UInt8)) (put t : Nat) : Fs := (List.range t).flatMap fun (k : Nat) => levT es put ((k : Int) - 1)
theorem tlv_succ (es : List (List UInt8)) (put t : Nat) : tlv es put (t + 1) = tlv es put t ++ levT es put ((t : Int) - 1) := by
  unfold tlv
  rw [List.range_succ, List.flatMap_append]
  simp
theorem tlv_all (es : List (List UInt8)) (put : Nat) : tlv es put 22 = todo es put := by
  unfold tlv todo todoTo
  rw [List.range_succ_eq_map, List.flatMap_cons, List.flatMap_map]
  congr 1
theorem cnt_mono {l l' : Int} (h : l ≤ l') (n : Nat) : cntL l' n ≤ cntL l n := by
  unfold cntL
  exact Nat.div_le_div_left (Nat.pow_le_pow_right (by omega) (by omega)) (Nat.pow_pos (by omega))
theorem tlv_stop (es : List (List UInt8)) (put t : Nat) (hp : put ≤ es.length) (ht : t ≤ 22) (h : cntL ((t : Int) - 1) es.length = 0) : tlv es put t = todo es put := by
  rw [← tlv_all]
  unfold tlv
  rw [flat_more _ t 22 ht]
  intro k hk
  have h1 := cnt_mono (show ((t : Int) - 1) ≤ ((k : Int) - 1) by omega) es.length
  have h2 : cntL ((k : Int) - 1) put ≤ cntL ((k : Int) - 1) es.length := Nat.div_le_div_right hp
  unfold levT
  rw [if_pos (by omega)]
theorem cnt_ten (n : Nat) (hn : n ≤ 1000000) (l : Int) (hl : 10 ≤ l) : cntL l n = 0 := by
  have h1 := cnt_mono hl n
  have h2 : cntL 10 n = 0 := by
    unfold cntL
    exact Nat.div_eq_of_lt (by simp; omega)
  omega

theorem tlv_pre (es : List (List UInt8)) (put : Nat) : ∀ (n t : Nat), ∃ r, tlv es put (t + n) = tlv es put t ++ r
  | 0, t => ⟨[], by simp⟩
  | n + 1, t => by
    obtain ⟨r, hr⟩ := tlv_pre es put n t
    exact ⟨r ++ levT es put (((t + n : Nat) : Int) - 1), by rw [← Nat.add_assoc, tlv_succ, hr, List.append_assoc]⟩
theorem tlv_split (es : List (List UInt8)) (put t : Nat) (ht : t ≤ 22) : ∃ r, todo es put = tlv es put t ++ r := by
  obtain ⟨r, hr⟩ := tlv_pre es put (22 - t) t
  rw [show t + (22 - t) = 22 by omega, tlv_all] at hr
  exact ⟨r, hr⟩
theorem pub_stop {todo : Fs} {c : List UInt8} {d d' : Dk} {p : List UInt8} (h : putsD todo d = (some p, d')) : pubD todo c d = (some p, d') := by
  unfold pubD
  rw [h]
theorem pub_swap {todo : Fs} {c : List UInt8} {d d' : Dk} (h : putsD todo d = (none, d')) : pubD todo c d = if bad d' then (some cpF, swapD d' cpF c) else (none, swapD d' cpF c) := by
  unfold pubD
  rw [h]

set_option maxHeartbeats 1000000 in
theorem write_any (O : Nat → Prop) (W : World) (hE : Env W) (hOW : ∀ k, O k → W.heap.size ≤ k) (db lb : Nat) (d : Dk) (l : Lg) (w : World) (hn : d.fs.length + (todo l.es l.put).length ≤ 900000000) (he : l.es.length ≤ 1000000) (hput : l.put ≤ l.es.length) (h20 : ∀ e ∈ l.es, e.length ≤ 20) (hk : l.key.length ≤ 9223372036854775807) (hlv : l.live = true) (hW : Below W.heap.size W w) (h : DiskAt w O db d) (hL : LogAt w O db lb l) :
    Calls Tryz.prog 93 #[.pointer (some ⟨lb, 0, none⟩)] w fun r w' => ∃ e, r = .returned e ∧ GotP (pubD (todo l.es l.put) (signF l.es.length (rootT l.es) l.key) d).1 w.heap.size e w' ∧ Turn O dT w w' ∧ DiskAt w' (Ext O w w') db (pubD (todo l.es l.put) (signF l.es.length (rootT l.es) l.key) d).2 := by
  have HD := hide h
  have HLG := hide hL
  have H20 := hide h20
  have HW := hide hW
  have HO := hide hOW
  have hEE := hide hE
  obtain ⟨a, cap, hb, -⟩ := lok hL
  obtain ⟨-, -, ⟨c2, f2⟩, -⟩ := lall hb
  clear h hL h20 hW hOW hE hb f2
  go_enter Tryz.func93, Tryz.ntmps93
  go_wp2_with fail
  clear c2
  go_loopg [4, 5] 30 (fun gg s4 _ wr => ∃ (t : Nat) (dt : Dk), t ≤ 11 ∧ 30 - t ≤ gg ∧ s4 = .int .i64 ((t : Int) - 1) ∧ putsD (tlv l.es l.put t) d = (none, dt) ∧ Turn O dT w wr ∧ DiskAt wr (Ext O w wr) db dt)
  case atStart => exact ⟨0, d, by omega, by omega, rfl, rfl, Turn.refl _ _ _, HD.out.mono (fun _ h => .inl h)⟩
  case round =>
    obtain ⟨t, dt, ht11, hgg, rfl, hps, hT, hD⟩ := hrel
    have HPS := hide hps
    have HT := hide hT
    have HDT := hide hD
    have HLG1 := hide ((HLG.out.stay hT (by decide) (by decide) (by decide)).mono (O' := Ext O w wr) (fun _ h => .inl h))
    have hBW := HW.out.trans (hT.below HO.out HW.out.size)
    have HBW := hide hBW
    have HO1 : Hid (∀ k, Ext O w wr k → W.heap.size ≤ k) := Ext.base HO.out HW.out.size
    obtain ⟨lv, hlv'⟩ : ∃ lv : Int, (t : Int) - 1 = lv := ⟨_, rfl⟩
    have hlv1 : -1 ≤ lv := by omega
    have hlv2 : lv ≤ 10 := by omega
    have HLV := hide hlv'
    rw [hlv']
    clear hps hT hD hBW hlv'
    go_wp2_with fail
    refine (countAt_any lv hlv1 (by omega) l.es.length wr).mono ?_
    rintro r w1 ⟨rfl, rfl⟩
    by_cases hc : 0 < cntL lv l.es.length
    · have hcI : (0 : Int) < ((cntL lv l.es.length : Nat) : Int) := by omega
      have ht10 : t ≤ 10 := by
        rcases Nat.lt_or_ge 10 t with h | h
        · have := cnt_ten l.es.length he lv (by have := HLV.out; omega)
          omega
        · exact h
      generalize cntL lv l.es.length = cc at hcI ⊢
      have hdl : dt.fs.length ≤ 900000000 := by
        have h1 := putsD_len (tlv l.es l.put t) d
        rw [HPS.out] at h1
        obtain ⟨rr, hrr⟩ := tlv_split l.es l.put t (by omega)
        have h2 : (todo l.es l.put).length = (tlv l.es l.put t).length + rr.length := by rw [hrr, List.length_append]
        simp only at h1
        omega
      go_wp2_with fail
      refine (level_any (Ext O w w1) W hEE.out HO1.out db lb dt l w1 hdl he hput H20.out hlv HBW.out HDT.out HLG1.out lv hlv1 (by omega)).mono ?_
      rintro r w2 ⟨e, rfl, hgp, ht2, hd2⟩
      have HT2 : Hid (Turn O dT w w2) := HT.out.trans ht2
      have HD2 := hide (hd2.mono (Ext.trans HT.out.size ht2.size))
      have HPN : Hid (putsD (tlv l.es l.put (t + 1)) d = putsD (levT l.es l.put lv) dt) := by
        show _ = _
        rw [tlv_succ, putsD_append, HPS.out, HLV.out]
      have HGP := hide (hgp.weaken HT.out.size)
      clear ht2 hd2
      rcases hgp with ⟨hno, rfl⟩ | ⟨p, hp, hge⟩
      · have HPK : Hid (putsD (tlv l.es l.put (t + 1)) d = (none, (putsD (levT l.es l.put lv) dt).2)) := by
          show _ = _
          rw [HPN.out]
          exact Prod.ext hno rfl
        clear hno
        generalize (putsD (levT l.es l.put lv) dt).2 = d2 at *
        go_wp2_with fail
        go_roundg (gk - 1)
        case rel => exact ⟨t + 1, d2, by omega, by omega, by congr 1; have := HLV.out; omega, HPK.out, HT2.out, HD2.out⟩
        case measure => omega
      · have HPK : Hid (pubD (todo l.es l.put) (signF l.es.length (rootT l.es) l.key) d = (some p, (putsD (levT l.es l.put lv) dt).2)) := by
          show _ = _
          obtain ⟨rr, hrr⟩ := tlv_split l.es l.put (t + 1) (by omega)
          refine pub_stop ?_
          rw [hrr]
          refine puts_stop ?_
          rw [HPN.out]
          exact Prod.ext hp rfl
        obtain ⟨g, rfl⟩ : ∃ g, e = .iface 62 (.pointer (some ⟨g, 0, none⟩)) := by
          rcases gotErr_cases hge with ⟨h, -⟩ | ⟨-, h⟩
          · simp at h
          · exact h
        have HGE := hide (hge.weaken HT.out.size)
        clear hp hge HGP
        go_wp2_with fail
        go_ret
        rw [HPK.out]
        exact ⟨_, rfl, .inr ⟨p, rfl, HGE.out⟩, HT2.out, HD2.out⟩
    · have hc0 : cntL lv l.es.length = 0 := by omega
      have HTL : Hid (tlv l.es l.put t = todo l.es l.put) := tlv_stop l.es l.put t hput (by omega) (by rw [HLV.out]; exact hc0)
      rw [hc0]
      have hdl : dt.fs.length ≤ 1000000000 := by
        have h1 := putsD_len (tlv l.es l.put t) d
        rw [HPS.out] at h1
        rw [HTL.out] at h1
        simp only at h1
        omega
      clear hc hc0
      go_wp2_with fail
      refine (lswap_any (Ext O w w1) (Ext O w w1) db lb dt l w1 (hEE.out.below HBW.out) hdl he H20.out hk hlv HDT.out HLG1.out).mono ?_
      rintro r w2 ⟨e, rfl, hge, ht2, hd2⟩
      have HT2 : Hid (Turn O dT w w2) := HT.out.trans ht2
      have HD2 := hide (hd2.mono (Ext.trans HT.out.size ht2.size))
      have HPU : Hid (pubD (todo l.es l.put) (signF l.es.length (rootT l.es) l.key) d = if bad dt then (some cpF, swapD dt cpF (signF l.es.length (rootT l.es) l.key)) else (none, swapD dt cpF (signF l.es.length (rootT l.es) l.key))) := by
        refine pub_swap ?_
        rw [← HTL.out]
        exact HPS.out
      have HGE := hide (hge.weaken HT.out.size)
      clear ht2 hd2
      rcases gotErr_cases hge with ⟨hbd, rfl⟩ | ⟨hbd, g, rfl⟩
      · clear hge
        have HBD := hide hbd
        clear hbd
        go_wp2_with fail
        go_ret
        rw [HPU.out, HBD.out]
        exact ⟨_, rfl, .inl ⟨rfl, rfl⟩, HT2.out, HD2.out⟩
      · clear hge
        have HBD := hide hbd
        clear hbd
        go_wp2_with fail
        go_ret
        rw [HPU.out, HBD.out]
        refine ⟨_, rfl, .inr ⟨cpF, rfl, ?_⟩, HT2.out, HD2.out⟩
        have := HGE.out
        rw [HBD.out] at this
        exact this
end Go.Proofs.YtoomnijgdpbphaaGreatDoor

namespace Go.Proofs.YtoomnijgdpbphaaGreatDoor
open Go.RowKit
set_option maxRecDepth 100000

abbrev pT : List Nat := [69, 36, 58]
theorem ext_set {O : Nat → Prop} {w w2 : World} {p : Addr} {u : Value} : ∀ k, Ext O w w2 k → Ext O w (w2.setCell p u) k := fun _ h => Ext.more (by simp [World.setCell]) _ h
theorem log_put {w : World} {db lb : Nat} {a : Option Addr} {cap : Nat} {l : Lg} (hb : w.heap[lb]? = some (.cells (lcells db (.slice a l.es.length cap) l) 58 (0, 0))) (n : Nat) : (w.setCell ⟨lb, 3, none⟩ (.int .i64 (n : Int))).heap[lb]? = some (.cells (lcells db (.slice a l.es.length cap) { l with put := n }) 58 (0, 0)) := dset hb 3 _
theorem log_dead {w : World} {db lb : Nat} {a : Option Addr} {cap : Nat} {l : Lg} (hb : w.heap[lb]? = some (.cells (lcells db (.slice a l.es.length cap) l) 58 (0, 0))) : (w.setCell ⟨lb, 0, none⟩ .nilIface).heap[lb]? = some (.cells (lcells db (.slice a l.es.length cap) { l with live := false }) 58 (0, 0)) := dset hb 0 _
theorem log_set {w : World} {O : Nat → Prop} {db lb i : Nat} {a : Option Addr} {cap : Nat} {l l' : Lg} {u : Value} (hb : w.heap[lb]? = some (.cells (lcells db (.slice a l.es.length cap) l) 58 (0, 0))) (hes : OBs w 0 (.slice a l.es.length cap) l.es) (hg : ∀ g, (Value.slice a l.es.length cap).ownBlock = some g → O g) (hO : O lb)
    (hb' : (w.setCell ⟨lb, i, none⟩ u).heap[lb]? = some (.cells (lcells db (.slice a l.es.length cap) l') 58 (0, 0))) (he : l'.es = l.es) : LogAt (w.setCell ⟨lb, i, none⟩ u) O db lb l' := by
  have ht : Turn (fun _ => True) [58] w (w.setCell ⟨lb, i, none⟩ u) := (Turn.refl _ _ w).set (.inl trivial) hb (by simp) u
  refine ⟨_, hO, hb', ?_, hg⟩
  rw [he]
  obtain ⟨xs, ho, hx⟩ := hes
  exact ⟨xs, ownsRow_turn ho ht (by decide), fun j hj => by
    obtain ⟨z, e, hz⟩ := hx j hj
    exact ⟨z, e, ownsRow_turn hz.1 ht (by decide), hz.2⟩⟩

set_option maxHeartbeats 1000000 in
theorem publish_any (O : Nat → Prop) (W : World) (at_ : Nat → Addr) (hE : Env W) (hSN : Sents W at_) (hOW : ∀ k, O k → W.heap.size ≤ k) (db lb : Nat) (d : Dk) (l : Lg) (w : World) (hn : d.fs.length + (todo l.es l.put).length ≤ 900000000) (he : l.es.length ≤ 1000000) (hput : l.put ≤ l.es.length) (h20 : ∀ e ∈ l.es, e.length ≤ 20) (hk : l.key.length ≤ 9223372036854775807) (hW : Below W.heap.size W w) (h : DiskAt w O db d) (hL : LogAt w O db lb l) :
    Calls Tryz.prog 61 #[.pointer (some ⟨lb, 0, none⟩)] w fun r w' => Turn O pT w w' ∧
      ((l.live = false ∧ r = .returned (.tuple #[.int .i64 0, errS at_ 6]) ∧ Below w.heap.size w w') ∨
       (l.live = true ∧ (pubD (todo l.es l.put) (signF l.es.length (rootT l.es) l.key) d).1 = none ∧ r = .returned (.tuple #[.int .i64 (l.es.length : Int), .nilIface]) ∧ DiskAt w' (Ext O w w') db (pubD (todo l.es l.put) (signF l.es.length (rootT l.es) l.key) d).2 ∧ LogAt w' (Ext O w w') db lb { l with put := l.es.length }) ∨
       (l.live = true ∧ ∃ p e, (pubD (todo l.es l.put) (signF l.es.length (rootT l.es) l.key) d).1 = some p ∧ r = .returned (.tuple #[.int .i64 0, e]) ∧ GotErr true p w.heap.size e w' ∧ DiskAt w' (Ext O w w') db (pubD (todo l.es l.put) (signF l.es.length (rootT l.es) l.key) d).2 ∧ LogAt w' (Ext O w w') db lb { l with live := false })) := by
  have HD := hide h
  have HLG := hide hL
  have H20 := hide h20
  have HW := hide hW
  have HO := hide hOW
  have hEE := hide hE
  have HS := hide (sents_below hSN hW)
  clear h hL h20 hW hOW hE hSN
  generalize hpr : pubD (todo l.es l.put) (signF l.es.length (rootT l.es) l.key) d = pr
  have HPR := hide hpr
  clear hpr
  cases hlv : l.live with
  | false =>
    have h6 := HS.out.failed
    go_enter Tryz.func61, Tryz.ntmps61
    go_wp2_with fail
    refine (failed_any O db lb l w HLG.out).mono ?_
    rintro r w1 ⟨rfl, rfl⟩
    rw [hlv]
    go_wp2_with fail
    go_region
    all_goals go_wp2_with fail
    all_goals go_ret2
    all_goals exact ⟨(Turn.refl _ _ _).drew, .inl ⟨by first | rfl | trivial, rfl, (Below.refl _ _).drew⟩⟩
  | true =>
    go_enter Tryz.func61, Tryz.ntmps61
    go_wp2_with fail
    refine (failed_any O db lb l w HLG.out).mono ?_
    rintro r w1 ⟨rfl, rfl⟩
    rw [hlv]
    go_wp2_with fail
    refine (write_any O W hEE.out HO.out db lb d l w1 hn he hput H20.out hk hlv HW.out HD.out HLG.out).mono ?_
    rintro r w2 ⟨e, rfl, hgp, ht2, hd2⟩
    rw [HPR.out] at hgp hd2
    clear HPR
    have HT2 := hide ht2
    have HD2 := hide hd2
    have HL2 := hide ((HLG.out.stay ht2 (by decide) (by decide) (by decide)).mono (O' := Ext O w1 w2) (fun _ h => .inl h))
    clear ht2 hd2
    obtain ⟨a, cap, hb, hes, hgg, hOl⟩ := lok HL2.out
    obtain ⟨⟨c0, f0⟩, -, ⟨c2, f2⟩, ⟨c3, f3⟩⟩ := lall hb
    have HB := hide hb
    have HES := hide hes
    have HG := hide hgg
    have HOL := hide hOl
    clear hb hes hgg hOl
    rcases hgp with ⟨hno, rfl⟩ | ⟨p, hp, hge⟩
    · have HNO := hide hno
      have HLV := hide hlv
      clear hno hlv c0 f0
      have k3 := (dcell (dset HB.out 3 (.int .i64 (l.es.length : Int))) 3 _ rfl).1
      go_wp2_with fail
      go_ret2
      have hlg := log_set (O := Ext O w1 w2) (l' := { l with put := l.es.length }) HB.out HES.out HG.out HOL.out (dset HB.out 3 (.int .i64 (l.es.length : Int))) rfl
      refine ⟨HT2.out.mono (fun _ h => h) (by decide) |>.set HOL.out HB.out (by decide) _, .inr (.inl ⟨by first | rfl | trivial, HNO.out, rfl, ?_, ?_⟩)⟩
      · exact (HD2.out.stay ((Turn.refl _ _ w2).set (O := fun _ => True) (T := [58]) (.inl trivial) HB.out (by simp) _) (by decide) (by decide)).mono ext_set
      · rw [HLV.out] at hlg
        exact hlg.mono ext_set
    · have HP := hide hp
      obtain ⟨g, rfl⟩ : ∃ g, e = .iface 62 (.pointer (some ⟨g, 0, none⟩)) := by
        rcases gotErr_cases hge with ⟨h, -⟩ | ⟨-, h⟩
        · simp at h
        · exact h
      have HGE := hide hge
      clear hp hge hlv
      go_wp2_with fail
      go_ret2
      have hlg := log_set (O := Ext O w1 w2) (l' := { l with live := false }) HB.out HES.out HG.out HOL.out (log_dead HB.out) rfl
      have htt : Turn (fun _ => True) [58] w2 (w2.setCell ⟨lb, 0, none⟩ .nilIface) := (Turn.refl _ _ w2).set (.inl trivial) HB.out (by simp) _
      refine ⟨HT2.out.mono (fun _ h => h) (by decide) |>.set HOL.out HB.out (by decide) _, .inr (.inr ⟨by first | rfl | trivial, p, _, HP.out, rfl, ?_, ?_, ?_⟩)⟩
      · rcases HGE.out with ⟨h, -⟩ | ⟨h, g', e', hB, hpe⟩
        · exact .inl ⟨h, by simp at h⟩
        · exact .inr ⟨h, g', e', hB, hpe.turn htt (by decide) (by decide)⟩
      · exact (HD2.out.stay htt (by decide) (by decide)).mono ext_set
      · exact hlg.mono ext_set
end Go.Proofs.YtoomnijgdpbphaaGreatDoor
