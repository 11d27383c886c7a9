import Derived.Test.YtoomnijgdpbphaaGreatDoorG41
import Derived.Test.YtoomnijgdpbphaaGreatDoorG42
import Derived.Deep.RegionHeld3
import Derived.Deep.CutRange

namespace Go.Proofs.YtoomnijgdpbphaaGreatDoor
open Go.RowKit
set_option maxRecDepth 100000

set_option maxHeartbeats 2000000 in
/-- tilesref.Opened. -/
theorem refOpened_any (v : Value) (fs : Fs) (key : List UInt8) (w : World) (hn : fs.length ≤ 1000000000) (hl : ∀ f ∈ fs, f.2.length ≤ 1048576) (hk : key.length ≤ 2097152) (h : Fss w v fs) (s : List Nat) (hs : Among (look fs) s) (hsl : s.length ≤ 100000) :
    Calls Tryz.prog 25 #[v, txv key] w fun r w' => Below w.heap.size w w' ∧ ∃ (ev : Value) (err : Int) (p : List UInt8) (es : List (List UInt8)) (m : Nat), OpenIs (look fs) key err p es m ∧ r = .returned (.tuple #[ev, .int .i64 (m : Int), .int .i64 err, .string ⟨p.toArray⟩]) ∧ w'.ownsRow w.heap.size 9 1 ev es.length (es.map txv) := by
  have HF := hide h
  have HL := hide hl
  have HS := hide hs
  obtain ⟨fa, fcap, rfl, hcap, -⟩ := h
  clear hcap hl hs
  unfold txv
  go_enter Tryz.func25, Tryz.ntmps25
  go_wp2_with fail
  refine (refHash_any ⟨#[]⟩ w (by unfold maxLen; simp [ByteArray.size])).mono ?_
  rintro r w1 ⟨rfl, hb1⟩
  have HB1 := hide hb1
  have HF1 := hide (HF.out.below hb1)
  clear hb1
  unfold txt
  go_wp2_with fail
  refine (refFind_any _ fs cpF w1 hn HF1.out).mono ?_
  rintro r w2 ⟨rfl, rfl⟩
  cases e : ixF fs cpF with
  | none =>
    have he : ixI fs cpF = -1 := by unfold ixI; rw [e]
    rw [he]
    have HCP : Hid (HasCp (look fs) key 0 (hash [])) := .inl ⟨(ixF_none e).1, rfl, rfl⟩
    clear e he
    go_wp2_with fail
    go_loopw [12, 13] (fun dv iv wr => dv = .slice none 0 0 ∧ iv = .int .i64 0 ∧ wr = w2) (fun _ _ _ => 0)
    case atStart => exact ⟨rfl, rfl, rfl⟩
    case round =>
      obtain ⟨rfl, rfl, rfl⟩ := hrel
      go_wp2_with fail
      refine (refRoot_texts (.slice none 0 0) [] wr (by simp) (by simp) (Tss.nil _)).mono ?_
      rintro r w5 ⟨rfl, hb5⟩
      have HB5 : Hid (Below w.heap.size w w5) := HB1.out.trans (hb5.mono HB1.out.size)
      clear hb5
      have HRD : Hid (rdTo (look fs) 0 ((0 + 3) / 4) = some []) := rfl
      have HRT : Hid (rootT [] = hash []) := rootF_nil _ _ rfl
      rw [HRT.out]
      have HJ : Hid (∀ j, 4 * j < ([] : List (List UInt8)).length → j ∈ s) := fun j hj => by simp at hj
      have HOW : Hid (w5.ownsRow w.heap.size 9 1 (.slice none 0 0) (bhTo (look fs) [] 0).length ((bhTo (look fs) [] 0).map txv)) := ⟨rfl, .inl ⟨rfl, rfl⟩⟩
      generalize hash [] = R at *
      go_wp2_with fail
      go_loopg [12] (s.length + 1) (fun gg dv wr2 => ∃ k2 : Nat, s.length + 1 - k2 ≤ gg ∧ Below w.heap.size w wr2 ∧ wr2.ownsRow w.heap.size 9 1 dv (bhTo (look fs) ([] : List (List UInt8)) k2).length ((bhTo (look fs) ([] : List (List UInt8)) k2).map txv) ∧ ∀ i, i < k2 → (stepB (look fs) (bhTo (look fs) ([] : List (List UInt8)) i)).2 = true)
      case atStart => exact ⟨0, by omega, HB5.out, HOW.out, fun i hi => absurd hi (Nat.not_lt_zero _)⟩
      case round =>
        clear HB5 HOW
        obtain ⟨k2, hgg, hbe, hown, hst⟩ := hrel
        have hbd := bh_bound HS.out HJ.out hst
        have HBE := hide hbe
        have HST := hide hst
        have HB4 := hide hbd
        obtain ⟨es2, hes0⟩ : ∃ es2, bhTo (look fs) ([] : List (List UInt8)) k2 = es2 := ⟨_, rfl⟩
        rw [hes0] at hown hbd
        have HES := hide hes0
        obtain ⟨q, hv, hd, hv4⟩ : ∃ q hv, es2.length = 4 * q + hv ∧ hv < 4 := ⟨es2.length / 4, es2.length % 4, by omega, by omega⟩
        obtain ⟨da, dcap, rfl⟩ := own_slice hown
        have HOWN := hide hown
        have HFW := hide (HF.out.below hbe)
        have hq6 : q ≤ 1000000 := by omega
        have hln : Hid (es2.length + (stepB (look fs) es2).1.length ≤ 1000000000) := by show _ ≤ _; omega
        have HDD := hide hd
        clear hes0 hst hbe hown hd hbd
        go_wp2_with fail
        refine (refFur_any _ da dcap fs es2 q hv wr hn HL.out HDD.out hv4 hq6 HFW.out (tss_owns HOWN.out)).mono ?_
        rintro r w6 ⟨hb6, x, rfl, hx⟩
        have HB6 : Hid (Below w.heap.size w w6) := HBE.out.trans (hb6.mono HBE.out.size)
        have HO6 : Hid (w6.ownsRow w.heap.size 9 1 (.slice da es2.length dcap) es2.length (es2.map txv)) := ownsRow_turn HOWN.out (Turn.of_below (O := fun _ => False) (T := []) hb6) (by simp)
        have HX := hide hx
        obtain ⟨xa, xc, he, -⟩ := id hx
        subst he
        have HSZ : Hid (w.heap.size ≤ w6.heap.size) := HB6.out.size
        clear hx hb6 HFW HOWN
        cases hwd : (stepB (look fs) es2).2 with
        | true =>
          have HWD := hide hwd
          clear hwd
          go_wp2_with (at_builtin; refine app_texts _ rfl _ _ rfl w.heap.size HSZ.out _ es2 rfl HO6.out _ _ rfl HX.out hln.out ?_; intro v' w7 hown' hgrow; have HB7 : Hid (Below w.heap.size w w7) := HB6.out.grown hgrow HSZ.out (own_base HO6.out); have HO7 := hide hown'; clear hown' hgrow; obtain ⟨ya, yc, he⟩ := own_slice HO7.out; subst he)
          go_roundg (gk - 1)
          case rel =>
            refine ⟨k2 + 1, by omega, HB7.out, ?_, fun i hi => ?_⟩
            · rw [bhTo, HES.out]
              have h := HO7.out
              rw [List.length_append] at h ⊢
              exact h
            · rcases Nat.lt_or_ge i k2 with h | h
              · exact HST.out i h
              · obtain rfl : i = k2 := by omega
                rw [HES.out]; exact HWD.out
          case measure =>
            have := HB4.out.2
            omega
        | false =>
          have HWD := hide hwd
          clear hwd
          go_wp2_with (at_builtin; refine app_texts _ rfl _ _ rfl w.heap.size HSZ.out _ es2 rfl HO6.out _ _ rfl HX.out hln.out ?_; intro v' w7 hown' hgrow; have HB7 : Hid (Below w.heap.size w w7) := HB6.out.grown hgrow HSZ.out (own_base HO6.out); have HO7 := hide hown'; clear hown' hgrow; obtain ⟨ya, yc, he⟩ := own_slice HO7.out; subst he)
          refine bodyPost_ret (results_tmp4 Tryz.results25 _ _ _) rfl ?_
          have hbh := Behind.of HST.out (by rw [HES.out]; exact HWD.out)
          rw [HES.out] at hbh
          exact ⟨HB7.out, _, 0, [], _, 0, .inr ⟨0, _, HCP.out, .inr ⟨([] : List (List UInt8)), HRD.out, .inr ⟨HRT.out, hbh, rfl, rfl, rfl⟩⟩⟩, rfl, by have h := HO7.out; rw [List.length_append] at h ⊢; exact h⟩
  | some k =>
    have he : ixI fs cpF = k := by unfold ixI; rw [e]
    rw [he]
    obtain ⟨hk', -, hlk, -⟩ := ixF_some e
    obtain ⟨-, -, hrow⟩ := HF1.out.at
    obtain ⟨b, off, rfl, hcs⟩ := hrow (by omega)
    obtain ⟨-, y1⟩ := hcs k hk'
    unfold txv at y1
    have hlen := HL.out _ (List.getElem_mem hk')
    have HLK := hide hlk
    clear hcs hrow e he hlk
    generalize fs[k].2 = x at *
    go_wp2_with fail
    refine (refCheck_any x key hlen hk w2).mono ?_
    rintro r w3 ⟨hb3, hr⟩
    have HB3 : Hid (Below w.heap.size w w3) := HB1.out.trans (hb3.mono HB1.out.size)
    clear hb3 y1
    rcases hr with ⟨m, R, hsg, rfl⟩ | ⟨hno, rfl⟩
    · have HCP : Hid (HasCp (look fs) key m R) := .inr ⟨x, HLK.out, hsg⟩
      have hm63 : m ≤ 9223372036854775807 := hsg.1
      have HR8 : Hid (R.length = 8) := hsg.2.1
      clear hsg HLK
      go_wp2_with fail
      go_loopw [12, 13] (fun dv iv wr => ∃ (k : Nat) (ds : List (List UInt8)), iv = .int .i64 k ∧ 4 * k < m + 4 ∧ rdTo (look fs) m k = some ds ∧ Below w.heap.size w wr ∧ wr.ownsRow w.heap.size 9 1 dv ds.length (ds.map txv)) (fun _ iv _ => m + 4 - 4 * (intOf iv).toNat)
      case atStart => exact ⟨0, [], rfl, by omega, rfl, HB3.out, ⟨rfl, .inl ⟨rfl, rfl⟩⟩⟩
      case round =>
        obtain ⟨k, ds, rfl, hk4, hrd, hbe, hown⟩ := hrel
        have hlen := rdTo_len hrd hk4
        have hbnd := rdTo_bound HS.out hrd hk4
        have HE20 := hide (es20 hrd)
        have HBE := hide hbe
        have HRD := hide hrd
        have HLEN := hide hlen
        have HBN := hide hbnd
        obtain ⟨da, dcap, rfl⟩ := own_slice hown
        have HOWN := hide hown
        have HFW := hide (HF.out.below hbe)
        have hk6 : k ≤ 1000000 := by omega
        have hle2 : ds.length ≤ m := by omega
        have hle3 : ds.length ≤ 400000 := by omega
        clear hrd hbe hown hlen hbnd HB3
        by_cases hlt : ds.length < m
        · have hd4 : ds.length = 4 * k := by have := HLEN.out; omega
          have HD4 := hide hd4
          clear hd4
          by_cases h4 : 4 < m - ds.length
          · have h4' : (4 : Int) < (m : Int) - (ds.length : Int) := by omega
            have hbw : wid m k = 4 := by have := HLEN.out; unfold wid; omega
            go_wp2_with fail
            refine (refBunAt_any _ fs k 4 wr hn HL.out hk6 HFW.out).mono ?_
            rintro r w4 ⟨hb4, ea, en, ec, rfl, hes⟩
            have HB4 : Hid (Below w.heap.size w w4) := HBE.out.trans (hb4.mono HBE.out.size)
            have HO4 : Hid (w4.ownsRow w.heap.size 9 1 (.slice da ds.length dcap) ds.length (ds.map txv)) := ownsRow_turn HOWN.out (Turn.of_below (O := fun _ => False) (T := []) hb4) (by simp)
            have HES := hide hes
            clear hb4 hes HFW HOWN
            cases hbu : bunAt (look fs) k 4 with
            | none =>
              have HBU : Hid (bunAt (look fs) k (wid m k) = none) := by show _ = _; rw [hbw]; exact hbu
              clear hbu
              go_wp2_with fail
              refine (refName_any (-1) k (4 : Nat) (by omega) w4).mono ?_
              rintro r w5 ⟨rfl, hb5⟩
              have HB5 : Hid (Below w.heap.size w w5) := HB4.out.trans (hb5.mono HB4.out.size)
              clear hb5
              have HNM : Hid (nameF (-1) k (wid m k : Nat) = nameF (-1) k (4 : Nat)) := by show _ = _; rw [hbw]
              generalize nameF (-1) (k : Int) ((4 : Nat) : Int) = nm at *
              go_wp2_with fail
              refine bodyPost_ret (results_tmp4 Tryz.results25 _ _ _) rfl ?_
              exact ⟨HB5.out, _, 6, nm, [], 0, .inr ⟨m, R, HCP.out, .inl ⟨k, ds, by have := HLEN.out; omega, HRD.out, HBU.out, rfl, HNM.out.symm, rfl, rfl⟩⟩, rfl, ⟨rfl, .inl ⟨rfl, rfl⟩⟩⟩
            | some es =>
              obtain ⟨hel, hss⟩ := HES.out es hbu
              have HT := hide (Tss.of hss)
              obtain ⟨hen, -⟩ := HT.out.at
              subst hen
              have HRD' : Hid (rdTo (look fs) m (k + 1) = some (ds ++ es)) := by
                show _ = _
                unfold rdTo
                rw [HRD.out, hbw, hbu]
                rfl
              have hln : Hid (ds.length + es.length ≤ 1000000000) := by show _ ≤ _; omega
              have HSZ : Hid (w.heap.size ≤ w4.heap.size) := HB4.out.size
              clear hss hbu hel HES
              go_wp2_with (at_builtin; refine app_texts _ rfl _ _ rfl w.heap.size HSZ.out _ ds rfl HO4.out _ _ rfl HT.out hln.out ?_; intro v' w7 hown' hgrow; have HB7 : Hid (Below w.heap.size w w7) := HB4.out.grown hgrow HSZ.out (own_base HO4.out); have HO7 := hide hown'; clear hown' hgrow; obtain ⟨ya, yc, he⟩ := own_slice HO7.out; subst he)
              go_roundw
              case rel => exact ⟨k + 1, ds ++ es, by go_num, by have := HD4.out; omega, HRD'.out, HB7.out, by have h := HO7.out; rw [List.length_append] at h ⊢; exact h⟩
              case measure => simp [intOf]; omega
          · have h4' : ¬ (4 : Int) < (m : Int) - (ds.length : Int) := by omega
            have hwi : (m : Int) - (ds.length : Int) = ((m - ds.length : Nat) : Int) := by omega
            have HWI := hide hwi
            clear hwi
            have hbw : wid m k = (m - ds.length) := by have := HLEN.out; unfold wid; omega
            go_wp2_with fail
            rw [HWI.out]
            refine (refBunAt_any _ fs k (m - ds.length) wr hn HL.out hk6 HFW.out).mono ?_
            rintro r w4 ⟨hb4, ea, en, ec, rfl, hes⟩
            have HB4 : Hid (Below w.heap.size w w4) := HBE.out.trans (hb4.mono HBE.out.size)
            have HO4 : Hid (w4.ownsRow w.heap.size 9 1 (.slice da ds.length dcap) ds.length (ds.map txv)) := ownsRow_turn HOWN.out (Turn.of_below (O := fun _ => False) (T := []) hb4) (by simp)
            have HES := hide hes
            clear hb4 hes HFW HOWN
            cases hbu : bunAt (look fs) k (m - ds.length) with
            | none =>
              have HBU : Hid (bunAt (look fs) k (wid m k) = none) := by show _ = _; rw [hbw]; exact hbu
              clear hbu
              go_wp2_with fail
              refine (refName_any (-1) k ((m - ds.length) : Nat) (by omega) w4).mono ?_
              rintro r w5 ⟨rfl, hb5⟩
              have HB5 : Hid (Below w.heap.size w w5) := HB4.out.trans (hb5.mono HB4.out.size)
              clear hb5
              have HNM : Hid (nameF (-1) k (wid m k : Nat) = nameF (-1) k ((m - ds.length) : Nat)) := by show _ = _; rw [hbw]
              generalize nameF (-1) (k : Int) (((m - ds.length) : Nat) : Int) = nm at *
              go_wp2_with fail
              refine bodyPost_ret (results_tmp4 Tryz.results25 _ _ _) rfl ?_
              exact ⟨HB5.out, _, 6, nm, [], 0, .inr ⟨m, R, HCP.out, .inl ⟨k, ds, by have := HLEN.out; omega, HRD.out, HBU.out, rfl, HNM.out.symm, rfl, rfl⟩⟩, rfl, ⟨rfl, .inl ⟨rfl, rfl⟩⟩⟩
            | some es =>
              obtain ⟨hel, hss⟩ := HES.out es hbu
              have HT := hide (Tss.of hss)
              obtain ⟨hen, -⟩ := HT.out.at
              subst hen
              have HRD' : Hid (rdTo (look fs) m (k + 1) = some (ds ++ es)) := by
                show _ = _
                unfold rdTo
                rw [HRD.out, hbw, hbu]
                rfl
              have hln : Hid (ds.length + es.length ≤ 1000000000) := by show _ ≤ _; omega
              have HSZ : Hid (w.heap.size ≤ w4.heap.size) := HB4.out.size
              clear hss hbu hel HES
              go_wp2_with (at_builtin; refine app_texts _ rfl _ _ rfl w.heap.size HSZ.out _ ds rfl HO4.out _ _ rfl HT.out hln.out ?_; intro v' w7 hown' hgrow; have HB7 : Hid (Below w.heap.size w w7) := HB4.out.grown hgrow HSZ.out (own_base HO4.out); have HO7 := hide hown'; clear hown' hgrow; obtain ⟨ya, yc, he⟩ := own_slice HO7.out; subst he)
              go_roundw
              case rel => exact ⟨k + 1, ds ++ es, by go_num, by have := HD4.out; omega, HRD'.out, HB7.out, by have h := HO7.out; rw [List.length_append] at h ⊢; exact h⟩
              case measure => simp [intOf]; omega
        · have hmd : ds.length = m := by omega
          have hkk : k = (m + 3) / 4 := by have := HLEN.out; omega
          have HRD2 : Hid (rdTo (look fs) m ((m + 3) / 4) = some ds) := by show _ = _; rw [← hkk]; exact HRD.out
          have HJ : Hid (∀ j, 4 * j < ds.length → j ∈ s) := fun j hj => HBN.out.2 j (by have := HLEN.out; omega)
          clear HRD
          have HRD := HRD2
          clear HRD2 hkk hmd
          go_wp2_with fail
          refine (refRoot_texts (.slice da ds.length dcap) ds wr (by omega) HE20.out (tss_owns HOWN.out)).mono ?_
          rintro r w5 ⟨rfl, hb5⟩
          have HB5 : Hid (Below w.heap.size w w5) := HBE.out.trans (hb5.mono HBE.out.size)
          have HOW : Hid (w5.ownsRow w.heap.size 9 1 (.slice da ds.length dcap) (bhTo (look fs) ds 0).length ((bhTo (look fs) ds 0).map txv)) := ownsRow_turn HOWN.out (Turn.of_below (O := fun _ => False) (T := []) hb5) (by simp)
          obtain ⟨R', hR'⟩ : ∃ R', rootT ds = R' := ⟨_, rfl⟩
          have HR' := hide hR'
          rw [hR']
          clear hb5 hR'
          by_cases hrt : R' = R
          · have HRT : Hid (rootT ds = R) := HR'.out.trans hrt
            subst hrt
            go_wp2_with fail
            go_loopg [12] (s.length + 1) (fun gg dv wr2 => ∃ k2 : Nat, s.length + 1 - k2 ≤ gg ∧ Below w.heap.size w wr2 ∧ wr2.ownsRow w.heap.size 9 1 dv (bhTo (look fs) ds k2).length ((bhTo (look fs) ds k2).map txv) ∧ ∀ i, i < k2 → (stepB (look fs) (bhTo (look fs) ds i)).2 = true)
            case atStart => exact ⟨0, by omega, HB5.out, HOW.out, fun i hi => absurd hi (Nat.not_lt_zero _)⟩
            case round =>
              clear HB5 HOW
              obtain ⟨k2, hgg, hbe, hown, hst⟩ := hrel
              have hbd := bh_bound HS.out HJ.out hst
              have HBE := hide hbe
              have HST := hide hst
              have HB4 := hide hbd
              obtain ⟨es2, hes0⟩ : ∃ es2, bhTo (look fs) ds k2 = es2 := ⟨_, rfl⟩
              rw [hes0] at hown hbd
              have HES := hide hes0
              obtain ⟨q, hv, hd, hv4⟩ : ∃ q hv, es2.length = 4 * q + hv ∧ hv < 4 := ⟨es2.length / 4, es2.length % 4, by omega, by omega⟩
              obtain ⟨da, dcap, rfl⟩ := own_slice hown
              have HOWN := hide hown
              have HFW := hide (HF.out.below hbe)
              have hq6 : q ≤ 1000000 := by omega
              have hln : Hid (es2.length + (stepB (look fs) es2).1.length ≤ 1000000000) := by show _ ≤ _; omega
              have HDD := hide hd
              clear hes0 hst hbe hown hd hbd
              go_wp2_with fail
              refine (refFur_any _ da dcap fs es2 q hv wr hn HL.out HDD.out hv4 hq6 HFW.out (tss_owns HOWN.out)).mono ?_
              rintro r w6 ⟨hb6, x, rfl, hx⟩
              have HB6 : Hid (Below w.heap.size w w6) := HBE.out.trans (hb6.mono HBE.out.size)
              have HO6 : Hid (w6.ownsRow w.heap.size 9 1 (.slice da es2.length dcap) es2.length (es2.map txv)) := ownsRow_turn HOWN.out (Turn.of_below (O := fun _ => False) (T := []) hb6) (by simp)
              have HX := hide hx
              obtain ⟨xa, xc, he, -⟩ := id hx
              subst he
              have HSZ : Hid (w.heap.size ≤ w6.heap.size) := HB6.out.size
              clear hx hb6 HFW HOWN
              cases hwd : (stepB (look fs) es2).2 with
              | true =>
                have HWD := hide hwd
                clear hwd
                go_wp2_with (at_builtin; refine app_texts _ rfl _ _ rfl w.heap.size HSZ.out _ es2 rfl HO6.out _ _ rfl HX.out hln.out ?_; intro v' w7 hown' hgrow; have HB7 : Hid (Below w.heap.size w w7) := HB6.out.grown hgrow HSZ.out (own_base HO6.out); have HO7 := hide hown'; clear hown' hgrow; obtain ⟨ya, yc, he⟩ := own_slice HO7.out; subst he)
                go_roundg (gk - 1)
                case rel =>
                  refine ⟨k2 + 1, by omega, HB7.out, ?_, fun i hi => ?_⟩
                  · rw [bhTo, HES.out]
                    have h := HO7.out
                    rw [List.length_append] at h ⊢
                    exact h
                  · rcases Nat.lt_or_ge i k2 with h | h
                    · exact HST.out i h
                    · obtain rfl : i = k2 := by omega
                      rw [HES.out]; exact HWD.out
                case measure =>
                  have := HB4.out.2
                  omega
              | false =>
                have HWD := hide hwd
                clear hwd
                go_wp2_with (at_builtin; refine app_texts _ rfl _ _ rfl w.heap.size HSZ.out _ es2 rfl HO6.out _ _ rfl HX.out hln.out ?_; intro v' w7 hown' hgrow; have HB7 : Hid (Below w.heap.size w w7) := HB6.out.grown hgrow HSZ.out (own_base HO6.out); have HO7 := hide hown'; clear hown' hgrow; obtain ⟨ya, yc, he⟩ := own_slice HO7.out; subst he)
                refine bodyPost_ret (results_tmp4 Tryz.results25 _ _ _) rfl ?_
                have hbh := Behind.of HST.out (by rw [HES.out]; exact HWD.out)
                rw [HES.out] at hbh
                exact ⟨HB7.out, _, 0, [], _, m, .inr ⟨m, _, HCP.out, .inr ⟨ds, HRD.out, .inr ⟨HRT.out, hbh, rfl, rfl, rfl⟩⟩⟩, rfl, by have h := HO7.out; rw [List.length_append] at h ⊢; exact h⟩
          · have HRT : Hid (rootT ds ≠ R) := fun e => hrt (HR'.out.symm.trans e)
            have hq : (R' == R) = false := by simpa using hrt
            clear hrt
            go_wp2_with fail
            refine bodyPost_ret (results_tmp4 Tryz.results25 _ _ _) rfl ?_
            exact ⟨HB5.out, _, 5, [], [], 0, .inr ⟨m, R, HCP.out, .inr ⟨ds, HRD.out, .inl ⟨HRT.out, rfl, rfl, rfl, rfl⟩⟩⟩, rfl, ⟨rfl, .inl ⟨rfl, rfl⟩⟩⟩
    · have HNO : Hid (∃ t, look fs cpF = some t ∧ ∀ n R, ¬ IsSign t key n R) := ⟨x, HLK.out, hno⟩
      clear hno HLK
      go_wp2_with fail
      refine bodyPost_ret (results_tmp4 Tryz.results25 _ _ _) rfl ?_
      exact ⟨HB3.out, _, 3, [], [], 0, .inl ⟨HNO.out, rfl, rfl, rfl, rfl⟩, rfl, ⟨rfl, .inl ⟨rfl, rfl⟩⟩⟩
end Go.Proofs.YtoomnijgdpbphaaGreatDoor

namespace Go.Proofs.YtoomnijgdpbphaaGreatDoor
open Go.RowKit
set_option maxRecDepth 100000

/-- What plain.Open comes to: the publisher's address, the error's number and path. -/
def PO (O : Nat → Prop) (db : Nat) (d : Dk) (key : List UInt8) (w w' : World) (a : Option Addr) (e : Int) (p : List UInt8) : Prop :=
  ∃ d' : Dk, Turn O rT w w' ∧ DiskAt w' (Ext O w w') db d' ∧ d'.fs = d.fs ∧ tk d' = tk d ∧ ((d'.hit = true ∧ a = none ∧ e = 8) ∨ (Calm d' ∧ ∃ es m, OpenIs (look d.fs) key e p es m ∧
    ((e = 0 ∧ ∃ pb lb, a = some ⟨pb, 0, none⟩ ∧ w.heap.size ≤ pb ∧ PlAt w' pb lb ∧ LogAt w' (Ext O w w') db lb { key := key, es := es, put := 0, live := true }) ∨ (e ≠ 0 ∧ a = none))))
theorem open_p {lk : Lk} {key p : List UInt8} {es : List (List UInt8)} {m : Nat} (h : OpenIs lk key 0 p es m) : p = [] := by
  rcases h with ⟨-, -, h, -⟩ | ⟨n, R, hc, ⟨k, d, -, -, -, h, -⟩ | ⟨d, hrd, ⟨-, -, h, -⟩ | ⟨-, -, -, h, -⟩⟩⟩
  · exact h
  · simp at h
  · exact h
  · exact h
theorem popen_po (O : Nat → Prop) (W : World) (at_ : Nat → Addr) (hE : Env W) (hSN : Sents W at_) (hET : ETy W) (hOW : ∀ k, O k → W.heap.size ≤ k) (db : Nat) (d : Dk) (key : List UInt8) (w : World) (hn : d.fs.length ≤ 1000000000) (hl : ∀ f ∈ d.fs, f.2.length ≤ 1048576) (hk : key.length ≤ 2097152) (hc : Calm d) (hW : Below W.heap.size W w) (h : DiskAt w O db d)
    (s : List Nat) (hs : Among (look d.fs) s) (hsl : s.length ≤ 100000) :
    Calls Tryz.prog 26 #[.pointer (some ⟨db, 0, none⟩), .string ⟨key.toArray⟩] w fun r w' => ∃ a e p, r = .returned (.tuple #[.pointer a, .agg #[.int .i64 e, .string ⟨p.toArray⟩]]) ∧ PO O db d key w w' a e p := by
  refine (popen_any O W at_ hE hSN hET hOW db d key w hn hl (by omega) hc hW h s hs hsl).mono ?_
  rintro r w' ⟨d', ht, hd, hfs, htk, ⟨hh, p, rfl⟩ | ⟨hcm, err, p, es, m, ho, ⟨rfl, pb, lb, rfl, h1, h2, h3, h4⟩ | ⟨h1, rfl⟩⟩⟩
  · exact ⟨none, 8, p, rfl, d', ht, hd, hfs, htk, .inl ⟨hh, rfl, rfl⟩⟩
  · have hp := open_p ho
    subst hp
    exact ⟨_, 0, [], rfl, d', ht, hd, hfs, htk, .inr ⟨hcm, es, m, ho, .inl ⟨rfl, pb, lb, rfl, h1, h3, h4⟩⟩⟩
  · exact ⟨none, err, p, rfl, d', ht, hd, hfs, htk, .inr ⟨hcm, es, m, ho, .inr ⟨h1, rfl⟩⟩⟩
theorem PO.shift {O : Nat → Prop} {db : Nat} {d : Dk} {key : List UInt8} {w3 w w4 wx : World} {a : Option Addr} {e : Int} {p : List UInt8} (h : PO O db d key w w4 a e p) (h1 : Below w3.heap.size w3 w) (h2 : Turn (fun k => w3.heap.size ≤ k) [26] w4 wx) : PO O db d key w3 wx a e p := by
  obtain ⟨d', ht, hd, hfs, htk, hr⟩ := h
  have hx : ∀ k, Ext O w w4 k → Ext O w3 wx k := fun k hk => by
    rcases hk with hk | hk
    · exact .inl hk
    · exact .inr ⟨Nat.le_trans h1.size hk.1, Nat.lt_of_lt_of_le hk.2 h2.size⟩
  refine ⟨d', ⟨h2.os.trans (ht.os.trans h1.os), h2.tape.trans (ht.tape.trans h1.tape), h2.output.trans (ht.output.trans h1.output), Nat.le_trans h1.size (Nat.le_trans ht.size h2.size), fun k hk => ?_⟩, (hd.stay h2 (by decide) (by decide)).mono hx, hfs, htk, ?_⟩
  · have hk1 : w.heap[k]? = w3.heap[k]? := h1.block k hk
    have hk4 : wx.heap[k]? = w4.heap[k]? := by
      rcases h2.block k (Nat.lt_of_lt_of_le hk (Nat.le_trans h1.size ht.size)) with h | ⟨h, -⟩
      · exact h
      · omega
    rw [hk4, ← hk1]
    exact ht.block k (Nat.lt_of_lt_of_le hk h1.size)
  · rcases hr with h | ⟨hcm, es, m, ho, ⟨h0, pb, lb, e1, e2, e3, e4⟩ | h⟩
    · exact .inl h
    · exact .inr ⟨hcm, es, m, ho, .inl ⟨h0, pb, lb, e1, Nat.le_trans h1.size e2, h2.keep e3 (by decide), (e4.stay h2 (by decide) (by decide) (by decide)).mono hx⟩⟩
    · exact .inr ⟨hcm, es, m, ho, .inr h⟩
/-- Both ways in which what is told comes to lie. -/
theorem PO.after {O : Nat → Prop} {db : Nat} {d : Dk} {key : List UInt8} {w3 w w4 : World} {a : Option Addr} {e : Int} {p : List UInt8} (h : PO O db d key w w4 a e p) (h1 : Below w3.heap.size w3 w) (o : Obj) : PO O db d key w3 (w4.alloc o) a e p :=
  h.shift h1 (Turn.of_below (below_alloc w4 o))
theorem PO.sets {O : Nat → Prop} {db : Nat} {d : Dk} {key : List UInt8} {w3 w w4 : World} {a : Option Addr} {e : Int} {p : List UInt8} {C : Array Value} (h : PO O db d key w w4 a e p) (h1 : Below w3.heap.size w3 w) (hb : w4.heap[w3.heap.size]? = some (.cells C 26 (0, 0))) (u v : Value) : PO O db d key w3 ((w4.setCell ⟨w3.heap.size, 0, none⟩ u).setCell ⟨w3.heap.size, 1, none⟩ v) a e p :=
  h.shift h1 (((Turn.refl _ _ w4).set (.inl (Nat.le_refl _)) hb (by simp) _).set (.inl (Nat.le_refl _)) (dset hb 0 _) (by simp) _)
end Go.Proofs.YtoomnijgdpbphaaGreatDoor
