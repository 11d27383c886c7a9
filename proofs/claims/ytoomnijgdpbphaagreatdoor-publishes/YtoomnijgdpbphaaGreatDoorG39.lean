import Derived.Test.YtoomnijgdpbphaaGreatDoorG24

namespace Go.Proofs.YtoomnijgdpbphaaGreatDoor
open Go.RowKit
set_option maxRecDepth 100000

def there1 (b : Fs) (f : List UInt8 × List UInt8) : Bool := match look b f.1 with
  | some y => decide (y = f.2)
  | none => false
theorem there_snoc (b wt : Fs) (k : Nat) (h : k < wt.length) : thereB b (wt.take (k + 1)) = (thereB b (wt.take k) && there1 b wt[k]) := by
  unfold thereB
  rw [take_snoc wt k h, List.all_append]
  congr 1
  rw [List.all_cons, List.all_nil, Bool.and_true]
  rfl
theorem there_miss {b wt : Fs} {k : Nat} (h : k < wt.length) (hc : there1 b wt[k] = false) : thereB b wt = false := by
  unfold thereB
  rw [List.all_eq_false]
  exact ⟨wt[k], List.getElem_mem h, by rw [← Bool.not_eq_true] at hc; exact hc⟩

set_option maxHeartbeats 200000 in
theorem there_any (v1 v2 : Value) (b wt : Fs) (w : World) (hb : b.length ≤ 1000000000) (hw : wt.length ≤ 1000000000) (h1 : Fss w v1 b) (h2 : Fss w v2 wt) :
    Calls Tryz.prog 36 #[v1, v2] w fun r w' => r = .returned (.bool (thereB b wt)) ∧ Below w.heap.size w w' := by
  have H1 := hide h1
  have H2 := hide h2
  obtain ⟨a1, c1, rfl, hc1, -⟩ := h1
  obtain ⟨a2, c2, rfl, hc2, -⟩ := h2
  clear hc1 hc2
  go_enter Tryz.func36, Tryz.ntmps36
  go_wp2_with fail
  go_loopw [5] (fun i wr => ∃ k : Nat, k ≤ wt.length ∧ i = .int .i64 k ∧ Below w.heap.size w wr ∧ thereB b (wt.take k) = true) (fun i _ => wt.length - (intOf i).toNat)
  case atStart => exact ⟨0, Nat.zero_le _, rfl, Below.refl _ _, rfl⟩
  case round =>
    obtain ⟨k, hk, rfl, hbe, hno⟩ := hrel
    have HB := hide hbe
    have HN := hide hno
    clear hbe hno
    by_cases hlt : k < wt.length
    · have HSN := hide (there_snoc b wt k hlt)
      have HHT : Hid (there1 b wt[k] = false → thereB b wt = false) := there_miss hlt
      obtain ⟨-, -, hx2'⟩ := H2.out.at
      obtain ⟨b2, o2, rfl, hx2⟩ := hx2' (by omega)
      obtain ⟨y0, y1⟩ := hx2 k hlt
      obtain ⟨⟨p, x⟩, hpx⟩ : ∃ f, wt[k] = f := ⟨_, rfl⟩
      rw [hpx] at y0 y1 HSN HHT
      unfold txv at y0 y1
      have r0 : wr.cell? ⟨b2, o2 + k * 2, none⟩ = some (.string ⟨p.toArray⟩) := by rw [HB.out.cell (p := ⟨b2, _, none⟩) (cell_lt y0)]; exact y0
      have r1 : wr.cell? ⟨b2, o2 + k * 2 + 1, none⟩ = some (.string ⟨x.toArray⟩) := by rw [HB.out.cell (p := ⟨b2, _, none⟩) (cell_lt y1)]; exact y1
      clear y0 y1 hpx hx2 hx2'
      go_wp2_with fail
      refine (refFind_any _ b p wr hb (H1.out.below HB.out)).mono ?_
      rintro r w1 ⟨rfl, rfl⟩
      have HC1 : Hid (there1 b (p, x) = match look b p with | some y => decide (y = x) | none => false) := rfl
      cases e : ixF b p with
      | none =>
        have he : ixI b p = -1 := by unfold ixI; rw [e]
        rw [he]
        have HY : Hid (thereB b wt = false) := HHT.out (by rw [HC1.out, (ixF_none e).1])
        clear e he
        go_wp2_with fail
        go_region
        all_goals
          go_wp2_with fail
          go_ret
          exact ⟨by rw [HY.out]; rfl, HB.out.drew⟩
      | some j =>
        have he : ixI b p = j := by unfold ixI; rw [e]
        rw [he]
        obtain ⟨hj, -, hlk, -⟩ := ixF_some e
        obtain ⟨-, -, hx1'⟩ := H1.out.at
        obtain ⟨b1, o1, rfl, hx1⟩ := hx1' (by omega)
        obtain ⟨-, z1⟩ := hx1 j hj
        obtain ⟨y, hy⟩ : ∃ y, b[j].2 = y := ⟨_, rfl⟩
        rw [hy] at z1 hlk
        unfold txv at z1
        have r2 : w1.cell? ⟨b1, o1 + j * 2 + 1, none⟩ = some (.string ⟨y.toArray⟩) := by rw [HB.out.cell (p := ⟨b1, _, none⟩) (cell_lt z1)]; exact z1
        have HC2 : Hid (there1 b (p, x) = decide (y = x)) := by
          show _ = _
          rw [HC1.out, hlk]
        have hj0 : decide ((j : Int) < 0) = false := by simp
        clear e he hx1 hx1' z1 hy hlk
        go_wp2_with fail
        go_region
        all_goals
          by_cases hyx : y = x
          · have HN' : Hid (thereB b (wt.take (k + 1)) = true) := by
              show _ = _
              rw [HSN.out, HN.out, HC2.out, hyx]
              simp
            rw [show (y == x) = true by simpa using hyx]
            clear hyx r0 r1 r2
            go_wp2_with fail
            go_round
            case rel => exact ⟨k + 1, by omega, by go_num, HB.out.drew, HN'.out⟩
            case measure => simp [intOf]; omega
          · have HY : Hid (thereB b wt = false) := HHT.out (by rw [HC2.out]; simpa using hyx)
            rw [show (y == x) = false by simpa using hyx]
            clear hyx r0 r1 r2
            go_wp2_with fail
            go_ret
            exact ⟨by rw [HY.out]; rfl, HB.out.drew⟩
    · obtain rfl : k = wt.length := by omega
      have HNE := HN.out
      rw [List.take_length] at HNE
      have HNE' := hide HNE
      clear HNE
      go_wp2_with fail
      go_ret
      exact ⟨by rw [HNE'.out]; rfl, HB.out⟩
end Go.Proofs.YtoomnijgdpbphaaGreatDoor

namespace Go.Proofs.YtoomnijgdpbphaaGreatDoor
open Go.RowKit
set_option maxRecDepth 100000

def keptA (after : Fs) (c : List UInt8) (f : List UInt8 × List UInt8) : Bool := match look after f.1 with
  | some y => decide (y = f.2) || (decide (f.1 = cpF) && decide (y = c))
  | none => false
def keptN (b wt : Fs) (c : List UInt8) (f : List UInt8 × List UInt8) : Bool := match look b f.1 with
  | some _ => true
  | none => (match look wt f.1 with | some y => decide (f.2 = y) | none => false) || (decide (f.1 = cpF) && decide (f.2 = c))
theorem all_snoc {α : Type} (g : α → Bool) (l : List α) (k : Nat) (h : k < l.length) : (l.take (k + 1)).all g = ((l.take k).all g && g l[k]) := by
  rw [take_snoc l k h, List.all_append, List.all_cons, List.all_nil, Bool.and_true]
theorem all_miss {α : Type} (g : α → Bool) {l : List α} {k : Nat} (h : k < l.length) (hc : g l[k] = false) : l.all g = false := by
  rw [List.all_eq_false]
  exact ⟨l[k], List.getElem_mem h, by rw [← Bool.not_eq_true] at hc; exact hc⟩

set_option maxHeartbeats 400000 in
theorem kept_any (v1 v2 v3 : Value) (b af wt : Fs) (c : List UInt8) (w : World) (hb : b.length ≤ 1000000000) (ha : af.length ≤ 1000000000) (hw : wt.length ≤ 1000000000) (h1 : Fss w v1 b) (h2 : Fss w v2 af) (h3 : Fss w v3 wt) :
    Calls Tryz.prog 35 #[v1, v2, v3, .string ⟨c.toArray⟩] w fun r w' => r = .returned (.bool (keptB b af wt c)) ∧ Below w.heap.size w w' := by
  have H1 := hide h1
  have H2 := hide h2
  have H3 := hide h3
  have HK1 : Hid (b.all (keptA af c) = false → keptB b af wt c = false) := fun h => by
    show (b.all (keptA af c) && _) = false
    rw [h, Bool.false_and]
  obtain ⟨a1, c1, rfl, hc1, -⟩ := h1
  obtain ⟨a2, c2, rfl, hc2, -⟩ := h2
  obtain ⟨a3, c3, rfl, hc3, -⟩ := h3
  clear hc1 hc2 hc3
  go_enter Tryz.func35, Tryz.ntmps35
  go_wp2_with fail
  go_loopw [9] (fun i wr => ∃ k : Nat, k ≤ b.length ∧ i = .int .i64 k ∧ Below w.heap.size w wr ∧ (b.take k).all (keptA af c) = true) (fun i _ => b.length - (intOf i).toNat)
  case atStart => exact ⟨0, Nat.zero_le _, rfl, Below.refl _ _, rfl⟩
  case round =>
    obtain ⟨k, hk, rfl, hbe, hno⟩ := hrel
    have HB := hide hbe
    have HN := hide hno
    clear hbe hno
    by_cases hlt : k < b.length
    · have HSN := hide (all_snoc (keptA af c) b k hlt)
      have HHT : Hid (keptA af c b[k] = false → keptB b af wt c = false) := fun h => HK1.out (all_miss _ hlt h)
      obtain ⟨-, -, hx2'⟩ := H1.out.at
      obtain ⟨b2, o2, rfl, hx2⟩ := hx2' (by omega)
      obtain ⟨y0, y1⟩ := hx2 k hlt
      obtain ⟨⟨p, x⟩, hpx⟩ : ∃ f, b[k] = f := ⟨_, rfl⟩
      rw [hpx] at y0 y1 HSN HHT
      unfold txv at y0 y1
      have r0 : wr.cell? ⟨b2, o2 + k * 2, none⟩ = some (.string ⟨p.toArray⟩) := by rw [HB.out.cell (p := ⟨b2, _, none⟩) (cell_lt y0)]; exact y0
      have r1 : wr.cell? ⟨b2, o2 + k * 2 + 1, none⟩ = some (.string ⟨x.toArray⟩) := by rw [HB.out.cell (p := ⟨b2, _, none⟩) (cell_lt y1)]; exact y1
      clear y0 y1 hpx hx2 hx2'
      go_wp2_with fail
      refine (refFind_any _ af p wr ha (H2.out.below HB.out)).mono ?_
      rintro r w1 ⟨rfl, rfl⟩
      have HC1 : Hid (keptA af c (p, x) = match look af p with | some y => decide (y = x) || (decide (p = cpF) && decide (y = c)) | none => false) := rfl
      cases e : ixF af p with
      | none =>
        have he : ixI af p = -1 := by unfold ixI; rw [e]
        rw [he]
        have HY : Hid (keptB b af wt c = false) := HHT.out (by rw [HC1.out, (ixF_none e).1])
        clear e he
        go_wp2_with fail
        go_region
        all_goals
          go_wp2_with fail
          go_ret
          exact ⟨by rw [HY.out]; rfl, HB.out.drew⟩
      | some j =>
        have he : ixI af p = j := by unfold ixI; rw [e]
        rw [he]
        obtain ⟨hj, -, hlk, -⟩ := ixF_some e
        obtain ⟨-, -, hx1'⟩ := H2.out.at
        obtain ⟨b1, o1, rfl, hx1⟩ := hx1' (by omega)
        obtain ⟨-, z1⟩ := hx1 j hj
        obtain ⟨y, hy⟩ : ∃ y, af[j].2 = y := ⟨_, rfl⟩
        rw [hy] at z1 hlk
        unfold txv at z1
        have r2 : w1.cell? ⟨b1, o1 + j * 2 + 1, none⟩ = some (.string ⟨y.toArray⟩) := by rw [HB.out.cell (p := ⟨b1, _, none⟩) (cell_lt z1)]; exact z1
        have HC2 : Hid (keptA af c (p, x) = (decide (y = x) || (decide (p = cpF) && decide (y = c)))) := by
          show _ = _
          rw [HC1.out, hlk]
        have hj0 : decide ((j : Int) < 0) = false := by simp
        clear e he hx1 hx1' z1 hy hlk
        have HGO : Hid ((decide (y = x) || (decide (p = cpF) && decide (y = c))) = true → (b.take (k + 1)).all (keptA af c) = true) := fun h => by
          rw [HSN.out, HN.out, HC2.out, h]
          rfl
        have HST : Hid ((decide (y = x) || (decide (p = cpF) && decide (y = c))) = false → keptB b af wt c = false) := fun h => HHT.out (by rw [HC2.out]; exact h)
        clear HC1 HC2 HSN HHT
        by_cases hyx : y = x
        · have hA : (y == x) = true := by simpa using hyx
          have HN' := hide (HGO.out (by simp [hyx]))
          clear hyx
          go_wp2_with fail
          go_region
          all_goals
            clear hA r0 r1 r2
            go_wp2_with fail
            go_round
            case rel => exact ⟨k + 1, by omega, by go_num, HB.out.drew, HN'.out⟩
            case measure => simp [intOf]; omega
        · have hA : (y == x) = false := by simpa using hyx
          by_cases hpc : p = cpF
          · have hB : (p == [99, 104, 101, 99, 107, 112, 111, 105, 110, 116]) = true := by simpa [cpF] using hpc
            by_cases hyc : y = c
            · have hC : (y == c) = true := by simpa using hyc
              have HN' := hide (HGO.out (by simp [hpc, hyc]))
              clear hyx hpc hyc
              go_wp2_with fail
              go_region
              all_goals
                clear hA hB hC r0 r1 r2
                go_wp2_with fail
                go_round
                case rel => exact ⟨k + 1, by omega, by go_num, HB.out.drew, HN'.out⟩
                case measure => simp [intOf]; omega
            · have hC : (y == c) = false := by simpa using hyc
              have HY := hide (HST.out (by simp [hyx, hyc]))
              clear hyx hpc hyc
              go_wp2_with fail
              go_region
              all_goals
                clear hA hB hC r0 r1 r2
                go_wp2_with fail
                go_ret
                exact ⟨by rw [HY.out]; rfl, HB.out.drew⟩
          · have hB : (p == [99, 104, 101, 99, 107, 112, 111, 105, 110, 116]) = false := by simpa [cpF] using hpc
            have HY := hide (HST.out (by simp [hyx, hpc]))
            clear hyx hpc
            go_wp2_with fail
            go_region
            all_goals
              clear hA hB r0 r1 r2
              go_wp2_with fail
              go_ret
              exact ⟨by rw [HY.out]; rfl, HB.out.drew⟩
    · obtain rfl : k = b.length := by omega
      have HNE := HN.out
      rw [List.take_length] at HNE
      have HK2 : Hid (keptB b af wt c = af.all (keptN b wt c)) := by
        show (b.all (keptA af c) && af.all (keptN b wt c)) = _
        rw [HNE, Bool.true_and]
      have HB0 := hide HB.out
      clear HNE HN HB
      go_wp2_with fail
      go_loopw [11] (fun i wr => ∃ k : Nat, k ≤ af.length ∧ i = .int .i64 k ∧ Below w.heap.size w wr ∧ (af.take k).all (keptN b wt c) = true) (fun i _ => af.length - (intOf i).toNat)
      case atStart => exact ⟨0, Nat.zero_le _, rfl, HB0.out, rfl⟩
      case round =>
        obtain ⟨k, hk, rfl, hbe, hno⟩ := hrel
        have HB := hide hbe
        have HN := hide hno
        clear hbe hno
        by_cases hlt : k < af.length
        · have HSN := hide (all_snoc (keptN b wt c) af k hlt)
          have HHT : Hid (keptN b wt c af[k] = false → keptB b af wt c = false) := fun h => by rw [HK2.out]; exact all_miss _ hlt h
          obtain ⟨-, -, hx2'⟩ := H2.out.at
          obtain ⟨b2, o2, rfl, hx2⟩ := hx2' (by omega)
          obtain ⟨y0, y1⟩ := hx2 k hlt
          obtain ⟨⟨p, x⟩, hpx⟩ : ∃ f, af[k] = f := ⟨_, rfl⟩
          rw [hpx] at y0 y1 HSN HHT
          unfold txv at y0 y1
          have r0 : wr.cell? ⟨b2, o2 + k * 2, none⟩ = some (.string ⟨p.toArray⟩) := by rw [HB.out.cell (p := ⟨b2, _, none⟩) (cell_lt y0)]; exact y0
          have r1 : wr.cell? ⟨b2, o2 + k * 2 + 1, none⟩ = some (.string ⟨x.toArray⟩) := by rw [HB.out.cell (p := ⟨b2, _, none⟩) (cell_lt y1)]; exact y1
          clear y0 y1 hpx hx2 hx2'
          have HGO : Hid (keptN b wt c (p, x) = true → (af.take (k + 1)).all (keptN b wt c) = true) := fun h => by
            rw [HSN.out, HN.out, h]
            rfl
          have HC1 : Hid (keptN b wt c (p, x) = match look b p with | some _ => true | none => (match look wt p with | some y => decide (x = y) | none => false) || (decide (p = cpF) && decide (x = c))) := rfl
          clear HSN
          go_wp2_with fail
          refine (refFind_any _ b p wr hb (H1.out.below HB.out)).mono ?_
          rintro r w1 ⟨rfl, rfl⟩
          go_wp2_with fail
          refine (refFind_any _ wt p w1 hw (H3.out.below HB.out)).mono ?_
          rintro r w2 ⟨rfl, rfl⟩
          cases e : ixF b p with
          | some j =>
            have he : ixI b p = j := by unfold ixI; rw [e]
            rw [he]
            obtain ⟨hj, -, hlk, -⟩ := ixF_some e
            have HN' := hide (HGO.out (by rw [HC1.out, hlk]))
            have hj0 : decide ((j : Int) < 0) = false := by simp
            generalize ixI wt p = jj
            clear e he hj hlk
            go_wp2_with fail
            go_region
            all_goals
              clear hj0 r0 r1
              go_wp2_with fail
              go_round
              case rel => exact ⟨k + 1, by omega, by go_num, HB.out.drew, HN'.out⟩
              case measure => simp [intOf]; omega
          | none =>
            have he : ixI b p = -1 := by unfold ixI; rw [e]
            rw [he]
            have hlb := (ixF_none e).1
            clear e he
            cases e2 : ixF wt p with
            | none =>
              have he2 : ixI wt p = -1 := by unfold ixI; rw [e2]
              rw [he2]
              have HC2 : Hid (keptN b wt c (p, x) = (decide (p = cpF) && decide (x = c))) := by
                show _ = _
                rw [HC1.out, hlb, (ixF_none e2).1]
                rfl
              clear e2 he2 hlb HC1
              by_cases hpc : p = cpF
              · have hB : (p == [99, 104, 101, 99, 107, 112, 111, 105, 110, 116]) = true := by simpa [cpF] using hpc
                by_cases hxc : x = c
                · have hC : (x == c) = true := by simpa using hxc
                  have HN' := hide (HGO.out (by rw [HC2.out]; simp [hpc, hxc]))
                  clear hpc hxc
                  go_wp2_with fail
                  go_region
                  all_goals
                    clear hB hC r0 r1
                    go_wp2_with fail
                    go_round
                    case rel => exact ⟨k + 1, by omega, by go_num, HB.out.drew, HN'.out⟩
                    case measure => simp [intOf]; omega
                · have hC : (x == c) = false := by simpa using hxc
                  have HY := hide (HHT.out (by rw [HC2.out]; simp [hxc]))
                  clear hpc hxc
                  go_wp2_with fail
                  go_region
                  all_goals
                    clear hB hC r0 r1
                    go_wp2_with fail
                    go_ret
                    exact ⟨by rw [HY.out]; rfl, HB.out.drew⟩
              · have hB : (p == [99, 104, 101, 99, 107, 112, 111, 105, 110, 116]) = false := by simpa [cpF] using hpc
                have HY := hide (HHT.out (by rw [HC2.out]; simp [hpc]))
                clear hpc
                go_wp2_with fail
                go_region
                all_goals
                  clear hB r0 r1
                  go_wp2_with fail
                  go_ret
                  exact ⟨by rw [HY.out]; rfl, HB.out.drew⟩
            | some j =>
              have he2 : ixI wt p = j := by unfold ixI; rw [e2]
              rw [he2]
              obtain ⟨hj, -, hlk, -⟩ := ixF_some e2
              obtain ⟨-, -, hx1'⟩ := H3.out.at
              obtain ⟨b1, o1, rfl, hx1⟩ := hx1' (by omega)
              obtain ⟨-, z1⟩ := hx1 j hj
              obtain ⟨y, hy⟩ : ∃ y, wt[j].2 = y := ⟨_, rfl⟩
              rw [hy] at z1 hlk
              unfold txv at z1
              have r2 : w2.cell? ⟨b1, o1 + j * 2 + 1, none⟩ = some (.string ⟨y.toArray⟩) := by rw [HB.out.cell (p := ⟨b1, _, none⟩) (cell_lt z1)]; exact z1
              have HC2 : Hid (keptN b wt c (p, x) = (decide (x = y) || (decide (p = cpF) && decide (x = c)))) := by
                show _ = _
                rw [HC1.out, hlb, hlk]
              have hj0 : decide ((j : Int) < 0) = false := by simp
              clear e2 he2 hx1 hx1' z1 hy hlk hlb HC1
              by_cases hxy : x = y
              · have hA : (x == y) = true := by simpa using hxy
                have HN' := hide (HGO.out (by rw [HC2.out]; simp [hxy]))
                clear hxy
                go_wp2_with fail
                go_region
                all_goals
                  clear hA hj0 r0 r1 r2
                  go_wp2_with fail
                  go_round
                  case rel => exact ⟨k + 1, by omega, by go_num, HB.out.drew, HN'.out⟩
                  case measure => simp [intOf]; omega
              · have hA : (x == y) = false := by simpa using hxy
                have HC3 : Hid (keptN b wt c (p, x) = (decide (p = cpF) && decide (x = c))) := by
                  show _ = _
                  rw [HC2.out]
                  simp [hxy]
                clear hxy HC2
                by_cases hpc : p = cpF
                · have hB : (p == [99, 104, 101, 99, 107, 112, 111, 105, 110, 116]) = true := by simpa [cpF] using hpc
                  by_cases hxc : x = c
                  · have hC : (x == c) = true := by simpa using hxc
                    have HN' := hide (HGO.out (by rw [HC3.out]; simp [hpc, hxc]))
                    clear hpc hxc
                    go_wp2_with fail
                    go_region
                    all_goals
                      clear hB hC hA hj0 r0 r1 r2
                      go_wp2_with fail
                      go_round
                      case rel => exact ⟨k + 1, by omega, by go_num, HB.out.drew, HN'.out⟩
                      case measure => simp [intOf]; omega
                  · have hC : (x == c) = false := by simpa using hxc
                    have HY := hide (HHT.out (by rw [HC3.out]; simp [hxc]))
                    clear hpc hxc
                    go_wp2_with fail
                    go_region
                    all_goals
                      clear hB hC hA hj0 r0 r1 r2
                      go_wp2_with fail
                      go_ret
                      exact ⟨by rw [HY.out]; rfl, HB.out.drew⟩
                · have hB : (p == [99, 104, 101, 99, 107, 112, 111, 105, 110, 116]) = false := by simpa [cpF] using hpc
                  have HY := hide (HHT.out (by rw [HC3.out]; simp [hpc]))
                  clear hpc
                  go_wp2_with fail
                  go_region
                  all_goals
                    clear hB hA hj0 r0 r1 r2
                    go_wp2_with fail
                    go_ret
                    exact ⟨by rw [HY.out]; rfl, HB.out.drew⟩
        · obtain rfl : k = af.length := by omega
          have HNF := HN.out
          rw [List.take_length] at HNF
          have HNF' : Hid (keptB b af wt c = true) := by
            show _ = _
            rw [HK2.out, HNF]
          clear HNF
          go_wp2_with fail
          go_ret
          exact ⟨by rw [HNF'.out]; rfl, HB.out⟩
end Go.Proofs.YtoomnijgdpbphaaGreatDoor
