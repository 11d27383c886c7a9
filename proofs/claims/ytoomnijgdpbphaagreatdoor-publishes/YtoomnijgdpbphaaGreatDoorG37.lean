import Derived.Test.YtoomnijgdpbphaaGreatDoorG33
import Derived.Test.YtoomnijgdpbphaaGreatDoorG36

namespace Go.Proofs.YtoomnijgdpbphaaGreatDoor
open Go.RowKit
set_option maxRecDepth 100000

/-- What plain's publisher holds. -/
def PlAt (w : World) (pb lb : Nat) : Prop := w.heap[pb]? = some (.cells #[.pointer (some ⟨lb, 0, none⟩)] 88 (0, 0))
def ETy (w : World) : Prop := w.cell? ⟨7, 0, none⟩ = some (tyV 39)
theorem ETy.below {w w' : World} (h : ETy w) (hb : Below w.heap.size w w') : ETy w' := by
  unfold ETy at *
  rw [hb.cell (p := ⟨_, 0, none⟩) (cell_lt h)]
  exact h
theorem DiskAt.later {w w' : World} {O : Nat → Prop} {db : Nat} {d : Dk} {a : World} (h : DiskAt w (Ext O a w) db d) (hb : Below w.heap.size w w') : DiskAt w' (Ext O a w') db d := (h.stay (O1 := fun _ => False) (T := []) (.of_below hb) (by simp) (by simp)).mono (fun _ h => Ext.more hb.size _ h)
theorem LogAt.later {w w' : World} {O : Nat → Prop} {db lb : Nat} {l : Lg} {a : World} (h : LogAt w (Ext O a w) db lb l) (hb : Below w.heap.size w w') : LogAt w' (Ext O a w') db lb l := (h.stay (O1 := fun _ => False) (T := []) (.of_below hb) (by simp) (by simp) (by simp)).mono (fun _ h => Ext.more hb.size _ h)

theorem results_tmp_cell {P : Program} {fn : Func} {p u : Tmp} {ty : TypeId} (h : fn.results = #[.tmp u, .cell p ty]) (tmps : Array Value) (w : World) (g : Nat) (t : TypeId) (cs : Array Value) (fr : Nat × Nat) (d : TypeDesc)
    (hp : tmps.getD p undef = .pointer (some ⟨g, 0, none⟩)) (hg : w.heap[g]? = some (.cells cs t fr))
    (hu : P.underlying ty = some d) (hd : (match d with | .struct _ | .array _ _ => true | _ => false) = true) (hi : (P.info? ty).map (·.size) = some cs.size) (x : Value) (hx : tmps.getD u undef = x) :
    (results fn tmps).run P w = .ok (.tuple #[x, .agg cs]) w := by
  have hl := run_loadVar_row (P := P) w g t ty cs fr d hg hu hd hi
  simp only [Array.getD_eq_getD_getElem?] at hp hx
  simp [results, h, hp, hx, asAddr, hl]
/-- A call's own cells for what an error is told as, untouched. -/
def TRow (B : Nat) (w : World) : Prop := w.heap[B]? = some (.cells #[.int .i64 0, .string ⟨#[]⟩] 26 (0, 0))
theorem TRow.below {B : Nat} {w w' : World} (h : TRow B w) (hb : Below w.heap.size w w') : TRow B w' := by
  unfold TRow at *
  rw [hb.block _ (heap_some_lt h)]
  exact h
theorem TRow.turn {B : Nat} {w w' : World} {O : Nat → Prop} {T : List Nat} (h : TRow B w) (ht : Turn O T w w') (hT : 26 ∉ T) : TRow B w' := ht.keep h hT
/-- The last two stores: into the call's own cells. -/
theorem turn_sets2 {O : Nat → Prop} {T : List Nat} {w W : World} {u v : Value} {i j : Nat} (h : Turn O T w W) : Turn O T w ((W.setCell ⟨w.heap.size, i, none⟩ u).setCell ⟨w.heap.size, j, none⟩ v) := (h.setNew (Nat.le_refl _) _ _).setNew (Nat.le_refl _) _ _
theorem DiskAt.sets2 {W w : World} {O : Nat → Prop} {db : Nat} {d : Dk} {u v : Value} {i j B : Nat} (h : DiskAt W (Ext O w W) db d) (hr : TRow B W) : DiskAt ((W.setCell ⟨B, i, none⟩ u).setCell ⟨B, j, none⟩ v) (Ext O w ((W.setCell ⟨B, i, none⟩ u).setCell ⟨B, j, none⟩ v)) db d := by
  have t1 : Turn (fun _ => True) [26] W (W.setCell ⟨B, i, none⟩ u) := (Turn.refl _ _ _).set (.inl trivial) hr (by simp) u
  have t2 : Turn (fun _ => True) [26] (W.setCell ⟨B, i, none⟩ u) ((W.setCell ⟨B, i, none⟩ u).setCell ⟨B, j, none⟩ v) := (Turn.refl _ _ _).set (.inl trivial) (dset hr i u) (by simp) v
  exact ((h.stay t1 (by decide) (by decide)).stay t2 (by decide) (by decide)).mono (fun k hk => ext_set k (ext_set k hk))
theorem LogAt.sets2 {W w : World} {O : Nat → Prop} {db lb : Nat} {l : Lg} {u v : Value} {i j B : Nat} (h : LogAt W (Ext O w W) db lb l) (hr : TRow B W) : LogAt ((W.setCell ⟨B, i, none⟩ u).setCell ⟨B, j, none⟩ v) (Ext O w ((W.setCell ⟨B, i, none⟩ u).setCell ⟨B, j, none⟩ v)) db lb l := by
  have t1 : Turn (fun _ => True) [26] W (W.setCell ⟨B, i, none⟩ u) := (Turn.refl _ _ _).set (.inl trivial) hr (by simp) u
  have t2 : Turn (fun _ => True) [26] (W.setCell ⟨B, i, none⟩ u) ((W.setCell ⟨B, i, none⟩ u).setCell ⟨B, j, none⟩ v) := (Turn.refl _ _ _).set (.inl trivial) (dset hr i u) (by simp) v
  exact ((h.stay t1 (by decide) (by decide) (by decide)).stay t2 (by decide) (by decide) (by decide)).mono (fun k hk => ext_set k (ext_set k hk))

set_option maxHeartbeats 400000 in
theorem psize_any (O : Nat → Prop) (db pb lb : Nat) (l : Lg) (w : World) (hp : PlAt w pb lb) (h : LogAt w O db lb l) :
    Calls Tryz.prog 17 #[.pointer (some ⟨pb, 0, none⟩)] w fun r w' => r = .returned (.int .i64 (l.es.length : Int)) ∧ w' = w := by
  obtain ⟨c0, f0⟩ := dcell hp 0 _ rfl
  have HL := hide h
  clear h hp
  go_enter Tryz.func17, Tryz.ntmps17
  go_wp2_with fail
  refine (size_any O db lb l w HL.out).mono ?_
  rintro r w1 ⟨rfl, rfl⟩
  go_wp2_with fail
  go_ret
  exact ⟨rfl, rfl⟩

set_option maxHeartbeats 1000000 in
theorem ppublish_any (O : Nat → Prop) (W : World) (at_ : Nat → Addr) (hE : Env W) (hSN : Sents W at_) (hET : ETy W) (hOW : ∀ k, O k → W.heap.size ≤ k) (db pb lb : Nat) (d : Dk) (l : Lg) (w : World) (hn : d.fs.length + (todo l.es l.put).length ≤ 900000000) (he : l.es.length ≤ 1000000) (hput : l.put ≤ l.es.length) (h20 : ∀ e ∈ l.es, e.length ≤ 20) (hk : l.key.length ≤ 9223372036854775807) (hW : Below W.heap.size W w) (hp : PlAt w pb lb) (h : DiskAt w O db d) (hL : LogAt w O db lb l) :
    Calls Tryz.prog 29 #[.pointer (some ⟨pb, 0, none⟩)] w fun r w' => Turn O pT w w' ∧
      ((l.live = false ∧ r = .returned (.tuple #[.int .i64 0, told 7]) ∧ Below w.heap.size w w') ∨
       (l.live = true ∧ (pubD (todo l.es l.put) (signF l.es.length (rootT l.es) l.key) d).1 = none ∧ r = .returned (.tuple #[.int .i64 (l.es.length : Int), told 0]) ∧ DiskAt w' (Ext O w w') db (pubD (todo l.es l.put) (signF l.es.length (rootT l.es) l.key) d).2 ∧ LogAt w' (Ext O w w') db lb { l with put := l.es.length }) ∨
       (l.live = true ∧ ∃ p, (pubD (todo l.es l.put) (signF l.es.length (rootT l.es) l.key) d).1 = some p ∧ r = .returned (.tuple #[.int .i64 0, toldP 8 p]) ∧ DiskAt w' (Ext O w w') db (pubD (todo l.es l.put) (signF l.es.length (rootT l.es) l.key) d).2 ∧ LogAt w' (Ext O w w') db lb { l with live := false })) := by
  have hc0 : ∀ o, (w.alloc o).cell? ⟨pb, 0, none⟩ = some (.pointer (some ⟨lb, 0, none⟩)) := fun o => by
    rw [cell_old _ _ ⟨_, 0, none⟩ (heap_some_lt hp)]
    exact (dcell hp 0 _ rfl).1
  have hb0 : Below w.heap.size w (w.alloc (.cells #[.int .i64 0, .string ⟨#[]⟩] 26)) := below_alloc _ _
  have hpub := publish_any O W at_ hE hSN hOW db lb d l (w.alloc (.cells #[.int .i64 0, .string ⟨#[]⟩] 26)) hn he hput h20 hk (hW.trans (hb0.mono hW.size)) (h.stay (O1 := fun _ => False) (T := []) (.of_below hb0) (by simp) (by simp)) (hL.stay (O1 := fun _ => False) (T := []) (.of_below hb0) (by simp) (by simp) (by simp))
  generalize pubD (todo l.es l.put) (signF l.es.length (rootT l.es) l.key) d = pr at hpub ⊢
  have HW := hide hW
  have HO := hide hOW
  have HS := hide hSN
  have HT := hide hET
  have hT0 : Turn O pT w (w.alloc (.cells #[.int .i64 0, .string ⟨#[]⟩] 26)) := (Turn.refl _ _ _).alloc _
  have HR0 : Hid (TRow w.heap.size (w.alloc (.cells #[.int .i64 0, .string ⟨#[]⟩] 26))) := heap_alloc_last _ _
  have HT0 := hide hT0
  have HB0 := hide hb0
  clear h hL h20 hW hOW hE hSN hET hp hn he hput hk hT0 hb0
  go_enter Tryz.func29, Tryz.ntmps29
  go_wp2_with fail
  refine hpub.mono ?_
  clear hpub hc0
  generalize w.alloc (.cells #[.int .i64 0, .string ⟨#[]⟩] 26) = w0 at *
  rintro r w2 ⟨ht2, hres⟩
  have HT2 : Hid (Turn O pT w w2) := HT0.out.trans (ht2.mono (fun _ h => .inl h) (fun _ h => h))
  have HR2 : Hid (TRow w.heap.size w2) := HR0.out.turn ht2 (by decide)
  have HB2 : Hid (Below W.heap.size W w2) := HW.out.trans (HT2.out.below HO.out HW.out.size)
  have HX : Hid (∀ k, Ext O w0 w2 k → Ext O w w2 k) := fun k hk => by
    rcases hk with h | h
    · exact .inl h
    · exact .inr ⟨Nat.le_trans HT0.out.size h.1, h.2⟩
  clear ht2
  rcases hres with ⟨hlv, rfl, hb⟩ | ⟨hlv, hno, rfl, hd, hl⟩ | ⟨hlv, p, e, hsm, rfl, hge, hd, hl⟩
  · have HB := hide hb
    have HLV := hide hlv
    unfold errS
    clear hb hlv
    go_wp2_with fail
    refine (of_sent6 at_ w2 (sents_below HS.out HB2.out)).mono ?_
    rintro r w3 ⟨rfl, hb3⟩
    have HB3 := hide hb3
    have HR3 := hide (HR2.out.below hb3)
    obtain ⟨c0, z0⟩ := dcell HR3.out 0 _ rfl
    obtain ⟨c1, z1⟩ := dcell HR3.out 1 _ rfl
    clear hb3
    unfold told
    go_wp2_with fail
    exact bodyPost_ret (v := .tuple #[.int .i64 0, .agg #[.int .i64 7, .string ⟨([] : List UInt8).toArray⟩]]) (results_tmp_cell Tryz.results29 _ _ w.heap.size 26 _ (0, 0) _ rfl (told_end HR3.out _ _ rfl) Tryz.underlying26 rfl (by kernel_rfl) _ rfl) rfl ⟨turn_sets2 (HT2.out.then_below HB3.out), .inl ⟨HLV.out, rfl, below_sets2 ((HB0.out.trans (HB.out.mono HB0.out.size)).trans (HB3.out.mono HT2.out.size))⟩⟩
  · have HD := hide (hd.mono HX.out)
    have HL := hide (hl.mono HX.out)
    have HN := hide (And.intro hlv hno)
    clear hd hl hlv hno
    go_wp2_with fail
    refine (of_nil at_ w2 (sents_below HS.out HB2.out)).mono ?_
    rintro r w3 ⟨rfl, hb3⟩
    have HB3 := hide hb3
    have HR3 := hide (HR2.out.below hb3)
    obtain ⟨c0, z0⟩ := dcell HR3.out 0 _ rfl
    obtain ⟨c1, z1⟩ := dcell HR3.out 1 _ rfl
    clear hb3
    unfold told
    go_wp2_with fail
    exact bodyPost_ret (v := .tuple #[.int .i64 (l.es.length : Int), .agg #[.int .i64 0, .string ⟨([] : List UInt8).toArray⟩]]) (results_tmp_cell Tryz.results29 _ _ w.heap.size 26 _ (0, 0) _ rfl (told_end HR3.out _ _ rfl) Tryz.underlying26 rfl (by kernel_rfl) _ rfl) rfl ⟨turn_sets2 (HT2.out.then_below HB3.out), .inr (.inl ⟨HN.out.1, HN.out.2, rfl, (HD.out.later HB3.out).sets2 HR3.out, (HL.out.later HB3.out).sets2 HR3.out⟩)⟩
  · obtain ⟨g, rfl⟩ : ∃ g, e = .iface 62 (.pointer (some ⟨g, 0, none⟩)) := by
      rcases gotErr_cases hge with ⟨h, -⟩ | ⟨-, h⟩
      · simp at h
      · exact h
    have HPE : Hid (PErr w2 g p) := by
      rcases hge with ⟨h, -⟩ | ⟨-, g', e', -, h⟩
      · simp at h
      · unfold pathE at e'
        simp only [Value.iface.injEq, Value.pointer.injEq, Option.some.injEq, Addr.mk.injEq, true_and, and_true] at e'
        rw [e']
        exact h
    have HD := hide (hd.mono HX.out)
    have HL := hide (hl.mono HX.out)
    have HN := hide (And.intro hlv hsm)
    clear hd hl hlv hsm hge
    go_wp2_with fail
    refine (of_own at_ g p w2 (sents_below HS.out HB2.out) (HT.out.below HB2.out) HPE.out).mono ?_
    rintro r w3 ⟨rfl, hb3⟩
    have HB3 := hide hb3
    have HR3 := hide (HR2.out.below hb3)
    obtain ⟨c0, z0⟩ := dcell HR3.out 0 _ rfl
    obtain ⟨c1, z1⟩ := dcell HR3.out 1 _ rfl
    clear hb3
    unfold toldP
    go_wp2_with fail
    exact bodyPost_ret (v := .tuple #[.int .i64 0, .agg #[.int .i64 8, .string ⟨p.toArray⟩]]) (results_tmp_cell Tryz.results29 _ _ w.heap.size 26 _ (0, 0) _ rfl (told_end HR3.out _ _ rfl) Tryz.underlying26 rfl (by kernel_rfl) _ rfl) rfl ⟨turn_sets2 (HT2.out.then_below HB3.out), .inr (.inr ⟨HN.out.1, p, HN.out.2, rfl, (HD.out.later HB3.out).sets2 HR3.out, (HL.out.later HB3.out).sets2 HR3.out⟩)⟩
end Go.Proofs.YtoomnijgdpbphaaGreatDoor

namespace Go.Proofs.YtoomnijgdpbphaaGreatDoor
open Go.RowKit
set_option maxRecDepth 100000

set_option maxHeartbeats 1000000 in
theorem popen_any (O : Nat → Prop) (W : World) (at_ : Nat → Addr) (hE : Env W) (hSN : Sents W at_) (hET : ETy W) (hOW : ∀ k, O k → W.heap.size ≤ k) (db : Nat) (d : Dk) (key : List UInt8) (w : World) (hn : d.fs.length ≤ 1000000000) (hl : ∀ f ∈ d.fs, f.2.length ≤ 1048576) (hk : key.length ≤ 9223372036854775807) (hc : Calm d) (hW : Below W.heap.size W w) (h : DiskAt w O db d)
    (s : List Nat) (hs : Among (look d.fs) s) (hsl : s.length ≤ 100000) :
    Calls Tryz.prog 26 #[dptr db, txv key] w fun r w' => ∃ (d' : Dk), Turn O rT w w' ∧ DiskAt w' (Ext O w w') db d' ∧ d'.fs = d.fs ∧ tk d' = tk d ∧
      ((d'.hit = true ∧ ∃ p, r = .returned (.tuple #[.pointer none, toldP 8 p])) ∨ (Calm d' ∧ ∃ (err : Int) (p : List UInt8) (es : List (List UInt8)) (m : Nat), OpenIs (look d.fs) key err p es m ∧
        ((err = 0 ∧ ∃ pb lb, r = .returned (.tuple #[.pointer (some ⟨pb, 0, none⟩), told 0]) ∧ w.heap.size ≤ pb ∧ w.heap.size ≤ lb ∧ PlAt w' pb lb ∧ LogAt w' (Ext O w w') db lb { key := key, es := es, put := 0, live := true }) ∨
         (err ≠ 0 ∧ r = .returned (.tuple #[.pointer none, toldP err p]))))) := by
  have hb0 : Below w.heap.size w (w.alloc (.cells #[.int .i64 0, .string ⟨#[]⟩] 26)) := below_alloc _ _
  have hopen := open_any O W at_ hE hSN hOW db d key (w.alloc (.cells #[.int .i64 0, .string ⟨#[]⟩] 26)) hn hl hk hc (hW.trans (hb0.mono hW.size)) (h.stay (O1 := fun _ => False) (T := []) (.of_below hb0) (by simp) (by simp)) s hs hsl
  have HW := hide hW
  have HO := hide hOW
  have HS := hide hSN
  have HT := hide hET
  have hT0 : Turn O rT w (w.alloc (.cells #[.int .i64 0, .string ⟨#[]⟩] 26)) := (Turn.refl _ _ _).alloc _
  have HR0 : Hid (TRow w.heap.size (w.alloc (.cells #[.int .i64 0, .string ⟨#[]⟩] 26))) := heap_alloc_last _ _
  have HT0 := hide hT0
  clear h hl hW hOW hE hSN hET hn hk hT0 hb0 hc hs hsl
  have htx : txv key = .string ⟨key.toArray⟩ := rfl
  have hdp : dptr db = .pointer (some ⟨db, 0, none⟩) := rfl
  rw [htx, hdp] at hopen
  rw [htx, hdp]
  clear htx hdp
  go_enter Tryz.func26, Tryz.ntmps26
  go_wp2_with fail
  refine hopen.mono ?_
  clear hopen
  generalize w.alloc (.cells #[.int .i64 0, .string ⟨#[]⟩] 26) = w0 at *
  rintro r w2 ⟨d', ht2, hd2, hf2, hu2, hres⟩
  have HT2 : Hid (Turn O rT w w2) := HT0.out.trans (ht2.mono (fun _ h => .inl h) (fun _ h => h))
  have HR2 : Hid (TRow w.heap.size w2) := HR0.out.turn ht2 (by decide)
  have HB2 : Hid (Below W.heap.size W w2) := HW.out.trans (HT2.out.below HO.out HW.out.size)
  have HX : Hid (∀ k, Ext O w0 w2 k → Ext O w w2 k) := fun k hk => by
    rcases hk with h | h
    · exact .inl h
    · exact .inr ⟨Nat.le_trans HT0.out.size h.1, h.2⟩
  have HD2 := hide (hd2.mono HX.out)
  have HF2 := hide (And.intro hf2 hu2)
  have hsz2 := hide HT2.out.size
  clear ht2 hd2 hf2 hu2
  rcases hres with ⟨hh, p, e, rfl, hge⟩ | ⟨hc2, err, p, es, m, hop, ⟨rfl, lb, rfl, hlb, hlg⟩ | ⟨rfl, rfl⟩ | ⟨rfl, rfl⟩ | ⟨rfl, g, rfl, hpg⟩⟩
  · obtain ⟨g, rfl⟩ : ∃ g, e = .iface 62 (.pointer (some ⟨g, 0, none⟩)) := by
      rcases gotErr_cases hge with ⟨h, -⟩ | ⟨-, h⟩
      · simp at h
      · exact h
    have HPE : Hid (PErr w2 g p) := by
      rcases hge with ⟨h, -⟩ | ⟨-, g', e', -, h⟩
      · simp at h
      · unfold pathE at e'
        simp only [Value.iface.injEq, Value.pointer.injEq, Option.some.injEq, Addr.mk.injEq, true_and, and_true] at e'
        rw [e']
        exact h
    have HH := hide hh
    clear hge hh
    go_wp2_with fail
    refine (of_own at_ g p w2 (sents_below HS.out HB2.out) (HT.out.below HB2.out) HPE.out).mono ?_
    rintro r w3 ⟨rfl, hb3⟩
    have HB3 := hide hb3
    have HR3 := hide (HR2.out.below hb3)
    obtain ⟨c0, z0⟩ := dcell HR3.out 0 _ rfl
    obtain ⟨c1, z1⟩ := dcell HR3.out 1 _ rfl
    clear hb3
    unfold toldP
    go_wp2_with fail
    exact bodyPost_ret (v := .tuple #[.pointer none, .agg #[.int .i64 8, .string ⟨p.toArray⟩]]) (results_tmp_cell Tryz.results26 _ _ w.heap.size 26 _ (0, 0) _ rfl (told_end HR3.out _ _ rfl) Tryz.underlying26 rfl (by kernel_rfl) _ rfl) rfl ⟨d', turn_sets2 (HT2.out.then_below HB3.out), (HD2.out.later HB3.out).sets2 HR3.out, HF2.out.1, HF2.out.2, .inl ⟨HH.out, p, rfl⟩⟩
  · have HC2 := hide hc2
    have HOP := hide hop
    have HLG := hide (hlg.mono HX.out)
    have hlb' : w.heap.size ≤ lb := Nat.le_trans HT0.out.size hlb
    have HLB := hide hlb'
    clear hc2 hop hlg hlb hlb'
    go_wp2_with fail
    have HBA : Hid (Below w2.heap.size w2 (w2.alloc (.cells #[.pointer (some ⟨lb, 0, none⟩)] 88))) := below_alloc _ _
    have HPA : Hid (PlAt (w2.alloc (.cells #[.pointer (some ⟨lb, 0, none⟩)] 88)) w2.heap.size lb) := heap_alloc_last _ _
    generalize w2.alloc (.cells #[.pointer (some ⟨lb, 0, none⟩)] 88) = wa at *
    have HRA := hide (HR2.out.below HBA.out)
    refine (of_nil at_ wa (sents_below HS.out (HB2.out.trans (HBA.out.mono HB2.out.size)))).mono ?_
    rintro r w3 ⟨rfl, hb3⟩
    have HB3 : Hid (Below w2.heap.size w2 w3) := HBA.out.trans (hb3.mono HBA.out.size)
    have HR3 := hide (HRA.out.below hb3)
    have HP3 : Hid (PlAt w3 w2.heap.size lb) := by
      show PlAt _ _ _
      unfold PlAt
      rw [hb3.block _ (heap_some_lt HPA.out)]
      exact HPA.out
    obtain ⟨c0, z0⟩ := dcell HR3.out 0 _ rfl
    obtain ⟨c1, z1⟩ := dcell HR3.out 1 _ rfl
    have hne : w.heap.size ≠ w2.heap.size := Nat.ne_of_lt (heap_some_lt HR2.out)
    have HNE := hide hne
    clear hb3 hne
    unfold told
    go_wp2_with fail
    refine bodyPost_ret (v := .tuple #[.pointer (some ⟨w2.heap.size, 0, none⟩), .agg #[.int .i64 0, .string ⟨([] : List UInt8).toArray⟩]]) (results_tmp_cell Tryz.results26 _ _ w.heap.size 26 _ (0, 0) _ rfl (told_end HR3.out _ _ rfl) Tryz.underlying26 rfl (by kernel_rfl) _ rfl) rfl ⟨d', turn_sets2 (HT2.out.then_below HB3.out), (HD2.out.later HB3.out).sets2 HR3.out, HF2.out.1, HF2.out.2, .inr ⟨HC2.out, 0, p, es, m, HOP.out, .inl ⟨rfl, w2.heap.size, lb, rfl, hsz2.out, HLB.out, ?_, (HLG.out.later HB3.out).sets2 HR3.out⟩⟩⟩
    unfold PlAt
    rw [heap_setCell_other _ _ _ _ (by show w2.heap.size ≠ w.heap.size; exact Ne.symm HNE.out), heap_setCell_other _ _ _ _ (by show w2.heap.size ≠ w.heap.size; exact Ne.symm HNE.out)]
    exact HP3.out
  · have HC2 := hide hc2
    have hp0 : p = [] := by
      rcases hop with ⟨-, -, hp, -⟩ | ⟨n, R, -, ⟨k, d0, -, -, -, h, -⟩ | ⟨d0, -, ⟨-, -, hp, -⟩ | ⟨-, -, h, -⟩⟩⟩
      · exact hp
      · omega
      · exact hp
      · omega
    subst hp0
    have HOP := hide hop
    clear hc2 hop
    unfold errS
    go_wp2_with fail
    refine (of_sent2 at_ w2 (sents_below HS.out HB2.out)).mono ?_
    rintro r w3 ⟨rfl, hb3⟩
    have HB3 := hide hb3
    have HR3 := hide (HR2.out.below hb3)
    obtain ⟨c0, z0⟩ := dcell HR3.out 0 _ rfl
    obtain ⟨c1, z1⟩ := dcell HR3.out 1 _ rfl
    clear hb3
    unfold told
    go_wp2_with fail
    exact bodyPost_ret (v := .tuple #[.pointer none, .agg #[.int .i64 3, .string ⟨([] : List UInt8).toArray⟩]]) (results_tmp_cell Tryz.results26 _ _ w.heap.size 26 _ (0, 0) _ rfl (told_end HR3.out _ _ rfl) Tryz.underlying26 rfl (by kernel_rfl) _ rfl) rfl ⟨d', turn_sets2 (HT2.out.then_below HB3.out), (HD2.out.later HB3.out).sets2 HR3.out, HF2.out.1, HF2.out.2, .inr ⟨HC2.out, 3, [], es, m, HOP.out, .inr ⟨by decide, rfl⟩⟩⟩
  · have HC2 := hide hc2
    have hp0 : p = [] := by
      rcases hop with ⟨-, -, hp, -⟩ | ⟨n, R, -, ⟨k, d0, -, -, -, h, -⟩ | ⟨d0, -, ⟨-, -, hp, -⟩ | ⟨-, -, h, -⟩⟩⟩
      · exact hp
      · omega
      · exact hp
      · omega
    subst hp0
    have HOP := hide hop
    clear hc2 hop
    unfold errS
    go_wp2_with fail
    refine (of_sent4 at_ w2 (sents_below HS.out HB2.out)).mono ?_
    rintro r w3 ⟨rfl, hb3⟩
    have HB3 := hide hb3
    have HR3 := hide (HR2.out.below hb3)
    obtain ⟨c0, z0⟩ := dcell HR3.out 0 _ rfl
    obtain ⟨c1, z1⟩ := dcell HR3.out 1 _ rfl
    clear hb3
    unfold told
    go_wp2_with fail
    exact bodyPost_ret (v := .tuple #[.pointer none, .agg #[.int .i64 5, .string ⟨([] : List UInt8).toArray⟩]]) (results_tmp_cell Tryz.results26 _ _ w.heap.size 26 _ (0, 0) _ rfl (told_end HR3.out _ _ rfl) Tryz.underlying26 rfl (by kernel_rfl) _ rfl) rfl ⟨d', turn_sets2 (HT2.out.then_below HB3.out), (HD2.out.later HB3.out).sets2 HR3.out, HF2.out.1, HF2.out.2, .inr ⟨HC2.out, 5, [], es, m, HOP.out, .inr ⟨by decide, rfl⟩⟩⟩
  · have HC2 := hide hc2
    have HOP := hide hop
    have HPG := hide hpg
    clear hc2 hop hpg
    unfold pathE
    go_wp2_with fail
    refine (of_tile at_ g p w2 (sents_below HS.out HB2.out) HPG.out).mono ?_
    rintro r w3 ⟨rfl, hb3⟩
    have HB3 := hide hb3
    have HR3 := hide (HR2.out.below hb3)
    obtain ⟨c0, z0⟩ := dcell HR3.out 0 _ rfl
    obtain ⟨c1, z1⟩ := dcell HR3.out 1 _ rfl
    clear hb3
    unfold toldP
    go_wp2_with fail
    exact bodyPost_ret (v := .tuple #[.pointer none, .agg #[.int .i64 6, .string ⟨p.toArray⟩]]) (results_tmp_cell Tryz.results26 _ _ w.heap.size 26 _ (0, 0) _ rfl (told_end HR3.out _ _ rfl) Tryz.underlying26 rfl (by kernel_rfl) _ rfl) rfl ⟨d', turn_sets2 (HT2.out.then_below HB3.out), (HD2.out.later HB3.out).sets2 HR3.out, HF2.out.1, HF2.out.2, .inr ⟨HC2.out, 6, p, es, m, HOP.out, .inr ⟨by decide, rfl⟩⟩⟩

set_option maxHeartbeats 1000000 in
theorem popenNone (W : World) (at_ : Nat → Addr) (hSN : Sents W at_) :
    Calls Tryz.prog 5 #[] W fun r w' => r = .returned (.tuple #[.bool false, told 7]) ∧ Below W.heap.size W w' := by
  have HB0 : Hid (Below W.heap.size W (W.alloc (.cells #[.int .i64 0, .string ⟨#[]⟩] 26))) := below_alloc _ _
  have HS := hide hSN
  have HR0 : Hid (TRow W.heap.size (W.alloc (.cells #[.int .i64 0, .string ⟨#[]⟩] 26))) := heap_alloc_last _ _
  clear hSN
  go_enter Tryz.func5, Tryz.ntmps5
  go_wp2_with fail
  generalize W.alloc (.cells #[.int .i64 0, .string ⟨#[]⟩] 26) = w0 at *
  refine (open_nil w0 at_ (sents_below HS.out HB0.out) []).mono ?_
  rintro r w2 ⟨rfl, hb2⟩
  have HB2 : Hid (Below W.heap.size W w2) := HB0.out.trans (hb2.mono HB0.out.size)
  have HR2 := hide (HR0.out.below hb2)
  clear hb2
  unfold errS
  go_wp2_with fail
  refine (of_sent6 at_ w2 (sents_below HS.out HB2.out)).mono ?_
  rintro r w3 ⟨rfl, hb3⟩
  have HB3 := hide hb3
  have HR3 := hide (HR2.out.below HB3.out)
  obtain ⟨c0, z0⟩ := dcell HR3.out 0 _ rfl
  obtain ⟨c1, z1⟩ := dcell HR3.out 1 _ rfl
  clear hb3
  unfold told
  all_goals go_wp2_with fail
  all_goals exact bodyPost_ret (v := .tuple #[.bool false, .agg #[.int .i64 7, .string ⟨([] : List UInt8).toArray⟩]]) (results_tmp_cell Tryz.results5 _ _ W.heap.size 26 _ (0, 0) _ rfl (told_end HR3.out _ _ rfl) Tryz.underlying26 rfl (by kernel_rfl) _ rfl) rfl ⟨rfl, below_sets2 (HB2.out.trans (HB3.out.mono HB2.out.size))⟩
end Go.Proofs.YtoomnijgdpbphaaGreatDoor
