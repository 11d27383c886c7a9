import Derived.Test.YtoomnijgdpbphaaGreatDoorG43
import Derived.Deep.RegionHeld3
import Derived.Deep.CutRange

namespace Go.Proofs.YtoomnijgdpbphaaGreatDoor

def cpT (x : Wd) (es : List (List UInt8)) : List UInt8 := signF es.length (rootT es) x.key
/-- What a publish without a clash leaves. -/
theorem pub_num {n : Nat} {x x' : Wd} {d : Dk} {s : List Nat} {es : List (List UInt8)} {put : Nat} {fs2 : Fs} (hn : n ≤ 4100) (h : Num n x d s) (he : Ent x d s es put) (hf : x.failed = false) (hp : fs2.Perm d.fs) (hc : clashB fs2 (want es) = false) (hk : x'.key = x.key) :
    Num (n + 1) x' (pubD (todo es put) (cpT x es) d).2 s ∧ Went (want es) (cpT x es) d.fs (pubD (todo es put) (cpT x es) d).2.fs ∧ Fine (want es) ∧
      (((pubD (todo es put) (cpT x es) d).1 = none ∧ Calm (pubD (todo es put) (cpT x es) d).2 ∧ look (pubD (todo es put) (cpT x es) d).2.fs cpF = some (cpT x es) ∧ ∀ f ∈ want es, look (pubD (todo es put) (cpT x es) d).2.fs f.1 = some f.2) ∨
        ((∃ p, (pubD (todo es put) (cpT x es) d).1 = some p ∧ (p = cpF ∨ ∃ x, (p, x) ∈ want es)) ∧ (pubD (todo es put) (cpT x es) d).2.hit = true)) := by
  have hfew := ent_few he
  have hsm := h.small
  have hlen : es.length ≤ 1000000 := by omega
  have hfine := want_fine hlen
  have hnc : NoClash d.fs (want es) := by
    have h1 := clashB_false hc
    intro q y hy
    have := h1 q y hy
    rw [look_perm h.apart hp] at this
    exact this
  obtain ⟨hcalm, hthere⟩ := he.there hf
  obtain ⟨a1, t1, w1, h1⟩ := pub_end (c := cpT x es) hfine hcalm h.apart h.turned hnc (fun f hf => todo_want f hf)
  have hcl : (cpT x es).length ≤ 1048576 := by
    have h8 : (rootT es).length = 8 := rootF_length _ _
    have h1 := dec_length_le (es.length : Int) (by omega) (by omega)
    rw [Int.toNat_natCast] at h1
    have h2 := hexF_len (rootT es)
    have h3 : (lastF es.length (rootT es) x.key).length = 16 := by unfold lastF; rw [hexF_len]; rfl
    have h4 : tilesL.length ≤ 10 := by decide
    unfold cpT
    rw [signF_eq]
    simp only [List.length_append, List.length_cons, List.length_nil]
    omega
  refine ⟨⟨a1, len_went he.short h.data hcl (by omega) a1 w1, ?_, among_went h.among he.ins w1, by omega, by rw [hk]; exact h.key, t1⟩, w1, hfine, ?_⟩
  · have h1 := pubD_len (todo es put) (cpT x es) d
    have h2 := todo_len es put
    have h3 := h.count
    omega
  · rcases h1 with ⟨e, c1, l1, l2⟩ | h1
    · refine .inl ⟨e, c1, l1, fun f hf => ?_⟩
      rcases want_parts he.le f hf with h' | h'
      · exact l2 f h'
      · exact w1.stays (hthere f h') (fun e => hfine.2 f.2 (by rw [← e]; exact hf))
    · exact .inr h1
end Go.Proofs.YtoomnijgdpbphaaGreatDoor

namespace Go.Proofs.YtoomnijgdpbphaaGreatDoor
open Go.RowKit
set_option maxRecDepth 100000

/-- The record with a bool set. -/
theorem wset_for {w : World} {wb db : Nat} {lv ev : Value} {x : Wd} (h : WAt w wb db lv ev x) (b : Bool) :
    WAt (w.setCell ⟨wb, 6, none⟩ (.bool b)) wb db lv ev { x with foreign := b } ∧ Turn (fun k => k = wb) [47] w (w.setCell ⟨wb, 6, none⟩ (.bool b)) :=
  ⟨(wset h).2.2.2.2 b, (Turn.refl (fun k => k = wb) [47] w).set (.inl rfl) h (by simp) _⟩
theorem wset_fail {w : World} {wb db : Nat} {lv ev : Value} {x : Wd} (h : WAt w wb db lv ev x) (b : Bool) :
    WAt (w.setCell ⟨wb, 5, none⟩ (.bool b)) wb db lv ev { x with failed := b } ∧ Turn (fun k => k = wb) [47] w (w.setCell ⟨wb, 5, none⟩ (.bool b)) :=
  ⟨(wset h).2.2.2.1 b, (Turn.refl (fun k => k = wb) [47] w).set (.inl rfl) h (by simp) _⟩
theorem wset_pub {w : World} {wb db : Nat} {lv ev : Value} {x : Wd} (h : WAt w wb db lv ev x) (m : Int) :
    WAt (w.setCell ⟨wb, 4, none⟩ (.int .i64 m)) wb db lv ev { x with published := m } ∧ Turn (fun k => k = wb) [47] w (w.setCell ⟨wb, 4, none⟩ (.int .i64 m)) :=
  ⟨(wset h).2.2.1 m, (Turn.refl (fun k => k = wb) [47] w).set (.inl rfl) h (by simp) _⟩

set_option maxHeartbeats 4000000 in
theorem wpublish_any (O : Nat → Prop) (W : World) (at_ : Nat → Addr) (hE : Env W) (hSN : Sents W at_) (hET : ETy W) (wb db : Nat) (lv ev : Value) (x : Wd) (d : Dk) (s : List Nat) (n : Nat) (w : World) (hOW : ∀ k, O k → W.heap.size ≤ k ∧ k < w.heap.size) (hW : Below W.heap.size W w) (hn : n ≤ 4100) (hO : O wb) (h : Full w O wb db lv ev x d s n) (hlv : lv ≠ .pointer none) :
    Calls Tryz.prog 16 #[.pointer (some ⟨wb, 0, none⟩)] w fun r w' => r = .returned (.bool true) ∧ Turn O aT w w' ∧ Inv W.heap.size w' (Ext O w w') wb (n + 1) := by
  have HFULL := hide h
  obtain ⟨hfg, hwa, hd, hnum, hpub⟩ := h
  rcases hpub with e | ⟨pb, lb, es, put, rfl, hOp, hpl, hlog, hrow, hrO, hent⟩
  · exact absurd e hlv
  have HNUM := hide hnum
  have HWA := hide hwa
  have HD := hide hd
  have HOW := hide hOW
  have HOB : Hid (∀ k, O k → W.heap.size ≤ k) := fun k hk => (hOW k hk).1
  have HW := hide hW
  have HEE := hide hE
  have HSN := hide hSN
  have HET := hide hET
  have HO := hide hO
  have HFG := hide hfg
  have HPL := hide hpl
  have HLOG := hide hlog
  have HROW := hide hrow
  have HRO := hide hrO
  have HENT := hide hent
  have HOP := hide hOp
  have hne := diskNe hwa hd
  have hfew : es.length ≤ 40000 := by have := ent_few hent; have := hnum.small; omega
  have htl := todo_len es put
  have hcount : Hid (d.fs.length + (todo es put).length ≤ 800000000) := by have := hnum.count; show _ ≤ _; omega
  obtain ⟨⟨c0, -⟩, -⟩ := wall hwa
  obtain ⟨ea, ec, rfl⟩ := own_slice hrow
  clear hwa hd hnum hOW hW hE hSN hET hO hfg hpl hlog hrow hrO hent hOp hlv htl
  go_enter Tryz.func16, Tryz.ntmps16
  go_wp2_with fail
  refine (lfiles_any O db wb d w (by have := hcount.out; omega) HD.out c0).mono ?_
  rintro r w2 ⟨v2, fs2, rfl, hp2, hf2, hb2, ho2⟩
  have HP2 := hide hp2
  have HRF2 := hide ho2
  have hT02 : Turn O [] w w2 := .of_below hb2
  have HFU2 := hide (HFULL.out.below hb2)
  have HWA2 : Hid (WAt w2 wb db (.pointer (some ⟨pb, 0, none⟩)) (.slice ea es.length ec) x) := hT02.keep HWA.out (by simp)
  have HD2 : Hid (DiskAt w2 O db d) := HD.out.stay hT02 (by simp) (by simp)
  have HPL2 : Hid (PlAt w2 pb lb) := hT02.keep HPL.out (by simp)
  have HLOG2 := hide (HLOG.out.stay hT02 (by simp) (by simp) (by simp))
  have HROW2 := hide (ownsRow_turn HROW.out hT02 (by simp))
  have HW2 : Hid (Below W.heap.size W w2) := HW.out.trans (hb2.mono HW.out.size)
  have HB2 := hide hb2
  obtain ⟨-, -, ⟨d2, -⟩, -⟩ := wall HWA2.out
  obtain ⟨va, vc, he, -⟩ := id hf2
  subst he
  clear hp2 hf2 hb2 ho2 hT02 c0 HD HWA HPL HLOG HROW
  go_wp2_with fail
  refine (ppublish_any O W at_ HEE.out HSN.out HET.out HOB.out db pb lb d _ w2 (by have := hcount.out; show d.fs.length + (todo es put).length ≤ _; omega) (by show es.length ≤ _; omega) HENT.out.le HENT.out.short (by have := HNUM.out.key; show x.key.length ≤ _; omega) HW2.out HPL2.out HD2.out HLOG2.out).mono ?_
  rintro r w3 ⟨ht3, hres⟩
  have HT3 := hide ht3
  have HWA3 : Hid (WAt w3 wb db (.pointer (some ⟨pb, 0, none⟩)) (.slice ea es.length ec) x) := ht3.keep HWA2.out (by decide)
  have HPL3 : Hid (PlAt w3 pb lb) := ht3.keep HPL2.out (by decide)
  have HROW3 := hide (ownsRow_turn HROW2.out ht3 (by decide))
  have HW3 : Hid (Below W.heap.size W w3) := HW2.out.trans (ht3.below HOB.out HW2.out.size)
  have HTA3 : Hid (Turn O aT w w3) := (Turn.of_below HB2.out).trans (ht3.mono (fun _ h => .inl h) (by decide))
  have HRF3 := hide (ownsRow_turn HRF2.out ht3 (by decide))
  obtain ⟨⟨g0, -⟩, -⟩ := wall HWA3.out
  have hg0 := g0
  unfold dptr at g0
  have a0 : ∀ o, (w3.alloc o).cell? ⟨wb, 0, none⟩ = some (.pointer (some ⟨db, 0, none⟩)) := fun o => by rw [cell_old _ _ ⟨wb, 0, none⟩ (cell_lt g0)]; exact g0
  clear ht3 d2
  by_cases hfl : x.failed = true
  · obtain ⟨rfl, hb3⟩ : r = .returned (.tuple #[.int .i64 0, told 7]) ∧ Below w2.heap.size w2 w3 := by
      rcases hres with ⟨-, h, hb⟩ | ⟨h, -⟩ | ⟨h, -⟩
      · exact ⟨h, hb⟩
      · simp [hfl] at h
      · simp [hfl] at h
    have HD3 : Hid (DiskAt w3 O db d) := HD2.out.stay (Turn.of_below (O := O) (T := []) hb3) (by simp) (by simp)
    have HB3 : Hid (Below w.heap.size w w3) := HB2.out.trans (hb3.mono HB2.out.size)
    have HFL := hide hfl
    clear hres hb3 hfl
    unfold told
    have HT34 : Hid (Turn O [] w3 (w3.alloc (.cells #[.int .i64 7, .string ⟨#[]⟩] 26))) := .of_below (below_alloc w3 _)
    have HD4 := hide (HD3.out.stay HT34.out (by simp) (by simp))
    have HBT : Hid ((w3.alloc (.cells #[.int .i64 7, .string ⟨#[]⟩] 26)).heap[w3.heap.size]? = some (.cells #[.int .i64 7, .string ⟨#[]⟩] 26 (0, 0))) := heap_alloc_last _ _
    have HB4 : Hid (Below w.heap.size w (w3.alloc (.cells #[.int .i64 7, .string ⟨#[]⟩] 26))) := HB3.out.alloc HB3.out.size _
    have HWA4 : Hid (WAt (w3.alloc (.cells #[.int .i64 7, .string ⟨#[]⟩] 26)) wb db (.pointer (some ⟨pb, 0, none⟩)) (.slice ea es.length ec) x) := HT34.out.keep HWA3.out (by simp)
    go_wp2_with fail
    refine (hit_any O db d _ (by exact HD4.out)).mono ?_
    rintro r w3' ⟨rfl, rfl⟩
    go_wp2_with fail
    refine (lfiles_any O db wb d _ (by have := hcount.out; omega) (by exact HD4.out) (by exact a0 _)).mono ?_
    rintro r w5 ⟨v5, fs5, rfl, hp5, hf5, hb5, -⟩
    obtain ⟨n0, -⟩ := dcell ((Turn.of_below (O := O) (T := []) hb5).keep HBT.out (by simp)) 0 _ rfl
    obtain ⟨v5a, v5c, he, -⟩ := id hf5
    subst he
    have hl2 : fs2.length = d.fs.length := HP2.out.length_eq
    have hl5 : fs5.length = d.fs.length := hp5.length_eq
    rw [hl2, hl5]
    have HB5 : Hid (Below w.heap.size w w5) := HB4.out.trans (hb5.mono HB4.out.size)
    have HWA5 : Hid (WAt w5 wb db (.pointer (some ⟨pb, 0, none⟩)) (.slice ea es.length ec) x) := (Turn.of_below (O := O) (T := []) hb5).keep HWA4.out (by simp)
    obtain ⟨⟨k0, -⟩, ⟨k1, -⟩, ⟨k2, -⟩, ⟨k3, -⟩, ⟨k4, -⟩, ⟨k5, -⟩, -⟩ := wall HWA5.out
    rw [HFL.out] at k5
    have HFIN : Hid (Inv W.heap.size w5 (Ext O w w5) wb (n + 1)) := Inv.more ⟨.inl HO.out, bound_ext HW.out.size HOW.out HB5.out.size, .inr ⟨_, _, _, _, _, _, HFULL.out.below HB5.out⟩⟩ (by omega)
    clear hp5 hf5 hb5 hl2 hl5 g0 hg0 a0 k0 k1 k2 k3 k4 HRF3 HRF2
    generalize d.fs.length = N at *
    go_wp2_with fail
    go_ret
    exact ⟨by first | rfl | simp, Turn.of_below HB5.out, HFIN.out⟩
  · have hfl' : x.failed = false := by simpa using hfl
    have HFL := hide hfl'
    have HPN := hide (fun hc => pub_num (x' := x) hn HNUM.out HENT.out hfl' HP2.out hc rfl)
    have hpl2 : (pubD (todo es put) (cpT x es) d).2.fs.length ≤ 800000001 := by have := pubD_len (todo es put) (cpT x es) d; have := hcount.out; omega
    have HPL9 := hide hpl2
    obtain ⟨nv, errv, pv, put', live', hr, hd3, hl3, hcase⟩ : ∃ (nv errv : Int) (pv : List UInt8) (put' : Nat) (live' : Bool), r = .returned (.tuple #[.int .i64 nv, .agg #[.int .i64 errv, .string ⟨pv.toArray⟩]]) ∧ DiskAt w3 (Ext O w2 w3) db (pubD (todo es put) (cpT x es) d).2 ∧ LogAt w3 (Ext O w2 w3) db lb { key := x.key, es := es, put := put', live := live' } ∧ (((pubD (todo es put) (cpT x es) d).1 = none ∧ nv = es.length ∧ errv = 0 ∧ put' = es.length ∧ live' = true) ∨ ((pubD (todo es put) (cpT x es) d).1 = some pv ∧ nv = 0 ∧ errv = 8 ∧ put' = put ∧ live' = false)) := by
      rcases hres with ⟨h, -⟩ | ⟨-, h1, h2, h3, h4⟩ | ⟨-, p, h1, h2, h3, h4⟩
      · simp [hfl'] at h
      · exact ⟨_, 0, [], es.length, true, h2, h3, by rw [hfl'] at h4; exact h4, .inl ⟨h1, rfl, rfl, rfl, rfl⟩⟩
      · exact ⟨_, 8, p, put, false, h2, h3, h4, .inr ⟨h1, rfl, rfl, rfl, rfl⟩⟩
    subst hr
    generalize pubD (todo es put) (cpT x es) d = pd at *
    have HD3 := hide hd3
    have HL3 := hide hl3
    have HCS := hide hcase
    clear hres hfl hfl' hd3 hl3 hcase hpl2
    have hT34 : Turn O [] w3 (w3.alloc (.cells #[.int .i64 errv, .string ⟨pv.toArray⟩] 26)) := .of_below (below_alloc w3 _)
    have HT34 := hide hT34
    have HD4 := hide (HD3.out.stay hT34 (by simp) (by simp))
    have HBT : Hid ((w3.alloc (.cells #[.int .i64 errv, .string ⟨pv.toArray⟩] 26)).heap[w3.heap.size]? = some (.cells #[.int .i64 errv, .string ⟨pv.toArray⟩] 26 (0, 0))) := heap_alloc_last _ _
    clear hT34
    go_wp2_with fail
    refine (hit_any (Ext O w2 w3) db pd.2 _ (by exact HD4.out)).mono ?_
    rintro r w3' ⟨rfl, rfl⟩
    go_wp2_with fail
    refine (lfiles_any (Ext O w2 w3) db wb pd.2 _ (by have := HPL9.out; omega) (by exact HD4.out) (by exact a0 _)).mono ?_
    rintro r w5 ⟨v5, fs5, rfl, hp5, hf5, hb5', ho5⟩
    obtain ⟨v5a, v5c, he, -⟩ := id hf5
    subst he
    have hb5 : Below w3.heap.size w3 w5 := (below_alloc w3 _).trans (hb5'.mono (below_alloc w3 _).size)
    have HBT5 : Hid (w5.heap[w3.heap.size]? = some (.cells #[.int .i64 errv, .string ⟨pv.toArray⟩] 26 (0, 0))) := (Turn.of_below (O := O) (T := []) hb5').keep HBT.out (by simp)
    have hT35 : Turn O [] w3 w5 := .of_below hb5
    have HTA5 : Hid (Turn O aT w w5) := HTA3.out.then_below hb5
    have HWA5 : Hid (WAt w5 wb db (.pointer (some ⟨pb, 0, none⟩)) (.slice ea es.length ec) x) := hT35.keep HWA3.out (by simp)
    have HX5 : Hid (∀ k, Ext O w2 w3 k → Ext O w w5 k) := fun k hk => by
      rcases hk with hk | hk
      · exact .inl hk
      · exact .inr ⟨Nat.le_trans HB2.out.size hk.1, Nat.lt_of_lt_of_le hk.2 hb5.size⟩
    have HD5 : Hid (DiskAt w5 (Ext O w w5) db pd.2) := (HD3.out.stay hT35 (by simp) (by simp)).mono HX5.out
    have HL5 := hide ((HL3.out.stay hT35 (by simp) (by simp) (by simp)).mono HX5.out)
    have HPL5 : Hid (PlAt w5 pb lb) := hT35.keep HPL3.out (by simp)
    have HROW5 := hide (ownsRow_turn HROW3.out hT35 (by simp))
    have HRB5 := hide (ownsRow_turn HRF3.out hT35 (by simp))
    have HRA5 := hide ho5
    have HP5 := hide hp5
    obtain ⟨⟨k0, -⟩, ⟨k1, -⟩, ⟨k2, -⟩, ⟨k3, -⟩, ⟨k4, -⟩, ⟨k5, -⟩, -⟩ := wall HWA5.out
    rw [HFL.out] at k5
    generalize w3.heap.size = tb0 at *
    clear hp5 hf5 hb5 hb5' ho5 hT35 g0 hg0 a0 k0 k1 k2 k4 HT34 HD4 HBT HD3 HL3 HPL3 HROW3 HRF3 HRF2 HWA3 HX5
    go_wp2_with fail
    refine (refFiles_any _ es w5 (by omega) HENT.out.short (tss_owns HROW5.out)).mono ?_
    rintro r w6 ⟨v6, rfl, hb6, ho6⟩
    obtain ⟨wa, wc, he⟩ := own_slice ho6
    subst he
    have hT56 : Turn O [] w5 w6 := .of_below hb6
    have HRW6 := hide ho6
    have HRB6 := hide (ownsRow_turn HRB5.out hT56 (by simp))
    have hwl : Hid ((want es).length ≤ 1000000000) := by have := want_count es; show _ ≤ _; omega
    have hbl : Hid (fs2.length ≤ 1000000000) := by have := hcount.out; show _ ≤ _; rw [HP2.out.length_eq]; omega
    have hal : Hid (fs5.length ≤ 1000000000) := by have := HPL9.out; show _ ≤ _; rw [HP5.out.length_eq]; omega
    have HB6 := hide hb6
    clear k3 k5 ho6 hb6 hT56
    go_wp2_with fail
    refine (clash_any _ _ fs2 (want es) w6 hbl.out hwl.out (fss_owns HRB6.out) (fss_owns HRW6.out)).mono ?_
    rintro r w7 ⟨rfl, hb7⟩
    have hb57 : Below w5.heap.size w5 w7 := HB6.out.trans (hb7.mono HB6.out.size)
    have hT67 : Turn O [] w6 w7 := .of_below hb7
    have hT57 : Turn O [] w5 w7 := .of_below hb57
    have HTA7 : Hid (Turn O aT w w7) := HTA5.out.then_below hb57
    have HWA7 : Hid (WAt w7 wb db (.pointer (some ⟨pb, 0, none⟩)) (.slice ea es.length ec) x) := hT57.keep HWA5.out (by simp)
    have hx57 : ∀ k, Ext O w w5 k → Ext O w w7 k := fun k hk => Ext.more hb57.size k hk
    have HD7 : Hid (DiskAt w7 (Ext O w w7) db pd.2) := (HD5.out.stay hT57 (by simp) (by simp)).mono hx57
    have HL7 := hide ((HL5.out.stay hT57 (by simp) (by simp) (by simp)).mono hx57)
    have HBT7 : Hid (w7.heap[tb0]? = some (.cells #[.int .i64 errv, .string ⟨pv.toArray⟩] 26 (0, 0))) := hT57.keep HBT5.out (by simp)
    have HPL7 : Hid (PlAt w7 pb lb) := hT57.keep HPL5.out (by simp)
    have HROW7 := hide (ownsRow_turn HROW5.out hT57 (by simp))
    have HRB7 := hide (ownsRow_turn HRB5.out hT57 (by simp))
    have HRA7 := hide (ownsRow_turn HRA5.out hT57 (by simp))
    have HRW7 := hide (ownsRow_turn HRW6.out hT67 (by simp))
    obtain ⟨⟨k0, -⟩, ⟨k1, -⟩, ⟨k2, -⟩, ⟨k3, -⟩, ⟨k4, f4⟩, ⟨k5, f5⟩, ⟨k6, f6⟩⟩ := wall HWA7.out
    clear hb57 hT67 hT57 hx57 hb7 HD5 HL5 HPL5 HROW5 HRB5 HRA5 HRW6 HRB6 HB6 HWA5 HTA5
    cases hcl : clashB fs2 (want es) with
    | true =>
      have HWS := hide (wset_for HWA7.out true)
      clear hcl
      go_wp2_with fail
      go_ret
      have hsz : (w7.setCell ⟨wb, 6, none⟩ (.bool true)).heap.size = w7.heap.size := by simp [World.setCell]
      exact ⟨by first | rfl | simp, HTA7.out.trans (HWS.out.2.mono (fun k hk => .inl (by rw [hk]; exact HO.out)) (by decide)), .inl HO.out, bound_ext HW.out.size HOW.out (by rw [hsz]; exact HTA7.out.size), .inl ⟨_, _, _, _, HWS.out.1, rfl⟩⟩
    | false =>
      have HWS := hide (wset_for HWA7.out false)
      obtain ⟨hnumN, hwent, hfine, hend⟩ := HPN.out hcl
      have HNN := hide hnumN
      have HWENT := hide hwent
      have HFINE := hide hfine
      have HEND := hide hend
      have hT8 : Turn (fun k => k = wb) [47] w7 (w7.setCell ⟨wb, 6, none⟩ (.bool false)) := HWS.out.2
      have HTT8 := hide hT8
      have HRB8 := hide (ownsRow_turn HRB7.out hT8 (by decide))
      have HRA8 := hide (ownsRow_turn HRA7.out hT8 (by decide))
      have HRW8 := hide (ownsRow_turn HRW7.out hT8 (by decide))
      have HROW8 := hide (ownsRow_turn HROW7.out hT8 (by decide))
      clear hcl hnumN hwent hfine hend hT8 HPN
      go_wp2_with fail
      refine (refRoot_texts _ es _ (by omega) HENT.out.short (tss_owns (by exact HROW8.out))).mono ?_
      rintro r w9 ⟨rfl, hb9⟩
      have hT9 : Turn (fun k => k = wb) [47] w7 w9 := HTT8.out.then_below hb9
      have HTT9 := hide hT9
      have HRB9 := hide (ownsRow_turn HRB7.out hT9 (by decide))
      have HRA9 := hide (ownsRow_turn HRA7.out hT9 (by decide))
      have HRW9 := hide (ownsRow_turn HRW7.out hT9 (by decide))
      have HROW9 := hide (ownsRow_turn HROW7.out hT9 (by decide))
      have HWA9 : Hid (WAt w9 wb db (.pointer (some ⟨pb, 0, none⟩)) (.slice ea es.length ec) { x with foreign := false }) := (Turn.of_below (O := O) (T := []) hb9).keep HWS.out.1 (by simp)
      obtain ⟨⟨m0, -⟩, ⟨m1, -⟩, ⟨m2, -⟩, ⟨m3, -⟩, ⟨m4, g4⟩, ⟨m5, g5⟩, ⟨m6, g6⟩⟩ := wall HWA9.out
      simp only at m1 m4 m5
      clear hb9 hT9 k0 k1 k2 k3 k4 f4 k5 f5 k6 f6
      unfold txv at m1
      have HR8 : Hid ((rootT es).length = 8) := rootT_len es
      have HCC : Hid (signF es.length (rootT es) x.key = cpT x es) := rfl
      go_upto_region 12 with fail
      go_cut [10] from 71 to 81 (fun s10 wx => s10 = .string ⟨(cpT x es).toArray⟩ ∧ Below w9.heap.size w9 wx)
      case first =>
        have HKL : Hid (x.key.length ≤ 2097152) := by have := HNUM.out.key; show _ ≤ _; omega
        clear HNUM HENT HOW HOB HW HEE HSN HET HO HFG HRO HOP HCS HNN HWENT HFINE HEND hcount
        go_region_with (go_at_call 33; refine (refSign_any (es.length : Int) (by omega) (by omega) (rootT es) x.key HR8.out HKL.out w9.drew).mono ?_; rintro r w10 ⟨rfl, hb10⟩; have HB10 := hide hb10; clear hb10)
        all_goals go_wp2_with fail
        all_goals go_meet
        all_goals exact ⟨rfl, (show Below w9.heap.size w9 w9.drew from ⟨rfl, rfl, rfl, Nat.le_refl _, fun _ _ => rfl⟩).trans (HB10.out.mono (Nat.le_refl _))⟩
      case rest =>
        obtain ⟨rfl, hb10⟩ := hcut
        have hT10 : Turn (fun k => k = wb) [47] w7 wc := HTT9.out.then_below hb10
        have HTT10 := hide hT10
        have HRB10 := hide (ownsRow_turn HRB7.out hT10 (by decide))
        have HRA10 := hide (ownsRow_turn HRA7.out hT10 (by decide))
        have HRW10 := hide (ownsRow_turn HRW7.out hT10 (by decide))
        have HROW10 := hide (ownsRow_turn HROW7.out hT10 (by decide))
        have HWA10 : Hid (WAt wc wb db (.pointer (some ⟨pb, 0, none⟩)) (.slice ea es.length ec) { x with foreign := false }) := (Turn.of_below (O := O) (T := []) hb10).keep HWA9.out (by simp)
        obtain ⟨⟨k0, -⟩, ⟨k1, -⟩, ⟨k2, -⟩, ⟨k3, -⟩, ⟨k4, f4⟩, ⟨k5, f5⟩, ⟨k6, f6⟩⟩ := wall HWA10.out
        simp only at k1 k4 k5
        have hTT := hT10
        obtain ⟨p0, -⟩ := dcell (hT10.keep HBT7.out (by decide)) 0 _ rfl
        obtain ⟨p1, -⟩ := dcell (hT10.keep HBT7.out (by decide)) 1 _ rfl
        clear hb10 hT10 m0 m1 m2 m3 m4 g4 m5 g5 m6 g6 HR8
        generalize cpT x es = c at *
        rcases HEND.out with ⟨e, c1, l1, l2⟩ | ⟨⟨p, e, hp⟩, hh⟩
        · clear hTT
          have hhit : pd.2.hit = false := c1.2
          rw [hhit]
          have HC1 := hide c1
          have HL2 := hide l2
          rcases HCS.out with ⟨h1, rfl, rfl, rfl, rfl⟩ | ⟨h1, -⟩
          rotate_left
          · rw [e] at h1; simp at h1
          have hlk5 : look fs5 cpF = some c := by rw [look_perm HNN.out.apart HP5.out]; exact l1
          obtain ⟨k, hk⟩ : ∃ k, ixF fs5 cpF = some k := by
            cases e5 : ixF fs5 cpF with
            | none => rw [(ixF_none e5).1] at hlk5; simp at hlk5
            | some k => exact ⟨k, rfl⟩
          obtain ⟨hkl, -, hkd, -⟩ := ixF_some hk
          have hki : ixI fs5 cpF = k := by unfold ixI; rw [hk]
          have hkc : fs5[k].2 = c := by rw [hlk5] at hkd; simpa using hkd.symm
          have HKI := hide hki
          have HKC := hide hkc
          have HKEPT := hide (keptB_true HP2.out HP5.out HNUM.out.apart HNN.out.apart HFINE.out HWENT.out)
          have HTHERE := hide (thereB_true HP5.out HNN.out.apart l2)
          have HWP := hide (wset_pub HWA10.out (es.length : Int))
          have hT11 : Turn (fun k => k = wb) [47] w7 (wc.setCell ⟨wb, 4, none⟩ (.int .i64 (es.length : Int))) := HTT10.out.trans (HWP.out.2.mono (fun _ h => .inl h) (fun _ h => h))
          have HTT11 := hide hT11
          have HRB11 := hide (ownsRow_turn HRB7.out hT11 (by decide))
          have HRA11 := hide (ownsRow_turn HRA7.out hT11 (by decide))
          have HRW11 := hide (ownsRow_turn HRW7.out hT11 (by decide))
          have HROW11 := hide (ownsRow_turn HROW7.out hT11 (by decide))
          clear e h1 c1 l1 l2 hhit hlk5 hk hkd hki hkc hT11
          go_wp2_with fail
          refine (refFind_any _ fs5 cpF _ hal.out (fss_owns (by exact HRA11.out))).mono ?_
          rintro r w11 ⟨rfl, rfl⟩
          rw [HKI.out]
          go_wp2_with fail
          refine (kept_any _ _ _ fs2 fs5 (want es) c _ hbl.out hal.out hwl.out (fss_owns (by exact HRB11.out)) (fss_owns (by exact HRA11.out)) (fss_owns (by exact HRW11.out))).mono ?_
          rintro r w12 ⟨rfl, hb12⟩
          rw [HKEPT.out]
          have hT12 : Turn (fun k => k = wb) [47] w7 w12 := HTT11.out.then_below hb12
          have HTT12 := hide hT12
          have HRB12 := hide (ownsRow_turn HRB7.out hT12 (by decide))
          have HRA12 := hide (ownsRow_turn HRA7.out hT12 (by decide))
          have HRW12 := hide (ownsRow_turn HRW7.out hT12 (by decide))
          have HROW12 := hide (ownsRow_turn HROW7.out hT12 (by decide))
          have HWA12 : Hid (WAt w12 wb db (.pointer (some ⟨pb, 0, none⟩)) (.slice ea es.length ec) { x with foreign := false, published := (es.length : Int) }) := (Turn.of_below (O := O) (T := []) hb12).keep HWP.out.1 (by simp)
          clear hb12 hT12 k0 k1 k2 k3 k4 f4 k5 f5 k6 f6
          go_wp2_with fail
          refine (there_any _ _ fs5 (want es) w12 hal.out hwl.out (fss_owns HRA12.out) (fss_owns HRW12.out)).mono ?_
          rintro r w13 ⟨rfl, hb13⟩
          rw [HTHERE.out]
          have hT13 : Turn (fun k => k = wb) [47] w7 w13 := HTT12.out.then_below hb13
          have HTT13 := hide hT13
          have HRB13 := hide (ownsRow_turn HRB7.out hT13 (by decide))
          have HRA13 := hide (ownsRow_turn HRA7.out hT13 (by decide))
          have HRW13 := hide (ownsRow_turn HRW7.out hT13 (by decide))
          have HROW13 := hide (ownsRow_turn HROW7.out hT13 (by decide))
          have HWA13 : Hid (WAt w13 wb db (.pointer (some ⟨pb, 0, none⟩)) (.slice ea es.length ec) { x with foreign := false, published := (es.length : Int) }) := (Turn.of_below (O := O) (T := []) hb13).keep HWA12.out (by simp)
          have hx13 : ∀ k, Ext O w w7 k → Ext O w w13 k := fun k hk => Ext.more hT13.size k hk
          have HD13 : Hid (DiskAt w13 (Ext O w w13) db pd.2) := (HD7.out.stay hT13 (by decide) (by decide)).mono hx13
          have HL13 := hide ((HL7.out.stay hT13 (by decide) (by decide) (by decide)).mono hx13)
          have HPL13 : Hid (PlAt w13 pb lb) := hT13.keep HPL7.out (by decide)
          obtain ⟨⟨m0, -⟩, ⟨m1, -⟩, ⟨m2, -⟩, ⟨m3, -⟩, ⟨m4, g4⟩, ⟨m5, g5⟩, ⟨m6, g6⟩⟩ := wall HWA13.out
          unfold dptr at m0
          obtain ⟨q0, -⟩ := dcell (hT13.keep HBT7.out (by decide)) 0 _ rfl
          obtain ⟨q1, -⟩ := dcell (hT13.keep HBT7.out (by decide)) 1 _ rfl
          obtain ⟨fv, -, hdb, -⟩ := id HD13.out
          obtain ⟨-, -, -, -, -, -, -, ⟨t7, -⟩⟩ := dall hdb
          rw [HNN.out.turned] at t7
          obtain ⟨-, -, hrow⟩ := (fss_owns HRA13.out).at
          obtain ⟨fb, fo, hfa, hcs⟩ := hrow (by omega)
          subst hfa
          obtain ⟨-, y1⟩ := hcs k hkl
          rw [HKC.out] at y1
          unfold txv at y1
          have HTA13 : Hid (Turn O aT w w13) := HTA7.out.trans (hT13.mono (fun k hk => .inl (by rw [hk]; exact HO.out)) (by decide))
          have hk0 : decide ((k : Int) < 0) = false := by simp
          clear hb13 hT13 hx13 hdb hcs hrow
          go_wp2_with fail
          all_goals go_ret
          all_goals
            refine ⟨by first | rfl | simp, HTA13.out, .inl HO.out, bound_ext HW.out.size HOW.out HTA13.out.size, .inr ⟨db, _, _, _, pd.2, s, rfl, HWA13.out, HD13.out, num_same HNN.out rfl rfl rfl, .inr ⟨pb, lb, es, es.length, rfl, .inl HOP.out, HPL13.out, by have h := HL13.out; rw [show true = !x.failed by rw [HFL.out]; rfl] at h; exact h, HROW13.out, fun g hg => .inl (HRO.out g hg), ⟨HENT.out.short, HENT.out.ins, Nat.le_refl _, fun _ => ⟨HC1.out, fun f hf => HL2.out f (by rw [List.take_length] at hf; exact hf)⟩⟩⟩⟩⟩
        · rw [hh]
          rcases HCS.out with ⟨h1, -⟩ | ⟨h1, rfl, rfl, rfl, rfl⟩
          · rw [e] at h1; simp at h1
          obtain rfl : p = pv := by rw [e] at h1; simpa using h1
          have HKEPT := hide (keptB_true HP2.out HP5.out HNUM.out.apart HNN.out.apart HFINE.out HWENT.out)
          have HWF := hide (wset_fail HWA10.out true)
          have hT11 : Turn (fun k => k = wb) [47] w7 (wc.setCell ⟨wb, 5, none⟩ (.bool true)) := HTT10.out.trans (HWF.out.2.mono (fun _ h => .inl h) (fun _ h => h))
          have HTT11 := hide hT11
          have HRB11 := hide (ownsRow_turn HRB7.out hT11 (by decide))
          have HRA11 := hide (ownsRow_turn HRA7.out hT11 (by decide))
          have HRW11 := hide (ownsRow_turn HRW7.out hT11 (by decide))
          have HROW11 := hide (ownsRow_turn HROW7.out hT11 (by decide))
          have HPX := hide hp
          clear e h1 hh hTT hT11 hp
          go_wp2_with fail
          refine (refFind_any _ (want es) p wc hwl.out (fss_owns HRW10.out)).mono ?_
          rintro r w11 ⟨rfl, rfl⟩
          obtain ⟨kk, hkk, hkp⟩ : ∃ kk : Int, ixI (want es) p = kk ∧ (0 ≤ kk ∨ (kk = -1 ∧ p = cpF)) := by
            refine ⟨_, rfl, ?_⟩
            rcases HPX.out with rfl | ⟨y, hy⟩
            · right
              refine ⟨?_, rfl⟩
              unfold ixI
              rw [ixF_none_of (fun f hf e => HFINE.out.2 f.2 (by rw [← e]; exact hf))]
            · left
              unfold ixI
              cases e5 : ixF (want es) p with
              | none => exact absurd rfl ((ixF_none e5).2 (p, y) hy)
              | some k => simp
          rw [hkk]
          clear hkk HPX
          go_wp2_with fail
          refine (kept_any _ _ _ fs2 fs5 (want es) c _ hbl.out hal.out hwl.out (fss_owns (by exact HRB11.out)) (fss_owns (by exact HRA11.out)) (fss_owns (by exact HRW11.out))).mono ?_
          rintro r w13 ⟨rfl, hb13⟩
          rw [HKEPT.out]
          have hT13 : Turn (fun k => k = wb) [47] w7 w13 := HTT11.out.then_below hb13
          have HTT13 := hide hT13
          have HRB13 := hide (ownsRow_turn HRB7.out hT13 (by decide))
          have HRA13 := hide (ownsRow_turn HRA7.out hT13 (by decide))
          have HRW13 := hide (ownsRow_turn HRW7.out hT13 (by decide))
          have HROW13 := hide (ownsRow_turn HROW7.out hT13 (by decide))
          have HWA13 : Hid (WAt w13 wb db (.pointer (some ⟨pb, 0, none⟩)) (.slice ea es.length ec) { x with foreign := false, failed := true }) := (Turn.of_below (O := O) (T := []) hb13).keep HWF.out.1 (by simp)
          have hx13 : ∀ k, Ext O w w7 k → Ext O w w13 k := fun k hk => Ext.more hT13.size k hk
          have HD13 : Hid (DiskAt w13 (Ext O w w13) db pd.2) := (HD7.out.stay hT13 (by decide) (by decide)).mono hx13
          have HL13 := hide ((HL7.out.stay hT13 (by decide) (by decide) (by decide)).mono hx13)
          have HPL13 : Hid (PlAt w13 pb lb) := hT13.keep HPL7.out (by decide)
          obtain ⟨⟨m0, -⟩, ⟨m1, -⟩, ⟨m2, -⟩, ⟨m3, -⟩, ⟨m4, g4⟩, ⟨m5, g5⟩, ⟨m6, g6⟩⟩ := wall HWA13.out
          unfold dptr at m0
          obtain ⟨q0, -⟩ := dcell (hT13.keep HBT7.out (by decide)) 0 _ rfl
          obtain ⟨q1, -⟩ := dcell (hT13.keep HBT7.out (by decide)) 1 _ rfl
          obtain ⟨fv, -, hdb, -⟩ := id HD13.out
          obtain ⟨-, -, -, -, -, -, -, ⟨t7, -⟩⟩ := dall hdb
          rw [HNN.out.turned] at t7
          have HTA13 : Hid (Turn O aT w w13) := HTA7.out.trans (hT13.mono (fun k hk => .inl (by rw [hk]; exact HO.out)) (by decide))
          clear hb13 hT13 hx13 hdb k0 k1 k2 k3 k4 f4 k5 f5 k6 f6
          have HFIN : Hid (Inv W.heap.size w13 (Ext O w w13) wb (n + 1)) := ⟨.inl HO.out, bound_ext HW.out.size HOW.out HTA13.out.size, .inr ⟨db, _, _, _, pd.2, s, rfl, HWA13.out, HD13.out, num_same HNN.out rfl rfl rfl, .inr ⟨pb, lb, es, put', rfl, .inl HOP.out, HPL13.out, HL13.out, HROW13.out, fun g hg => .inl (HRO.out g hg), ⟨HENT.out.short, HENT.out.ins, HENT.out.le, fun h => by simp at h⟩⟩⟩⟩
          rcases hkp with hk0 | ⟨rfl, rfl⟩
          · have hkd : decide (kk < 0) = false := by simp; omega
            have hkn : ¬ kk < 0 := by omega
            go_wp2_with fail
            all_goals go_ret
            all_goals exact ⟨by first | rfl | simp, HTA13.out, HFIN.out⟩
          · go_wp2_with fail
            all_goals go_ret
            all_goals exact ⟨by first | rfl | simp, HTA13.out, HFIN.out⟩
end Go.Proofs.YtoomnijgdpbphaaGreatDoor
