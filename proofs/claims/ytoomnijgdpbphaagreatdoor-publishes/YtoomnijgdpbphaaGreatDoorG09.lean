import Derived.Test.YtoomnijgdpbphaaGreatDoorG08
import Derived.Test.YtoomnijgdpbphaaGreatDoorG06
import Derived.Deep.RegionWith
import Derived.Laws.ResultCell

namespace Go.Proofs.YtoomnijgdpbphaaGreatDoor
open Go.RowKit
set_option maxRecDepth 100000

def tb (l : List UInt8) : ByteArray := ⟨l.toArray⟩
theorem Sss.of_tb {w : World} {B : Nat} {v : Value} {ls : List (List UInt8)} (h : w.ownsRow B 9 1 v ls.length (ls.map txt)) : Sss w v (ls.map tb) := by
  refine Sss.of_owns (B := B) ?_
  have e : (ls.map tb).map Value.string = ls.map txt := by simp [tb, txt]
  rw [e, List.length_map]; exact h
theorem bys_tb (ls : List (List UInt8)) : bys (ls.map tb) = ls := by
  unfold bys tb
  rw [List.map_map]
  conv => rhs; rw [← List.map_id ls]
  congr 1
theorem ext_parts (s : ByteArray) (c : UInt8) (rr : List UInt8) (h : s.data.toList = c :: rr) (n : Nat) : s.extract 1 (1 + n) = tb (rr.take n) ∧ (s.extract (1 + n) s.size).data.toList = rr.drop n := by
  have hs : s.size = rr.length + 1 := by
    have := congrArg List.length h
    simpa using this
  refine ⟨?_, ?_⟩
  · apply ByteArray.ext
    apply Array.toList_inj.1
    simp [tb, h]
  · rw [ByteArray.data_extract, Array.toList_extract, List.extract_eq_take_drop, h, hs, show 1 + n = n + 1 by omega, List.drop_succ_cons]
    exact List.take_of_length_le (by simp)
def lenOf : Value → Nat
  | .string s => s.size
  | _ => 0
/-- A text that has a first byte. -/
theorem first_byte (s : ByteArray) (h : 0 < s.size) : ∃ c rr, s.data.toList = c :: rr ∧ s[0] = c ∧ rr.length + 1 = s.size := by
  have hl : s.data.toList.length = s.size := by simp
  cases hd : s.data.toList with
  | nil => rw [hd] at hl; simp at hl; omega
  | cons c rr =>
    refine ⟨c, rr, rfl, ?_, by rw [hd] at hl; simpa using hl⟩
    show s.data[0] = c
    rw [← Array.getElem_toList]
    simp [hd]

set_option maxHeartbeats 2000000 in
theorem refUnb_any (s : ByteArray) (w : World) (hs : s.size ≤ 1048576) :
    Calls Tryz.prog 90 #[.string s] w fun r w' => ∃ x, r = .returned (.tuple #[x, .bool (unbF s.data.toList).isSome]) ∧ Below w.heap.size w w' ∧ Sss w' x (((unbF s.data.toList).getD []).map tb) := by
  obtain ⟨i, hi, hi'⟩ := Option.map_eq_some_iff.1 infoStr
  obtain ⟨hz0, hz1, hz2⟩ : i.zero = some (.string ⟨#[]⟩) ∧ i.size = 1 ∧ i.bytes = 16 := by simpa using hi'
  clear hi'
  have HI := hide hi
  have HZ := hide (And.intro hz0 (And.intro hz1 hz2))
  clear hi hz0 hz1 hz2
  have hd : s.data.toList.length = s.size := by simp
  have HD := hide hd
  clear hd
  go_enter Tryz.func90, Tryz.ntmps90
  go_wp2_with fail
  go_loopw [0, 4] (fun t u wr => ∃ (s' : ByteArray) (acc : List (List UInt8)), t = .string s' ∧ Un s.data.toList acc s'.data.toList ∧ Below w.heap.size w wr ∧ wr.ownsRow w.heap.size 9 1 u acc.length (acc.map txt) ∧ ∀ l ∈ acc, l.length ≤ 255) (fun t _ _ => lenOf t)
  case atStart => exact ⟨s, [], rfl, Un.start _, Below.refl _ _, ⟨rfl, .inl ⟨rfl, rfl⟩⟩, fun l hl => by simp at hl⟩
  case round =>
    obtain ⟨s', acc, rfl, hun, hbe, hown, hall⟩ := hrel
    have HU := hide hun
    have HB := hide hbe
    have HO := hide hown
    have HA := hide hall
    have hlen := hun.2
    rw [HD.out] at hlen
    have hs' : s'.data.toList.length = s'.size := by simp
    rw [hs'] at hlen
    clear hun hbe hown hall hs'
    by_cases h0 : 0 < s'.size
    · obtain ⟨c, rr, hcr, hc0, hrl⟩ := first_byte s' h0
      have HU' : Hid (Un s.data.toList acc (c :: rr)) := hcr ▸ HU.out
      have HC := hide hcr
      have hcl := c.toNat_lt
      clear hcr HU
      by_cases hfit : c.toNat ≤ rr.length
      · obtain ⟨e1, e2⟩ := ext_parts s' c rr HC.out c.toNat
        have E1 := hide e1
        have E2 := hide e2
        clear e1 e2
        have hsz : Hid (w.heap.size ≤ wr.heap.size) := HB.out.size
        have HO1 : Hid (∀ o, (wr.alloc o).ownsRow w.heap.size 9 1 u4 acc.length (acc.map txt)) := fun o => ownsRow_below HO.out (below_alloc wr o)
        go_wp2_with (at_builtin; refine wpList_append_lies _ rfl _ _ _ rfl w.heap.size 9 i (.string ⟨#[]⟩) 1 16 Tryz.underlying45 HI.out HZ.out.1 HZ.out.2.1 HZ.out.2.2 rfl (by omega) u4 acc.length _ rfl (HO1.out _) ⟨wr.heap.size, 0, none⟩ 1 1 _ rfl rfl (World.news_of_block (heap_alloc_last _ _)) (by simp [Value.oneCell']) (by omega) (by unfold maxLen; omega) (by omega) (by have := hsz.out; simp; omega) (wr.heap.size + 1) (by simp) ?_; intro g' cap' w2 hown hgrow hat hltg; have HB1 : Hid (Below w.heap.size w w2) := (HB.out.trans ((below_alloc wr _).mono hsz.out)).grown hgrow (by have := hsz.out; simp; omega) (own_base HO.out); have HO2 := hide hown; clear hgrow hat hltg hown)
        refine ⟨⟨_, acc ++ [rr.take c.toNat], rfl, by rw [E2.out]; exact HU'.out.step hfit, HB1.out, ?_, fun l hl => ?_⟩, ?_⟩
        · have := HO2.out
          rw [E1.out] at this
          rw [List.length_append, List.map_append]
          exact this
        · rcases List.mem_append.1 hl with h | h
          · exact HA.out l h
          · obtain rfl : l = rr.take c.toNat := by simpa using h
            simp; omega
        · have e := congrArg List.length E2.out
          have e' : (s'.extract (1 + c.toNat) s'.size).data.toList.length = (s'.extract (1 + c.toNat) s'.size).size := by simp
          rw [e', List.length_drop] at e
          show (s'.extract (1 + c.toNat) s'.size).size < s'.size
          omega
      · have HR := hide (HU'.out.fail hfit)
        go_wp2
        go_ret2
        exact ⟨_, by rw [HR.out]; rfl, HB.out, by rw [HR.out]; exact ⟨none, 0, rfl, Nat.le_refl _, .inl rfl⟩⟩
    · have hnil : s'.data.toList = [] := List.length_eq_zero_iff.1 (by rw [Array.length_toList]; show s'.size = 0; omega)
      have HU' : Hid (Un s.data.toList acc []) := hnil ▸ HU.out
      clear HU hnil
      have HS := hide (Sss.of_tb HO.out)
      go_wp2_with fail
      refine (refBundle_any _ (acc.map tb) wr (by rw [List.length_map]; omega) (fun t ht => by
        obtain ⟨l, hl, rfl⟩ := List.mem_map.1 ht
        have := HA.out l hl
        show l.toArray.size ≤ _
        simp; omega) HS.out).mono ?_
      rintro r w2 ⟨hr, hb2⟩
      rw [bys_tb] at hr
      have HB2 : Hid (Below w.heap.size w w2) := HB.out.trans (hb2.mono HB.out.size)
      have HS2 := hide (HS.out.below hb2)
      clear hb2
      by_cases ho : okB acc = true
      · obtain ⟨r1, r2⟩ := HU'.out.end_ok ho
        have et : txt (bunT acc) = .string s := by rw [bunT_yes ho, r2]; unfold txt; congr 1
        rw [et, ho] at hr
        subst hr
        have HR := hide r1
        clear r1 r2 et ho
        go_wp2
        go_ret2
        exact ⟨_, by rw [HR.out]; rfl, HB2.out, by rw [HR.out]; exact HS2.out⟩
      · have ho' : okB acc = false := by simpa using ho
        have HR := hide (HU'.out.end_not ho')
        rw [bunT_no ho', ho'] at hr
        subst hr
        unfold txt
        go_wp2
        go_ret2
        exact ⟨_, by rw [HR.out]; rfl, HB2.out, by rw [HR.out]; exact ⟨none, 0, rfl, Nat.le_refl _, .inl rfl⟩⟩
end Go.Proofs.YtoomnijgdpbphaaGreatDoor

namespace Go.Proofs.YtoomnijgdpbphaaGreatDoor
open Go.RowKit
set_option maxRecDepth 100000

set_option maxHeartbeats 2000000 in
theorem clone_any (a : Addr) (n c : Nat) (l : List UInt8) (w : World) (hl : l.length = n) (hn : n ≤ 1000000) (hc : ∀ j u, (l.map bv)[j]? = some u → w.cell? (a.add j) = some u) :
    Calls Tryz.prog 92 #[.slice (some a) n c] w fun r w' => ∃ x, r = .returned x ∧ OB w' w.heap.size x l ∧ Below w.heap.size w w' := by
  obtain ⟨i, hi, hi'⟩ := Option.map_eq_some_iff.1 infoByte
  obtain ⟨hz0, hz1, hz2⟩ : i.zero = some (.int .u8 0) ∧ i.size = 1 ∧ i.bytes = 1 := by simpa using hi'
  clear hi'
  have HI := hide hi
  have HZ := hide (And.intro hz0 (And.intro hz1 hz2))
  clear hi hz0 hz1 hz2
  have q : ∀ (w : World) (a : Option Addr) (n c n' c' : Nat), (binOp .eql 89 (.slice a n c) (.slice none n' c')).run Tryz.prog w = .ok (.bool a.isNone) w := fun w a n c n' c' => Lib.run_eql_slice_nil w _ _ a n c n' c' Tryz.underlying89
  have HC := hide hc
  clear hc
  go_enter Tryz.func92, Tryz.ntmps92
  go_wp2_with (at_builtin; refine wpList_append_own _ rfl _ _ 89 rfl w.heap.size 5 i (.int .u8 0) 1 1 Tryz.underlying89 HI.out HZ.out.1 HZ.out.2.1 HZ.out.2.2 rfl (by decide) (.slice (some ⟨w.heap.size, 0, none⟩) 0 0) 0 [] rfl (World.ownsRow_made w #[] 0 (Nat.le_refl _) (Nat.zero_le _) rfl) a n c (l.map bv) rfl (by simp; omega) (fun j u hj => Lib.cell?_alloc_some _ (HC.out j u hj)) (bv_one l) (by unfold maxLen; omega) (by omega) (by simp) ?_; intro v' w1 hown hgrow hnil; have HO := hide hown; have HG := hide hgrow; have HN := hide hnil; clear hown hgrow hnil)
  go_ret
  refine ⟨v', rfl, ⟨by have := HO.out; rw [hl]; simpa using this, fun e => absurd (HN.out.1 e).1 (by simp)⟩, ?_⟩
  exact ((Below.refl _ w).alloc (Nat.le_refl _) _).grown HG.out (by simp) (by intro k hk; simp [Value.ownBlock] at hk; omega)

theorem OB.grown {w w' : World} {B B' : Nat} {x v : Value} {l : List UInt8} {n : Nat} {xs : List Value} (h : OB w B x l) (ho : w.ownsRow B' 89 1 v n xs) (hg' : w.grownBy w' v.ownBlock) : OB w' B x l := by
  refine ⟨⟨h.1.1, ?_⟩, h.2⟩
  rcases h.1.2 with h0 | ⟨g, cap, cur, rfl, hB, hg, r⟩
  · exact .inl h0
  · refine .inr ⟨g, cap, cur, rfl, hB, ?_, r⟩
    rw [hg'.block g (heap_lt hg) ?_]
    · exact hg
    · intro hq
      rcases ho.2 with ⟨rfl, _⟩ | ⟨g', c', cur', rfl, _, hg2, _⟩
      · simp [Value.ownBlock] at hq
      · simp only [Value.ownBlock, Option.some.injEq] at hq
        subst hq
        rw [hg] at hg2
        simp at hg2
theorem OB.weaken {w : World} {B B' : Nat} {x : Value} {l : List UInt8} (h : OB w B x l) (hB : B' ≤ B) : OB w B' x l := by
  refine ⟨⟨h.1.1, ?_⟩, h.2⟩
  rcases h.1.2 with h0 | ⟨g, cap, cur, rfl, hg, r⟩
  · exact .inl h0
  · exact .inr ⟨g, cap, cur, rfl, Nat.le_trans hB hg, r⟩
def OBs (w : World) (B : Nat) (v : Value) (ls : List (List UInt8)) : Prop :=
  ∃ xs : List Value, w.ownsRow B 89 1 v ls.length xs ∧ ∀ j (h : j < ls.length), ∃ x, xs[j]? = some x ∧ OB w B x ls[j]
theorem OBs.nil (w : World) (B : Nat) : OBs w B (.slice none 0 0) [] := ⟨[], ⟨rfl, .inl ⟨rfl, rfl⟩⟩, fun j hj => by simp at hj⟩
theorem obs_step {wr w1 w2 : World} {B : Nat} {u x : Value} {xs : List Value} {ls : List (List UInt8)} {l : List UInt8} {g cap' : Nat} {o : Obj} (hB : B ≤ wr.heap.size) (ho : wr.ownsRow B 89 1 u ls.length xs)
    (hx : ∀ j (h : j < ls.length), ∃ x, xs[j]? = some x ∧ OB wr B x ls[j])
    (hb1 : Below wr.heap.size wr w1) (hl : OB w1 wr.heap.size x l)
    (hown : w2.ownsRow B 89 1 (.slice (some ⟨g, 0, none⟩) (ls.length + 1) cap') (ls.length + 1) (xs ++ [x]))
    (hgrow : (w1.alloc o).grownBy w2 u.ownBlock) :
    OBs w2 B (.slice (some ⟨g, 0, none⟩) (ls.length + 1) cap') (ls ++ [l]) := by
  have hxl : xs.length = ls.length := by rw [ho.1, Nat.mul_one]
  have ho1 : (w1.alloc o).ownsRow B 89 1 u ls.length xs := ownsRow_below (ownsRow_below ho hb1) (below_alloc _ _)
  refine ⟨xs ++ [x], by simpa using hown, fun j hj => ?_⟩
  by_cases hjl : j < ls.length
  · obtain ⟨y, e, hb⟩ := hx j hjl
    refine ⟨y, by rw [List.getElem?_append_left (by omega)]; exact e, ?_⟩
    rw [List.getElem_append_left hjl]
    exact ((hb.below hb1).below (below_alloc _ _)).grown ho1 hgrow
  · obtain rfl : j = ls.length := by simp at hj; omega
    refine ⟨x, by rw [List.getElem?_append_right (by omega), hxl]; simp, ?_⟩
    rw [List.getElem_append_right (Nat.le_refl _)]
    simp only [Nat.sub_self, List.getElem_cons_zero]
    exact ((hl.weaken hB).below (below_alloc _ _)).grown ho1 hgrow

theorem ret_two {x : Value} {p q : Bool} (h : p = q) : Ending.returned (.tuple #[x, .bool p]) = .returned (.tuple #[x, .bool q]) := by rw [h]
/-- What is left of the bytes: where they lie. -/
def Rest (w : World) (v : Value) (r : List UInt8) : Prop := ∃ a cap, v = .slice (some a) r.length cap ∧ r.length ≤ cap ∧ a.spot = none ∧ ∀ i (h : i < r.length), w.cell? ⟨a.block, a.off + i, none⟩ = some (bv r[i])
theorem ob_one {w : World} {B : Nat} {x : Value} {l : List UInt8} (h : OB w B x l) : ∀ u ∈ [x], u.oneCell' = true := by
  intro u hu
  obtain rfl : u = x := by simpa using hu
  obtain ⟨g, cap, rfl, -⟩ := h.form
  rfl
theorem no_cells {wr : World} {a : Addr} {rr : List UInt8} (h : rr.length = 0) (n : Nat) : ∀ j u, ((rr.take n).map bv)[j]? = some u → wr.drew.cell? (a.add j) = some u := by
  intro j u hj
  obtain rfl : rr = [] := List.length_eq_zero_iff.1 h
  simp at hj
theorem ob_shape {w : World} {B : Nat} {x : Value} {l : List UInt8} (h : OB w B x l) : ∃ g c n, x = .slice (some ⟨g, 0, none⟩) n c := by
  obtain ⟨g, cap, rfl, -⟩ := h.form
  exact ⟨g, cap, _, rfl⟩
theorem all20 {acc : List (List UInt8)} {l : List UInt8} (h : ∀ l ∈ acc, l.length ≤ 20) (hl : l.length ≤ 20) : ∀ m ∈ acc ++ [l], m.length ≤ 20 := by
  intro m hm
  rcases List.mem_append.1 hm with h' | h'
  · exact h m h'
  · obtain rfl : m = l := by simpa using h'
    exact hl
def slen : Value → Nat
  | .slice _ n _ => n
  | _ => 0

theorem rest_drop {w : World} {b off : Nat} {rr : List UInt8} (hs : ∀ i (h : i < rr.length), w.cell? ⟨b, off + 1 + i, none⟩ = some (bv rr[i])) (n cap' o' : Nat) (hcap : rr.length - n ≤ cap') (ho : n < rr.length → o' = off + 1 + n) :
    Rest w (.slice (some ⟨b, o', none⟩) (rr.length - n) cap') (rr.drop n) := by
  refine ⟨⟨b, o', none⟩, cap', by rw [List.length_drop], by rw [List.length_drop]; exact hcap, rfl, fun i hi => ?_⟩
  rw [List.length_drop] at hi
  obtain rfl := ho (by omega)
  rw [List.getElem_drop]
  show w.cell? ⟨b, off + 1 + n + i, none⟩ = _
  rw [Nat.add_assoc (off + 1)]
  exact hs (n + i) (by omega)
theorem rest_nil {w : World} {b o : Nat} {l : List UInt8} (h : l.length = 0) : Rest w (.slice (some ⟨b, o, none⟩) 0 0) l :=
  ⟨⟨b, o, none⟩, 0, by rw [h], by rw [h]; exact Nat.le_refl _, rfl, fun i hi => by omega⟩
theorem take_cells {w wr : World} {b off : Nat} {rr : List UInt8} (hs : ∀ i (h : i < rr.length), w.cell? ⟨b, off + 1 + i, none⟩ = some (bv rr[i])) (hb : Below w.heap.size w wr) (n : Nat) : ∀ j u, ((rr.take n).map bv)[j]? = some u → wr.drew.cell? ((⟨b, off + 1, none⟩ : Addr).add j) = some u := by
  intro j u hj
  have hjl : j < (rr.take n).length := by simpa using (List.getElem?_eq_some_iff.1 hj).1
  have hjr : j < rr.length := by simp at hjl; omega
  have hx := hs j hjr
  rw [Addr.add_mid]
  show wr.cell? ⟨b, off + 1 + j, none⟩ = _
  rw [hb.cell (p := ⟨b, off + 1 + j, none⟩) (cell_lt (p := ⟨b, off + 1 + j, none⟩) hx), hx]
  rw [List.getElem?_map, List.getElem?_eq_getElem hjl, List.getElem_take] at hj
  simpa using hj

set_option maxHeartbeats 1000000 in
theorem unb_any (v : Value) (d : List UInt8) (w : World) (h : Rest w v d) :
    Calls Tryz.prog 77 #[v] w fun r w' => ∃ x, r = .returned (.tuple #[x, .bool (unbF d).isSome]) ∧ Below w.heap.size w w' ∧ OBs w' w.heap.size x ((unbF d).getD []) := by
  obtain ⟨i, hi, hi'⟩ := Option.map_eq_some_iff.1 infoBytes
  obtain ⟨hz0, hz1, hz2⟩ : i.zero = some (.slice none 0 0) ∧ i.size = 1 ∧ i.bytes = 24 := by simpa using hi'
  clear hi'
  have HI := hide hi
  have HZ := hide (And.intro hz0 (And.intro hz1 hz2))
  clear hi hz0 hz1 hz2
  have HR0 := hide h
  clear h
  go_enter Tryz.func77, Tryz.ntmps77
  go_wp2_with fail
  go_loopw [0, 4] (fun t u wr => ∃ (r : List UInt8) (acc : List (List UInt8)), Rest w t r ∧ Un d acc r ∧ Below w.heap.size w wr ∧ OBs wr w.heap.size u acc ∧ acc.length ≤ 4 ∧ ∀ l ∈ acc, l.length ≤ 20) (fun t _ _ => slen t)
  case atStart => exact ⟨d, [], HR0.out, Un.start _, Below.refl _ _, OBs.nil _ _, Nat.zero_le _, fun l hl => by simp at hl⟩
  case round =>
    obtain ⟨r, acc, ⟨⟨b, off, spot⟩, cap, rfl, hcap, hspot, hcell⟩, hun, hbe, hobs, h4, hall⟩ := hrel
    obtain rfl : spot = none := hspot
    have HU := hide hun
    have HB := hide hbe
    have HA := hide hall
    have HC := hide hcell
    obtain ⟨xs, ho, hxs⟩ := hobs
    have HO := hide ho
    have HX := hide hxs
    obtain ⟨ae, ce, hue⟩ : ∃ ae ce, u4 = .slice ae acc.length ce := by
      rcases ho.2 with ⟨e, e0⟩ | ⟨g, cap, cur, e, _⟩
      · exact ⟨none, 0, by rw [e, e0]⟩
      · exact ⟨_, _, e⟩
    subst hue
    have hlen := hun.2
    clear hun hbe hall hcell ho hxs
    cases r with
    | nil =>
      by_cases h1 : 1 ≤ acc.length
      · have n1 : (0 : Int) < (acc.length : Int) := by omega
        have HR := hide (HU.out.end_ok (okB_mk h1 h4 (fun j hj => HA.out _ (List.getElem_mem hj)))).1
        have HD := hide (show decide (0 < acc.length) = true by simp; omega)
        go_wp2
        go_ret2
        exact ⟨_, by rw [HR.out]; exact ret_two HD.out, HB.out, by rw [HR.out]; exact ⟨xs, HO.out, HX.out⟩⟩
      · have h0 : acc.length = 0 := by omega
        have HR := hide (HU.out.end_not (okB_none h0))
        obtain rfl : acc = [] := List.length_eq_zero_iff.1 h0
        go_wp2
        go_ret2
        exact ⟨_, by rw [HR.out]; rfl, HB.out, by rw [HR.out]; exact ⟨xs, HO.out, HX.out⟩⟩
    | cons c rr =>
      simp only [List.length_cons] at hcap hlen ⊢
      have hc0 := HC.out 0 (by simp)
      rw [Nat.add_zero] at hc0
      simp only [List.getElem_cons_zero] at hc0
      rw [← HB.out.cell (cell_lt (p := ⟨b, off, none⟩) hc0)] at hc0
      unfold bv at hc0
      have hcl := c.toNat_lt
      have HS : Hid (∀ i (h : i < rr.length), w.cell? ⟨b, off + 1 + i, none⟩ = some (bv rr[i])) := fun i h => by
        have := HC.out (i + 1) (by simp; omega)
        rw [show off + (i + 1) = off + 1 + i by omega] at this
        simpa using this
      clear HC
      by_cases e4 : acc.length = 4
      · have HR := hide (HU.out.many (by omega))
        have n4 : ((acc.length : Int) == 4) = true := by rw [beq_iff_eq]; omega
        clear e4
        by_cases ec : cap = 1
        · subst ec
          go_wp2_with fail
          go_region
          all_goals go_wp2
          all_goals go_ret2
          all_goals exact ⟨_, by rw [HR.out]; rfl, HB.out.drew, by rw [HR.out]; exact OBs.nil _ _⟩
        · go_wp2_with fail
          go_region
          all_goals go_wp2
          all_goals go_ret2
          all_goals exact ⟨_, by rw [HR.out]; rfl, HB.out.drew, by rw [HR.out]; exact OBs.nil _ _⟩
      · have n4 : ((acc.length : Int) == 4) = false := by rw [beq_eq_false_iff_ne]; omega
        by_cases e20 : 20 < c.toNat
        · have HR := hide (HU.out.long e20)
          have n20 : (20 : Int) < (c.toNat : Int) := by omega
          by_cases ec : cap = 1
          · subst ec
            go_wp2_with fail
            go_region
            all_goals go_wp2
            all_goals go_ret2
            all_goals exact ⟨_, by rw [HR.out]; rfl, HB.out.drew, by rw [HR.out]; exact OBs.nil _ _⟩
          · go_wp2_with fail
            go_region
            all_goals go_wp2
            all_goals go_ret2
            all_goals exact ⟨_, by rw [HR.out]; rfl, HB.out.drew, by rw [HR.out]; exact OBs.nil _ _⟩
        · have n20 : ¬ (20 : Int) < (c.toNat : Int) := by omega
          by_cases hfit : c.toNat ≤ rr.length
          · have nf : ¬ (rr.length : Int) < (c.toNat : Int) := by omega
            by_cases ec : cap = 1
            · have hr0 : rr.length = 0 := by omega
              have hc00 : c.toNat = 0 := by omega
              subst ec
              go_wp2_with fail
              go_region
              go_wp2_with fail
              refine (clone_any ⟨b, off, none⟩ 0 0 (rr.take c.toNat) wr.drew (by simp; omega) (by omega) (no_cells (by omega) _)).mono ?_
              rintro r w1 ⟨x, rfl, hob, hb1⟩
              obtain ⟨gx, cx, nx, rfl⟩ := ob_shape hob
              have HOB := hide hob
              have HB1 : Hid (Below wr.heap.size wr w1) := Below.trans (Below.refl _ _).drew hb1
              have HOO : Hid (∀ o, (w1.alloc o).ownsRow w.heap.size 89 1 (.slice ae acc.length ce) acc.length xs) := fun o => ownsRow_below (ownsRow_below HO.out HB1.out) (below_alloc w1 o)
              have hsz : Hid (w.heap.size ≤ w1.heap.size) := Nat.le_trans HB.out.size HB1.out.size
              clear hob hb1
              go_wp2_with (at_builtin; (refine wpList_append_lies _ rfl _ _ _ rfl w.heap.size 89 i (.slice none 0 0) 1 24 Tryz.underlying56 HI.out HZ.out.1 HZ.out.2.1 HZ.out.2.2 rfl (by omega) (.slice ae acc.length ce) acc.length xs rfl (HOO.out _) ⟨w1.heap.size, 0, none⟩ 1 1 [.slice (some ⟨gx, 0, none⟩) nx cx] rfl rfl (World.news_of_block (heap_alloc_last _ _)) (ob_one HOB.out) (by omega) (by unfold maxLen; omega) (by omega) (by have := hsz.out; simp; omega) (w1.heap.size + 1) (by simp) ?_; intro g' cap' w2 hown hgrow hat hltg; have HST := hide (obs_step HB.out.size HO.out HX.out HB1.out HOB.out hown hgrow); have HB2 : Hid (Below w.heap.size w w2) := ((HB.out.trans (HB1.out.mono HB.out.size)).trans ((below_alloc w1 _).mono hsz.out)).grown hgrow (by have := hsz.out; simp; omega) (own_base HO.out); clear hgrow hat hltg hown))
              refine ⟨⟨rr.drop c.toNat, acc ++ [rr.take c.toNat], rest_nil (by simp; omega), HU.out.step hfit, HB2.out, HST.out, by simp; omega, all20 HA.out (by simp; omega)⟩, by show 0 < _; simp [slen]⟩
            · by_cases ec2 : cap - 1 = c.toNat
              · go_wp2_with fail
                go_region
                go_wp2_with fail
                refine (clone_any ⟨b, off + 1, none⟩ c.toNat c.toNat (rr.take c.toNat) wr.drew (by simp; omega) (by omega) (take_cells HS.out HB.out _)).mono ?_
                rintro r w1 ⟨x, rfl, hob, hb1⟩
                obtain ⟨gx, cx, nx, rfl⟩ := ob_shape hob
                have HOB := hide hob
                have HB1 : Hid (Below wr.heap.size wr w1) := Below.trans (Below.refl _ _).drew hb1
                have HOO : Hid (∀ o, (w1.alloc o).ownsRow w.heap.size 89 1 (.slice ae acc.length ce) acc.length xs) := fun o => ownsRow_below (ownsRow_below HO.out HB1.out) (below_alloc w1 o)
                have hsz : Hid (w.heap.size ≤ w1.heap.size) := Nat.le_trans HB.out.size HB1.out.size
                clear hob hb1
                go_wp2_with (at_builtin; (refine wpList_append_lies _ rfl _ _ _ rfl w.heap.size 89 i (.slice none 0 0) 1 24 Tryz.underlying56 HI.out HZ.out.1 HZ.out.2.1 HZ.out.2.2 rfl (by omega) (.slice ae acc.length ce) acc.length xs rfl (HOO.out _) ⟨w1.heap.size, 0, none⟩ 1 1 [.slice (some ⟨gx, 0, none⟩) nx cx] rfl rfl (World.news_of_block (heap_alloc_last _ _)) (ob_one HOB.out) (by omega) (by unfold maxLen; omega) (by omega) (by have := hsz.out; simp; omega) (w1.heap.size + 1) (by simp) ?_; intro g' cap' w2 hown hgrow hat hltg; have HST := hide (obs_step HB.out.size HO.out HX.out HB1.out HOB.out hown hgrow); have HB2 : Hid (Below w.heap.size w w2) := ((HB.out.trans (HB1.out.mono HB.out.size)).trans ((below_alloc w1 _).mono hsz.out)).grown hgrow (by have := hsz.out; simp; omega) (own_base HO.out); clear hgrow hat hltg hown))
                refine ⟨⟨rr.drop c.toNat, acc ++ [rr.take c.toNat], rest_drop HS.out c.toNat _ _ (by omega) (fun h => by omega), HU.out.step hfit, HB2.out, HST.out, by simp; omega, all20 HA.out (by simp; omega)⟩, by show rr.length - c.toNat < rr.length + 1; omega⟩
              · go_wp2_with fail
                go_region
                go_wp2_with fail
                refine (clone_any ⟨b, off + 1, none⟩ c.toNat (cap - 1) (rr.take c.toNat) wr.drew (by simp; omega) (by omega) (take_cells HS.out HB.out _)).mono ?_
                rintro r w1 ⟨x, rfl, hob, hb1⟩
                obtain ⟨gx, cx, nx, rfl⟩ := ob_shape hob
                have HOB := hide hob
                have HB1 : Hid (Below wr.heap.size wr w1) := Below.trans (Below.refl _ _).drew hb1
                have HOO : Hid (∀ o, (w1.alloc o).ownsRow w.heap.size 89 1 (.slice ae acc.length ce) acc.length xs) := fun o => ownsRow_below (ownsRow_below HO.out HB1.out) (below_alloc w1 o)
                have hsz : Hid (w.heap.size ≤ w1.heap.size) := Nat.le_trans HB.out.size HB1.out.size
                clear hob hb1
                go_wp2_with (at_builtin; (refine wpList_append_lies _ rfl _ _ _ rfl w.heap.size 89 i (.slice none 0 0) 1 24 Tryz.underlying56 HI.out HZ.out.1 HZ.out.2.1 HZ.out.2.2 rfl (by omega) (.slice ae acc.length ce) acc.length xs rfl (HOO.out _) ⟨w1.heap.size, 0, none⟩ 1 1 [.slice (some ⟨gx, 0, none⟩) nx cx] rfl rfl (World.news_of_block (heap_alloc_last _ _)) (ob_one HOB.out) (by omega) (by unfold maxLen; omega) (by omega) (by have := hsz.out; simp; omega) (w1.heap.size + 1) (by simp) ?_; intro g' cap' w2 hown hgrow hat hltg; have HST := hide (obs_step HB.out.size HO.out HX.out HB1.out HOB.out hown hgrow); have HB2 : Hid (Below w.heap.size w w2) := ((HB.out.trans (HB1.out.mono HB.out.size)).trans ((below_alloc w1 _).mono hsz.out)).grown hgrow (by have := hsz.out; simp; omega) (own_base HO.out); clear hgrow hat hltg hown))
                refine ⟨⟨rr.drop c.toNat, acc ++ [rr.take c.toNat], rest_drop HS.out c.toNat _ _ (by omega) (fun h => by omega), HU.out.step hfit, HB2.out, HST.out, by simp; omega, all20 HA.out (by simp; omega)⟩, by show rr.length - c.toNat < rr.length + 1; omega⟩
          · have nf : (rr.length : Int) < (c.toNat : Int) := by omega
            have HR := hide (HU.out.fail hfit)
            by_cases ec : cap = 1
            · subst ec
              go_wp2_with fail
              go_region
              all_goals go_wp2
              all_goals go_ret2
              all_goals exact ⟨_, by rw [HR.out]; rfl, HB.out.drew, by rw [HR.out]; exact OBs.nil _ _⟩
            · go_wp2_with fail
              go_region
              all_goals go_wp2
              all_goals go_ret2
              all_goals exact ⟨_, by rw [HR.out]; rfl, HB.out.drew, by rw [HR.out]; exact OBs.nil _ _⟩
end Go.Proofs.YtoomnijgdpbphaaGreatDoor

namespace Go.Proofs.YtoomnijgdpbphaaGreatDoor
open Go.RowKit
set_option maxRecDepth 100000

/-- A publisher: its key, its entries, how many of them are put, has it not failed. -/
structure Lg where
  key : List UInt8
  es : List (List UInt8)
  put : Nat
  live : Bool
def stV (db : Nat) (live : Bool) : Value := if live then .iface 43 (dptr db) else .nilIface
def lcells (db : Nat) (ev : Value) (l : Lg) : Array Value := #[stV db l.live, txv l.key, ev, .int .i64 l.put]
def LogAt (w : World) (O : Nat → Prop) (db b : Nat) (l : Lg) : Prop :=
  ∃ ev, O b ∧ w.heap[b]? = some (.cells (lcells db ev l) 58 (0, 0)) ∧ OBs w 0 ev l.es ∧ ∀ g, ev.ownBlock = some g → O g

theorem got_slice {d : Dk} {p : List UInt8} {w : World} {v : Value} (h : (bad d = false ∧ ∃ x, look d.fs p = some x ∧ Bq w v x) ∨ ((bad d = true ∨ look d.fs p = none) ∧ v = .slice none 0 0)) : ∃ a n c, v = .slice a n c := by
  rcases h with ⟨-, x, -, g, cap, C, fr, rfl, -⟩ | ⟨-, rfl⟩
  · exact ⟨_, _, _, rfl⟩
  · exact ⟨_, _, _, rfl⟩
theorem meth_get (n : Nat) (v : Value) (w : World) : (method (n + 1) 43 v "Get").run Tryz.prog w = .ok (182, v) w := by kernel_rfl
theorem meth_put (n : Nat) (v : Value) (w : World) : (method (n + 1) 43 v "Put").run Tryz.prog w = .ok (183, v) w := by kernel_rfl
theorem meth_swap (n : Nat) (v : Value) (w : World) : (method (n + 1) 43 v "Swap").run Tryz.prog w = .ok (184, v) w := by kernel_rfl
set_option maxHeartbeats 400000 in
theorem get1_any (O : Nat → Prop) (db lb B1 B2 B3 : Nat) (d : Dk) (p : List UInt8) (u : Value) (w : World) (hn : d.fs.length ≤ 1000000000) (hl : ∀ f ∈ d.fs, f.2.length ≤ 1000000000) (h : DiskAt w O db d)
    (h1 : w.cell? ⟨B1, 0, none⟩ = some (.pointer (some ⟨lb, 0, none⟩))) (h2 : w.cell? ⟨B2, 0, none⟩ = some (txv p)) (h3 : w.heap[B3]? = some (.cells #[u] 89 (0, 0))) (hst : w.cell? ⟨lb, 0, none⟩ = some (stV db true)) :
    Calls Tryz.prog 70 #[.pointer (some ⟨B1, 0, none⟩), .pointer (some ⟨B2, 0, none⟩), .pointer (some ⟨B3, 0, none⟩)] w fun r w2 => ∃ v e w', r = .returned e ∧ w2 = w'.setCell ⟨B3, 0, none⟩ v ∧ OwnRes (bad d) w.heap.size e w' ∧ Turn O dT1 w w' ∧ DiskAt w' O db (enterD d) ∧
      ((bad d = false ∧ ∃ x, look d.fs p = some x ∧ Bq w' v x) ∨ ((bad d = true ∨ look d.fs p = none) ∧ v = .slice none 0 0)) := by
  unfold stV dptr at hst
  simp only [if_true] at hst
  unfold txv at h2
  obtain ⟨k3, z3⟩ := dcell h3 0 u rfl
  have HD := hide h
  have H3 := hide h3
  have HL := hide hl
  clear h h3 hl
  go_enter Tryz.func70, Tryz.ntmps70
  go_wp2_with fail
  have hm := meth_get
  go_region_with (go_at_call 182; refine (get_any O db d p _ hn HL.out (by exact HD.out)).mono ?_; rintro r w1 ⟨v, e, rfl, ho, ht, hd, hv⟩; obtain ⟨a, n, c, rfl⟩ := got_slice hv; have HO := hide ho; have HT := hide ht; have HDD := hide hd; have HV := hide hv; obtain ⟨k4, z4⟩ := dcell (ht.keep (k := B3) H3.out (by decide)) 0 u rfl; clear ho ht hd hv)
  all_goals go_wp2
  all_goals go_ret
  all_goals exact ⟨_, _, w1, rfl, rfl, HO.out, HT.out.undrew, HDD.out, HV.out⟩

/-- An error of the store's, wrapped. -/
def PErr (w : World) (g : Nat) (p : List UInt8) : Prop := ∃ g', w.heap[g]? = some (.cells #[txv p, errV g'] 64 (0, 0)) ∧ ErrAt w g'
def GotErr (e : Bool) (p : List UInt8) (B : Nat) (r : Value) (w : World) : Prop := (e = false ∧ r = .nilIface) ∨ (e = true ∧ ∃ g, r = pathE g ∧ B ≤ g ∧ PErr w g p)
theorem ErrAt.turn {w w' : World} {O : Nat → Prop} {T : List Nat} {g : Nat} (h : ErrAt w g) (ht : Turn O T w w') (hT : 253 ∉ T) : ErrAt w' g := by
  obtain ⟨c, h⟩ := h
  exact ⟨c, ht.keep h hT⟩
theorem PErr.turn {w w' : World} {O : Nat → Prop} {T : List Nat} {g : Nat} {p : List UInt8} (h : PErr w g p) (ht : Turn O T w w') (hT : 253 ∉ T) (hT' : 64 ∉ T) : PErr w' g p := by
  obtain ⟨g', h, h'⟩ := h
  exact ⟨g', ht.keep h hT', h'.turn ht hT⟩
theorem own_shape {e : Bool} {B : Nat} {r : Value} {w : World} (h : OwnRes e B r w) : r = .nilIface ∨ ∃ g, r = errV g := by
  rcases h with ⟨-, rfl⟩ | ⟨-, g, rfl, -⟩
  · exact .inl rfl
  · exact .inr ⟨g, rfl⟩
abbrev cT : List Nat := [89, 39]
theorem set_cell_turn {w : World} {b : Nat} {cs : Array Value} {t : TypeId} (hb : w.heap[b]? = some (.cells cs t (0, 0))) (ht : t ∈ cT) (u : Value) : Turn (fun _ => True) cT w (w.setCell ⟨b, 0, none⟩ u) := (Turn.refl _ _ w).set (.inl trivial) hb ht u

theorem alloc3 (w : World) (o1 o2 o3 : Obj) : (((w.alloc o1).alloc o2).alloc o3).heap.size = w.heap.size + 3 ∧ (((w.alloc o1).alloc o2).alloc o3).heap[w.heap.size]? = some o1 ∧ (((w.alloc o1).alloc o2).alloc o3).heap[w.heap.size + 1]? = some o2 ∧ (((w.alloc o1).alloc o2).alloc o3).heap[w.heap.size + 1 + 1]? = some o3 ∧ Below w.heap.size w (((w.alloc o1).alloc o2).alloc o3) := by
  have e1 : (w.alloc o1).heap.size = w.heap.size + 1 := by simp
  have e2 : ((w.alloc o1).alloc o2).heap.size = w.heap.size + 1 + 1 := by simp
  refine ⟨by simp, heap_alloc_old (heap_alloc_old (heap_alloc_last _ _)), ?_, ?_, ?_⟩
  · rw [← e1]; exact heap_alloc_old (heap_alloc_last _ _)
  · rw [← e2]; exact heap_alloc_last _ _
  · exact ((below_alloc w o1).trans ((below_alloc _ o2).mono (by simp))).trans ((below_alloc _ o3).mono (by simp; omega))
theorem heap_set_ne {w : World} {b k : Nat} {u : Value} {o : Obj} (h : w.heap[k]? = some o) (hne : k ≠ b) : (w.setCell ⟨b, 0, none⟩ u).heap[k]? = some o := by rw [heap_setCell_other _ _ _ _ hne]; exact h

set_option maxHeartbeats 1000000 in
theorem lget_any (O : Nat → Prop) (db lb : Nat) (d : Dk) (p : List UInt8) (w : World) (hn : d.fs.length ≤ 1000000000) (hl : ∀ f ∈ d.fs, f.2.length ≤ 1000000000) (h : DiskAt w O db d) (hst : w.cell? ⟨lb, 0, none⟩ = some (stV db true)) :
    Calls Tryz.prog 38 #[.pointer (some ⟨lb, 0, none⟩), txv p] w fun r w' => ∃ v e, r = .returned (.tuple #[v, e]) ∧ GotErr (bad d) p w.heap.size e w' ∧ Turn O dT1 w w' ∧ DiskAt w' O db (enterD d) ∧
      ((bad d = false ∧ ∃ x, look d.fs p = some x ∧ Bq w' v x) ∨ ((bad d = true ∨ look d.fs p = none) ∧ v = .slice none 0 0)) := by
  have hmf : ∀ (fn : Fn) (first cap : Array Value) (w : World), (Instr.makeFunc fn first cap).run Tryz.prog w = .ok (.func fn first cap) w := fun _ _ _ _ => rfl
  have eg : ∀ args w, (callFunc 70 args).run Tryz.prog w = .ok (.enter 70 args) w := enters_of Tryz.func70 (by kernel_rfl) rfl
  have HD := hide h
  have HL := hide hl
  have HS := hide hst
  clear h hl hst
  have htx : txv p = .string ⟨p.toArray⟩ := rfl
  rw [htx]
  go_enter Tryz.func38, Tryz.ntmps38
  go_wp2_with fail
  obtain ⟨s3, p1, p2, p3, hb3⟩ := alloc3 w (.cells #[.pointer (some ⟨lb, 0, none⟩)] 37) (.cells #[.string ⟨p.toArray⟩] 9) (.cells #[.slice none 0 0] 89)
  generalize (((w.alloc (.cells #[.pointer (some ⟨lb, 0, none⟩)] 37)).alloc (.cells #[.string ⟨p.toArray⟩] 9)).alloc (.cells #[.slice none 0 0] 89)) = W3 at *
  have HB3 := hide hb3
  have P3 := hide p3
  have S3 := hide s3
  have hcall := get1_any O db lb w.heap.size (w.heap.size + 1) (w.heap.size + 1 + 1) d p (.slice none 0 0) (W3.alloc (.cells #[.nilIface] 39)) hn HL.out
    (HD.out.stay (O1 := fun _ => False) (T := []) ((Turn.of_below hb3).alloc _) (by simp) (by simp))
    (dcell (heap_alloc_old p1) 0 _ rfl).1 (dcell (heap_alloc_old p2) 0 _ rfl).1 (heap_alloc_old p3) (by rw [cell_old _ _ ⟨_, 0, none⟩ (Nat.lt_of_lt_of_le (cell_lt HS.out) hb3.size), hb3.cell (p := ⟨lb, 0, none⟩) (cell_lt HS.out)]; exact HS.out)
  have H0 : Hid ((W3.alloc (.cells #[.nilIface] 39)).heap[W3.heap.size]? = some (.cells #[.nilIface] 39 (0, 0))) := heap_alloc_last _ _
  have hW : Hid ((W3.alloc (.cells #[.nilIface] 39)).heap.size = W3.heap.size + 1) := by show _ = _; simp
  have hbl : Hid (Below w.heap.size w (W3.alloc (.cells #[.nilIface] 39))) := hb3.alloc (by omega) _
  have P4 : Hid ((W3.alloc (.cells #[.nilIface] 39)).heap[w.heap.size + 1 + 1]? = some (.cells #[.slice none 0 0] 89 (0, 0))) := heap_alloc_old p3
  refine (ask_any p 70 _ W3 (fun e w2 => ∃ v w', w2 = w'.setCell ⟨w.heap.size + 1 + 1, 0, none⟩ v ∧ OwnRes (bad d) (W3.alloc (.cells #[.nilIface] 39)).heap.size e w' ∧ Turn O dT1 (W3.alloc (.cells #[.nilIface] 39)) w' ∧ DiskAt w' O db (enterD d) ∧ ((bad d = false ∧ ∃ x, look d.fs p = some x ∧ Bq w' v x) ∨ ((bad d = true ∨ look d.fs p = none) ∧ v = .slice none 0 0))) eg
    (hcall.mono (by rintro r w2 ⟨v, e, w', rfl, h⟩; exact ⟨e, rfl, v, w', h⟩)) ?_).mono ?_
  · rintro e w2 ⟨v, w', rfl, ho, ht, -⟩
    exact ⟨own_shape ho, heap_set_ne (ht.keep H0.out (by decide)) (by have := S3.out; omega)⟩
  clear hcall p1 p2 p3 hb3 s3
  generalize W3.alloc (.cells #[.nilIface] 39) = W4 at *
  rintro r w5 ⟨e, w2, ⟨v, w', rfl, ho, ht, hd, hv⟩, h⟩
  obtain ⟨a, n, c, rfl⟩ := got_slice hv
  have q3 := ht.keep P4.out (by decide)
  have q0 := ht.keep H0.out (by decide)
  have tw : Turn O dT1 w w' := (Turn.of_below hbl.out).trans (ht.mono (fun _ h => .inl h) (fun _ h => h))
  have hsz : W3.heap.size ≠ w.heap.size + 1 + 1 := by have := S3.out; omega
  have hsz' : w.heap.size ≤ W3.heap.size := by have := S3.out; omega
  have r3 := dset q3 0 (.slice a n c)
  have r0 := heap_set_ne (u := .slice a n c) q0 hsz
  have tA : Turn (fun _ => True) cT w' (w'.setCell ⟨w.heap.size + 1 + 1, 0, none⟩ (.slice a n c)) := set_cell_turn q3 (by decide) _
  rcases h with ⟨rfl, rfl, rfl⟩ | ⟨⟨g', rfl⟩, rfl, rfl⟩
  · have hbd : bad d = false := by
      rcases ho with ⟨h, -⟩ | ⟨-, g, h, -⟩
      · exact h
      · simp [errV] at h
    have tB := set_cell_turn r0 (by decide) .nilIface
    have r3' := heap_set_ne (u := .nilIface) r3 (Ne.symm hsz)
    have tC := set_cell_turn r3' (by decide) (.slice a n c)
    have rf := dset r3' 0 (.slice a n c)
    have HFIN : Hid (GotErr (bad d) p w.heap.size .nilIface (((w'.setCell ⟨w.heap.size + 1 + 1, 0, none⟩ (.slice a n c)).setCell ⟨W3.heap.size, 0, none⟩ .nilIface).setCell ⟨w.heap.size + 1 + 1, 0, none⟩ (.slice a n c)) ∧ Turn O dT1 w (((w'.setCell ⟨w.heap.size + 1 + 1, 0, none⟩ (.slice a n c)).setCell ⟨W3.heap.size, 0, none⟩ .nilIface).setCell ⟨w.heap.size + 1 + 1, 0, none⟩ (.slice a n c)) ∧ DiskAt (((w'.setCell ⟨w.heap.size + 1 + 1, 0, none⟩ (.slice a n c)).setCell ⟨W3.heap.size, 0, none⟩ .nilIface).setCell ⟨w.heap.size + 1 + 1, 0, none⟩ (.slice a n c)) O db (enterD d) ∧
      ((bad d = false ∧ ∃ x, look d.fs p = some x ∧ Bq (((w'.setCell ⟨w.heap.size + 1 + 1, 0, none⟩ (.slice a n c)).setCell ⟨W3.heap.size, 0, none⟩ .nilIface).setCell ⟨w.heap.size + 1 + 1, 0, none⟩ (.slice a n c)) (.slice a n c) x) ∨ ((bad d = true ∨ look d.fs p = none) ∧ Value.slice a n c = .slice none 0 0))) := by
      refine ⟨.inl ⟨hbd, rfl⟩, ((tw.setNew (by omega) _ _).setNew hsz' _ _).setNew (by omega) _ _, ((hd.stay tA (by decide) (by decide)).stay tB (by decide) (by decide)).stay tC (by decide) (by decide), ?_⟩
      rcases hv with ⟨h1, x, h2, h3⟩ | h
      · exact .inl ⟨h1, x, h2, ((h3.turn tA (by decide)).turn tB (by decide)).turn tC (by decide)⟩
      · exact .inr h
    obtain ⟨kc, kz⟩ := dcell r3' 0 (.slice a n c) rfl
    have HRF := hide (dcell rf 0 (.slice a n c) rfl).1
    clear tA tB tC tw ho ht hd hv q3 q0 r3 r0 r3' rf hbl H0 P4 P3 HB3 HS HL HD
    go_wp2_with fail
    refine bodyPost_ret (v := .tuple #[.slice a n c, .nilIface]) ?_ rfl ⟨_, _, rfl, HFIN.out⟩
    simp [results, Tryz.results38, go_sem, HRF.out]
  · have hbd : bad d = true := by
      rcases ho with ⟨-, h⟩ | ⟨h, -⟩
      · simp [errV] at h
      · exact h
    have herr : ErrAt w' g' := by
      rcases ho with ⟨-, h⟩ | ⟨-, g, h, -, h'⟩
      · simp [errV] at h
      · simp [errV] at h
        exact h ▸ h'
    have hsw : (w'.setCell ⟨w.heap.size + 1 + 1, 0, none⟩ (.slice a n c)).heap.size = w'.heap.size := by simp [World.setCell]
    rw [hsw]
    have hpe : ((w'.setCell ⟨w.heap.size + 1 + 1, 0, none⟩ (.slice a n c)).alloc (.cells #[txv p, errV g'] 64)).heap[w'.heap.size]? = some (.cells #[txv p, errV g'] 64 (0, 0)) := by rw [← hsw]; exact heap_alloc_last _ _
    have tP : Turn (fun _ => True) cT (w'.setCell ⟨w.heap.size + 1 + 1, 0, none⟩ (.slice a n c)) ((w'.setCell ⟨w.heap.size + 1 + 1, 0, none⟩ (.slice a n c)).alloc (.cells #[txv p, errV g'] 64)) := (Turn.refl _ _ _).alloc _
    have r0' := heap_alloc_old (o := .cells #[txv p, errV g'] 64) r0
    have r3a := heap_alloc_old (o := .cells #[txv p, errV g'] 64) r3
    have tB := set_cell_turn r0' (by decide) (pathE w'.heap.size)
    have r3' := heap_set_ne (u := pathE w'.heap.size) r3a (Ne.symm hsz)
    have tC := set_cell_turn r3' (by decide) (.slice a n c)
    have rf := dset r3' 0 (.slice a n c)
    have hlw : w.heap.size ≤ w'.heap.size := tw.size
    have HFIN : Hid (GotErr (bad d) p w.heap.size (pathE w'.heap.size) ((((w'.setCell ⟨w.heap.size + 1 + 1, 0, none⟩ (.slice a n c)).alloc (.cells #[txv p, errV g'] 64)).setCell ⟨W3.heap.size, 0, none⟩ (pathE w'.heap.size)).setCell ⟨w.heap.size + 1 + 1, 0, none⟩ (.slice a n c)) ∧ Turn O dT1 w ((((w'.setCell ⟨w.heap.size + 1 + 1, 0, none⟩ (.slice a n c)).alloc (.cells #[txv p, errV g'] 64)).setCell ⟨W3.heap.size, 0, none⟩ (pathE w'.heap.size)).setCell ⟨w.heap.size + 1 + 1, 0, none⟩ (.slice a n c)) ∧ DiskAt ((((w'.setCell ⟨w.heap.size + 1 + 1, 0, none⟩ (.slice a n c)).alloc (.cells #[txv p, errV g'] 64)).setCell ⟨W3.heap.size, 0, none⟩ (pathE w'.heap.size)).setCell ⟨w.heap.size + 1 + 1, 0, none⟩ (.slice a n c)) O db (enterD d) ∧
      ((bad d = false ∧ ∃ x, look d.fs p = some x ∧ Bq ((((w'.setCell ⟨w.heap.size + 1 + 1, 0, none⟩ (.slice a n c)).alloc (.cells #[txv p, errV g'] 64)).setCell ⟨W3.heap.size, 0, none⟩ (pathE w'.heap.size)).setCell ⟨w.heap.size + 1 + 1, 0, none⟩ (.slice a n c)) (.slice a n c) x) ∨ ((bad d = true ∨ look d.fs p = none) ∧ Value.slice a n c = .slice none 0 0))) := by
      refine ⟨.inr ⟨hbd, w'.heap.size, rfl, hlw, g', ?_, ?_⟩, (((tw.setNew (by omega) _ _).alloc _).setNew hsz' _ _).setNew (by omega) _ _, (((hd.stay tA (by decide) (by decide)).stay tP (by decide) (by decide)).stay tB (by decide) (by decide)).stay tC (by decide) (by decide), ?_⟩
      · exact tC.keep (tB.keep hpe (by decide)) (by decide)
      · exact (((herr.turn tA (by decide)).turn tP (by decide)).turn tB (by decide)).turn tC (by decide)
      · rcases hv with ⟨h1, x, h2, h3⟩ | h
        · rw [hbd] at h1; simp at h1
        · exact .inr h
    obtain ⟨kc, kz⟩ := dcell r3' 0 (.slice a n c) rfl
    have HRF := hide (dcell rf 0 (.slice a n c) rfl).1
    clear tA tB tC tP tw ho ht hd hv q3 q0 r3 r0 r3' r3a r0' rf hbl H0 P4 P3 HB3 HS HL HD hpe herr hsw
    unfold txv pathE errV at *
    go_wp2_with fail
    refine bodyPost_ret (v := .tuple #[.slice a n c, .iface 62 (.pointer (some ⟨w'.heap.size, 0, none⟩))]) ?_ rfl ⟨_, _, rfl, HFIN.out⟩
    simp [results, Tryz.results38, go_sem, HRF.out]
end Go.Proofs.YtoomnijgdpbphaaGreatDoor
