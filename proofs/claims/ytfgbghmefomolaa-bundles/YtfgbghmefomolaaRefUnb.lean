
import Derived.Test.YtfgbghmefomolaaBunPlain
namespace Go.Proofs.Ytfgbghmefomolaa
open Go.RowKit
set_option maxRecDepth 100000

def tb (l : List UInt8) : ByteArray := ⟨l.toArray⟩
theorem Sss.of_tb {w : World} {B : Nat} {v : Value} {ls : List (List UInt8)} (h : w.ownsRow B 9 1 v ls.length (ls.map txt)) : Sss w v (ls.map tb) := by
  refine Sss.of_owns (B := B) ?_
  have e : (ls.map tb).map Value.string = ls.map txt := by simp [tb, txt]
  rw [e, List.length_map]; exact h
theorem bys_tb (ls : List (List UInt8)) : bys (ls.map tb) = ls := by
  unfold bys tb
  rw [List.map_map]
  conv => rhs; rw [← List.map_id ls]
  congr 1
theorem ext_parts (s : ByteArray) (c : UInt8) (rr : List UInt8) (h : s.data.toList = c :: rr) (n : Nat) : s.extract 1 (1 + n) = tb (rr.take n) ∧ (s.extract (1 + n) s.size).data.toList = rr.drop n := by
  have hs : s.size = rr.length + 1 := by
    have := congrArg List.length h
    simpa using this
  refine ⟨?_, ?_⟩
  · apply ByteArray.ext
    apply Array.toList_inj.1
    simp [tb, h]
  · rw [ByteArray.data_extract, Array.toList_extract, List.extract_eq_take_drop, h, hs, show 1 + n = n + 1 by omega, List.drop_succ_cons]
    exact List.take_of_length_le (by simp)
def lenOf : Value → Nat
  | .string s => s.size
  | _ => 0
/-- A text that has a first byte. -/
theorem first_byte (s : ByteArray) (h : 0 < s.size) : ∃ c rr, s.data.toList = c :: rr ∧ s[0] = c ∧ rr.length + 1 = s.size := by
  have hl : s.data.toList.length = s.size := by simp
  cases hd : s.data.toList with
  | nil => rw [hd] at hl; simp at hl; omega
  | cons c rr =>
    refine ⟨c, rr, rfl, ?_, by rw [hd] at hl; simpa using hl⟩
    show s.data[0] = c
    rw [← Array.getElem_toList]
    simp [hd]

set_option maxHeartbeats 2000000 in
theorem refUnb_any (s : ByteArray) (w : World) (hs : s.size ≤ 1048576) :
    Calls Try.prog 21 #[.string s] w fun r w' => ∃ x, r = .returned (.tuple #[x, .bool (unbF s.data.toList).isSome]) ∧ Below w.heap.size w w' ∧ Sss w' x (((unbF s.data.toList).getD []).map tb) := by
  obtain ⟨i, hi, hi'⟩ := Option.map_eq_some_iff.1 infoStr
  obtain ⟨hz0, hz1, hz2⟩ : i.zero = some (.string ⟨#[]⟩) ∧ i.size = 1 ∧ i.bytes = 16 := by simpa using hi'
  clear hi'
  have HI := hide hi
  have HZ := hide (And.intro hz0 (And.intro hz1 hz2))
  clear hi hz0 hz1 hz2
  have hd : s.data.toList.length = s.size := by simp
  have HD := hide hd
  clear hd
  go_enter Try.func21, Try.ntmps21
  go_wp2_with fail
  go_loopw [0, 4] (fun t u wr => ∃ (s' : ByteArray) (acc : List (List UInt8)), t = .string s' ∧ Un s.data.toList acc s'.data.toList ∧ Below w.heap.size w wr ∧ wr.ownsRow w.heap.size 9 1 u acc.length (acc.map txt) ∧ ∀ l ∈ acc, l.length ≤ 255) (fun t _ _ => lenOf t)
  case atStart => exact ⟨s, [], rfl, Un.start _, Below.refl _ _, ⟨rfl, .inl ⟨rfl, rfl⟩⟩, fun l hl => by simp at hl⟩
  case round =>
    obtain ⟨s', acc, rfl, hun, hbe, hown, hall⟩ := hrel
    have HU := hide hun
    have HB := hide hbe
    have HO := hide hown
    have HA := hide hall
    have hlen := hun.2
    rw [HD.out] at hlen
    have hs' : s'.data.toList.length = s'.size := by simp
    rw [hs'] at hlen
    clear hun hbe hown hall hs'
    by_cases h0 : 0 < s'.size
    · obtain ⟨c, rr, hcr, hc0, hrl⟩ := first_byte s' h0
      have HU' : Hid (Un s.data.toList acc (c :: rr)) := hcr ▸ HU.out
      have HC := hide hcr
      have hcl := c.toNat_lt
      clear hcr HU
      by_cases hfit : c.toNat ≤ rr.length
      · obtain ⟨e1, e2⟩ := ext_parts s' c rr HC.out c.toNat
        have E1 := hide e1
        have E2 := hide e2
        clear e1 e2
        have hsz : Hid (w.heap.size ≤ wr.heap.size) := HB.out.size
        have HO1 : Hid (∀ o, (wr.alloc o).ownsRow w.heap.size 9 1 u4 acc.length (acc.map txt)) := fun o => ownsRow_below HO.out (below_alloc wr o)
        go_wp2_with (at_builtin; refine wpList_append_lies _ rfl _ _ _ rfl w.heap.size 9 i (.string ⟨#[]⟩) 1 16 Try.underlying22 HI.out HZ.out.1 HZ.out.2.1 HZ.out.2.2 rfl (by omega) u4 acc.length _ rfl (HO1.out _) ⟨wr.heap.size, 0, none⟩ 1 1 _ rfl rfl (World.news_of_block (heap_alloc_last _ _)) (by simp [Value.oneCell']) (by omega) (by unfold maxLen; omega) (by omega) (by have := hsz.out; simp; omega) (wr.heap.size + 1) (by simp) ?_; intro g' cap' w2 hown hgrow hat hltg; have HB1 : Hid (Below w.heap.size w w2) := (HB.out.trans ((below_alloc wr _).mono hsz.out)).grown hgrow (by have := hsz.out; simp; omega) (own_base HO.out); have HO2 := hide hown; clear hgrow hat hltg hown)
        refine ⟨⟨_, acc ++ [rr.take c.toNat], rfl, by rw [E2.out]; exact HU'.out.step hfit, HB1.out, ?_, fun l hl => ?_⟩, ?_⟩
        · have := HO2.out
          rw [E1.out] at this
          rw [List.length_append, List.map_append]
          exact this
        · rcases List.mem_append.1 hl with h | h
          · exact HA.out l h
          · obtain rfl : l = rr.take c.toNat := by simpa using h
            simp; omega
        · have e := congrArg List.length E2.out
          have e' : (s'.extract (1 + c.toNat) s'.size).data.toList.length = (s'.extract (1 + c.toNat) s'.size).size := by simp
          rw [e', List.length_drop] at e
          show (s'.extract (1 + c.toNat) s'.size).size < s'.size
          omega
      · have HR := hide (HU'.out.fail hfit)
        go_wp2
        go_ret2
        exact ⟨_, by rw [HR.out]; rfl, HB.out, by rw [HR.out]; exact ⟨none, 0, rfl, Nat.le_refl _, .inl rfl⟩⟩
    · have hnil : s'.data.toList = [] := List.length_eq_zero_iff.1 (by rw [Array.length_toList]; show s'.size = 0; omega)
      have HU' : Hid (Un s.data.toList acc []) := hnil ▸ HU.out
      clear HU hnil
      have HS := hide (Sss.of_tb HO.out)
      go_wp2_with fail
      refine (refBundle_any _ (acc.map tb) wr (by rw [List.length_map]; omega) (fun t ht => by
        obtain ⟨l, hl, rfl⟩ := List.mem_map.1 ht
        have := HA.out l hl
        show l.toArray.size ≤ _
        simp; omega) HS.out).mono ?_
      rintro r w2 ⟨hr, hb2⟩
      rw [bys_tb] at hr
      have HB2 : Hid (Below w.heap.size w w2) := HB.out.trans (hb2.mono HB.out.size)
      have HS2 := hide (HS.out.below hb2)
      clear hb2
      by_cases ho : okB acc = true
      · obtain ⟨r1, r2⟩ := HU'.out.end_ok ho
        have et : txt (bunT acc) = .string s := by rw [bunT_yes ho, r2]; unfold txt; congr 1
        rw [et, ho] at hr
        subst hr
        have HR := hide r1
        clear r1 r2 et ho
        go_wp2
        go_ret2
        exact ⟨_, by rw [HR.out]; rfl, HB2.out, by rw [HR.out]; exact HS2.out⟩
      · have ho' : okB acc = false := by simpa using ho
        have HR := hide (HU'.out.end_not ho')
        rw [bunT_no ho', ho'] at hr
        subst hr
        unfold txt
        go_wp2
        go_ret2
        exact ⟨_, by rw [HR.out]; rfl, HB2.out, by rw [HR.out]; exact ⟨none, 0, rfl, Nat.le_refl _, .inl rfl⟩⟩
end Go.Proofs.Ytfgbghmefomolaa
