import Derived.Test.YtoomnijgdpbphaaGreatDoorG16
import Derived.Test.YtoomnijgdpbphaaGreatDoorG22
import Derived.Deep.RegionHeld3

namespace Go.Proofs.YtoomnijgdpbphaaGreatDoor

/-- The index that a bundle's path names, however great. -/
def val10 (l : List UInt8) : Nat := l.foldl (fun a c => a * 10 + (c.toNat - 48)) 0
theorem val10_dec (n : Nat) : val10 (dec n) = n := by
  induction n using Nat.strongRecOn with
  | ind n ih =>
    by_cases h : n < 10
    · rw [dec_one h]
      unfold val10
      simp only [List.foldl_cons, List.foldl_nil, dig_val n h]
      omega
    · rw [dec_more h]
      have := ih (n / 10) (by omega)
      unfold val10 at this ⊢
      rw [List.foldl_append, this]
      simp only [List.foldl_cons, List.foldl_nil, dig_val (n % 10) (by omega)]
      omega
def isDigB (c : UInt8) : Bool := decide (48 ≤ c.toNat ∧ c.toNat ≤ 57)
def ixN (p : List UInt8) : Nat := val10 ((p.drop 8).takeWhile isDigB)
theorem takeWhile_dec (n : Nat) (r : List UInt8) (hr : noDig r) : (dec n ++ r).takeWhile isDigB = dec n := by
  rw [List.takeWhile_append_of_pos (fun a ha => by have h := dec_digits n a ha; unfold isDig at h; simpa [isDigB] using h)]
  have : r.takeWhile isDigB = [] := by
    cases r with
    | nil => rfl
    | cons c t =>
      have hc : isDigB c = false := by
        have : ¬ isDig c := hr
        simpa [isDigB, isDig] using this
      simp [List.takeWhile, hc]
  rw [this, List.append_nil]
theorem ixN_name (j w : Nat) (h1 : 1 ≤ w) (h4 : w ≤ 4) : ixN (nameF (-1) j w) = j := by
  rw [nameF_good (by unfold badName; omega), headF_ent, List.append_assoc]
  unfold ixN
  rw [List.drop_left' (show entF.length = 8 from rfl), takeWhile_dec _ _ (tailF_noDig _), val10_dec]
  simp
theorem among_start (fs : Fs) : Among (look fs) (fs.map fun f => ixN f.1) := by
  intro j w h1 h4 h
  obtain ⟨d, hd⟩ := Option.isSome_iff_exists.1 h
  exact List.mem_map.2 ⟨_, look_mem hd, ixN_name j w h1 h4⟩
theorem want_ix {es : List (List UInt8)} {j w : Nat} {x : List UInt8} (h1 : 1 ≤ w) (h4 : w ≤ 4) (h : (nameF (-1) j w, x) ∈ want es) : 4 * j < es.length := by
  obtain ⟨l, j', h1', h2, e⟩ := mem_want.1 h
  unfold fileF at e
  simp only [Prod.mk.injEq] at e
  have g := good_file h1' h2
  by_cases hl : l = -1
  · subst hl
    have he := congrArg ixN e.1
    rw [ixN_name j w h1 h4, ixN_name j' _ (by unfold wid; omega) (by unfold wid; omega)] at he
    subst he
    simpa [cntL] using h2
  · have he := e.1
    rw [nameF_good (by unfold badName; omega), nameF_good g, headF_ent, headF_tile l hl] at he
    simp [entF, tileF] at he
theorem among_went {es : List (List UInt8)} {fs fs' : Fs} {c : List UInt8} {s : List Nat} (hs : Among (look fs) s) (h0 : ∀ j, 4 * j < es.length → j ∈ s) (w : Went (want es) c fs fs') : Among (look fs') s := by
  intro j w1 h1 h4 h
  rcases w (nameF (-1) j w1) with e | ⟨_, x, hx, _⟩ | ⟨e, _⟩
  · rw [e] at h; exact hs j w1 h1 h4 h
  · exact h0 j (want_ix h1 h4 hx)
  · exact absurd e nameF_cp
theorem flat_len (ls : List (List UInt8)) (B : Nat) (h : ∀ l ∈ ls, l.length ≤ B) : ls.flatten.length ≤ ls.length * B := by
  induction ls with
  | nil => simp
  | cons a r ih =>
    have h1 := h a (by simp)
    have h2 := ih (fun l hl => h l (by simp [hl]))
    rw [List.flatten_cons, List.length_append, List.length_cons, Nat.add_mul]
    omega
theorem dataF_len {es : List (List UInt8)} (h20 : ∀ e ∈ es, e.length ≤ 20) (l : Int) (k : Nat) : (dataF es l k).length ≤ 21 := by
  unfold dataF
  split
  · unfold bun1
    rw [List.getD_eq_getElem?_getD]
    cases e : es[k]? with
    | none => simp
    | some x =>
      have := h20 x (List.mem_of_getElem? e)
      simp
      omega
  · unfold rootT
    rw [rootF_length]
    omega
theorem want_len {es : List (List UInt8)} (h20 : ∀ e ∈ es, e.length ≤ 20) {q x : List UInt8} (h : (q, x) ∈ want es) : x.length ≤ 84 := by
  obtain ⟨l, j, h1, h2, e⟩ := mem_want.1 h
  unfold fileF at e
  simp only [Prod.mk.injEq] at e
  rw [e.2]
  unfold fileD
  refine Nat.le_trans (flat_len _ 21 fun y hy => ?_) ?_
  · obtain ⟨k, -, rfl⟩ := List.mem_map.1 hy
    exact dataF_len h20 l k
  · rw [List.length_map, List.length_range']
    unfold wid
    omega
theorem len_went {es : List (List UInt8)} {fs fs' : Fs} {c : List UInt8} {M : Nat} (h20 : ∀ e ∈ es, e.length ≤ 20) (hl : ∀ f ∈ fs, f.2.length ≤ M) (hc : c.length ≤ M) (hM : 84 ≤ M) (ha : Apart fs') (w : Went (want es) c fs fs') : ∀ f ∈ fs', f.2.length ≤ M := by
  intro f hf
  have e := mem_look (p := f.1) (d := f.2) ha hf
  rcases w f.1 with e' | ⟨_, x, hx, e'⟩ | ⟨_, e'⟩
  · rw [e] at e'
    exact hl (f.1, f.2) (look_mem e'.symm)
  · rw [e] at e'
    obtain hx' : f.2 = x := by simpa using e'
    have := want_len h20 hx
    rw [hx']
    omega
  · rw [e] at e'
    obtain hx' : f.2 = c := by simpa using e'
    rw [hx']
    exact hc
theorem putL_len (d : Dk) (p x : List UInt8) : (putD d p x).fs.length ≤ d.fs.length + 1 := by
  have h := setF_length d.fs p x
  have e := congrArg List.length (enterD_fs d)
  unfold putD
  split <;> (try split) <;> (try split) <;> (try simp only) <;> omega
theorem putsL_len : ∀ (t : Fs) (d : Dk), (putsD t d).2.fs.length ≤ d.fs.length + t.length
  | [], d => by simp [putsD]
  | f :: r, d => by
    have h := putL_len d f.1 f.2
    have h2 := putsL_len r (putD d f.1 f.2)
    unfold putsD
    split
    · simp only [List.length_cons]; omega
    · simp only [List.length_cons]; omega
theorem swapD_len (d : Dk) (p x : List UInt8) : (swapD d p x).fs.length ≤ d.fs.length + 1 := by
  have h := setF_length d.fs p x
  have e := congrArg List.length (enterD_fs d)
  unfold swapD
  split
  · simp only; omega
  · omega
theorem pubD_len (t : Fs) (c : List UInt8) (d : Dk) : (pubD t c d).2.fs.length ≤ d.fs.length + t.length + 1 := by
  have h := putsL_len t d
  unfold pubD
  generalize putsD t d = r at *
  obtain ⟨o, d1⟩ := r
  have h2 := swapD_len d1 cpF c
  simp only at h ⊢
  cases o with
  | some p => simp only; omega
  | none =>
    simp only
    split <;> (simp only; omega)
theorem flatMap_len (f : Nat → Fs) (B L : Nat) (h : ∀ k, (f k).length ≤ B) : ((List.range L).flatMap f).length ≤ L * B := by
  induction L with
  | zero => simp
  | succ L ih =>
    rw [List.range_succ, List.flatMap_append, List.length_append, Nat.add_mul]
    have := h L
    simp only [List.flatMap_cons, List.flatMap_nil, List.append_nil]
    omega
theorem levF_len (es : List (List UInt8)) (l : Int) (j c : Nat) : (levF es l j c).length ≤ (c + 3) / 4 := by
  unfold levF
  rw [List.length_map, List.length_range']
  omega
theorem levT_len (es : List (List UInt8)) (put : Nat) (l : Int) : (levT es put l).length ≤ (es.length + 3) / 4 := by
  unfold levT
  split
  · simp
  · have := levF_len es l (cntL l put / 4) (cntL l es.length)
    have := cntL_le l es.length
    omega
theorem todo_len (es : List (List UInt8)) (put : Nat) : (todo es put).length ≤ 22 * ((es.length + 3) / 4) := by
  unfold todo todoTo
  rw [List.length_append]
  have h1 := levT_len es put (-1)
  have h2 := flatMap_len (fun (k : Nat) => levT es put (k : Int)) ((es.length + 3) / 4) 21 (fun k => levT_len es put _)
  omega
theorem want_count (es : List (List UInt8)) : (want es).length ≤ 22 * ((es.length + 3) / 4) := by
  unfold want wantTo
  rw [List.length_append]
  have h1 := levF_len es (-1) 0 es.length
  have h2 := flatMap_len (fun (k : Nat) => levF es (k : Int) 0 (es.length / 4 ^ k)) ((es.length + 3) / 4) 21 (fun k => by
    have h := levF_len es (k : Int) 0 (es.length / 4 ^ k)
    have := Nat.div_le_self es.length (4 ^ k)
    omega)
  omega
theorem want_nil {f : List UInt8 × List UInt8} : f ∉ want [] := by
  intro h
  obtain ⟨l, j, -, h, -⟩ := mem_want.1 h
  simp [cntL] at h
end Go.Proofs.YtoomnijgdpbphaaGreatDoor

namespace Go.Proofs.YtoomnijgdpbphaaGreatDoor
open Go.RowKit
set_option maxRecDepth 100000

theorem nine_set {w : World} {b : Nat} {t : TypeId} {a0 a1 a2 a3 a4 a5 a6 a7 a8 : Value} (v0 v1 v2 v3 v4 v5 v6 v7 v8 : Value) (h : w.heap[b]? = some (.cells #[a0, a1, a2, a3, a4, a5, a6, a7, a8] t (0, 0))) : (((((((((w.setCell ⟨b, 0, none⟩ v0).setCell ⟨b, 1, none⟩ v1).setCell ⟨b, 2, none⟩ v2).setCell ⟨b, 3, none⟩ v3).setCell ⟨b, 4, none⟩ v4).setCell ⟨b, 5, none⟩ v5).setCell ⟨b, 6, none⟩ v6).setCell ⟨b, 7, none⟩ v7).setCell ⟨b, 8, none⟩ v8).heap[b]? = some (.cells #[v0, v1, v2, v3, v4, v5, v6, v7, v8] t (0, 0)) := by
  have e0 : (w.setCell ⟨b, 0, none⟩ v0).heap[b]? = some (.cells #[v0, a1, a2, a3, a4, a5, a6, a7, a8] t (0, 0)) := dset h 0 v0
  have e1 : ((w.setCell ⟨b, 0, none⟩ v0).setCell ⟨b, 1, none⟩ v1).heap[b]? = some (.cells #[v0, v1, a2, a3, a4, a5, a6, a7, a8] t (0, 0)) := dset e0 1 v1
  have e2 : (((w.setCell ⟨b, 0, none⟩ v0).setCell ⟨b, 1, none⟩ v1).setCell ⟨b, 2, none⟩ v2).heap[b]? = some (.cells #[v0, v1, v2, a3, a4, a5, a6, a7, a8] t (0, 0)) := dset e1 2 v2
  have e3 : ((((w.setCell ⟨b, 0, none⟩ v0).setCell ⟨b, 1, none⟩ v1).setCell ⟨b, 2, none⟩ v2).setCell ⟨b, 3, none⟩ v3).heap[b]? = some (.cells #[v0, v1, v2, v3, a4, a5, a6, a7, a8] t (0, 0)) := dset e2 3 v3
  have e4 : (((((w.setCell ⟨b, 0, none⟩ v0).setCell ⟨b, 1, none⟩ v1).setCell ⟨b, 2, none⟩ v2).setCell ⟨b, 3, none⟩ v3).setCell ⟨b, 4, none⟩ v4).heap[b]? = some (.cells #[v0, v1, v2, v3, v4, a5, a6, a7, a8] t (0, 0)) := dset e3 4 v4
  have e5 : ((((((w.setCell ⟨b, 0, none⟩ v0).setCell ⟨b, 1, none⟩ v1).setCell ⟨b, 2, none⟩ v2).setCell ⟨b, 3, none⟩ v3).setCell ⟨b, 4, none⟩ v4).setCell ⟨b, 5, none⟩ v5).heap[b]? = some (.cells #[v0, v1, v2, v3, v4, v5, a6, a7, a8] t (0, 0)) := dset e4 5 v5
  have e6 : (((((((w.setCell ⟨b, 0, none⟩ v0).setCell ⟨b, 1, none⟩ v1).setCell ⟨b, 2, none⟩ v2).setCell ⟨b, 3, none⟩ v3).setCell ⟨b, 4, none⟩ v4).setCell ⟨b, 5, none⟩ v5).setCell ⟨b, 6, none⟩ v6).heap[b]? = some (.cells #[v0, v1, v2, v3, v4, v5, v6, a7, a8] t (0, 0)) := dset e5 6 v6
  have e7 : ((((((((w.setCell ⟨b, 0, none⟩ v0).setCell ⟨b, 1, none⟩ v1).setCell ⟨b, 2, none⟩ v2).setCell ⟨b, 3, none⟩ v3).setCell ⟨b, 4, none⟩ v4).setCell ⟨b, 5, none⟩ v5).setCell ⟨b, 6, none⟩ v6).setCell ⟨b, 7, none⟩ v7).heap[b]? = some (.cells #[v0, v1, v2, v3, v4, v5, v6, v7, a8] t (0, 0)) := dset e6 7 v7
  have e8 : (((((((((w.setCell ⟨b, 0, none⟩ v0).setCell ⟨b, 1, none⟩ v1).setCell ⟨b, 2, none⟩ v2).setCell ⟨b, 3, none⟩ v3).setCell ⟨b, 4, none⟩ v4).setCell ⟨b, 5, none⟩ v5).setCell ⟨b, 6, none⟩ v6).setCell ⟨b, 7, none⟩ v7).setCell ⟨b, 8, none⟩ v8).heap[b]? = some (.cells #[v0, v1, v2, v3, v4, v5, v6, v7, v8] t (0, 0)) := dset e7 8 v8
  exact e8
theorem nine_below {B b : Nat} {a w : World} (h : Below B a w) (hb : B ≤ b) (v0 v1 v2 v3 v4 v5 v6 v7 v8 : Value) : Below B a (((((((((w.setCell ⟨b, 0, none⟩ v0).setCell ⟨b, 1, none⟩ v1).setCell ⟨b, 2, none⟩ v2).setCell ⟨b, 3, none⟩ v3).setCell ⟨b, 4, none⟩ v4).setCell ⟨b, 5, none⟩ v5).setCell ⟨b, 6, none⟩ v6).setCell ⟨b, 7, none⟩ v7).setCell ⟨b, 8, none⟩ v8) :=
  h|>.setCell (p := ⟨b, 0, none⟩) hb v0|>.setCell (p := ⟨b, 1, none⟩) hb v1|>.setCell (p := ⟨b, 2, none⟩) hb v2|>.setCell (p := ⟨b, 3, none⟩) hb v3|>.setCell (p := ⟨b, 4, none⟩) hb v4|>.setCell (p := ⟨b, 5, none⟩) hb v5|>.setCell (p := ⟨b, 6, none⟩) hb v6|>.setCell (p := ⟨b, 7, none⟩) hb v7|>.setCell (p := ⟨b, 8, none⟩) hb v8
theorem nine_other {w : World} {b k : Nat} (v0 v1 v2 v3 v4 v5 v6 v7 v8 : Value) (h : k ≠ b) : (((((((((w.setCell ⟨b, 0, none⟩ v0).setCell ⟨b, 1, none⟩ v1).setCell ⟨b, 2, none⟩ v2).setCell ⟨b, 3, none⟩ v3).setCell ⟨b, 4, none⟩ v4).setCell ⟨b, 5, none⟩ v5).setCell ⟨b, 6, none⟩ v6).setCell ⟨b, 7, none⟩ v7).setCell ⟨b, 8, none⟩ v8).heap[k]? = w.heap[k]? := by
  repeat rw [heap_setCell_other _ _ _ _ h]
set_option maxHeartbeats 2000000 in
theorem lswap_any (O OL : Nat → Prop) (db lb : Nat) (d : Dk) (l : Lg) (w : World) (E : Env w) (hn : d.fs.length ≤ 1000000000) (he : l.es.length ≤ 1000000) (h20 : ∀ e ∈ l.es, e.length ≤ 20) (hk : l.key.length ≤ 9223372036854775807) (hlv : l.live = true) (h : DiskAt w O db d) (hL : LogAt w OL db lb l) :
    Calls Tryz.prog 106 #[.pointer (some ⟨lb, 0, none⟩)] w fun r w' => ∃ e, r = .returned e ∧ GotErr (bad d) cpF w.heap.size e w' ∧ Turn O dT w w' ∧ DiskAt w' (Ext O w w') db (swapD d cpF (signF l.es.length (rootT l.es) l.key)) := by
  have hmf : ∀ (fn : Fn) (first cap : Array Value) (w : World), (Instr.makeFunc fn first cap).run Tryz.prog w = .ok (.func fn first cap) w := fun _ _ _ _ => rfl
  have eg : ∀ args w, (callFunc 131 args).run Tryz.prog w = .ok (.enter 131 args) w := enters_of Tryz.func131 (by kernel_rfl) rfl
  obtain ⟨ev, hO, hb, hes, hg⟩ := hL
  obtain ⟨⟨c0, f0⟩, ⟨c1, f1⟩, ⟨c2, f2⟩, -⟩ := lall hb
  rw [hlv] at c0
  have HC0 := hide c0
  have hlt := heap_some_lt hb
  have HD := hide h
  have HE := hide E
  have HS := hide hes
  obtain ⟨a, cap, hev⟩ : ∃ a cap, ev = .slice a l.es.length cap := by
    obtain ⟨a, cap, e, -⟩ := hes.bss'
    exact ⟨a, cap, e⟩
  subst hev
  clear h hb hes hg E
  go_enter Tryz.func106, Tryz.ntmps106
  go_wp2_with fail
  obtain ⟨b0, b1, b2, b3, b4, b5, b6, b7, hR⟩ := hv8 (rootF l.es.length l.es) (rootF_length _ _)
  have hR' : hv (rootF l.es.length l.es) = #[.int .u8 b0.toNat, .int .u8 b1.toNat, .int .u8 b2.toNat, .int .u8 b3.toNat, .int .u8 b4.toNat, .int .u8 b5.toNat, .int .u8 b6.toNat, .int .u8 b7.toNat] := by rw [hR]; rfl
  have HR := hide hR
  have HR' := hide hR'
  have H20 := hide h20
  have HBS : Hid (∀ w', Below w.heap.size w w' → Bss w' (.slice a l.es.length cap) l.es) := fun w' hb => HS.out.bss'.below hb
  have HB0 : Hid (Below w.heap.size w (w.alloc (.cells #[.pointer (some ⟨lb, 0, none⟩)] 37)).drew) := (below_alloc _ _).drew
  have HB1 : Hid (∀ o, Below w.heap.size w ((w.alloc (.cells #[.pointer (some ⟨lb, 0, none⟩)] 37)).alloc o).drew) := fun o => ((below_alloc w _).alloc (by simp) o).drew
  have HC2 : Hid (∀ W w', Below w.heap.size w W → Below W.heap.size W w' → w'.cell? ⟨lb, 2, none⟩ = some (.slice a l.es.length cap)) := fun W w' h1 h2 => by rw [h2.cell (p := ⟨lb, 2, none⟩) (Nat.lt_of_lt_of_le hlt h1.size), h1.cell (p := ⟨lb, 2, none⟩) hlt]; exact c2
  have HX0 : Hid (∀ w', Below (w.alloc (.cells #[.pointer (some ⟨lb, 0, none⟩)] 37)).drew.heap.size (w.alloc (.cells #[.pointer (some ⟨lb, 0, none⟩)] 37)).drew w' → w'.heap[w.heap.size]? = some (.cells #[.pointer (some ⟨lb, 0, none⟩)] 37 (0, 0))) := fun w' h => by rw [h.block _ (by show w.heap.size < (w.heap.push _).size; simp)]; exact heap_alloc_last w _
  have HX1 : Hid (∀ o w', Below ((w.alloc (.cells #[.pointer (some ⟨lb, 0, none⟩)] 37)).alloc o).drew.heap.size ((w.alloc (.cells #[.pointer (some ⟨lb, 0, none⟩)] 37)).alloc o).drew w' → w'.heap[w.heap.size]? = some (.cells #[.pointer (some ⟨lb, 0, none⟩)] 37 (0, 0))) := fun o w' h => by rw [h.block _ (by show w.heap.size < ((w.heap.push _).push _).size; simp; omega)]; exact heap_alloc_old (heap_alloc_last w _)
  clear hR hR' h20
  go_cut [3] from 5 to 15 (fun s3 wx => ∃ B, s3 = .pointer (some ⟨B, 0, none⟩) ∧ wx.heap[B]? = some (.cells (tv l.es.length b0 b1 b2 b3 b4 b5 b6 b7) 95 (0, 0)) ∧ Below w.heap.size w wx ∧ wx.heap[w.heap.size]? = some (.cells #[.pointer (some ⟨lb, 0, none⟩)] 37 (0, 0)))
  case first =>
    clear hmf eg c0 f0 c1 f1 f2 hn hk hlv hO HD HE
    have hne1 : ¬ lb = w.heap.size + 1 := by omega
    have hne2 : ¬ w.heap.size + 1 = lb := by omega
    go_region_held3 (fun W => W.cell? ⟨w.heap.size, 0, none⟩ = some (.pointer (some ⟨lb, 0, none⟩)) ∧ W.cell? ⟨lb, 2, none⟩ = some (.slice a l.es.length cap)) (go_keep) (first
      | (go_at_call 42; refine (root_any l.es.length _ l.es (w.alloc (.cells #[.pointer (some ⟨lb, 0, none⟩)] 37)).drew (Nat.le_refl _) he (by intro e he'; have := H20.out e he'; unfold maxLen; omega) (by exact HBS.out _ HB0.out)).mono ?_; rintro r w1 ⟨rfl, hb1⟩; rw [HR'.out]; have HBB := hide hb1; have m2 := HC2.out _ _ HB0.out hb1; have hx0 := HX0.out _ hb1; have m0 := (dcell hx0 0 _ rfl).1; have m2' : ∀ o, (w1.alloc o).cell? ⟨lb, 2, none⟩ = some (.slice a l.es.length cap) := (fun o => by rw [cell_old _ _ ⟨_, 2, none⟩ (cell_lt m2)]; exact m2); have m0' : ∀ o, (w1.alloc o).cell? ⟨w.heap.size, 0, none⟩ = some (.pointer (some ⟨lb, 0, none⟩)) := (fun o => by rw [cell_old _ _ ⟨_, 0, none⟩ (cell_lt m0)]; exact m0); have HXX := hide hx0; clear hb1 hx0)
      | (go_at_call 42; refine (root_any l.es.length _ l.es ((w.alloc (.cells #[.pointer (some ⟨lb, 0, none⟩)] 37)).alloc (.cells #[.int .i64 0, .int .u8 0, .int .u8 0, .int .u8 0, .int .u8 0, .int .u8 0, .int .u8 0, .int .u8 0, .int .u8 0] 95)).drew (Nat.le_refl _) he (by intro e he'; have := H20.out e he'; unfold maxLen; omega) (by exact HBS.out _ (HB1.out _))).mono ?_; rintro r w1 ⟨rfl, hb1⟩; rw [HR'.out]; have HBB := hide hb1; have hnew := new_at w _ _ hb1; obtain ⟨n0, n1, n2, n3, n4, n5, n6, n7, n8⟩ := cells9 hnew; have nz := frozen9 hnew; have HNW := hide hnew; have m2 := HC2.out _ _ (HB1.out _) hb1; have hx0 := HX1.out _ _ hb1; have m0 := (dcell hx0 0 _ rfl).1; have m2' : ∀ o, (w1.alloc o).cell? ⟨lb, 2, none⟩ = some (.slice a l.es.length cap) := (fun o => by rw [cell_old _ _ ⟨_, 2, none⟩ (cell_lt m2)]; exact m2); have m0' : ∀ o, (w1.alloc o).cell? ⟨w.heap.size, 0, none⟩ = some (.pointer (some ⟨lb, 0, none⟩)) := (fun o => by rw [cell_old _ _ ⟨_, 0, none⟩ (cell_lt m0)]; exact m0); have HXX := hide hx0; clear hb1 hnew hx0))
    · go_wp2_with fail
      go_meet
      refine ⟨w1.heap.size, rfl, heap_alloc_last _ _, ?_, heap_alloc_old HXX.out⟩
      exact ((HB0.out.trans (HBB.out.mono HB0.out.size)).alloc (Nat.le_trans HB0.out.size HBB.out.size) _)
    · go_wp2_with fail
      go_meet
      have hbw : Below w.heap.size w w1 := (HB1.out _).trans (HBB.out.mono (HB1.out _).size)
      have hne : w.heap.size ≠ w.heap.size + 1 := by omega
      have e8 := nine_set (.int .i64 (l.es.length : Int)) (.int .u8 (b0.toNat : Int)) (.int .u8 (b1.toNat : Int)) (.int .u8 (b2.toNat : Int)) (.int .u8 (b3.toNat : Int)) (.int .u8 (b4.toNat : Int)) (.int .u8 (b5.toNat : Int)) (.int .u8 (b6.toNat : Int)) (.int .u8 (b7.toNat : Int)) HNW.out
      have e9 := nine_below hbw (show w.heap.size ≤ w.heap.size + 1 by omega) (.int .i64 (l.es.length : Int)) (.int .u8 (b0.toNat : Int)) (.int .u8 (b1.toNat : Int)) (.int .u8 (b2.toNat : Int)) (.int .u8 (b3.toNat : Int)) (.int .u8 (b4.toNat : Int)) (.int .u8 (b5.toNat : Int)) (.int .u8 (b6.toNat : Int)) (.int .u8 (b7.toNat : Int))
      have e10 := nine_other (w := w1) (b := w.heap.size + 1) (.int .i64 (l.es.length : Int)) (.int .u8 (b0.toNat : Int)) (.int .u8 (b1.toNat : Int)) (.int .u8 (b2.toNat : Int)) (.int .u8 (b3.toNat : Int)) (.int .u8 (b4.toNat : Int)) (.int .u8 (b5.toNat : Int)) (.int .u8 (b6.toNat : Int)) (.int .u8 (b7.toNat : Int)) hne
      rw [HXX.out] at e10
      exact ⟨w.heap.size + 1, rfl, e8, e9, e10⟩
  case rest =>
    obtain ⟨B, rfl, hB, hbw, hbx⟩ := hcut
    have HBw := hide hbw
    have HBx := hide hbx
    have HBB := hide hB
    have m0 := (dcell hbx 0 _ rfl).1
    have m1 : wc.cell? ⟨lb, 1, none⟩ = some (.string ⟨l.key.toArray⟩) := by rw [hbw.cell (p := ⟨lb, 1, none⟩) hlt]; exact c1
    obtain ⟨n0, n1, n2, n3, n4, n5, n6, n7, n8⟩ := cells9 hB
    have HEw := hide (HE.out.below hbw)
    have hbl := heap_some_lt hB
    clear hbw hbx hB c0 c1 c2 f0 f1 f2
    have hB0 : Hid (∀ o, Below wc.heap.size wc (wc.alloc o).drew) := fun o => (below_alloc _ _).drew
    have hx0 : ¬ w.heap.size = wc.heap.size := by have := cell_lt m0; simp only at this; omega
    have hx1 : ¬ lb = wc.heap.size := by have := cell_lt m1; simp only at this; omega
    have hx2 : ¬ B = wc.heap.size := by omega
    have hx3 : ¬ wc.heap.size = w.heap.size := by omega
    have hx4 : ¬ wc.heap.size = lb := by omega
    have hx5 : ¬ wc.heap.size = B := by omega
    have HSB : Hid (∀ W', Below wc.heap.size wc W' → ((fun W => W.cell? ⟨w.heap.size, 0, none⟩ = some (.pointer (some ⟨lb, 0, none⟩)) ∧ W.cell? ⟨lb, 1, none⟩ = some (.string ⟨l.key.toArray⟩) ∧ W.cell? ⟨B, 0, none⟩ = some (.int .i64 (l.es.length : Int)) ∧ W.cell? ⟨B, 1, none⟩ = some (.int .u8 (b0.toNat : Int)) ∧ W.cell? ⟨B, 2, none⟩ = some (.int .u8 (b1.toNat : Int)) ∧ W.cell? ⟨B, 3, none⟩ = some (.int .u8 (b2.toNat : Int)) ∧ W.cell? ⟨B, 4, none⟩ = some (.int .u8 (b3.toNat : Int)) ∧ W.cell? ⟨B, 5, none⟩ = some (.int .u8 (b4.toNat : Int)) ∧ W.cell? ⟨B, 6, none⟩ = some (.int .u8 (b5.toNat : Int)) ∧ W.cell? ⟨B, 7, none⟩ = some (.int .u8 (b6.toNat : Int)) ∧ W.cell? ⟨B, 8, none⟩ = some (.int .u8 (b7.toNat : Int)))) W') := fun W' hb => by
      have cc : ∀ {p : Addr} {v : Value}, wc.cell? p = some v → W'.cell? p = some v := fun {p v} h => by rw [hb.cell (cell_lt h)]; exact h
      exact ⟨cc m0, cc m1, cc n0, cc n1, cc n2, cc n3, cc n4, cc n5, cc n6, cc n7, cc n8⟩
    have hD0 : Hid (Below wc.heap.size wc wc.drew) := (Below.refl _ _).drew
    have HSG : Hid (signF (l.es.length : Int).toNat [b0, b1, b2, b3, b4, b5, b6, b7] l.key = signF l.es.length (rootT l.es) l.key) := by show _ = _; unfold rootT; rw [HR.out, Int.toNat_natCast]
    go_wp2_with fail
    go_cut [4] from 16 to 21 (fun s4 wx => ∃ B4, s4 = .pointer (some ⟨B4, 0, none⟩) ∧ wx.heap[B4]? = some (.cells #[txv (signF l.es.length (rootT l.es) l.key)] 9 (0, 0)) ∧ Below w.heap.size w wx ∧ wx.heap[w.heap.size]? = some (.cells #[.pointer (some ⟨lb, 0, none⟩)] 37 (0, 0)))
    case first =>
      clear hmf eg hn hlv HD
      go_region_held3 (fun W => W.cell? ⟨w.heap.size, 0, none⟩ = some (.pointer (some ⟨lb, 0, none⟩)) ∧ W.cell? ⟨lb, 1, none⟩ = some (.string ⟨l.key.toArray⟩) ∧ W.cell? ⟨B, 0, none⟩ = some (.int .i64 (l.es.length : Int)) ∧ W.cell? ⟨B, 1, none⟩ = some (.int .u8 (b0.toNat : Int)) ∧ W.cell? ⟨B, 2, none⟩ = some (.int .u8 (b1.toNat : Int)) ∧ W.cell? ⟨B, 3, none⟩ = some (.int .u8 (b2.toNat : Int)) ∧ W.cell? ⟨B, 4, none⟩ = some (.int .u8 (b3.toNat : Int)) ∧ W.cell? ⟨B, 5, none⟩ = some (.int .u8 (b4.toNat : Int)) ∧ W.cell? ⟨B, 6, none⟩ = some (.int .u8 (b5.toNat : Int)) ∧ W.cell? ⟨B, 7, none⟩ = some (.int .u8 (b6.toNat : Int)) ∧ W.cell? ⟨B, 8, none⟩ = some (.int .u8 (b7.toNat : Int))) (go_keep) (first
        | (go_at_call 75; refine (sign_any (l.es.length : Int) (by omega) (by omega) b0 b1 b2 b3 b4 b5 b6 b7 l.key hk wc.drew (by exact HEw.out.below hD0.out)).mono ?_; rintro r w2 ⟨rfl, hb2⟩; have hbb : Below wc.heap.size wc w2 := (hD0.out).trans (hb2.mono (hD0.out).size); obtain ⟨q0, q1, q2, q3, q4, q5, q6, q7, q8, q9, q10⟩ := HSB.out w2 hbb; have HB2 := hide hbb; clear hb2 hbb)
        | (go_at_call 75; refine (sign_any (l.es.length : Int) (by omega) (by omega) b0 b1 b2 b3 b4 b5 b6 b7 l.key hk (wc.alloc (.cells #[.string ⟨#[]⟩] 9)).drew (by exact HEw.out.below (hB0.out _))).mono ?_; rintro r w2 ⟨rfl, hb2⟩; have hbb : Below wc.heap.size wc w2 := ((hB0.out _)).trans (hb2.mono ((hB0.out _)).size); obtain ⟨q0, q1, q2, q3, q4, q5, q6, q7, q8, q9, q10⟩ := HSB.out w2 hbb; have HB2 := hide hbb; have hnw : w2.heap[wc.heap.size]? = some (.cells #[.string ⟨#[]⟩] 9 (0, 0)) := (by rw [hb2.block _ (by show wc.heap.size < (wc.heap.push _).size; simp)]; exact heap_alloc_last wc _); obtain ⟨x0, x1⟩ := dcell hnw 0 _ rfl; have HNW := hide hnw; clear hnw; clear hb2 hbb))
      · go_wp2_with fail
        go_meet
        have hsg := HSG.out
        rw [Int.toNat_natCast] at hsg
        rw [hsg]
        exact ⟨w2.heap.size, rfl, heap_alloc_last _ _, (HBw.out.trans (HB2.out.mono HBw.out.size)).alloc (Nat.le_trans HBw.out.size HB2.out.size) _, heap_alloc_old (by rw [HB2.out.block _ (heap_some_lt HBx.out)]; exact HBx.out)⟩
      · go_wp2_with fail
        go_meet
        have hsg := HSG.out
        rw [Int.toNat_natCast] at hsg
        rw [hsg]
        refine ⟨wc.heap.size, rfl, dset HNW.out 0 _, (HBw.out.trans (HB2.out.mono HBw.out.size)).setCell (by show w.heap.size ≤ wc.heap.size; exact HBw.out.size) _, ?_⟩
        rw [heap_setCell_other _ _ _ _ hx0, HB2.out.block _ (heap_some_lt HBx.out)]
        exact HBx.out
    case rest =>
      clear hx0 hx1 hx2 hx3 hx4 hx5 m0 m1 n0 n1 n2 n3 n4 n5 n6 n7 n8 hbl HSB hB0 hD0 HEw HBw HBx HBB
      obtain ⟨B4, rfl, h4, hbw, hbx⟩ := hcut
      go_wp2_with fail
      have hstw : wc.cell? ⟨lb, 0, none⟩ = some (stV db true) := by rw [hbw.cell (p := ⟨lb, 0, none⟩) hlt]; exact HC0.out
      have hcall := swap1_any O db lb w.heap.size B4 d (signF l.es.length (rootT l.es) l.key) (wc.alloc (.cells #[.nilIface] 39)) hn
        (HD.out.stay (O1 := fun _ => False) (T := []) ((Turn.of_below hbw).alloc _) (by simp) (by simp))
        (dcell (heap_alloc_old hbx) 0 _ rfl).1 (dcell (heap_alloc_old h4) 0 _ rfl).1 (by rw [cell_old _ _ ⟨_, 0, none⟩ (cell_lt hstw)]; exact hstw)
      have H0 : Hid ((wc.alloc (.cells #[.nilIface] 39)).heap[wc.heap.size]? = some (.cells #[.nilIface] 39 (0, 0))) := heap_alloc_last _ _
      have hbl : Hid (Below w.heap.size w (wc.alloc (.cells #[.nilIface] 39))) := hbw.alloc hbw.size _
      refine (ask_any cpF 131 _ wc (fun e w' => OwnRes (bad d) (wc.alloc (.cells #[.nilIface] 39)).heap.size e w' ∧ Turn O dT (wc.alloc (.cells #[.nilIface] 39)) w' ∧ DiskAt w' (Ext O (wc.alloc (.cells #[.nilIface] 39)) w') db (swapD d cpF (signF l.es.length (rootT l.es) l.key))) eg hcall ?_).mono ?_
      · rintro e w' ⟨ho, ht, -⟩
        exact ⟨own_shape ho, ht.keep H0.out (by decide)⟩
      have h34 : w.heap.size ≤ wc.heap.size := hbw.size
      clear hcall h4 hbw hbx hstw
      generalize wc.alloc (.cells #[.nilIface] 39) = W4 at *
      rintro r w5 ⟨e, w', ⟨ho, ht, hd⟩, h⟩
      have HEE := hide (ask_end hbl.out h34 H0.out ho ht hd h)
      clear ho ht hd h
      obtain ⟨e', he'⟩ := HEE.out
      obtain rfl := he'.1
      have HX := hide he'.2
      clear he' HEE
      go_wp2_with fail
      go_ret
      exact ⟨_, rfl, HX.out⟩
end Go.Proofs.YtoomnijgdpbphaaGreatDoor
