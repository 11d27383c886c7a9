import Derived.Test.YtkjipfnibolboaaGreatDoorG09
import Derived.Test.YtkjipfnibolboaaGreatDoorG13
import Derived.Deep.RegionWith
import Derived.Laws.ResultCell
import Derived.Test.YtkjipfnibolboaaGreatDoorG08

namespace Go.Proofs.YtkjipfnibolboaaGreatDoor
open Go.RowKit
set_option maxRecDepth 100000

/-- A publisher: its key, its entries, how many of them are put, has it not failed. -/
structure Lg where
  key : List UInt8
  es : List (List UInt8)
  put : Nat
  live : Bool
def stV (db : Nat) (live : Bool) : Value := if live then .iface 43 (dptr db) else .nilIface
def lcells (db : Nat) (ev : Value) (l : Lg) : Array Value := #[stV db l.live, txv l.key, ev, .int .i64 l.put]
def LogAt (w : World) (O : Nat → Prop) (db b : Nat) (l : Lg) : Prop :=
  ∃ ev, O b ∧ w.heap[b]? = some (.cells (lcells db ev l) 58 (0, 0)) ∧ OBs w 0 ev l.es ∧ ∀ g, ev.ownBlock = some g → O g

theorem got_slice {d : Dk} {p : List UInt8} {w : World} {v : Value} (h : (bad d = false ∧ ∃ x, look d.fs p = some x ∧ Bq w v x) ∨ ((bad d = true ∨ look d.fs p = none) ∧ v = .slice none 0 0)) : ∃ a n c, v = .slice a n c := by
  rcases h with ⟨-, x, -, g, cap, C, fr, rfl, -⟩ | ⟨-, rfl⟩
  · exact ⟨_, _, _, rfl⟩
  · exact ⟨_, _, _, rfl⟩
theorem meth_get (n : Nat) (v : Value) (w : World) : (method (n + 1) 43 v "Get").run Tryz.prog w = .ok (182, v) w := by kernel_rfl
theorem meth_put (n : Nat) (v : Value) (w : World) : (method (n + 1) 43 v "Put").run Tryz.prog w = .ok (183, v) w := by kernel_rfl
theorem meth_swap (n : Nat) (v : Value) (w : World) : (method (n + 1) 43 v "Swap").run Tryz.prog w = .ok (184, v) w := by kernel_rfl
set_option maxHeartbeats 400000 in
theorem get1_any (O : Nat → Prop) (db lb B1 B2 B3 : Nat) (d : Dk) (p : List UInt8) (u : Value) (w : World) (hn : d.fs.length ≤ 1000000000) (hl : ∀ f ∈ d.fs, f.2.length ≤ 1000000000) (h : DiskAt w O db d)
    (h1 : w.cell? ⟨B1, 0, none⟩ = some (.pointer (some ⟨lb, 0, none⟩))) (h2 : w.cell? ⟨B2, 0, none⟩ = some (txv p)) (h3 : w.heap[B3]? = some (.cells #[u] 89 (0, 0))) (hst : w.cell? ⟨lb, 0, none⟩ = some (stV db true)) :
    Calls Tryz.prog 70 #[.pointer (some ⟨B1, 0, none⟩), .pointer (some ⟨B2, 0, none⟩), .pointer (some ⟨B3, 0, none⟩)] w fun r w2 => ∃ v e w', r = .returned e ∧ w2 = w'.setCell ⟨B3, 0, none⟩ v ∧ OwnRes (bad d) w.heap.size e w' ∧ Turn O dT1 w w' ∧ DiskAt w' O db (enterD d) ∧
      ((bad d = false ∧ ∃ x, look d.fs p = some x ∧ Bq w' v x) ∨ ((bad d = true ∨ look d.fs p = none) ∧ v = .slice none 0 0)) := by
  unfold stV dptr at hst
  simp only [if_true] at hst
  unfold txv at h2
  obtain ⟨k3, z3⟩ := dcell h3 0 u rfl
  have HD := hide h
  have H3 := hide h3
  have HL := hide hl
  clear h h3 hl
  go_enter Tryz.func70, Tryz.ntmps70
  go_wp2_with fail
  have hm := meth_get
  go_region_with (go_at_call 182; refine (get_any O db d p _ hn HL.out (by exact HD.out)).mono ?_; rintro r w1 ⟨v, e, rfl, ho, ht, hd, hv⟩; obtain ⟨a, n, c, rfl⟩ := got_slice hv; have HO := hide ho; have HT := hide ht; have HDD := hide hd; have HV := hide hv; obtain ⟨k4, z4⟩ := dcell (ht.keep (k := B3) H3.out (by decide)) 0 u rfl; clear ho ht hd hv)
  all_goals go_wp2
  all_goals go_ret
  all_goals exact ⟨_, _, w1, rfl, rfl, HO.out, HT.out.undrew, HDD.out, HV.out⟩

/-- An error of the store's, wrapped. -/
def PErr (w : World) (g : Nat) (p : List UInt8) : Prop := ∃ g', w.heap[g]? = some (.cells #[txv p, errV g'] 64 (0, 0)) ∧ ErrAt w g'
def GotErr (e : Bool) (p : List UInt8) (B : Nat) (r : Value) (w : World) : Prop := (e = false ∧ r = .nilIface) ∨ (e = true ∧ ∃ g, r = pathE g ∧ B ≤ g ∧ PErr w g p)
theorem ErrAt.turn {w w' : World} {O : Nat → Prop} {T : List Nat} {g : Nat} (h : ErrAt w g) (ht : Turn O T w w') (hT : 253 ∉ T) : ErrAt w' g := by
  obtain ⟨c, h⟩ := h
  exact ⟨c, ht.keep h hT⟩
theorem PErr.turn {w w' : World} {O : Nat → Prop} {T : List Nat} {g : Nat} {p : List UInt8} (h : PErr w g p) (ht : Turn O T w w') (hT : 253 ∉ T) (hT' : 64 ∉ T) : PErr w' g p := by
  obtain ⟨g', h, h'⟩ := h
  exact ⟨g', ht.keep h hT', h'.turn ht hT⟩
theorem own_shape {e : Bool} {B : Nat} {r : Value} {w : World} (h : OwnRes e B r w) : r = .nilIface ∨ ∃ g, r = errV g := by
  rcases h with ⟨-, rfl⟩ | ⟨-, g, rfl, -⟩
  · exact .inl rfl
  · exact .inr ⟨g, rfl⟩
abbrev cT : List Nat := [89, 39]
theorem set_cell_turn {w : World} {b : Nat} {cs : Array Value} {t : TypeId} (hb : w.heap[b]? = some (.cells cs t (0, 0))) (ht : t ∈ cT) (u : Value) : Turn (fun _ => True) cT w (w.setCell ⟨b, 0, none⟩ u) := (Turn.refl _ _ w).set (.inl trivial) hb ht u

theorem alloc3 (w : World) (o1 o2 o3 : Obj) : (((w.alloc o1).alloc o2).alloc o3).heap.size = w.heap.size + 3 ∧ (((w.alloc o1).alloc o2).alloc o3).heap[w.heap.size]? = some o1 ∧ (((w.alloc o1).alloc o2).alloc o3).heap[w.heap.size + 1]? = some o2 ∧ (((w.alloc o1).alloc o2).alloc o3).heap[w.heap.size + 1 + 1]? = some o3 ∧ Below w.heap.size w (((w.alloc o1).alloc o2).alloc o3) := by
  have e1 : (w.alloc o1).heap.size = w.heap.size + 1 := by simp
  have e2 : ((w.alloc o1).alloc o2).heap.size = w.heap.size + 1 + 1 := by simp
  refine ⟨by simp, heap_alloc_old (heap_alloc_old (heap_alloc_last _ _)), ?_, ?_, ?_⟩
  · rw [← e1]; exact heap_alloc_old (heap_alloc_last _ _)
  · rw [← e2]; exact heap_alloc_last _ _
  · exact ((below_alloc w o1).trans ((below_alloc _ o2).mono (by simp))).trans ((below_alloc _ o3).mono (by simp; omega))
theorem heap_set_ne {w : World} {b k : Nat} {u : Value} {o : Obj} (h : w.heap[k]? = some o) (hne : k ≠ b) : (w.setCell ⟨b, 0, none⟩ u).heap[k]? = some o := by rw [heap_setCell_other _ _ _ _ hne]; exact h

set_option maxHeartbeats 1000000 in
theorem lget_any (O : Nat → Prop) (db lb : Nat) (d : Dk) (p : List UInt8) (w : World) (hn : d.fs.length ≤ 1000000000) (hl : ∀ f ∈ d.fs, f.2.length ≤ 1000000000) (h : DiskAt w O db d) (hst : w.cell? ⟨lb, 0, none⟩ = some (stV db true)) :
    Calls Tryz.prog 38 #[.pointer (some ⟨lb, 0, none⟩), txv p] w fun r w' => ∃ v e, r = .returned (.tuple #[v, e]) ∧ GotErr (bad d) p w.heap.size e w' ∧ Turn O dT1 w w' ∧ DiskAt w' O db (enterD d) ∧
      ((bad d = false ∧ ∃ x, look d.fs p = some x ∧ Bq w' v x) ∨ ((bad d = true ∨ look d.fs p = none) ∧ v = .slice none 0 0)) := by
  have hmf : ∀ (fn : Fn) (first cap : Array Value) (w : World), (Instr.makeFunc fn first cap).run Tryz.prog w = .ok (.func fn first cap) w := fun _ _ _ _ => rfl
  have eg : ∀ args w, (callFunc 70 args).run Tryz.prog w = .ok (.enter 70 args) w := enters_of Tryz.func70 (by kernel_rfl) rfl
  have HD := hide h
  have HL := hide hl
  have HS := hide hst
  clear h hl hst
  have htx : txv p = .string ⟨p.toArray⟩ := rfl
  rw [htx]
  go_enter Tryz.func38, Tryz.ntmps38
  go_wp2_with fail
  obtain ⟨s3, p1, p2, p3, hb3⟩ := alloc3 w (.cells #[.pointer (some ⟨lb, 0, none⟩)] 37) (.cells #[.string ⟨p.toArray⟩] 9) (.cells #[.slice none 0 0] 89)
  generalize (((w.alloc (.cells #[.pointer (some ⟨lb, 0, none⟩)] 37)).alloc (.cells #[.string ⟨p.toArray⟩] 9)).alloc (.cells #[.slice none 0 0] 89)) = W3 at *
  have HB3 := hide hb3
  have P3 := hide p3
  have S3 := hide s3
  have hcall := get1_any O db lb w.heap.size (w.heap.size + 1) (w.heap.size + 1 + 1) d p (.slice none 0 0) (W3.alloc (.cells #[.nilIface] 39)) hn HL.out
    (HD.out.stay (O1 := fun _ => False) (T := []) ((Turn.of_below hb3).alloc _) (by simp) (by simp))
    (dcell (heap_alloc_old p1) 0 _ rfl).1 (dcell (heap_alloc_old p2) 0 _ rfl).1 (heap_alloc_old p3) (by rw [cell_old _ _ ⟨_, 0, none⟩ (Nat.lt_of_lt_of_le (cell_lt HS.out) hb3.size), hb3.cell (p := ⟨lb, 0, none⟩) (cell_lt HS.out)]; exact HS.out)
  have H0 : Hid ((W3.alloc (.cells #[.nilIface] 39)).heap[W3.heap.size]? = some (.cells #[.nilIface] 39 (0, 0))) := heap_alloc_last _ _
  have hW : Hid ((W3.alloc (.cells #[.nilIface] 39)).heap.size = W3.heap.size + 1) := by show _ = _; simp
  have hbl : Hid (Below w.heap.size w (W3.alloc (.cells #[.nilIface] 39))) := hb3.alloc (by omega) _
  have P4 : Hid ((W3.alloc (.cells #[.nilIface] 39)).heap[w.heap.size + 1 + 1]? = some (.cells #[.slice none 0 0] 89 (0, 0))) := heap_alloc_old p3
  refine (ask_any p 70 _ W3 (fun e w2 => ∃ v w', w2 = w'.setCell ⟨w.heap.size + 1 + 1, 0, none⟩ v ∧ OwnRes (bad d) (W3.alloc (.cells #[.nilIface] 39)).heap.size e w' ∧ Turn O dT1 (W3.alloc (.cells #[.nilIface] 39)) w' ∧ DiskAt w' O db (enterD d) ∧ ((bad d = false ∧ ∃ x, look d.fs p = some x ∧ Bq w' v x) ∨ ((bad d = true ∨ look d.fs p = none) ∧ v = .slice none 0 0))) eg
    (hcall.mono (by rintro r w2 ⟨v, e, w', rfl, h⟩; exact ⟨e, rfl, v, w', h⟩)) ?_).mono ?_
  · rintro e w2 ⟨v, w', rfl, ho, ht, -⟩
    exact ⟨own_shape ho, heap_set_ne (ht.keep H0.out (by decide)) (by have := S3.out; omega)⟩
  clear hcall p1 p2 p3 hb3 s3
  generalize W3.alloc (.cells #[.nilIface] 39) = W4 at *
  rintro r w5 ⟨e, w2, ⟨v, w', rfl, ho, ht, hd, hv⟩, h⟩
  obtain ⟨a, n, c, rfl⟩ := got_slice hv
  have q3 := ht.keep P4.out (by decide)
  have q0 := ht.keep H0.out (by decide)
  have tw : Turn O dT1 w w' := (Turn.of_below hbl.out).trans (ht.mono (fun _ h => .inl h) (fun _ h => h))
  have hsz : W3.heap.size ≠ w.heap.size + 1 + 1 := by have := S3.out; omega
  have hsz' : w.heap.size ≤ W3.heap.size := by have := S3.out; omega
  have r3 := dset q3 0 (.slice a n c)
  have r0 := heap_set_ne (u := .slice a n c) q0 hsz
  have tA : Turn (fun _ => True) cT w' (w'.setCell ⟨w.heap.size + 1 + 1, 0, none⟩ (.slice a n c)) := set_cell_turn q3 (by decide) _
  rcases h with ⟨rfl, rfl, rfl⟩ | ⟨⟨g', rfl⟩, rfl, rfl⟩
  · have hbd : bad d = false := by
      rcases ho with ⟨h, -⟩ | ⟨-, g, h, -⟩
      · exact h
      · simp [errV] at h
    have tB := set_cell_turn r0 (by decide) .nilIface
    have r3' := heap_set_ne (u := .nilIface) r3 (Ne.symm hsz)
    have tC := set_cell_turn r3' (by decide) (.slice a n c)
    have rf := dset r3' 0 (.slice a n c)
    have HFIN : Hid (GotErr (bad d) p w.heap.size .nilIface (((w'.setCell ⟨w.heap.size + 1 + 1, 0, none⟩ (.slice a n c)).setCell ⟨W3.heap.size, 0, none⟩ .nilIface).setCell ⟨w.heap.size + 1 + 1, 0, none⟩ (.slice a n c)) ∧ Turn O dT1 w (((w'.setCell ⟨w.heap.size + 1 + 1, 0, none⟩ (.slice a n c)).setCell ⟨W3.heap.size, 0, none⟩ .nilIface).setCell ⟨w.heap.size + 1 + 1, 0, none⟩ (.slice a n c)) ∧ DiskAt (((w'.setCell ⟨w.heap.size + 1 + 1, 0, none⟩ (.slice a n c)).setCell ⟨W3.heap.size, 0, none⟩ .nilIface).setCell ⟨w.heap.size + 1 + 1, 0, none⟩ (.slice a n c)) O db (enterD d) ∧
      ((bad d = false ∧ ∃ x, look d.fs p = some x ∧ Bq (((w'.setCell ⟨w.heap.size + 1 + 1, 0, none⟩ (.slice a n c)).setCell ⟨W3.heap.size, 0, none⟩ .nilIface).setCell ⟨w.heap.size + 1 + 1, 0, none⟩ (.slice a n c)) (.slice a n c) x) ∨ ((bad d = true ∨ look d.fs p = none) ∧ Value.slice a n c = .slice none 0 0))) := by
      refine ⟨.inl ⟨hbd, rfl⟩, ((tw.setNew (by omega) _ _).setNew hsz' _ _).setNew (by omega) _ _, ((hd.stay tA (by decide) (by decide)).stay tB (by decide) (by decide)).stay tC (by decide) (by decide), ?_⟩
      rcases hv with ⟨h1, x, h2, h3⟩ | h
      · exact .inl ⟨h1, x, h2, ((h3.turn tA (by decide)).turn tB (by decide)).turn tC (by decide)⟩
      · exact .inr h
    obtain ⟨kc, kz⟩ := dcell r3' 0 (.slice a n c) rfl
    have HRF := hide (dcell rf 0 (.slice a n c) rfl).1
    clear tA tB tC tw ho ht hd hv q3 q0 r3 r0 r3' rf hbl H0 P4 P3 HB3 HS HL HD
    go_wp2_with fail
    refine bodyPost_ret (v := .tuple #[.slice a n c, .nilIface]) ?_ rfl ⟨_, _, rfl, HFIN.out⟩
    simp [results, Tryz.results38, go_sem, HRF.out]
  · have hbd : bad d = true := by
      rcases ho with ⟨-, h⟩ | ⟨h, -⟩
      · simp [errV] at h
      · exact h
    have herr : ErrAt w' g' := by
      rcases ho with ⟨-, h⟩ | ⟨-, g, h, -, h'⟩
      · simp [errV] at h
      · simp [errV] at h
        exact h ▸ h'
    have hsw : (w'.setCell ⟨w.heap.size + 1 + 1, 0, none⟩ (.slice a n c)).heap.size = w'.heap.size := by simp [World.setCell]
    rw [hsw]
    have hpe : ((w'.setCell ⟨w.heap.size + 1 + 1, 0, none⟩ (.slice a n c)).alloc (.cells #[txv p, errV g'] 64)).heap[w'.heap.size]? = some (.cells #[txv p, errV g'] 64 (0, 0)) := by rw [← hsw]; exact heap_alloc_last _ _
    have tP : Turn (fun _ => True) cT (w'.setCell ⟨w.heap.size + 1 + 1, 0, none⟩ (.slice a n c)) ((w'.setCell ⟨w.heap.size + 1 + 1, 0, none⟩ (.slice a n c)).alloc (.cells #[txv p, errV g'] 64)) := (Turn.refl _ _ _).alloc _
    have r0' := heap_alloc_old (o := .cells #[txv p, errV g'] 64) r0
    have r3a := heap_alloc_old (o := .cells #[txv p, errV g'] 64) r3
    have tB := set_cell_turn r0' (by decide) (pathE w'.heap.size)
    have r3' := heap_set_ne (u := pathE w'.heap.size) r3a (Ne.symm hsz)
    have tC := set_cell_turn r3' (by decide) (.slice a n c)
    have rf := dset r3' 0 (.slice a n c)
    have hlw : w.heap.size ≤ w'.heap.size := tw.size
    have HFIN : Hid (GotErr (bad d) p w.heap.size (pathE w'.heap.size) ((((w'.setCell ⟨w.heap.size + 1 + 1, 0, none⟩ (.slice a n c)).alloc (.cells #[txv p, errV g'] 64)).setCell ⟨W3.heap.size, 0, none⟩ (pathE w'.heap.size)).setCell ⟨w.heap.size + 1 + 1, 0, none⟩ (.slice a n c)) ∧ Turn O dT1 w ((((w'.setCell ⟨w.heap.size + 1 + 1, 0, none⟩ (.slice a n c)).alloc (.cells #[txv p, errV g'] 64)).setCell ⟨W3.heap.size, 0, none⟩ (pathE w'.heap.size)).setCell ⟨w.heap.size + 1 + 1, 0, none⟩ (.slice a n c)) ∧ DiskAt ((((w'.setCell ⟨w.heap.size + 1 + 1, 0, none⟩ (.slice a n c)).alloc (.cells #[txv p, errV g'] 64)).setCell ⟨W3.heap.size, 0, none⟩ (pathE w'.heap.size)).setCell ⟨w.heap.size + 1 + 1, 0, none⟩ (.slice a n c)) O db (enterD d) ∧
      ((bad d = false ∧ ∃ x, look d.fs p = some x ∧ Bq ((((w'.setCell ⟨w.heap.size + 1 + 1, 0, none⟩ (.slice a n c)).alloc (.cells #[txv p, errV g'] 64)).setCell ⟨W3.heap.size, 0, none⟩ (pathE w'.heap.size)).setCell ⟨w.heap.size + 1 + 1, 0, none⟩ (.slice a n c)) (.slice a n c) x) ∨ ((bad d = true ∨ look d.fs p = none) ∧ Value.slice a n c = .slice none 0 0))) := by
      refine ⟨.inr ⟨hbd, w'.heap.size, rfl, hlw, g', ?_, ?_⟩, (((tw.setNew (by omega) _ _).alloc _).setNew hsz' _ _).setNew (by omega) _ _, (((hd.stay tA (by decide) (by decide)).stay tP (by decide) (by decide)).stay tB (by decide) (by decide)).stay tC (by decide) (by decide), ?_⟩
      · exact tC.keep (tB.keep hpe (by decide)) (by decide)
      · exact (((herr.turn tA (by decide)).turn tP (by decide)).turn tB (by decide)).turn tC (by decide)
      · rcases hv with ⟨h1, x, h2, h3⟩ | h
        · rw [hbd] at h1; simp at h1
        · exact .inr h
    obtain ⟨kc, kz⟩ := dcell r3' 0 (.slice a n c) rfl
    have HRF := hide (dcell rf 0 (.slice a n c) rfl).1
    clear tA tB tC tP tw ho ht hd hv q3 q0 r3 r0 r3' r3a r0' rf hbl H0 P4 P3 HB3 HS HL HD hpe herr hsw
    unfold txv pathE errV at *
    go_wp2_with fail
    refine bodyPost_ret (v := .tuple #[.slice a n c, .iface 62 (.pointer (some ⟨w'.heap.size, 0, none⟩))]) ?_ rfl ⟨_, _, rfl, HFIN.out⟩
    simp [results, Tryz.results38, go_sem, HRF.out]
end Go.Proofs.YtkjipfnibolboaaGreatDoor

namespace Go.Proofs.YtkjipfnibolboaaGreatDoor
open Go.RowKit
set_option maxRecDepth 100000

/-- A slice of files in memory. -/
def Fss (w : World) (v : Value) (fs : Fs) : Prop :=
  ∃ a cap, v = .slice a fs.length cap ∧ fs.length ≤ cap ∧ (fs = [] ∨ ∃ b off, a = some ⟨b, off, none⟩ ∧ ∀ i (h : i < fs.length), w.cell? ⟨b, off + i * 2, none⟩ = some (txv fs[i].1) ∧ w.cell? ⟨b, off + i * 2 + 1, none⟩ = some (txv fs[i].2))
/-- The first of each path. -/
def newF (fs : Fs) : Fs → Fs
  | [] => fs
  | f :: r => newF (if (ixF fs f.1).isNone then fs ++ [f] else fs) r
def dk0 : Dk := { fs := [], calls := 0, failAt := 0, dead := false, once := false, half := false, hit := false, turned := false }

theorem newF_snoc (f : List UInt8 × List UInt8) : ∀ (l acc : Fs), newF acc (l ++ [f]) = if (ixF (newF acc l) f.1).isNone then newF acc l ++ [f] else newF acc l
  | [], acc => rfl
  | x :: r, acc => by
    show newF _ (r ++ [f]) = _
    rw [newF_snoc f r]
    rfl
theorem newF_len : ∀ (l acc : Fs), (newF acc l).length ≤ acc.length + l.length
  | [], acc => by simp [newF]
  | x :: r, acc => by
    have := newF_len r (if (ixF acc x.1).isNone then acc ++ [x] else acc)
    simp only [newF, List.length_cons]
    split at this <;> simp_all <;> omega
theorem take_snoc {α : Type} (l : List α) (k : Nat) (h : k < l.length) : l.take (k + 1) = l.take k ++ [l[k]] := by
  rw [List.take_add_one]
  simp [h]

set_option maxHeartbeats 1000000 in
theorem new_any (v : Value) (fs : Fs) (w : World) (hn : fs.length ≤ 1000000) (h : Fss w v fs) :
    Calls Tryz.prog 10 #[v] w fun r w' => r = .returned (dptr w.heap.size) ∧ Below w.heap.size w w' ∧ DiskAt w' (fun k => w.heap.size ≤ k) w.heap.size { dk0 with fs := newF [] fs } := by
  obtain ⟨a, cap, rfl, hcap, hrow⟩ := h
  have H := hide hrow
  clear hrow
  go_enter Tryz.func10, Tryz.ntmps10
  go_wp2_with fail
  have HD0 : Hid (DiskAt (w.alloc (.cells #[.slice none 0 0, .int .i64 0, .int .i64 0, .bool false, .bool false, .bool false, .bool false, .bool false] 69)) (fun k => w.heap.size ≤ k) w.heap.size { dk0 with fs := newF [] (fs.take 0) }) :=
    ⟨.slice none 0 0, Nat.le_refl _, heap_alloc_last _ _, ⟨rfl, .inl ⟨rfl, rfl⟩⟩, fun g e => by simp [Value.ownBlock] at e⟩
  go_loopw [10] (fun i wr => ∃ k : Nat, k ≤ fs.length ∧ i = .int .i64 k ∧ Below w.heap.size w wr ∧ DiskAt wr (fun k => w.heap.size ≤ k) w.heap.size { dk0 with fs := newF [] (fs.take k) }) (fun i _ => fs.length - (intOf i).toNat)
  case atStart => exact ⟨0, Nat.zero_le _, rfl, below_alloc _ _, HD0.out⟩
  case round =>
    obtain ⟨k, hk, rfl, hbe, hdk⟩ := hrel
    have HB := hide hbe
    have HD := hide hdk
    clear hbe hdk HD0
    by_cases hlt : k < fs.length
    · obtain ⟨b, off, rfl, hcs⟩ : ∃ b off, a = some ⟨b, off, none⟩ ∧ ∀ i (h : i < fs.length), w.cell? ⟨b, off + i * 2, none⟩ = some (txv fs[i].1) ∧ w.cell? ⟨b, off + i * 2 + 1, none⟩ = some (txv fs[i].2) := by
        rcases H.out with h | h
        · rw [h] at hlt; simp at hlt
        · exact h
      obtain ⟨y0, y1⟩ := hcs k hlt
      have HST : Hid (newF [] (fs.take (k + 1)) = if (ixF (newF [] (fs.take k)) fs[k].1).isNone then newF [] (fs.take k) ++ [fs[k]] else newF [] (fs.take k)) := by
        show _ = _
        rw [take_snoc fs k hlt, newF_snoc]
      have hnl := newF_len (fs.take k) []
      rw [List.length_take, Nat.min_eq_left hk] at hnl
      simp only [List.length_nil, Nat.zero_add] at hnl
      obtain ⟨⟨p, x⟩, hpx⟩ : ∃ f, fs[k] = f := ⟨_, rfl⟩
      rw [hpx] at y0 y1 HST
      generalize newF [] (fs.take k) = acc at *
      have r0 : wr.cell? ⟨b, off + k * 2, none⟩ = some (.string ⟨p.toArray⟩) := by rw [HB.out.cell (p := ⟨b, _, none⟩) (cell_lt y0)]; exact y0
      have r1 : wr.cell? ⟨b, off + k * 2 + 1, none⟩ = some (.string ⟨x.toArray⟩) := by rw [HB.out.cell (p := ⟨b, _, none⟩) (cell_lt y1)]; exact y1
      clear y0 y1 hcs hpx
      go_wp2_with fail
      have HBF : Hid (Below w.heap.size w (wr.alloc (.cells #[.string ⟨p.toArray⟩, .string ⟨x.toArray⟩] 36))) := HB.out.trans ((below_alloc _ _).mono HB.out.size)
      have HDF : Hid (DiskAt (wr.alloc (.cells #[.string ⟨p.toArray⟩, .string ⟨x.toArray⟩] 36)) (fun k => w.heap.size ≤ k) w.heap.size { dk0 with fs := acc }) := HD.out.stay (O1 := fun _ => False) (T := []) (.of_below (below_alloc _ _)) (by simp) (by simp)
      have HFB : Hid ((wr.alloc (.cells #[.string ⟨p.toArray⟩, .string ⟨x.toArray⟩] 36)).heap[wr.heap.size]? = some (.cells #[.string ⟨p.toArray⟩, .string ⟨x.toArray⟩] 36 (0, 0))) := heap_alloc_last _ _
      generalize wr.alloc (.cells #[.string ⟨p.toArray⟩, .string ⟨x.toArray⟩] 36) = wf at *
      refine (find_any (fun k => w.heap.size ≤ k) w.heap.size { dk0 with fs := acc } p wf (by show acc.length ≤ _; omega) HDF.out).mono ?_
      rintro e w1 ⟨rfl, hb1⟩
      have HB1 : Hid (Below w.heap.size w w1) := HBF.out.trans (hb1.mono HBF.out.size)
      have HD1 := hide (HDF.out.stay (O1 := fun _ => False) (T := []) (.of_below hb1) (by simp) (by simp))
      have hfb : w1.heap[wr.heap.size]? = some (.cells #[.string ⟨p.toArray⟩, .string ⟨x.toArray⟩] 36 (0, 0)) := by rw [hb1.block _ (heap_some_lt HFB.out)]; exact HFB.out
      obtain ⟨q0, -⟩ := dcell hfb 0 _ rfl
      obtain ⟨q1, -⟩ := dcell hfb 1 _ rfl
      clear hb1 hfb r0 r1
      cases e : ixF acc p with
      | some j =>
        have he : ixI acc p = j := by unfold ixI; rw [e]
        have HST' : Hid (newF [] (fs.take (k + 1)) = acc) := by
          show _ = _
          rw [HST.out, e]
          rfl
        rw [show ixI ({ dk0 with fs := acc } : Dk).fs p = j from he]
        clear q0 q1 e he
        go_wp2_with fail
        go_round
        case rel => exact ⟨k + 1, hlt, by go_num, HB1.out, by rw [HST'.out]; exact HD1.out⟩
        case measure => simp [intOf]; omega
      | none =>
        have he : ixI acc p = -1 := by unfold ixI; rw [e]
        have HST' : Hid (newF [] (fs.take (k + 1)) = acc ++ [(p, x)]) := by
          show _ = _
          rw [HST.out, e]
          rfl
        rw [show ixI ({ dk0 with fs := acc } : Dk).fs p = -1 from he]
        obtain ⟨i, hi, hi'⟩ := Option.map_eq_some_iff.1 infoFile
        obtain ⟨hz0, hz1, hz2⟩ : i.zero = some (.agg #[.string ⟨#[]⟩, .string ⟨#[]⟩]) ∧ i.size = 2 ∧ i.bytes = 32 := by simpa using hi'
        clear hi'
        have HI := hide hi
        have HZ := hide (And.intro hz0 (And.intro hz1 hz2))
        clear hi hz0 hz1 hz2
        obtain ⟨fv, hO, hb, hf, hg⟩ := HD1.out
        obtain ⟨c0, f0⟩ := (dall hb).1
        have HG := hide hg
        have HB' := hide hb
        have HF := hide hf
        have HE := hide e
        have HF1 : Hid (∀ o, (w1.alloc o).drew.ownsRow 0 36 2 fv acc.length (fcells acc)) := fun o => World.ownsRow.alloc (w := w1) hf o
        have HBB : Hid (∀ o, (w1.alloc o).drew.heap[w.heap.size]? = some (.cells (dcells fv { dk0 with fs := acc }) 69 (0, 0))) := fun o => heap_alloc_old (w := w1) hb
        have c0' : ∀ o, (w1.alloc o).cell? ⟨w.heap.size, 0, none⟩ = some fv := fun o => by rw [cell_old _ _ ⟨w.heap.size, 0, none⟩ (heap_some_lt hb)]; exact c0
        have HNE : Hid (∀ g, fv.ownBlock = some g → w.heap.size ≠ g) := fun g hg e => by
          rcases hf.2 with ⟨rfl, -⟩ | ⟨g', cap, cur, rfl, -, hgg, -⟩
          · simp [Value.ownBlock] at hg
          · simp only [Value.ownBlock, Option.some.injEq] at hg
            subst hg
            rw [e, hgg] at hb
            simp at hb
        clear hg hb hf e he HD HD1 HDF
        go_wp2_with fail
        go_region_law (refine step_append_lies _ (by rfl) _ _ _ (by rfl) 0 36 i (.agg #[.string ⟨#[]⟩, .string ⟨#[]⟩]) 2 32 Tryz.underlying22 HI.out HZ.out.1 HZ.out.2.1 HZ.out.2.2 rfl (by omega) fv acc.length (fcells acc) (by rfl) (HF1.out _) ⟨w1.heap.size, 0, none⟩ 1 1 [.string ⟨p.toArray⟩, .string ⟨x.toArray⟩] (by rfl) rfl (World.news_of_block (heap_alloc_last _ _)) (by simp [Value.oneCell']) (by omega) (by unfold maxLen; omega) (by omega) (by omega) (w1.heap.size + 1) (by simp) ?_; intro g cap' w3 hown hgrow hat hltg; have hb3 : w3.heap[w.heap.size]? = some (.cells (dcells fv { dk0 with fs := acc }) 69 (0, 0)) := (by rw [hgrow.block w.heap.size (heap_some_lt (HBB.out _)) (fun e => HNE.out w.heap.size e.symm rfl)]; exact HBB.out _); obtain ⟨c3, f3⟩ := (dall hb3).1; have HOW := hide hown; have HGR := hide hgrow; have HAT := hide hat; have HB3 := hide hb3; clear hown hgrow hat hb3)
        all_goals
          have hend := set_end (O := fun k => w.heap.size ≤ k) (b := w.heap.size) (d := { dk0 with fs := acc }) (p := p) (x := x) (w := w1) (Turn.refl _ _ _) (Nat.le_refl _) HG.out HF.out HE.out HOW.out HGR.out HAT.out HB3.out
          have hset : setF acc p x = acc ++ [(p, x)] := by unfold setF; rw [HE.out]
          have HBZ := hide (HB1.out.trans (hend.2.1.below (fun _ h => h) HB1.out.size))
          have HDZ := hide (hend.2.2.mono (O' := fun k => w.heap.size ≤ k) (fun k hk => by
            rcases hk with h | h
            · exact h
            · exact Nat.le_trans HB1.out.size h.1))
          clear hend
          go_wp2_with fail
          go_round
          case rel =>
            refine ⟨k + 1, hlt, by go_num, HBZ.out, ?_⟩
            have h9 := HDZ.out
            rw [HST'.out]
            simp only [hset] at h9
            exact h9
          case measure => simp [intOf]; omega
    · obtain rfl : k = fs.length := by omega
      have HDE := HD.out
      rw [List.take_length] at HDE
      go_wp2_with fail
      go_ret
      exact ⟨rfl, HB.out, HDE⟩
end Go.Proofs.YtkjipfnibolboaaGreatDoor
