import Derived.Test.YtoomnijgdpbphaaGreatDoorG27
import Derived.Test.YtoomnijgdpbphaaGreatDoorG28
import Derived.Test.YtoomnijgdpbphaaGreatDoorG37
import Derived.Test.YtoomnijgdpbphaaGreatDoorG38
import Derived.Test.YtoomnijgdpbphaaGreatDoorG39
import Derived.Test.YtoomnijgdpbphaaGreatDoorG40
import Derived.Test.YtoomnijgdpbphaaGreatDoorG41
import Derived.Test.YtoomnijgdpbphaaGreatDoorG26

namespace Go.Proofs.YtoomnijgdpbphaaGreatDoor
open Go.RowKit
set_option maxRecDepth 100000

/-- All types of blocks that a step may turn. -/
abbrev aT : List Nat := [69, 36, 58, 89, 47, 9]
/-- What is true of a store, n steps on, while nothing foreign was met. -/
structure Num (n : Nat) (x : Wd) (d : Dk) (s : List Nat) : Prop where
  apart : Apart d.fs
  data : ∀ f ∈ d.fs, f.2.length ≤ 1048576
  count : d.fs.length ≤ 4096 + n * 180400
  among : Among (look d.fs) s
  small : s.length ≤ 4096 + n
  key : x.key.length ≤ 1048577
  turned : d.turned = false
/-- What is true of a publisher's entries. -/
structure Ent (x : Wd) (d : Dk) (s : List Nat) (es : List (List UInt8)) (put : Nat) : Prop where
  short : ∀ e ∈ es, e.length ≤ 20
  ins : ∀ j, 4 * j < es.length → j ∈ s
  le : put ≤ es.length
  there : x.failed = false → Calm d ∧ ∀ f ∈ want (es.take put), look d.fs f.1 = some f.2
/-- A publisher in memory, with the law's own entries. -/
def Pub (w : World) (O : Nat → Prop) (db : Nat) (lv ev : Value) (x : Wd) (d : Dk) (s : List Nat) : Prop :=
  lv = .pointer none ∨ ∃ pb lb es put, lv = .pointer (some ⟨pb, 0, none⟩) ∧ O pb ∧ PlAt w pb lb ∧ LogAt w O db lb { key := x.key, es := es, put := put, live := !x.failed } ∧ w.ownsRow 0 9 1 ev es.length (es.map txv) ∧ (∀ g, ev.ownBlock = some g → O g) ∧ Ent x d s es put
def Full (w : World) (O : Nat → Prop) (wb db : Nat) (lv ev : Value) (x : Wd) (d : Dk) (s : List Nat) (n : Nat) : Prop :=
  x.foreign = false ∧ WAt w wb db lv ev x ∧ DiskAt w O db d ∧ Num n x d s ∧ Pub w O db lv ev x d s
def Inv (B : Nat) (w : World) (O : Nat → Prop) (wb n : Nat) : Prop :=
  O wb ∧ (∀ k, O k → B ≤ k ∧ k < w.heap.size) ∧ ((∃ db lv ev x, WAt w wb db lv ev x ∧ x.foreign = true) ∨ ∃ db lv ev x d s, Full w O wb db lv ev x d s n)

theorem ent_few {x : Wd} {d : Dk} {s : List Nat} {es : List (List UInt8)} {put : Nat} (h : Ent x d s es put) : es.length ≤ 4 * s.length := by
  have := pigeon_range ((es.length + 3) / 4) s (fun j hj => h.ins j (by omega))
  omega
theorem plAt_turn {w w' : World} {O : Nat → Prop} {T : List Nat} {pb lb : Nat} (h : PlAt w pb lb) (ht : Turn O T w w') (hT : 88 ∉ T) : PlAt w' pb lb := ht.keep h hT
/-- What another store's step leaves. -/
theorem Pub.out {w w' : World} {O O1 : Nat → Prop} {db : Nat} {lv ev : Value} {x : Wd} {d : Dk} {s : List Nat} (h : Pub w O db lv ev x d s) (ht : Turn O1 aT w w') (h1 : ∀ k, O k → ¬ O1 k) : Pub w' O db lv ev x d s := by
  rcases h with h | ⟨pb, lb, es, put, h1', h2, h3, h4, h5, h6, h7⟩
  · exact .inl h
  · exact .inr ⟨pb, lb, es, put, h1', h2, plAt_turn h3 ht (by decide), h4.out ht h1 (by decide), ownsRow_stay h5 ht (fun g hg => h1 g (h6 g hg)), h6, h7⟩
theorem Inv.out {B : Nat} {w w' : World} {O O1 : Nat → Prop} {wb n : Nat} (h : Inv B w O wb n) (ht : Turn O1 aT w w') (h1 : ∀ k, O k → ¬ O1 k) : Inv B w' O wb n := by
  obtain ⟨h0, hO, h⟩ := h
  refine ⟨h0, fun k hk => ⟨(hO k hk).1, Nat.lt_of_lt_of_le (hO k hk).2 ht.size⟩, ?_⟩
  rcases h with ⟨db, lv, ev, x, hw, hf⟩ | ⟨db, lv, ev, x, d, s, hf, hw, hd, hn, hp⟩
  · exact .inl ⟨db, lv, ev, x, ht.stay hw (h1 wb h0), hf⟩
  · exact .inr ⟨db, lv, ev, x, d, s, hf, ht.stay hw (h1 wb h0), hd.out ht h1, hn, hp.out ht h1⟩
theorem Num.more {n m : Nat} {x : Wd} {d : Dk} {s : List Nat} (h : Num n x d s) (hm : n ≤ m) : Num m x d s :=
  ⟨h.apart, h.data, Nat.le_trans h.count (Nat.add_le_add_left (Nat.mul_le_mul_right _ hm) _), h.among, Nat.le_trans h.small (Nat.add_le_add_left hm _), h.key, h.turned⟩
theorem Inv.more {B : Nat} {w : World} {O : Nat → Prop} {wb n m : Nat} (h : Inv B w O wb n) (hm : n ≤ m) : Inv B w O wb m := by
  obtain ⟨h0, hO, h⟩ := h
  refine ⟨h0, hO, ?_⟩
  rcases h with h | ⟨db, lv, ev, x, d, s, hf, hw, hd, hn, hp⟩
  · exact .inl h
  · exact .inr ⟨db, lv, ev, x, d, s, hf, hw, hd, hn.more hm, hp⟩
/-- The cells of the law's own record. -/
theorem wall {w : World} {wb db : Nat} {lv ev : Value} {x : Wd} (h : WAt w wb db lv ev x) : (w.cell? ⟨wb, 0, none⟩ = some (dptr db) ∧ w.frozen? ⟨wb, 0, none⟩ = false) ∧ (w.cell? ⟨wb, 1, none⟩ = some (txv x.key) ∧ w.frozen? ⟨wb, 1, none⟩ = false) ∧ (w.cell? ⟨wb, 2, none⟩ = some lv ∧ w.frozen? ⟨wb, 2, none⟩ = false) ∧ (w.cell? ⟨wb, 3, none⟩ = some ev ∧ w.frozen? ⟨wb, 3, none⟩ = false) ∧ (w.cell? ⟨wb, 4, none⟩ = some (.int .i64 x.published) ∧ w.frozen? ⟨wb, 4, none⟩ = false) ∧ (w.cell? ⟨wb, 5, none⟩ = some (.bool x.failed) ∧ w.frozen? ⟨wb, 5, none⟩ = false) ∧ (w.cell? ⟨wb, 6, none⟩ = some (.bool x.foreign) ∧ w.frozen? ⟨wb, 6, none⟩ = false) :=
  ⟨dcell h 0 _ rfl, dcell h 1 _ rfl, dcell h 2 _ rfl, dcell h 3 _ rfl, dcell h 4 _ rfl, dcell h 5 _ rfl, dcell h 6 _ rfl⟩
theorem look_same {fs gs : Fs} (ha : Apart fs) (h : gs.Perm fs) : look gs = look fs := funext (look_perm ha h)
theorem perm_data {fs gs : Fs} {M : Nat} (h : gs.Perm fs) (hl : ∀ f ∈ fs, f.2.length ≤ M) : ∀ f ∈ gs, f.2.length ≤ M := fun f hf => hl f (h.mem_iff.1 hf)
/-- A cell of the record set anew. -/
theorem wset {w : World} {wb db : Nat} {lv ev : Value} {x : Wd} (h : WAt w wb db lv ev x) :
    (∀ u, WAt (w.setCell ⟨wb, 2, none⟩ u) wb db u ev x) ∧ (∀ u, WAt (w.setCell ⟨wb, 3, none⟩ u) wb db lv u x) ∧ (∀ n : Int, WAt (w.setCell ⟨wb, 4, none⟩ (.int .i64 n)) wb db lv ev { x with published := n }) ∧ (∀ b : Bool, WAt (w.setCell ⟨wb, 5, none⟩ (.bool b)) wb db lv ev { x with failed := b }) ∧ (∀ b : Bool, WAt (w.setCell ⟨wb, 6, none⟩ (.bool b)) wb db lv ev { x with foreign := b }) :=
  ⟨fun u => dset h 2 u, fun u => dset h 3 u, fun _ => dset h 4 _, fun _ => dset h 5 _, fun _ => dset h 6 _⟩
theorem wturn {O : Nat → Prop} {w : World} {wb db : Nat} {lv ev : Value} {x : Wd} (h : WAt w wb db lv ev x) (hO : O wb) (i : Nat) (u : Value) : Turn O [47] w (w.setCell ⟨wb, i, none⟩ u) := (Turn.refl O _ w).set (.inl hO) h (by simp) u
theorem newF_apart : ∀ (l acc : Fs), Apart acc → Apart (newF acc l)
  | [], acc, h => h
  | f :: r, acc, h => by
    refine newF_apart r _ ?_
    split
    · rename_i e
      have e' : ixF acc f.1 = none := by simpa using e
      have := h.set f.1 f.2
      unfold setF at this
      rw [e'] at this
      exact this
    · exact h
theorem newF_mem : ∀ (l acc : Fs) (f : List UInt8 × List UInt8), f ∈ newF acc l → f ∈ acc ∨ f ∈ l
  | [], acc, f, h => .inl h
  | g :: r, acc, f, h => by
    rcases newF_mem r _ f h with h | h
    · split at h
      · rcases List.mem_append.1 h with h | h
        · exact .inl h
        · exact .inr (by simp at h; simp [h])
      · exact .inl h
    · exact .inr (by simp [h])
theorem diskNe {w : World} {O : Nat → Prop} {wb db : Nat} {lv ev : Value} {x : Wd} {d : Dk} (h : WAt w wb db lv ev x) (hd : DiskAt w O db d) : ¬ db = wb := by
  rintro rfl
  obtain ⟨fv, -, hb, -⟩ := hd
  unfold WAt at h
  rw [hb] at h
  simp at h
theorem num_same {n : Nat} {x x' : Wd} {d d' : Dk} {s : List Nat} (h : Num n x d s) (hk : x'.key = x.key) (hf : d'.fs = d.fs) (ht : d'.turned = d.turned) : Num n x' d' s :=
  ⟨by rw [hf]; exact h.apart, by rw [hf]; exact h.data, by rw [hf]; exact h.count, by rw [hf]; exact h.among, h.small, by rw [hk]; exact h.key, by rw [ht]; exact h.turned⟩
end Go.Proofs.YtoomnijgdpbphaaGreatDoor

namespace Go.Proofs.YtoomnijgdpbphaaGreatDoor
open Go.RowKit
set_option maxRecDepth 100000

/-- The files of a level out of its data. -/
def levGk (l : Int) (data : List (List UInt8)) (k : Nat) : Fs := (List.range k).map fun (j : Nat) => (nameF l j (wid data.length j), ((data.drop (4 * j)).take (wid data.length j)).flatten)
def levG (l : Int) (data : List (List UInt8)) : Fs := levGk l data ((data.length + 3) / 4)
theorem levGk_succ (l : Int) (data : List (List UInt8)) (k : Nat) : levGk l data (k + 1) = levGk l data k ++ [(nameF l k (wid data.length k), ((data.drop (4 * k)).take (wid data.length k)).flatten)] := by
  unfold levGk
  rw [List.range_succ, List.map_append]
  rfl
theorem levGk_len (l : Int) (data : List (List UInt8)) (k : Nat) : (levGk l data k).length = k := by simp [levGk]
theorem levG_levF (es : List (List UInt8)) (l : Int) (c : Nat) : levG l ((List.range c).map (dataF es l)) = levF es l 0 c := by
  unfold levG levGk levF
  rw [List.length_map, List.length_range, Nat.sub_zero, ← List.range_eq_range']
  refine List.map_congr_left fun j hj => ?_
  unfold fileF fileD
  rw [← List.map_drop, ← List.map_take]
  have : ((List.range c).drop (4 * j)).take (wid c j) = List.range' (4 * j) (wid c j) := by
    apply List.ext_getElem
    · simp [wid]
    · intro i h1 h2
      simp
  rw [this]
theorem flat_more1 (data : List (List UInt8)) (a j : Nat) (h : a + j < data.length) : ((data.drop a).take (j + 1)).flatten = ((data.drop a).take j).flatten ++ data[a + j] := by
  rw [List.take_succ_eq_append_getElem (by simp; omega), List.flatten_append, List.getElem_drop]
  simp
theorem flat_le (data : List (List UInt8)) (a j : Nat) (hj : j ≤ 4) (h : ∀ d ∈ data, d.length ≤ 21) : ((data.drop a).take j).flatten.length ≤ 84 := by
  have : ∀ ls : List (List UInt8), (∀ d ∈ ls, d.length ≤ 21) → ls.flatten.length ≤ ls.length * 21 := by
    intro ls
    induction ls with
    | nil => simp
    | cons x r ih =>
      intro hh
      have h1 := hh x (by simp)
      have h2 := ih (fun d hd => hh d (by simp [hd]))
      rw [List.flatten_cons, List.length_append, List.length_cons, Nat.add_mul]
      omega
  have h1 := this ((data.drop a).take j) (fun d hd => h d (List.mem_of_mem_drop (List.mem_of_mem_take hd)))
  have h2 : ((data.drop a).take j).length ≤ 4 := by rw [List.length_take]; omega
  omega

/-- A file more in an own row of files. -/
theorem app_file (w : World) {ops : Array Oper} {rest : List Oper} {o : Oper} {a : Act} {Q : Exit → Act → World → Prop}
    (hgd : o.guard = none) (s x : Operand) (hop : o.op = Op.call { callee := Callee.builtin Builtin.append, args := #[s, x], argTypes := #[71, 71] })
    (B : Nat) (hB : B ≤ w.heap.size) (v : Value) (gs : Fs) (hs : a.eval s = v) (hown : w.ownsRow B 86 2 v gs.length (fcells gs))
    (nm t : List UInt8) (hx : a.eval x = .slice (some ⟨w.heap.size, 0, none⟩) 1 1) (hn : gs.length ≤ 1000000000)
    (h : ∀ v' w', w'.ownsRow B 86 2 v' (gs ++ [(nm, t)]).length (fcells (gs ++ [(nm, t)])) → Turn (fun g => v.ownBlock = some g) [86] w w' → wpList Tryz.prog ops Q rest (a.put o.dst v') w') : wpList Tryz.prog ops Q (o :: rest) a (w.alloc (.cells #[txv nm, txv t] 86)) := by
  obtain ⟨i, hi, hi'⟩ := Option.map_eq_some_iff.1 infoRFile
  obtain ⟨hz0, hz1, hz2⟩ : i.zero = some (.agg #[.string ⟨#[]⟩, .string ⟨#[]⟩]) ∧ i.size = 2 ∧ i.bytes = 32 := by simpa using hi'
  have ho := World.ownsRow.alloc hown (.cells #[txv nm, txv t] 86)
  refine wpList_append_lies _ hgd s x _ hop B 86 i (.agg #[.string ⟨#[]⟩, .string ⟨#[]⟩]) 2 32 Tryz.underlying71 hi hz0 hz1 hz2 rfl (by omega) v gs.length (fcells gs) hs ho ⟨w.heap.size, 0, none⟩ 1 1 [txv nm, txv t] hx rfl (World.news_of_block (heap_alloc_last _ _)) (by simp [txv, Value.oneCell']) (by omega) (by unfold maxLen; omega) (by omega) (by simp; omega) (w.heap.size + 1) (by simp) fun g cap w1 hown1 hgrow hat hlt => ?_
  refine h _ w1 ?_ (((Turn.refl (fun g => v.ownBlock = some g) [86] w).alloc _).grown ho hgrow (fun g hg => .inl hg) (by simp))
  rw [List.length_append, fcells_append]
  exact hown1

set_option maxHeartbeats 2000000 in
/-- tilesref.level. -/
theorem refLevel_any (v dv : Value) (fs : Fs) (l : Int) (data : List (List UInt8)) (B : Nat) (w : World) (hB : B ≤ w.heap.size) (hf : w.ownsRow B 86 2 v fs.length (fcells fs)) (hn : fs.length ≤ 100000000) (hd : w.ownsRow B 9 1 dv data.length (data.map txv)) (hdn : data.length ≤ 1000000) (hdl : ∀ d ∈ data, d.length ≤ 21) :
    Calls Tryz.prog 63 #[v, .int .i64 l, dv] w fun r w' => ∃ v', r = .returned v' ∧ Turn (fun k => B ≤ k) [86] w w' ∧ w'.ownsRow B 86 2 v' (fs ++ levG l data).length (fcells (fs ++ levG l data)) := by
  have HF := hide hf
  have HD := hide hd
  have HDL := hide hdl
  obtain ⟨da, dc, rfl⟩ := own_slice hd
  obtain ⟨va, vc, rfl⟩ := own_slice hf
  clear hf hd hdl
  go_enter Tryz.func63, Tryz.ntmps63
  go_wp2_with fail
  go_loopw [0, 7] (fun lv iv wr => ∃ k : Nat, 4 * k < data.length + 4 ∧ iv = .int .i64 (4 * (k : Int)) ∧ Turn (fun k => B ≤ k) [86] w wr ∧ wr.ownsRow B 86 2 lv (fs ++ levGk l data k).length (fcells (fs ++ levGk l data k))) (fun _ iv _ => data.length + 4 - (intOf iv).toNat)
  case atStart => exact ⟨0, by omega, rfl, Turn.refl _ _ _, by simpa [levGk] using HF.out⟩
  case round =>
    obtain ⟨k, hk, rfl, ht, hown⟩ := hrel
    have HT := hide ht
    have HO := hide hown
    obtain ⟨la, lc, rfl⟩ := own_slice hown
    have hgl : Hid ((fs ++ levGk l data k).length = fs.length + k) := by show _ = _; rw [List.length_append, levGk_len]
    have HS : Hid (fs ++ levGk l data (k + 1) = (fs ++ levGk l data k) ++ [(nameF l k (wid data.length k), ((data.drop (4 * k)).take (wid data.length k)).flatten)]) := by show _ = _; rw [levGk_succ, List.append_assoc]
    have HKK : Hid (k = (data.length + 3) / 4 → fs ++ levG l data = fs ++ levGk l data k) := fun e => by unfold levG; rw [← e]
    clear ht hown
    generalize fs ++ levGk l data k = gs at *
    by_cases hlt : 4 * k < data.length
    · by_cases h4 : 4 < data.length - 4 * k
      · have h4' : (4 : Int) < (data.length : Int) - 4 * (k : Int) := by omega
        have hbw : wid data.length k = 4 := by unfold wid; omega
        have hn4 : 4 ≤ 4 := by omega
        have hn1 : 1 ≤ 4 := by omega
        have hnl : 4 * k + 4 ≤ data.length := by omega
        go_wp2_with fail
        refine (refName_any l k 4 (by omega) wr).mono ?_
        rintro r w1 ⟨rfl, hb1⟩
        have HT1 : Hid (Turn (fun k => B ≤ k) [86] w w1) := HT.out.then_below hb1
        have HO1 : Hid (w1.ownsRow B 86 2 (.slice la gs.length lc) gs.length (fcells gs)) := ownsRow_turn HO.out (Turn.of_below (O := fun _ => False) (T := []) hb1) (by simp)
        have HD1 := hide (tss_owns (ownsRow_turn HD.out HT1.out (by decide)))
        rw [hbw] at HS
        have hc4 : ((4 : Nat) : Int) = 4 := rfl
        rw [hc4] at HS
        clear hc4
        clear hb1 HO hbw
        generalize nameF l (k : Int) 4 = nm at *
        go_wp2_with fail
        go_loopw [10, 11] (fun sv kv wr2 => ∃ j : Nat, j ≤ 4 ∧ kv = .int .i64 (4 * (k : Int) + (j : Int)) ∧ sv = .string ⟨(((data.drop (4 * k)).take j).flatten).toArray⟩ ∧ Below w1.heap.size w1 wr2) (fun _ kv _ => 4 * k + 4 - (intOf kv).toNat)
        case atStart => exact ⟨0, by omega, by simp, by simp, Below.refl _ _⟩
        case round =>
          obtain ⟨j, hj, rfl, rfl, hbj⟩ := hrel
          have HBJ := hide hbj
          clear hbj
          by_cases hjl : j < 4
          · obtain ⟨-, -, hdx0⟩ := HD1.out.at
            obtain ⟨db, dof, rfl, hdx⟩ := hdx0 (by omega)
            have hjd : 4 * k + j < data.length := by omega
            have y1 := hdx (4 * k + j) hjd
            have r1 : wr.cell? ⟨db, dof + (4 * k + j), none⟩ = some (txv data[4 * k + j]) := by rw [HBJ.out.cell (p := ⟨db, _, none⟩) (cell_lt y1)]; exact y1
            have HSN := hide (flat_more1 data (4 * k) j hjd)
            have hl1 := flat_le data (4 * k) j (by omega) HDL.out
            have hl2 := HDL.out _ (List.getElem_mem hjd)
            unfold txv at r1
            clear y1 hdx hdx0
            generalize data[4 * k + j] = p at *
            generalize ((data.drop (4 * k)).take j).flatten = t at *
            have b1 : ¬ 9223372036854775807 < t.length + p.length := by omega
            go_wp2_with fail
            go_roundw
            case rel => exact ⟨j + 1, by omega, by go_num, by rw [HSN.out]; first | rfl | simp, HBJ.out⟩
            case measure => simp [intOf]; omega
          · obtain rfl : j = 4 := by omega
            have HSS : Hid (fs ++ levGk l data (k + 1) = gs ++ [(nm, ((data.drop (4 * k)).take 4).flatten)]) := HS.out
            have HT2 : Hid (Turn (fun k => B ≤ k) [86] w wr) := HT1.out.then_below HBJ.out
            have HO2 : Hid (wr.ownsRow B 86 2 (.slice la gs.length lc) gs.length (fcells gs)) := ownsRow_turn HO1.out (Turn.of_below (O := fun _ => False) (T := []) HBJ.out) (by simp)
            have HSZ : Hid (B ≤ wr.heap.size) := by have := HT2.out.size; show _ ≤ _; omega
            clear HO1 HT1 HBJ HS
            generalize (((data.drop (4 * k)).take 4).flatten) = t at *
            go_wp2_with (at_builtin; refine app_file wr rfl _ _ rfl B HSZ.out (.slice la gs.length lc) gs rfl HO2.out nm t rfl (by have := hgl.out; omega) ?_; intro v' w3 hown htn; have HOW := hide hown; have HTG : Hid (Turn (fun k => B ≤ k) [86] w w3) := HT2.out.trans (htn.mono (fun g hg => .inl (own_base HO2.out g hg)) (fun _ h => h)); obtain ⟨ya, yc, he⟩ := own_slice hown; subst he; clear hown htn)
            go_roundw
            case rel => exact ⟨k + 1, by omega, by go_num, HTG.out, by rw [HSS.out]; have h := HOW.out; rw [List.length_append] at h ⊢; exact h⟩
            case measure => simp [intOf]; omega
      · have h4' : ¬ (4 : Int) < (data.length : Int) - 4 * (k : Int) := by omega
        have hwi : (data.length : Int) - 4 * (k : Int) = ((data.length - 4 * k : Nat) : Int) := by omega
        have HWI := hide hwi
        clear hwi
        obtain ⟨n, hnw⟩ : ∃ n : Nat, n = data.length - 4 * k := ⟨_, rfl⟩
        have hbw : wid data.length k = n := by unfold wid; omega
        have hn4 : n ≤ 4 := by omega
        have hn1 : 1 ≤ n := by omega
        have hnl : 4 * k + n ≤ data.length := by omega
        go_wp2_with fail
        rw [HWI.out, ← hnw]
        refine (refName_any l k (n : Int) (by omega) wr).mono ?_
        rintro r w1 ⟨rfl, hb1⟩
        have HT1 : Hid (Turn (fun k => B ≤ k) [86] w w1) := HT.out.then_below hb1
        have HO1 : Hid (w1.ownsRow B 86 2 (.slice la gs.length lc) gs.length (fcells gs)) := ownsRow_turn HO.out (Turn.of_below (O := fun _ => False) (T := []) hb1) (by simp)
        have HD1 := hide (tss_owns (ownsRow_turn HD.out HT1.out (by decide)))
        rw [hbw] at HS
        clear hb1 HO hbw
        generalize nameF l (k : Int) (n : Int) = nm at *
        go_wp2_with fail
        go_loopw [10, 11] (fun sv kv wr2 => ∃ j : Nat, j ≤ n ∧ kv = .int .i64 (4 * (k : Int) + (j : Int)) ∧ sv = .string ⟨(((data.drop (4 * k)).take j).flatten).toArray⟩ ∧ Below w1.heap.size w1 wr2) (fun _ kv _ => 4 * k + n - (intOf kv).toNat)
        case atStart => exact ⟨0, by omega, by simp, by simp, Below.refl _ _⟩
        case round =>
          obtain ⟨j, hj, rfl, rfl, hbj⟩ := hrel
          have HBJ := hide hbj
          clear hbj
          by_cases hjl : j < n
          · obtain ⟨-, -, hdx0⟩ := HD1.out.at
            obtain ⟨db, dof, rfl, hdx⟩ := hdx0 (by omega)
            have hjd : 4 * k + j < data.length := by omega
            have y1 := hdx (4 * k + j) hjd
            have r1 : wr.cell? ⟨db, dof + (4 * k + j), none⟩ = some (txv data[4 * k + j]) := by rw [HBJ.out.cell (p := ⟨db, _, none⟩) (cell_lt y1)]; exact y1
            have HSN := hide (flat_more1 data (4 * k) j hjd)
            have hl1 := flat_le data (4 * k) j (by omega) HDL.out
            have hl2 := HDL.out _ (List.getElem_mem hjd)
            unfold txv at r1
            clear y1 hdx hdx0
            generalize data[4 * k + j] = p at *
            generalize ((data.drop (4 * k)).take j).flatten = t at *
            have b1 : ¬ 9223372036854775807 < t.length + p.length := by omega
            go_wp2_with fail
            go_roundw
            case rel => exact ⟨j + 1, by omega, by go_num, by rw [HSN.out]; first | rfl | simp, HBJ.out⟩
            case measure => simp [intOf]; omega
          · obtain rfl : j = n := by omega
            have HSS : Hid (fs ++ levGk l data (k + 1) = gs ++ [(nm, ((data.drop (4 * k)).take j).flatten)]) := HS.out
            have HT2 : Hid (Turn (fun k => B ≤ k) [86] w wr) := HT1.out.then_below HBJ.out
            have HO2 : Hid (wr.ownsRow B 86 2 (.slice la gs.length lc) gs.length (fcells gs)) := ownsRow_turn HO1.out (Turn.of_below (O := fun _ => False) (T := []) HBJ.out) (by simp)
            have HSZ : Hid (B ≤ wr.heap.size) := by have := HT2.out.size; show _ ≤ _; omega
            clear HO1 HT1 HBJ HS
            generalize (((data.drop (4 * k)).take j).flatten) = t at *
            go_wp2_with (at_builtin; refine app_file wr rfl _ _ rfl B HSZ.out (.slice la gs.length lc) gs rfl HO2.out nm t rfl (by have := hgl.out; omega) ?_; intro v' w3 hown htn; have HOW := hide hown; have HTG : Hid (Turn (fun k => B ≤ k) [86] w w3) := HT2.out.trans (htn.mono (fun g hg => .inl (own_base HO2.out g hg)) (fun _ h => h)); obtain ⟨ya, yc, he⟩ := own_slice hown; subst he; clear hown htn)
            go_roundw
            case rel => exact ⟨k + 1, by omega, by go_num, HTG.out, by rw [HSS.out]; have h := HOW.out; rw [List.length_append] at h ⊢; exact h⟩
            case measure => simp [intOf]; omega
    · have HK2 := hide (HKK.out (by omega))
      go_wp2_with fail
      go_ret
      exact ⟨_, rfl, HT.out, by rw [HK2.out]; exact HO.out⟩
end Go.Proofs.YtoomnijgdpbphaaGreatDoor
