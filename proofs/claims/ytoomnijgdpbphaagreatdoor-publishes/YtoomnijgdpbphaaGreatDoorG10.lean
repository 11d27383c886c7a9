import Derived.Test.YtoomnijgdpbphaaGreatDoorG06
import Derived.Test.YtoomnijgdpbphaaGreatDoorG09
import Derived.Shelf.LaysC
import Derived.Shelf.LaysM
import Derived.Shelf.Strconv.AtoiAll
import Derived.Shelf.Strconv.Itoa3
import Derived.Shelf.Strings.Split
import Derived.Test.YtoomnijgdpbphaaGreatDoorProg
import Derived.Test.YtoomnijgdpbphaaGreatDoorG01
import Derived.Lib.ItoaMem
import Derived.Lib.AtoiAllCases
import Derived.Lib.IndexLaws
import Derived.Lib.IndexMore
import Derived.Lib.Strings

namespace Go.Proofs.YtoomnijgdpbphaaGreatDoor
open Go.RowKit
set_option maxRecDepth 100000

/-- A slice of files in memory. -/
def Fss (w : World) (v : Value) (fs : Fs) : Prop :=
  ∃ a cap, v = .slice a fs.length cap ∧ fs.length ≤ cap ∧ (fs = [] ∨ ∃ b off, a = some ⟨b, off, none⟩ ∧ ∀ i (h : i < fs.length), w.cell? ⟨b, off + i * 2, none⟩ = some (txv fs[i].1) ∧ w.cell? ⟨b, off + i * 2 + 1, none⟩ = some (txv fs[i].2))
/-- The first of each path. -/
def newF (fs : Fs) : Fs → Fs
  | [] => fs
  | f :: r => newF (if (ixF fs f.1).isNone then fs ++ [f] else fs) r
def dk0 : Dk := { fs := [], calls := 0, failAt := 0, dead := false, once := false, half := false, hit := false, turned := false }

theorem newF_snoc (f : List UInt8 × List UInt8) : ∀ (l acc : Fs), newF acc (l ++ [f]) = if (ixF (newF acc l) f.1).isNone then newF acc l ++ [f] else newF acc l
  | [], acc => rfl
  | x :: r, acc => by
    show newF _ (r ++ [f]) = _
    rw [newF_snoc f r]
    rfl
theorem newF_len : ∀ (l acc : Fs), (newF acc l).length ≤ acc.length + l.length
  | [], acc => by simp [newF]
  | x :: r, acc => by
    have := newF_len r (if (ixF acc x.1).isNone then acc ++ [x] else acc)
    simp only [newF, List.length_cons]
    split at this <;> simp_all <;> omega
theorem take_snoc {α : Type} (l : List α) (k : Nat) (h : k < l.length) : l.take (k + 1) = l.take k ++ [l[k]] := by
  rw [List.take_add_one]
  simp [h]

set_option maxHeartbeats 1000000 in
theorem new_any (v : Value) (fs : Fs) (w : World) (hn : fs.length ≤ 1000000) (h : Fss w v fs) :
    Calls Tryz.prog 10 #[v] w fun r w' => r = .returned (dptr w.heap.size) ∧ Below w.heap.size w w' ∧ DiskAt w' (fun k => w.heap.size ≤ k) w.heap.size { dk0 with fs := newF [] fs } := by
  obtain ⟨a, cap, rfl, hcap, hrow⟩ := h
  have H := hide hrow
  clear hrow
  go_enter Tryz.func10, Tryz.ntmps10
  go_wp2_with fail
  have HD0 : Hid (DiskAt (w.alloc (.cells #[.slice none 0 0, .int .i64 0, .int .i64 0, .bool false, .bool false, .bool false, .bool false, .bool false] 69)) (fun k => w.heap.size ≤ k) w.heap.size { dk0 with fs := newF [] (fs.take 0) }) :=
    ⟨.slice none 0 0, Nat.le_refl _, heap_alloc_last _ _, ⟨rfl, .inl ⟨rfl, rfl⟩⟩, fun g e => by simp [Value.ownBlock] at e⟩
  go_loopw [10] (fun i wr => ∃ k : Nat, k ≤ fs.length ∧ i = .int .i64 k ∧ Below w.heap.size w wr ∧ DiskAt wr (fun k => w.heap.size ≤ k) w.heap.size { dk0 with fs := newF [] (fs.take k) }) (fun i _ => fs.length - (intOf i).toNat)
  case atStart => exact ⟨0, Nat.zero_le _, rfl, below_alloc _ _, HD0.out⟩
  case round =>
    obtain ⟨k, hk, rfl, hbe, hdk⟩ := hrel
    have HB := hide hbe
    have HD := hide hdk
    clear hbe hdk HD0
    by_cases hlt : k < fs.length
    · obtain ⟨b, off, rfl, hcs⟩ : ∃ b off, a = some ⟨b, off, none⟩ ∧ ∀ i (h : i < fs.length), w.cell? ⟨b, off + i * 2, none⟩ = some (txv fs[i].1) ∧ w.cell? ⟨b, off + i * 2 + 1, none⟩ = some (txv fs[i].2) := by
        rcases H.out with h | h
        · rw [h] at hlt; simp at hlt
        · exact h
      obtain ⟨y0, y1⟩ := hcs k hlt
      have HST : Hid (newF [] (fs.take (k + 1)) = if (ixF (newF [] (fs.take k)) fs[k].1).isNone then newF [] (fs.take k) ++ [fs[k]] else newF [] (fs.take k)) := by
        show _ = _
        rw [take_snoc fs k hlt, newF_snoc]
      have hnl := newF_len (fs.take k) []
      rw [List.length_take, Nat.min_eq_left hk] at hnl
      simp only [List.length_nil, Nat.zero_add] at hnl
      obtain ⟨⟨p, x⟩, hpx⟩ : ∃ f, fs[k] = f := ⟨_, rfl⟩
      rw [hpx] at y0 y1 HST
      generalize newF [] (fs.take k) = acc at *
      have r0 : wr.cell? ⟨b, off + k * 2, none⟩ = some (.string ⟨p.toArray⟩) := by rw [HB.out.cell (p := ⟨b, _, none⟩) (cell_lt y0)]; exact y0
      have r1 : wr.cell? ⟨b, off + k * 2 + 1, none⟩ = some (.string ⟨x.toArray⟩) := by rw [HB.out.cell (p := ⟨b, _, none⟩) (cell_lt y1)]; exact y1
      clear y0 y1 hcs hpx
      go_wp2_with fail
      have HBF : Hid (Below w.heap.size w (wr.alloc (.cells #[.string ⟨p.toArray⟩, .string ⟨x.toArray⟩] 36))) := HB.out.trans ((below_alloc _ _).mono HB.out.size)
      have HDF : Hid (DiskAt (wr.alloc (.cells #[.string ⟨p.toArray⟩, .string ⟨x.toArray⟩] 36)) (fun k => w.heap.size ≤ k) w.heap.size { dk0 with fs := acc }) := HD.out.stay (O1 := fun _ => False) (T := []) (.of_below (below_alloc _ _)) (by simp) (by simp)
      have HFB : Hid ((wr.alloc (.cells #[.string ⟨p.toArray⟩, .string ⟨x.toArray⟩] 36)).heap[wr.heap.size]? = some (.cells #[.string ⟨p.toArray⟩, .string ⟨x.toArray⟩] 36 (0, 0))) := heap_alloc_last _ _
      generalize wr.alloc (.cells #[.string ⟨p.toArray⟩, .string ⟨x.toArray⟩] 36) = wf at *
      refine (find_any (fun k => w.heap.size ≤ k) w.heap.size { dk0 with fs := acc } p wf (by show acc.length ≤ _; omega) HDF.out).mono ?_
      rintro e w1 ⟨rfl, hb1⟩
      have HB1 : Hid (Below w.heap.size w w1) := HBF.out.trans (hb1.mono HBF.out.size)
      have HD1 := hide (HDF.out.stay (O1 := fun _ => False) (T := []) (.of_below hb1) (by simp) (by simp))
      have hfb : w1.heap[wr.heap.size]? = some (.cells #[.string ⟨p.toArray⟩, .string ⟨x.toArray⟩] 36 (0, 0)) := by rw [hb1.block _ (heap_some_lt HFB.out)]; exact HFB.out
      obtain ⟨q0, -⟩ := dcell hfb 0 _ rfl
      obtain ⟨q1, -⟩ := dcell hfb 1 _ rfl
      clear hb1 hfb r0 r1
      cases e : ixF acc p with
      | some j =>
        have he : ixI acc p = j := by unfold ixI; rw [e]
        have HST' : Hid (newF [] (fs.take (k + 1)) = acc) := by
          show _ = _
          rw [HST.out, e]
          rfl
        rw [show ixI ({ dk0 with fs := acc } : Dk).fs p = j from he]
        clear q0 q1 e he
        go_wp2_with fail
        go_round
        case rel => exact ⟨k + 1, hlt, by go_num, HB1.out, by rw [HST'.out]; exact HD1.out⟩
        case measure => simp [intOf]; omega
      | none =>
        have he : ixI acc p = -1 := by unfold ixI; rw [e]
        have HST' : Hid (newF [] (fs.take (k + 1)) = acc ++ [(p, x)]) := by
          show _ = _
          rw [HST.out, e]
          rfl
        rw [show ixI ({ dk0 with fs := acc } : Dk).fs p = -1 from he]
        obtain ⟨i, hi, hi'⟩ := Option.map_eq_some_iff.1 infoFile
        obtain ⟨hz0, hz1, hz2⟩ : i.zero = some (.agg #[.string ⟨#[]⟩, .string ⟨#[]⟩]) ∧ i.size = 2 ∧ i.bytes = 32 := by simpa using hi'
        clear hi'
        have HI := hide hi
        have HZ := hide (And.intro hz0 (And.intro hz1 hz2))
        clear hi hz0 hz1 hz2
        obtain ⟨fv, hO, hb, hf, hg⟩ := HD1.out
        obtain ⟨c0, f0⟩ := (dall hb).1
        have HG := hide hg
        have HB' := hide hb
        have HF := hide hf
        have HE := hide e
        have HF1 : Hid (∀ o, (w1.alloc o).drew.ownsRow 0 36 2 fv acc.length (fcells acc)) := fun o => World.ownsRow.alloc (w := w1) hf o
        have HBB : Hid (∀ o, (w1.alloc o).drew.heap[w.heap.size]? = some (.cells (dcells fv { dk0 with fs := acc }) 69 (0, 0))) := fun o => heap_alloc_old (w := w1) hb
        have c0' : ∀ o, (w1.alloc o).cell? ⟨w.heap.size, 0, none⟩ = some fv := fun o => by rw [cell_old _ _ ⟨w.heap.size, 0, none⟩ (heap_some_lt hb)]; exact c0
        have HNE : Hid (∀ g, fv.ownBlock = some g → w.heap.size ≠ g) := fun g hg e => by
          rcases hf.2 with ⟨rfl, -⟩ | ⟨g', cap, cur, rfl, -, hgg, -⟩
          · simp [Value.ownBlock] at hg
          · simp only [Value.ownBlock, Option.some.injEq] at hg
            subst hg
            rw [e, hgg] at hb
            simp at hb
        clear hg hb hf e he HD HD1 HDF
        go_wp2_with fail
        go_region_law (refine step_append_lies _ (by rfl) _ _ _ (by rfl) 0 36 i (.agg #[.string ⟨#[]⟩, .string ⟨#[]⟩]) 2 32 Tryz.underlying22 HI.out HZ.out.1 HZ.out.2.1 HZ.out.2.2 rfl (by omega) fv acc.length (fcells acc) (by rfl) (HF1.out _) ⟨w1.heap.size, 0, none⟩ 1 1 [.string ⟨p.toArray⟩, .string ⟨x.toArray⟩] (by rfl) rfl (World.news_of_block (heap_alloc_last _ _)) (by simp [Value.oneCell']) (by omega) (by unfold maxLen; omega) (by omega) (by omega) (w1.heap.size + 1) (by simp) ?_; intro g cap' w3 hown hgrow hat hltg; have hb3 : w3.heap[w.heap.size]? = some (.cells (dcells fv { dk0 with fs := acc }) 69 (0, 0)) := (by rw [hgrow.block w.heap.size (heap_some_lt (HBB.out _)) (fun e => HNE.out w.heap.size e.symm rfl)]; exact HBB.out _); obtain ⟨c3, f3⟩ := (dall hb3).1; have HOW := hide hown; have HGR := hide hgrow; have HAT := hide hat; have HB3 := hide hb3; clear hown hgrow hat hb3)
        all_goals
          have hend := set_end (O := fun k => w.heap.size ≤ k) (b := w.heap.size) (d := { dk0 with fs := acc }) (p := p) (x := x) (w := w1) (Turn.refl _ _ _) (Nat.le_refl _) HG.out HF.out HE.out HOW.out HGR.out HAT.out HB3.out
          have hset : setF acc p x = acc ++ [(p, x)] := by unfold setF; rw [HE.out]
          have HBZ := hide (HB1.out.trans (hend.2.1.below (fun _ h => h) HB1.out.size))
          have HDZ := hide (hend.2.2.mono (O' := fun k => w.heap.size ≤ k) (fun k hk => by
            rcases hk with h | h
            · exact h
            · exact Nat.le_trans HB1.out.size h.1))
          clear hend
          go_wp2_with fail
          go_round
          case rel =>
            refine ⟨k + 1, hlt, by go_num, HBZ.out, ?_⟩
            have h9 := HDZ.out
            rw [HST'.out]
            simp only [hset] at h9
            exact h9
          case measure => simp [intOf]; omega
    · obtain rfl : k = fs.length := by omega
      have HDE := HD.out
      rw [List.take_length] at HDE
      go_wp2_with fail
      go_ret
      exact ⟨rfl, HB.out, HDE⟩
end Go.Proofs.YtoomnijgdpbphaaGreatDoor

namespace Go.Proofs
open Go.Shelf
def Tryz.laysM171_ren : Go.Shelf.Ren := ⟨fun | 171 => 76 | 243 => 100 | 246 => 117 | 283 => 139 | 284 => 140 | 285 => 141 | 286 => 142 | 129 => 119 | 317 => 156 | 318 => 157 | 319 => 158 | 320 => 159 | 337 => 163 | 338 => 164 | n => n, fun | 3 => 3 | 9 => 9 | 2 => 2 | 4 => 4 | 171 => 209 | 0 => 0 | 53 => 140 | 37 => 89 | 5 => 5 | 173 => 211 | 212 => 225 | 51 => 189 | 20 => 20 | 213 => 226 | 46 => 166 | 232 => 237 | 233 => 238 | n => n, fun | 17 => 11 | 18 => 14 | 19 => 15 | n => n⟩
theorem Tryz.laysM171 : Go.Proofs.LaysM.n171 Tryz.prog Tryz.laysM171_ren := {
  mixed := by kernel_rfl
  f129 := Tryz.func119.trans (congrArg some (by kernel_rfl))
  f171 := Tryz.func76.trans (congrArg some (by kernel_rfl))
  f243 := Tryz.func100.trans (congrArg some (by kernel_rfl))
  f246 := Tryz.func117.trans (congrArg some (by kernel_rfl))
  f283 := Tryz.func139.trans (congrArg some (by kernel_rfl))
  f284 := Tryz.func140.trans (congrArg some (by kernel_rfl))
  f285 := Tryz.func141.trans (congrArg some (by kernel_rfl))
  f286 := Tryz.func142.trans (congrArg some (by kernel_rfl))
  f317 := Tryz.func156.trans (congrArg some (by kernel_rfl))
  f318 := Tryz.func157.trans (congrArg some (by kernel_rfl))
  f319 := Tryz.func158.trans (congrArg some (by kernel_rfl))
  f320 := Tryz.func159.trans (congrArg some (by kernel_rfl))
  f337 := Tryz.func163.trans (congrArg some (by kernel_rfl))
  f338 := Tryz.func164.trans (congrArg some (by kernel_rfl))
  t0 := Tryz.underlying0
  a0 := Tryz.isAgg0
  z0 := Tryz.sizeOf0
  v0 := Tryz.zeroValue0
  t2 := Tryz.underlying2
  a2 := Tryz.isAgg2
  z2 := Tryz.sizeOf2
  v2 := Tryz.zeroValue2
  t3 := Tryz.underlying3
  a3 := Tryz.isAgg3
  z3 := Tryz.sizeOf3
  v3 := Tryz.zeroValue3
  t4 := Tryz.underlying4
  a4 := Tryz.isAgg4
  z4 := Tryz.sizeOf4
  v4 := Tryz.zeroValue4
  t5 := Tryz.underlying5
  a5 := Tryz.isAgg5
  z5 := Tryz.sizeOf5
  v5 := Tryz.zeroValue5
  t9 := Tryz.underlying9
  a9 := Tryz.isAgg9
  z9 := Tryz.sizeOf9
  v9 := Tryz.zeroValue9
  t20 := Tryz.underlying20
  a20 := Tryz.isAgg20
  z20 := Tryz.sizeOf20
  v20 := Tryz.zeroValue20
  t37 := Tryz.underlying89
  a37 := Tryz.isAgg89
  z37 := Tryz.sizeOf89
  v37 := Tryz.zeroValue89
  t46 := Tryz.underlying166
  a46 := Tryz.isAgg166
  z46 := Tryz.sizeOf166
  v46 := Tryz.zeroValue166
  t51 := Tryz.underlying189
  a51 := Tryz.isAgg189
  z51 := Tryz.sizeOf189
  v51 := Tryz.zeroValue189
  t53 := Tryz.underlying140
  a53 := Tryz.isAgg140
  z53 := Tryz.sizeOf140
  v53 := Tryz.zeroValue140
  t171 := Tryz.underlying209
  a171 := Tryz.isAgg209
  z171 := Tryz.sizeOf209
  v171 := Tryz.zeroValue209
  t173 := Tryz.underlying211
  a173 := Tryz.isAgg211
  z173 := Tryz.sizeOf211
  v173 := Tryz.zeroValue211
  t212 := Tryz.underlying225
  a212 := Tryz.isAgg225
  z212 := Tryz.sizeOf225
  v212 := Tryz.zeroValue225
  t213 := Tryz.underlying226
  a213 := Tryz.isAgg226
  z213 := Tryz.sizeOf226
  t232 := Tryz.underlying237
  a232 := Tryz.isAgg237
  z232 := Tryz.sizeOf237
  v232 := Tryz.zeroValue237
  t233 := Tryz.underlying238
  a233 := Tryz.isAgg238
  z233 := Tryz.sizeOf238
  v233 := Tryz.zeroValue238
  g17 := by kernel_rfl
  g18 := by kernel_rfl
  g19 := by kernel_rfl
  i0 := by kernel_rfl
  i2 := by kernel_rfl
  i3 := by kernel_rfl
  i4 := by kernel_rfl
  i5 := by kernel_rfl
  i9 := by kernel_rfl
  i20 := by kernel_rfl
  i37 := by kernel_rfl
  i46 := by kernel_rfl
  i51 := by kernel_rfl
  i53 := by kernel_rfl
  i171 := by kernel_rfl
  i173 := by kernel_rfl
  i212 := by kernel_rfl
  i232 := by kernel_rfl
  i233 := by kernel_rfl
  m17 := by kernel_rfl
  m18 := by kernel_rfl
  m19 := by kernel_rfl }
def Tryz.laysC172_ren : Go.Shelf.Ren := ⟨fun | 172 => 98 | 244 => 116 | 245 => 97 | 247 => 138 | 279 => 112 | 280 => 113 | 281 => 114 | 282 => 115 | 287 => 96 | 316 => 136 | 171 => 76 | 205 => 137 | 321 => 110 | 322 => 111 | 243 => 100 | 246 => 117 | 283 => 139 | 284 => 140 | 285 => 141 | 286 => 142 | 129 => 119 | 317 => 156 | 318 => 157 | 319 => 158 | 320 => 159 | 337 => 163 | 338 => 164 | n => n, fun | 9 => 9 | 3 => 3 | 75 => 39 | 76 => 129 | 4 => 4 | 5 => 5 | 167 => 182 | 37 => 89 | 0 => 0 | 85 => 207 | 2 => 2 | 168 => 184 | 53 => 140 | 175 => 141 | 46 => 166 | 210 => 205 | 127 => 220 | 145 => 223 | 143 => 221 | 21 => 21 | 171 => 209 | 173 => 211 | 212 => 225 | 51 => 189 | 20 => 20 | 213 => 226 | 232 => 237 | 233 => 238 | 80 => 239 | n => n, fun | 15 => 8 | 16 => 9 | 17 => 11 | 18 => 14 | 19 => 15 | n => n⟩
theorem Tryz.laysC172 : Go.Proofs.LaysC.n172 Tryz.prog Tryz.laysC172_ren := {
  mixed := by kernel_rfl
  f129 := Tryz.func119.trans (congrArg some (by kernel_rfl))
  f171 := Tryz.func76.trans (congrArg some (by kernel_rfl))
  f172 := Tryz.func98.trans (congrArg some (by kernel_rfl))
  f205 := Tryz.func137.trans (congrArg some (by kernel_rfl))
  f243 := Tryz.func100.trans (congrArg some (by kernel_rfl))
  f244 := Tryz.func116.trans (congrArg some (by kernel_rfl))
  f245 := Tryz.func97.trans (congrArg some (by kernel_rfl))
  f246 := Tryz.func117.trans (congrArg some (by kernel_rfl))
  f247 := Tryz.func138.trans (congrArg some (by kernel_rfl))
  f279 := Tryz.func112.trans (congrArg some (by kernel_rfl))
  f280 := Tryz.func113.trans (congrArg some (by kernel_rfl))
  f281 := Tryz.func114.trans (congrArg some (by kernel_rfl))
  f282 := Tryz.func115.trans (congrArg some (by kernel_rfl))
  f283 := Tryz.func139.trans (congrArg some (by kernel_rfl))
  f284 := Tryz.func140.trans (congrArg some (by kernel_rfl))
  f285 := Tryz.func141.trans (congrArg some (by kernel_rfl))
  f286 := Tryz.func142.trans (congrArg some (by kernel_rfl))
  f287 := Tryz.func96.trans (congrArg some (by kernel_rfl))
  f316 := Tryz.func136.trans (congrArg some (by kernel_rfl))
  f317 := Tryz.func156.trans (congrArg some (by kernel_rfl))
  f318 := Tryz.func157.trans (congrArg some (by kernel_rfl))
  f319 := Tryz.func158.trans (congrArg some (by kernel_rfl))
  f320 := Tryz.func159.trans (congrArg some (by kernel_rfl))
  f321 := Tryz.func110.trans (congrArg some (by kernel_rfl))
  f322 := Tryz.func111.trans (congrArg some (by kernel_rfl))
  f337 := Tryz.func163.trans (congrArg some (by kernel_rfl))
  f338 := Tryz.func164.trans (congrArg some (by kernel_rfl))
  t0 := Tryz.underlying0
  a0 := Tryz.isAgg0
  z0 := Tryz.sizeOf0
  v0 := Tryz.zeroValue0
  t2 := Tryz.underlying2
  a2 := Tryz.isAgg2
  z2 := Tryz.sizeOf2
  v2 := Tryz.zeroValue2
  t3 := Tryz.underlying3
  a3 := Tryz.isAgg3
  z3 := Tryz.sizeOf3
  v3 := Tryz.zeroValue3
  t4 := Tryz.underlying4
  a4 := Tryz.isAgg4
  z4 := Tryz.sizeOf4
  v4 := Tryz.zeroValue4
  t5 := Tryz.underlying5
  a5 := Tryz.isAgg5
  z5 := Tryz.sizeOf5
  v5 := Tryz.zeroValue5
  t9 := Tryz.underlying9
  a9 := Tryz.isAgg9
  z9 := Tryz.sizeOf9
  v9 := Tryz.zeroValue9
  t20 := Tryz.underlying20
  a20 := Tryz.isAgg20
  z20 := Tryz.sizeOf20
  v20 := Tryz.zeroValue20
  t21 := Tryz.underlying21
  a21 := Tryz.isAgg21
  z21 := Tryz.sizeOf21
  v21 := Tryz.zeroValue21
  t37 := Tryz.underlying89
  a37 := Tryz.isAgg89
  z37 := Tryz.sizeOf89
  v37 := Tryz.zeroValue89
  t46 := Tryz.underlying166
  a46 := Tryz.isAgg166
  z46 := Tryz.sizeOf166
  v46 := Tryz.zeroValue166
  t51 := Tryz.underlying189
  a51 := Tryz.isAgg189
  z51 := Tryz.sizeOf189
  v51 := Tryz.zeroValue189
  t53 := Tryz.underlying140
  a53 := Tryz.isAgg140
  z53 := Tryz.sizeOf140
  v53 := Tryz.zeroValue140
  t75 := Tryz.underlying39
  a75 := Tryz.isAgg39
  z75 := Tryz.sizeOf39
  v75 := Tryz.zeroValue39
  t76 := Tryz.underlying129
  a76 := Tryz.isAgg129
  z76 := Tryz.sizeOf129
  v76 := Tryz.zeroValue129
  t85 := Tryz.underlying207
  a85 := Tryz.isAgg207
  z85 := Tryz.sizeOf207
  v85 := Tryz.zeroValue207
  t127 := Tryz.underlying220
  a127 := Tryz.isAgg220
  z127 := Tryz.sizeOf220
  v127 := Tryz.zeroValue220
  t143 := Tryz.underlying221
  a143 := Tryz.isAgg221
  z143 := Tryz.sizeOf221
  v143 := Tryz.zeroValue221
  t145 := Tryz.underlying223
  a145 := Tryz.isAgg223
  z145 := Tryz.sizeOf223
  v145 := Tryz.zeroValue223
  t167 := Tryz.underlying182
  a167 := Tryz.isAgg182
  z167 := Tryz.sizeOf182
  v167 := Tryz.zeroValue182
  t168 := Tryz.underlying184
  a168 := Tryz.isAgg184
  z168 := Tryz.sizeOf184
  v168 := Tryz.zeroValue184
  t171 := Tryz.underlying209
  a171 := Tryz.isAgg209
  z171 := Tryz.sizeOf209
  v171 := Tryz.zeroValue209
  t173 := Tryz.underlying211
  a173 := Tryz.isAgg211
  z173 := Tryz.sizeOf211
  v173 := Tryz.zeroValue211
  t175 := Tryz.underlying141
  a175 := Tryz.isAgg141
  z175 := Tryz.sizeOf141
  v175 := Tryz.zeroValue141
  t210 := Tryz.underlying205
  a210 := Tryz.isAgg205
  z210 := Tryz.sizeOf205
  v210 := Tryz.zeroValue205
  t212 := Tryz.underlying225
  a212 := Tryz.isAgg225
  z212 := Tryz.sizeOf225
  v212 := Tryz.zeroValue225
  t213 := Tryz.underlying226
  a213 := Tryz.isAgg226
  z213 := Tryz.sizeOf226
  t232 := Tryz.underlying237
  a232 := Tryz.isAgg237
  z232 := Tryz.sizeOf237
  v232 := Tryz.zeroValue237
  t233 := Tryz.underlying238
  a233 := Tryz.isAgg238
  z233 := Tryz.sizeOf238
  v233 := Tryz.zeroValue238
  g15 := by kernel_rfl
  g16 := by kernel_rfl
  g17 := by kernel_rfl
  g18 := by kernel_rfl
  g19 := by kernel_rfl
  t80 := Tryz.underlying239
  a80 := Tryz.isAgg239
  z80 := Tryz.sizeOf239
  v80 := Tryz.zeroValue239
  i0 := by kernel_rfl
  i2 := by kernel_rfl
  i3 := by kernel_rfl
  i4 := by kernel_rfl
  i5 := by kernel_rfl
  i9 := by kernel_rfl
  i20 := by kernel_rfl
  i21 := by kernel_rfl
  i37 := by kernel_rfl
  i46 := by kernel_rfl
  i51 := by kernel_rfl
  i53 := by kernel_rfl
  i75 := by kernel_rfl
  i76 := by kernel_rfl
  i80 := by kernel_rfl
  i85 := by kernel_rfl
  i127 := by kernel_rfl
  i143 := by kernel_rfl
  i145 := by kernel_rfl
  i167 := by kernel_rfl
  i168 := by kernel_rfl
  i171 := by kernel_rfl
  i173 := by kernel_rfl
  i175 := by kernel_rfl
  i210 := by kernel_rfl
  i212 := by kernel_rfl
  i232 := by kernel_rfl
  i233 := by kernel_rfl
  m15 := by kernel_rfl
  m16 := by kernel_rfl
  m17 := by kernel_rfl
  m18 := by kernel_rfl
  m19 := by kernel_rfl
  c0 := by kernel_rfl
  c2 := by kernel_rfl
  c3 := by kernel_rfl
  c4 := by kernel_rfl
  c5 := by kernel_rfl
  c9 := by kernel_rfl
  c20 := by kernel_rfl
  c21 := by kernel_rfl
  c37 := by kernel_rfl
  c46 := by kernel_rfl
  c51 := by kernel_rfl
  c53 := by kernel_rfl
  c75 := by kernel_rfl
  c76 := by kernel_rfl
  c80 := by kernel_rfl
  c85 := by kernel_rfl
  c127 := by kernel_rfl
  c143 := by kernel_rfl
  c145 := by kernel_rfl
  c167 := by kernel_rfl
  c168 := by kernel_rfl
  c171 := by kernel_rfl
  c173 := by kernel_rfl
  c175 := by kernel_rfl
  c210 := by kernel_rfl
  c212 := by kernel_rfl
  c213 := by kernel_rfl
  c232 := by kernel_rfl
  c233 := by kernel_rfl }
def Tryz.lays147_ren : Go.Shelf.Ren := ⟨fun | 147 => 71 | 221 => 95 | 268 => 107 | 138 => 108 | 143 => 109 | 195 => 132 | 197 => 133 | 218 => 134 | 219 => 135 | 260 => 151 | 217 => 152 | 225 => 153 | 224 => 154 | 267 => 155 | 266 => 161 | 314 => 162 | n => n, fun | 9 => 9 | 3 => 3 | 31 => 45 | 4 => 4 | 0 => 0 | 105 => 201 | 21 => 21 | 5 => 5 | 46 => 166 | 119 => 231 | 139 => 234 | 138 => 233 | 146 => 235 | 51 => 189 | n => n, fun | 1 => 10 | 3 => 12 | 4 => 13 | n => n⟩
theorem Tryz.lays147 : Go.Proofs.Lays.n147 Tryz.prog Tryz.lays147_ren := {
  mixed := by kernel_rfl
  f138 := Tryz.func108.trans (congrArg some (by kernel_rfl))
  f143 := Tryz.func109.trans (congrArg some (by kernel_rfl))
  f147 := Tryz.func71.trans (congrArg some (by kernel_rfl))
  f195 := Tryz.func132.trans (congrArg some (by kernel_rfl))
  f197 := Tryz.func133.trans (congrArg some (by kernel_rfl))
  f217 := Tryz.func152.trans (congrArg some (by kernel_rfl))
  f218 := Tryz.func134.trans (congrArg some (by kernel_rfl))
  f219 := Tryz.func135.trans (congrArg some (by kernel_rfl))
  f221 := Tryz.func95.trans (congrArg some (by kernel_rfl))
  f224 := Tryz.func154.trans (congrArg some (by kernel_rfl))
  f225 := Tryz.func153.trans (congrArg some (by kernel_rfl))
  f260 := Tryz.func151.trans (congrArg some (by kernel_rfl))
  f266 := Tryz.func161.trans (congrArg some (by kernel_rfl))
  f267 := Tryz.func155.trans (congrArg some (by kernel_rfl))
  f268 := Tryz.func107.trans (congrArg some (by kernel_rfl))
  f314 := Tryz.func162.trans (congrArg some (by kernel_rfl))
  t0 := Tryz.underlying0
  a0 := Tryz.isAgg0
  z0 := Tryz.sizeOf0
  v0 := Tryz.zeroValue0
  t3 := Tryz.underlying3
  a3 := Tryz.isAgg3
  z3 := Tryz.sizeOf3
  v3 := Tryz.zeroValue3
  t4 := Tryz.underlying4
  a4 := Tryz.isAgg4
  z4 := Tryz.sizeOf4
  v4 := Tryz.zeroValue4
  t5 := Tryz.underlying5
  a5 := Tryz.isAgg5
  z5 := Tryz.sizeOf5
  v5 := Tryz.zeroValue5
  t9 := Tryz.underlying9
  a9 := Tryz.isAgg9
  z9 := Tryz.sizeOf9
  v9 := Tryz.zeroValue9
  t21 := Tryz.underlying21
  a21 := Tryz.isAgg21
  z21 := Tryz.sizeOf21
  v21 := Tryz.zeroValue21
  t31 := Tryz.underlying45
  a31 := Tryz.isAgg45
  z31 := Tryz.sizeOf45
  v31 := Tryz.zeroValue45
  t46 := Tryz.underlying166
  a46 := Tryz.isAgg166
  z46 := Tryz.sizeOf166
  v46 := Tryz.zeroValue166
  t51 := Tryz.underlying189
  a51 := Tryz.isAgg189
  z51 := Tryz.sizeOf189
  v51 := Tryz.zeroValue189
  t105 := Tryz.underlying201
  a105 := Tryz.isAgg201
  z105 := Tryz.sizeOf201
  v105 := Tryz.zeroValue201
  t119 := Tryz.underlying231
  a119 := Tryz.isAgg231
  z119 := Tryz.sizeOf231
  t138 := Tryz.underlying233
  a138 := Tryz.isAgg233
  z138 := Tryz.sizeOf233
  v138 := Tryz.zeroValue233
  t139 := Tryz.underlying234
  a139 := Tryz.isAgg234
  z139 := Tryz.sizeOf234
  v139 := Tryz.zeroValue234
  t146 := Tryz.underlying235
  a146 := Tryz.isAgg235
  z146 := Tryz.sizeOf235
  v146 := Tryz.zeroValue235
  g1 := by kernel_rfl
  g3 := by kernel_rfl
  g4 := by kernel_rfl }
end Go.Proofs

namespace Go.Proofs.YtoomnijgdpbphaaGreatDoor

/-! Numbers in digits. -/
def dec (n : Nat) : List UInt8 := Lib.decDigits n
def isDig (c : UInt8) : Prop := 48 ≤ c.toNat ∧ c.toNat ≤ 57
theorem dec_one {n : Nat} (h : n < 10) : dec n = [UInt8.ofNat (48 + n)] := by unfold dec; rw [Lib.decDigits, dif_pos h]
theorem dec_more {n : Nat} (h : ¬ n < 10) : dec n = dec (n / 10) ++ [UInt8.ofNat (48 + n % 10)] := by unfold dec; rw [Lib.decDigits, dif_neg h]
theorem dig_val (d : Nat) (h : d < 10) : (UInt8.ofNat (48 + d)).toNat = 48 + d := by rw [UInt8.toNat_ofNat']; omega
theorem dec_digits (n : Nat) : ∀ c ∈ dec n, isDig c := by
  induction n using Nat.strongRecOn with
  | _ n ih =>
    intro c hc
    by_cases h : n < 10
    · rw [dec_one h] at hc
      obtain rfl : c = UInt8.ofNat (48 + n) := by simpa using hc
      unfold isDig
      rw [dig_val n h]; omega
    · rw [dec_more h] at hc
      rcases List.mem_append.1 hc with h' | h'
      · exact ih (n / 10) (by omega) c h'
      · obtain rfl : c = UInt8.ofNat (48 + n % 10) := by simpa using h'
        unfold isDig
        rw [dig_val _ (by omega)]; omega
theorem dec_ne (n : Nat) : dec n ≠ [] := by
  by_cases h : n < 10
  · rw [dec_one h]; simp
  · rw [dec_more h]; simp

/-- The numbers that strconv reads. -/
theorem parse_dec (n : Nat) (h : n ≤ 9223372036854775807) (r : List UInt8) : Lib.parseUint10 0 (dec n ++ r) = Lib.parseUint10 n r := by
  induction n using Nat.strongRecOn generalizing r with
  | _ n ih =>
    by_cases h9 : n < 10
    · rw [dec_one h9, List.cons_append, List.nil_append, Lib.parseUint10, dig_val n h9, if_pos (by omega), if_neg (by omega), if_neg (by omega)]
      congr 1
      omega
    · rw [dec_more h9, List.append_assoc, ih (n / 10) (by omega) (by omega), List.cons_append, List.nil_append, Lib.parseUint10, dig_val _ (by omega), if_pos (by omega), if_neg (by omega), if_neg (by omega)]
      congr 1
      omega
theorem atoi_dec (n : Nat) (h : n ≤ 9223372036854775807) : Lib.atoiAll (dec n) = .ok (n : Int) := by
  have hp := parse_dec n h []
  rw [List.append_nil, Lib.parseUint10] at hp
  have hd := dec_digits n
  have hne := dec_ne n
  cases hdec : dec n with
  | nil => exact absurd hdec hne
  | cons c r =>
    rw [hdec] at hp hd
    obtain ⟨c1, c2⟩ := hd c (by simp)
    have hm : Lib.parseMag (c :: r) = .ok n := by rw [Lib.parseMag, if_neg (by simp), hp]
    simp only [Lib.atoiAll]
    rw [if_neg (by omega), hm]
    simp only []
    rw [if_neg (by omega), if_neg (by omega), if_neg (by omega)]
/-- number of the program. -/
def numP (l : List UInt8) : Int := match Lib.atoiAll l with
  | .ok v => v
  | _ => -1
theorem numP_dec (n : Nat) (h : n ≤ 9223372036854775807) : numP (dec n) = (n : Int) := by unfold numP; rw [atoi_dec n h]
theorem numP_bounds (l : List UInt8) : -9223372036854775808 ≤ numP l ∧ numP l ≤ 9223372036854775807 := by
  unfold numP
  cases h : Lib.atoiAll l
  · exact Lib.atoiAll_bounds h
  · simp
  · simp
/-- number of the document's answer. -/
def numL (n : Nat) : List UInt8 → Option (Nat × List UInt8)
  | [] => some (n, [])
  | c :: r => if 48 ≤ c.toNat ∧ c.toNat ≤ 57 then (if (9223372036854775807 - (c.toNat - 48)) / 10 < n then none else numL (10 * n + (c.toNat - 48)) r) else some (n, c :: r)
theorem numL_dec (n : Nat) (h : n ≤ 9223372036854775807) (r : List UInt8) : numL 0 (dec n ++ r) = numL n r := by
  induction n using Nat.strongRecOn generalizing r with
  | _ n ih =>
    by_cases h9 : n < 10
    · rw [dec_one h9, List.cons_append, List.nil_append, numL, dig_val n h9, if_pos (by omega), if_neg (by omega)]
      congr 1
      omega
    · rw [dec_more h9, List.append_assoc, ih (n / 10) (by omega) (by omega), List.cons_append, List.nil_append, numL, dig_val _ (by omega), if_pos (by omega), if_neg (by omega)]
      congr 1
      omega
def numR (s : List UInt8) : Nat × List UInt8 × Bool := match numL 0 s with
  | none => (0, s, false)
  | some (n, r) => (n, r, decide (r.length < s.length))
def noDig : List UInt8 → Prop
  | [] => True
  | c :: _ => ¬ isDig c
theorem numL_stop (n : Nat) (r : List UInt8) (h : noDig r) : numL n r = some (n, r) := by
  cases r with
  | nil => rfl
  | cons c r =>
    have h' : ¬ (48 ≤ c.toNat ∧ c.toNat ≤ 57) := h
    rw [numL, if_neg h']
theorem numR_dec (n : Nat) (h : n ≤ 9223372036854775807) (r : List UInt8) (hr : noDig r) : numR (dec n ++ r) = (n, r, true) := by
  unfold numR
  rw [numL_dec n h, numL_stop n r hr]
  have : 0 < (dec n).length := List.length_pos_iff.2 (dec_ne n)
  simp only [List.length_append]
  rw [show decide (r.length < (dec n).length + r.length) = true by simp; omega]
theorem numL_bound : ∀ (l : List UInt8) (n m : Nat) (r : List UInt8), n ≤ 9223372036854775807 → numL n l = some (m, r) → m ≤ 9223372036854775807 ∧ r.length ≤ l.length
  | [], n, m, r, hn, h => by
    simp only [numL, Option.some.injEq, Prod.mk.injEq] at h
    obtain ⟨rfl, rfl⟩ := h
    exact ⟨hn, Nat.le_refl _⟩
  | c :: l, n, m, r, hn, h => by
    rw [numL] at h
    split at h
    · split at h
      · simp at h
      · obtain ⟨a, b⟩ := numL_bound l _ m r (by omega) h
        exact ⟨a, by simp; omega⟩
    · simp only [Option.some.injEq, Prod.mk.injEq] at h
      obtain ⟨rfl, rfl⟩ := h
      exact ⟨hn, Nat.le_refl _⟩
theorem numR_bound (l : List UInt8) : (numR l).1 ≤ 9223372036854775807 ∧ (numR l).2.1.length ≤ l.length := by
  unfold numR
  cases h : numL 0 l with
  | none => exact ⟨Nat.zero_le _, Nat.le_refl _⟩
  | some x =>
    obtain ⟨m, r⟩ := x
    exact numL_bound l 0 m r (by omega) h

/-! Texts that are cut. -/
theorem cut_at (a t b : List UInt8) (c : UInt8) (h : ∀ x ∈ a, x ≠ c) : Lib.cut (a ++ (c :: t) ++ b) (c :: t) = (a, b, true) := by
  have hi : Lib.index (a ++ (c :: t) ++ b) (c :: t) = a.length := by
    refine Lib.index_first (by simp) ?_ (fun j hj => ?_)
    · unfold Lib.occAt
      rw [List.append_assoc, List.drop_left]
      simp [List.isPrefixOf_iff_prefix]
    · cases ho : Lib.occAt (a ++ (c :: t) ++ b) (c :: t) j with
      | false => rfl
      | true =>
        have := Lib.occAt_head rfl ho
        rw [List.append_assoc, List.getElem?_append_left hj, List.getElem?_eq_getElem hj] at this
        exact absurd (Option.some.inj this) (h _ (List.getElem_mem hj))
  unfold Lib.cut
  rw [hi, if_pos (by omega), Int.toNat_natCast]
  have e1 : (a ++ (c :: t) ++ b).take a.length = a := by rw [List.append_assoc, List.take_left]
  have e2 : (a ++ (c :: t) ++ b).drop (a.length + (c :: t).length) = b := by
    rw [← List.length_append, List.drop_left]
  rw [e1, e2]
theorem cut_none (a t : List UInt8) (c : UInt8) (h : ∀ x ∈ a, x ≠ c) : Lib.cut a (c :: t) = (a, [], false) := by
  have hi : Lib.index a (c :: t) = -1 := by
    refine Lib.index_none (fun j hj => ?_)
    cases ho : Lib.occAt a (c :: t) j with
    | false => rfl
    | true =>
      have := Lib.occAt_head rfl ho
      obtain ⟨hj', e⟩ := List.getElem?_eq_some_iff.1 this
      exact absurd e (h _ (List.getElem_mem hj'))
  unfold Lib.cut
  rw [hi, if_neg (by omega)]
theorem cut_len (s sep : List UInt8) : (Lib.cut s sep).1.length ≤ s.length ∧ (Lib.cut s sep).2.1.length ≤ s.length := by
  unfold Lib.cut
  split
  · simp; omega
  · simp
def begF (s p : List UInt8) : List UInt8 × Bool := if p.isPrefixOf s then (s.drop p.length, true) else (s, false)
theorem pre_app (p r : List UInt8) : p.isPrefixOf (p ++ r) = true := by rw [List.isPrefixOf_iff_prefix]; exact List.prefix_append p r
theorem begF_app (p r : List UInt8) : begF (p ++ r) p = (r, true) := by unfold begF; rw [if_pos (pre_app p r), List.drop_left]
theorem begF_len (s p : List UInt8) : (begF s p).1.length ≤ s.length := by unfold begF; split <;> simp

/-! Names. -/
def entF : List UInt8 := [101, 110, 116, 114, 105, 101, 115, 47]
def tileF : List UInt8 := [116, 105, 108, 101, 47]
def partF : List UInt8 := [46, 112, 47]
def badName (l i w : Int) : Prop := l < -1 ∨ 20 < l ∨ i < 0 ∨ w < 1 ∨ 4 < w
def headF (l : Int) : List UInt8 := if l = -1 then entF else tileF ++ dec l.toNat ++ [47]
def tailF (w : Int) : List UInt8 := if w < 4 then partF ++ dec w.toNat else []
def nameF (l i w : Int) : List UInt8 := if l < -1 ∨ 20 < l ∨ i < 0 ∨ w < 1 ∨ 4 < w then [] else headF l ++ dec i.toNat ++ tailF w
theorem nameF_bad {l i w : Int} (h : badName l i w) : nameF l i w = [] := by unfold badName at h; unfold nameF; rw [if_pos h]
theorem nameF_good {l i w : Int} (h : ¬ badName l i w) : nameF l i w = headF l ++ dec i.toNat ++ tailF w := by unfold badName at h; unfold nameF; rw [if_neg h]
theorem nameF_ne {l i w : Int} (h : ¬ badName l i w) : nameF l i w ≠ [] := by
  rw [nameF_good h]
  intro e
  have := List.append_eq_nil_iff.1 (List.append_eq_nil_iff.1 e).1
  exact dec_ne _ this.2
/-- cutLevel, Parse of the program. -/
def cutLevelF (p : List UInt8) : Int × List UInt8 × Bool :=
  if Lib.hasPrefix p entF then (-1, Lib.trimPrefix p entF, true)
  else (numP (Lib.cut (Lib.trimPrefix p tileF) [47]).1, (Lib.cut (Lib.trimPrefix p tileF) [47]).2.1, Lib.hasPrefix p tileF)
def widthP (c : List UInt8 × List UInt8 × Bool) : Int := if c.2.2 then numP c.2.1 else 4
def parseP (p : List UInt8) : Int × Int × Int × Bool :=
  if (cutLevelF p).2.2 = true ∧ nameF (cutLevelF p).1 (numP (Lib.cut (cutLevelF p).2.1 partF).1) (widthP (Lib.cut (cutLevelF p).2.1 partF)) = p
  then ((cutLevelF p).1, numP (Lib.cut (cutLevelF p).2.1 partF).1, widthP (Lib.cut (cutLevelF p).2.1 partF), true) else (0, 0, 0, false)
/-- Parse of the document's answer. -/
def levelR (p : List UInt8) : Int × List UInt8 × Bool :=
  if (begF p entF).2 then (-1, (begF p entF).1, true)
  else if (begF p tileF).2 then
    (if (numR (begF p tileF).1).2.2 then
      ((numR (begF p tileF).1).1, (begF (numR (begF p tileF).1).2.1 [47]).1, (begF (numR (begF p tileF).1).2.1 [47]).2)
    else (0, [], false))
  else (0, [], false)
def restR (s : List UInt8) : Int × Int × List UInt8 × Bool :=
  if (numR s).2.2 && (begF (numR s).2.1 partF).2 then
    ((numR s).1, (numR (begF (numR s).2.1 partF).1).1, (numR (begF (numR s).2.1 partF).1).2.1, (numR (begF (numR s).2.1 partF).1).2.2)
  else ((numR s).1, 4, (numR s).2.1, (numR s).2.2)
def parseR (p : List UInt8) : Int × Int × Int × Bool :=
  if (levelR p).2.2 = true ∧ (restR (levelR p).2.1).2.2.2 = true ∧ (restR (levelR p).2.1).2.2.1 = [] ∧ nameF (levelR p).1 (restR (levelR p).2.1).1 (restR (levelR p).2.1).2.1 = p ∧ p ≠ []
  then ((levelR p).1, (restR (levelR p).2.1).1, (restR (levelR p).2.1).2.1, true) else (0, 0, 0, false)

theorem dig_ne (c x : UInt8) (h : isDig x) (hc : ¬ isDig c) : x ≠ c := fun e => hc (e ▸ h)
theorem dec_not (n : Nat) (c : UInt8) (hc : ¬ isDig c) : ∀ x ∈ dec n, x ≠ c := fun x hx => dig_ne c x (dec_digits n x hx) hc
theorem headF_ent : headF (-1) = entF := by unfold headF; rw [if_pos rfl]
theorem headF_tile (l : Int) (h : l ≠ -1) : headF l = tileF ++ dec l.toNat ++ [47] := by unfold headF; rw [if_neg h]
theorem tailF_noDig (w : Int) : noDig (tailF w) := by
  unfold tailF
  split
  · show ¬ isDig 46
    unfold isDig; decide
  · trivial

/-- The level of a name, as the program reads it. -/
theorem cutLevel_name (l : Int) (hl : -1 ≤ l) (hl2 : l ≤ 20) (r : List UInt8) : cutLevelF (headF l ++ r) = (l, r, true) := by
  by_cases h : l = -1
  · subst h
    rw [headF_ent]
    unfold cutLevelF Lib.trimPrefix Lib.hasPrefix
    rw [if_pos (pre_app entF r), if_pos (pre_app entF r), List.drop_left]
  · rw [headF_tile l h, List.append_assoc, List.append_assoc]
    have n1 : Lib.hasPrefix (tileF ++ (dec l.toNat ++ ([47] ++ r))) entF = false := rfl
    have n2 : Lib.hasPrefix (tileF ++ (dec l.toNat ++ ([47] ++ r))) tileF = true := pre_app _ _
    have n3 : Lib.trimPrefix (tileF ++ (dec l.toNat ++ ([47] ++ r))) tileF = dec l.toNat ++ [47] ++ r := by
      unfold Lib.trimPrefix
      rw [if_pos n2, List.drop_left, List.append_assoc]
    unfold cutLevelF
    rw [n1, n2, n3, cut_at (dec l.toNat) [] r 47 (dec_not _ _ (by unfold isDig; decide)), numP_dec _ (by omega)]
    simp only [Bool.false_eq_true, if_false]
    rw [show ((l.toNat : Nat) : Int) = l by omega]
theorem cut_name (i : Nat) (w : Int) (hi : i ≤ 9223372036854775807) (hw : 1 ≤ w) (hw4 : w ≤ 4) : numP (Lib.cut (dec i ++ tailF w) partF).1 = i ∧ widthP (Lib.cut (dec i ++ tailF w) partF) = w := by
  unfold tailF
  by_cases h : w < 4
  · rw [if_pos h, ← List.append_assoc, show partF = 46 :: [112, 47] from rfl, cut_at (dec i) [112, 47] (dec w.toNat) 46 (dec_not _ _ (by unfold isDig; decide))]
    refine ⟨numP_dec i hi, ?_⟩
    show (if true = true then numP (dec w.toNat) else 4) = w
    rw [if_pos rfl, numP_dec _ (by omega)]
    omega
  · rw [if_neg h, List.append_nil, show partF = 46 :: [112, 47] from rfl, cut_none (dec i) [112, 47] 46 (dec_not _ _ (by unfold isDig; decide))]
    refine ⟨numP_dec i hi, ?_⟩
    show (if false = true then numP [] else 4) = w
    rw [if_neg (by simp)]
    omega
theorem parseP_name {l i w : Int} (h : ¬ badName l i w) (hi : i ≤ 9223372036854775807) : parseP (nameF l i w) = (l, i, w, true) := by
  have h' := h
  unfold badName at h'
  have e : nameF l i w = headF l ++ (dec i.toNat ++ tailF w) := by rw [nameF_good h, List.append_assoc]
  have c := cutLevel_name l (by omega) (by omega) (dec i.toNat ++ tailF w)
  obtain ⟨c1, c2⟩ := cut_name i.toNat w (by omega) (by omega) (by omega)
  unfold parseP
  rw [e, c]
  simp only []
  rw [c1, c2, show ((i.toNat : Nat) : Int) = i by omega, ← e, if_pos (by simp)]
theorem parseP_sound {p : List UInt8} {l i w : Int} (h : parseP p = (l, i, w, true)) : ¬ badName l i w ∧ i ≤ 9223372036854775807 ∧ nameF l i w = p := by
  unfold parseP at h
  split at h
  · rename_i hc
    obtain ⟨ho, hn⟩ := hc
    simp only [Prod.mk.injEq] at h
    obtain ⟨rfl, rfl, rfl, _⟩ := h
    refine ⟨fun hb => ?_, (numP_bounds _).2, hn⟩
    rw [nameF_bad hb] at hn
    subst hn
    exact absurd ho (by unfold cutLevelF; simp [Lib.hasPrefix, entF, tileF])
  · simp at h
theorem parseP_false {p : List UInt8} (h : ∀ l i w, ¬ badName l i w → i ≤ 9223372036854775807 → nameF l i w ≠ p) : parseP p = (0, 0, 0, false) := by
  unfold parseP
  rw [if_neg]
  rintro ⟨ho, hn⟩
  have : parseP p = ((cutLevelF p).1, numP (Lib.cut (cutLevelF p).2.1 partF).1, widthP (Lib.cut (cutLevelF p).2.1 partF), true) := by
    unfold parseP
    rw [if_pos ⟨ho, hn⟩]
  obtain ⟨a, b, c⟩ := parseP_sound this
  exact h _ _ _ a b c

theorem level_name (l : Int) (hl : -1 ≤ l) (hl2 : l ≤ 20) (r : List UInt8) : levelR (headF l ++ r) = (l, r, true) := by
  by_cases h : l = -1
  · subst h
    rw [headF_ent]
    unfold levelR
    rw [begF_app]
    rfl
  · rw [headF_tile l h, List.append_assoc, List.append_assoc]
    have n1 : begF (tileF ++ (dec l.toNat ++ ([47] ++ r))) entF = (tileF ++ (dec l.toNat ++ ([47] ++ r)), false) := rfl
    unfold levelR
    rw [n1, begF_app]
    simp only [Bool.false_eq_true, if_false, if_true]
    rw [numR_dec l.toNat (by omega) ([47] ++ r) (by show ¬ isDig 47; unfold isDig; decide)]
    simp only [if_true]
    rw [begF_app]
    simp only []
    rw [show ((l.toNat : Nat) : Int) = l by omega]
theorem rest_name (i : Nat) (w : Int) (hi : i ≤ 9223372036854775807) (hw : 1 ≤ w) (hw4 : w ≤ 4) : restR (dec i ++ tailF w) = ((i : Int), w, [], true) := by
  have e := numR_dec i hi (tailF w) (tailF_noDig w)
  unfold restR
  rw [e]
  by_cases h : w < 4
  · have ht : tailF w = partF ++ (dec w.toNat ++ []) := by unfold tailF; rw [if_pos h, List.append_nil]
    rw [ht, begF_app]
    simp only [Bool.and_self, if_true]
    rw [numR_dec w.toNat (by omega) [] trivial]
    simp only []
    rw [show ((w.toNat : Nat) : Int) = w by omega]
  · have ht : tailF w = [] := by unfold tailF; rw [if_neg h]
    rw [ht]
    have : begF [] partF = ([], false) := rfl
    rw [this]
    simp only [Bool.and_false, Bool.false_eq_true, if_false]
    rw [show w = 4 by omega]
theorem parseR_name {l i w : Int} (h : ¬ badName l i w) (hi : i ≤ 9223372036854775807) : parseR (nameF l i w) = (l, i, w, true) := by
  have h' := h
  unfold badName at h'
  have e : nameF l i w = headF l ++ (dec i.toNat ++ tailF w) := by rw [nameF_good h, List.append_assoc]
  have c := level_name l (by omega) (by omega) (dec i.toNat ++ tailF w)
  have d := rest_name i.toNat w (by omega) (by omega) (by omega)
  have ne := nameF_ne h
  unfold parseR
  rw [e] at ne ⊢
  rw [c]
  simp only []
  rw [d]
  simp only []
  rw [show ((i.toNat : Nat) : Int) = i by omega, ← e, if_pos (by rw [← e] at ne; simpa using ne)]
theorem restR_bound (s : List UInt8) : (restR s).1 ≤ 9223372036854775807 := by
  unfold restR
  have := (numR_bound s).1
  split <;> simp only [] <;> omega
theorem parseR_false {p : List UInt8} (h : ∀ l i w, ¬ badName l i w → i ≤ 9223372036854775807 → nameF l i w ≠ p) : parseR p = (0, 0, 0, false) := by
  unfold parseR
  rw [if_neg]
  rintro ⟨ho, h1, h2, hn, hne⟩
  refine h _ _ _ (fun hb => ?_) (restR_bound _) hn
  rw [nameF_bad hb] at hn
  exact hne hn.symm
/-- Both read the same. -/
theorem parse_same (p : List UInt8) : parseP p = parseR p := by
  by_cases h : ∃ l i w, ¬ badName l i w ∧ i ≤ 9223372036854775807 ∧ nameF l i w = p
  · obtain ⟨l, i, w, a, b, rfl⟩ := h
    rw [parseP_name a b, parseR_name a b]
  · have h' : ∀ l i w, ¬ badName l i w → i ≤ 9223372036854775807 → nameF l i w ≠ p := fun l i w a b e => h ⟨l, i, w, a, b, e⟩
    rw [parseP_false h', parseR_false h']
theorem parseP_nil : parseP [] = (0, 0, 0, false) := parseP_false (fun _ _ _ a _ => nameF_ne a)
end Go.Proofs.YtoomnijgdpbphaaGreatDoor
