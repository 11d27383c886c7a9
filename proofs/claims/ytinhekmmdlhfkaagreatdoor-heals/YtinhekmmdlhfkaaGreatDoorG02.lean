import Derived.Test.YtinhekmmdlhfkaaGreatDoorG01
import Derived.BigRegion
import Derived.Deep.RegionWith
import Derived.Lib.Strings
import Derived.Lib.Slices
import Derived.Lib.Small
import Derived.Lib.Walk
import Derived.Lib.BitFns
namespace Go.Proofs.YtinhekmmdlhfkaaGreatDoor
section
set_option maxHeartbeats 400000
open Go.RowKit
set_option maxRecDepth 100000
def txv (l:List UInt8):Value:= .string ⟨l.toArray⟩
def fcells (fs:Fs):List Value:=fs.flatMap fun f=>[txv f.1,txv f.2]
def dcells (fv:Value)(d:Dk):Array Value:=#[fv,.int .i64 d.calls,.int .i64 d.failAt,.bool d.dead,.bool d.once,.bool d.half,.bool d.hit,.bool d.turned]
def DiskAt (w:World)(O:Nat→Prop)(b:Nat)(d:Dk):Prop :=
 ∃ fv,O b∧w.heap[b]?=some (.cells (dcells fv d) 41 (0,0))∧w.ownsRow 0 63 2 fv d.fs.length (fcells d.fs)∧∀ g,fv.ownBlock=some g→O g
def dptr (b:Nat):Value:= .pointer (some ⟨b,0,none⟩)
abbrev dT1:List Nat:=[41]
abbrev dT:List Nat:=[41,63]
theorem dcell {w:World}{b:Nat}{t:TypeId}{cs:Array Value}(h:w.heap[b]?=some (.cells cs t (0,0))):∀ i v,cs[i]?=some v→w.cell? ⟨b,i,none⟩=some v∧w.frozen? ⟨b,i,none⟩=false:=by
 intro i v hv
 refine⟨by rw [cell_of_row _ _ _ _ _ _ h];exact hv,by simp [World.frozen?,h]⟩
theorem dset {w:World}{b:Nat}{t:TypeId}{cs:Array Value}(h:w.heap[b]?=some (.cells cs t (0,0)))(i:Nat)(v:Value):(w.setCell ⟨b,i,none⟩ v).heap[b]?=some (.cells (cs.setIfInBounds i v) t (0,0)):=heap_setCell_same w b i cs t v h
theorem dall {w:World}{b:Nat}{fv:Value}{d:Dk}(h:w.heap[b]?=some (.cells (dcells fv d) 41 (0,0))):(w.cell? ⟨b,0,none⟩=some fv∧w.frozen? ⟨b,0,none⟩=false)∧(w.cell? ⟨b,1,none⟩=some (.int .i64 d.calls)∧w.frozen? ⟨b,1,none⟩=false)∧(w.cell? ⟨b,2,none⟩=some (.int .i64 d.failAt)∧w.frozen? ⟨b,2,none⟩=false)∧(w.cell? ⟨b,3,none⟩=some (.bool d.dead)∧w.frozen? ⟨b,3,none⟩=false)∧(w.cell? ⟨b,4,none⟩=some (.bool d.once)∧w.frozen? ⟨b,4,none⟩=false)∧(w.cell? ⟨b,5,none⟩=some (.bool d.half)∧w.frozen? ⟨b,5,none⟩=false)∧(w.cell? ⟨b,6,none⟩=some (.bool d.hit)∧w.frozen? ⟨b,6,none⟩=false)∧(w.cell? ⟨b,7,none⟩=some (.bool d.turned)∧w.frozen? ⟨b,7,none⟩=false) :=
 ⟨dcell h 0 _ rfl,dcell h 1 _ rfl,dcell h 2 _ rfl,dcell h 3 _ rfl,dcell h 4 _ rfl,dcell h 5 _ rfl,dcell h 6 _ rfl,dcell h 7 _ rfl⟩
theorem DiskAt.turn {w w':World}{O O':Nat→Prop}{b:Nat}{d d':Dk}{fv:Value}(hO:∀ k,O k→O' k)(h:O b)(hf:w.ownsRow 0 63 2 fv d.fs.length (fcells d.fs))(hg:∀ g,fv.ownBlock=some g→O g)
  (ht:Turn O dT1 w w') (hb:w'.heap[b]?=some (.cells (dcells fv d') 41 (0,0))) (hd:d'.fs=d.fs):DiskAt w' O' b d' :=
 ⟨fv,hO b h,hb,by rw [hd];exact ownsRow_turn hf ht (by decide),fun g hg'=>hO g (hg g hg')⟩
theorem DiskAt.stay {w w':World}{O O1:Nat→Prop}{T:List Nat}{b:Nat}{d:Dk}(h:DiskAt w O b d)(ht:Turn O1 T w w')(h1:41∉T)(h2:63∉T):DiskAt w' O b d:=by
 obtain⟨fv,a,hb,hf,hg⟩:=h
 exact⟨fv,a,ht.keep hb h1,ownsRow_turn hf ht h2,hg⟩
theorem DiskAt.mono {w:World}{O O':Nat→Prop}{b:Nat}{d:Dk}(h:DiskAt w O b d)(hO:∀ k,O k→O' k):DiskAt w O' b d:=by
 obtain⟨fv,a,hb,hf,hg⟩:=h
 exact⟨fv,hO b a,hb,hf,fun g e=>hO g (hg g e)⟩
theorem enter_any (O:Nat→Prop)(b:Nat)(d:Dk)(w:World)(h:DiskAt w O b d):
  Calls Tryz.prog 236 #[dptr b] w fun r w'=>r= .returned (.int .i64 (enterK d))∧Turn O dT1 w w'∧DiskAt w' O b (enterD d):=by
 obtain⟨fv,hO,hb,hf,hg⟩:=h
 obtain⟨⟨c0,f0⟩,⟨c1,f1⟩,⟨c2,f2⟩,⟨c3,f3⟩,⟨c4,f4⟩,⟨c5,f5⟩,⟨c6,f6⟩,⟨c7,f7⟩⟩:=dall hb
 have HF:=hide hf
 have HG:=hide hg
 unfold dptr
 obtain⟨c,hc⟩:∃ c,wrap64 (d.calls+1)=c:=⟨_,rfl⟩
 have HN:Hid (nextC d=c):=hc
 have t1:=hide ((Turn.refl O dT1 w).set (o:=1) (.inl hO) hb (by decide) (.int .i64 c))
 have h1:=hide (dset hb 1 (.int .i64 c))
 clear hb hf hg
 cases hd:d.dead with
 | true =>
  rw [hd] at c3
  have HR:Hid (enterK d=2∧enterD d={ d with calls:=c }):=by unfold enterK enterD;rw [hd,HN.out];exact⟨rfl,rfl⟩
  clear hd
  go_enter Tryz.func236,Tryz.ntmps236
  go_wp2_with fail
  go_ret
  refine⟨by rw [HR.out.1];rfl,t1.out,?_⟩
  rw [HR.out.2]
  exact DiskAt.turn (d:=d) (fun _ h=>h) hO HF.out HG.out t1.out h1.out rfl
 | false =>
  rw [hd] at c3
  have HE:∀ n,Hid (((w.setCell ⟨b,1,none⟩ (.int .i64 c)).drewN n).heap[b]?=some (.cells ((dcells fv d).setIfInBounds 1 (.int .i64 c)) 41 (0,0))):=fun _=>h1.out
  by_cases hat:0 < d.failAt∧c=d.failAt
  ·have HR:Hid (enterK d=(if d.half then 1 else 2)∧enterD d={ d with calls:=c,dead:=!d.once,hit:=true }):=by
    unfold enterK enterD
    rw [hd,HN.out]
    simp only [Bool.false_eq_true,if_false,if_pos hat]
    exact⟨trivial,trivial⟩
   obtain⟨p0,p1⟩:=hat
   have q1:(c==d.failAt)=true:=by simp [p1]
   clear hd p1
   cases hh:d.half with
   | true =>
    rw [hh] at c5 HR
    have HH:=hide hh
    clear hh
    go_enter Tryz.func236,Tryz.ntmps236
    go_wp2_with fail
    go_quiet (fail)
    go_wp2_with fail
    go_ret
    have t2:=(t1.out.drewN nq).set (o:=3) (.inl hO) (HE nq).out (by decide) (.bool !d.once)
    have h2:=dset (HE nq).out 3 (.bool !d.once)
    have t3:=t2.set (o:=6) (.inl hO) h2 (by decide) (.bool true)
    have h3:=dset h2 6 (.bool true)
    refine⟨by rw [HR.out.1];rfl,t3,?_⟩
    rw [HR.out.2]
    refine DiskAt.turn (d:=d) (fun _ h=>h) hO HF.out HG.out t3 ?_ rfl
    rw [h3]
    simp only [dcells,HH.out]
    rfl
   | false =>
    rw [hh] at c5 HR
    have HH:=hide hh
    clear hh
    go_enter Tryz.func236,Tryz.ntmps236
    go_wp2_with fail
    go_quiet (fail)
    go_wp2_with fail
    go_ret
    have t2:=(t1.out.drewN nq).set (o:=3) (.inl hO) (HE nq).out (by decide) (.bool !d.once)
    have h2:=dset (HE nq).out 3 (.bool !d.once)
    have t3:=t2.set (o:=6) (.inl hO) h2 (by decide) (.bool true)
    have h3:=dset h2 6 (.bool true)
    refine⟨by rw [HR.out.1];rfl,t3,?_⟩
    rw [HR.out.2]
    refine DiskAt.turn (d:=d) (fun _ h=>h) hO HF.out HG.out t3 ?_ rfl
    rw [h3]
    simp only [dcells,HH.out]
    rfl
  ·have HR:Hid (enterK d=0∧enterD d={ d with calls:=c }):=by
    unfold enterK enterD
    rw [hd,HN.out]
    simp only [Bool.false_eq_true,if_false,if_neg hat]
    exact⟨trivial,trivial⟩
   have HDD:=hide hd
   clear hd
   by_cases p0:0 < d.failAt
   ·have q1:(c==d.failAt)=false:=by
     rw [beq_eq_false_iff_ne]
     exact fun e=>hat ⟨p0,e⟩
    clear hat
    go_enter Tryz.func236,Tryz.ntmps236
    go_wp2_with fail
    go_quiet (fail)
    go_wp2_with fail
    go_ret
    refine⟨by rw [HR.out.1];rfl,t1.out.drewN nq,?_⟩
    rw [HR.out.2]
    refine DiskAt.turn (d:=d) (fun _ h=>h) hO HF.out HG.out (t1.out.drewN nq) ?_ rfl
    rw [(HE nq).out]
    simp only [dcells,HDD.out]
    rfl
   ·have q0:decide (0 < d.failAt)=false:=by simp;omega
    clear hat p0
    go_enter Tryz.func236,Tryz.ntmps236
    go_wp2_with fail
    go_quiet (fail)
    go_wp2_with fail
    go_ret
    refine⟨by rw [HR.out.1];rfl,t1.out.drewN nq,?_⟩
    rw [HR.out.2]
    refine DiskAt.turn (d:=d) (fun _ h=>h) hO HF.out HG.out (t1.out.drewN nq) ?_ rfl
    rw [(HE nq).out]
    simp only [dcells,HDD.out]
    rfl
end
section
set_option maxHeartbeats 1000000
open Go.RowKit
theorem ret_int {k:IntKind}{a b:Int}(h:a=b):Ending.returned (.int k a)= .returned (.int k b):=by rw [h]
theorem fnv_take (n:Int)(l:List UInt8)(k:Nat)(h:k < l.length):fnv n (l.take (k+1))=st (fnv n (l.take k)) l[k].toNat:=by
 rw [List.take_succ_eq_append_getElem h,fnv_snoc]
theorem stir_any (n:Int)(v:Value)(l:List UInt8)(w:World)(hlen:l.length≤maxLen)(h0:0≤n)(h1:n≤18446744073709551615)(hv:Bs w v l):
  Calls Tryz.prog 126 #[.int .u64 n,v] w fun e w'=>e= .returned (.int .u64 (fnv n l))∧w'=w:=by
 unfold maxLen at hlen
 obtain⟨a,cap,rfl,hv⟩:=hv
 have hv':l.length=0∨∃ b off,a=some ⟨b,off,none⟩∧∀ i (h:i < l.length),w.cell? ⟨b,off+i,none⟩=some (bv l[i]):=by
  rcases hv with h | h
  ·exact .inl (by simp [h])
  ·exact .inr h
 clear hv
 have Hv:=hide hv'
 clear hv'
 go_enter Tryz.func126,Tryz.ntmps126
 go_wp2
 go_loop [0,9] (fun t i=>∃ k:Nat,k≤l.length∧i= .int .i64 k∧t= .int .u64 (fnv n (l.take k))) (fun _ i=>l.length - (intOf i).toNat)
 case atStart=>exact⟨0,Nat.zero_le _,rfl,rfl⟩
 case round =>
  obtain⟨k,hk,rfl,rfl⟩:=hrel
  obtain⟨r0,r1⟩:=fnv_range n (l.take k) h0 h1
  by_cases hlt:k < l.length
  ·rcases Hv.out with h | ⟨b,off,rfl,hc⟩
   ·omega
   ·have hz:w.cell? ⟨b,off+k,none⟩=some (.int .u8 (l[k].toNat)):=hc k hlt
    have hb:(l[k].toNat:Int)≤255:=by have:=l[k].toNat_lt;omega
    have HS:=hide (fnv_take n l k hlt)
    clear hc Hv
    generalize l[k].toNat=z at *
    generalize fnv n (l.take k)=m at *
    go_wp2
    go_round
    case rel=>exact⟨k+1,by omega,by go_num,by rw [HS.out];rfl⟩
    case measure=>simp [intOf];omega
  ·clear Hv
   go_wp2
   go_ret
   exact⟨ret_int (by rw [List.take_of_length_le (by omega)]),rfl⟩
theorem hf_any (n:Int)(w:World)(h0:0≤n)(h1:n≤18446744073709551615):
  Calls Tryz.prog 95 #[.int .u64 n] w fun e w'=>e= .returned (.agg (hv (out8 n)))∧Below w.heap.size w w':=by
 have Hh:=hide (hv_out8 n h0 h1)
 go_enter Tryz.func95,Tryz.ntmps95
 go_wp2
 refine wp_loop_rounds 9 ?_
 rw [rounds_succ]
 go_wp2
 rw [rounds_succ]
 go_wp2
 rw [rounds_succ]
 go_wp2
 rw [rounds_succ]
 go_wp2
 rw [rounds_succ]
 go_wp2
 rw [rounds_succ]
 go_wp2
 rw [rounds_succ]
 go_wp2
 rw [rounds_succ]
 go_wp2
 rw [rounds_succ]
 go_wp2
 refine bodyPost_ret (v:= .agg #[.int .u8 (n / 72057594037927936),.int .u8 (n / 281474976710656 % 256),.int .u8 (n / 1099511627776 % 256),.int .u8 (n / 4294967296 % 256),.int .u8 (n / 16777216 % 256),.int .u8 (n / 65536 % 256),.int .u8 (n / 256 % 256),.int .u8 (n % 256)]) (by simp [results,Tryz.results95,go_sem]) rfl ⟨by rw [Hh.out],((Below.refl _ _).alloc (Nat.le_refl _) _).alloc (by simp) _⟩
theorem fnv_flat (n:Int)(ls:List (List UInt8))(k:Nat)(h:k < ls.length):fnv n (ls.take (k+1)).flatten=fnv (fnv n (ls.take k).flatten) ls[k]:=by
 rw [List.take_succ_eq_append_getElem h,List.flatten_append,fnv_append];simp
theorem hashOf_any (v:Value)(ls:List (List UInt8))(w:World)(hlen:ls.length≤maxLen)(hl:∀ l∈ls,l.length≤maxLen)(hv':Bss w v ls):
  Calls Tryz.prog 84 #[v] w fun e w'=>e= .returned (.agg (hv (hash ls.flatten)))∧Below w.heap.size w w':=by
 unfold maxLen at hlen
 have Hb:=hide hv'
 have Hl:=hide hl
 clear hl
 obtain⟨a,cap,rfl,hcap,hv''⟩:=hv'
 have hv3:ls.length=0∨∃ b off,a=some ⟨b,off,none⟩∧∀ i (h:i < ls.length),∃ x,w.cell? ⟨b,off+i,none⟩=some x∧Bs w x ls[i]:=by
  rcases hv'' with h | h
  ·exact .inl (by simp [h])
  ·exact .inr h
 have Hv:=hide hv3
 clear hv'' hv3
 go_enter Tryz.func84,Tryz.ntmps84
 go_wp2
 go_loop [3,8] (fun t i=>∃ k:Nat,k≤ls.length∧i= .int .i64 k∧t= .int .u64 (fnv fnvStart (ls.take k).flatten)) (fun _ i=>ls.length - (intOf i).toNat)
 case atStart=>exact⟨0,Nat.zero_le _,rfl,rfl⟩
 case round =>
  obtain⟨k,hk,rfl,rfl⟩:=hrel
  obtain⟨r0,r1⟩:=fnv_range fnvStart (ls.take k).flatten fnvStart_range.1 fnvStart_range.2
  by_cases hlt:k < ls.length
  ·rcases Hv.out with h | ⟨b,off,rfl,hc⟩
   ·omega
   ·obtain⟨x,hx,hbs⟩:=hc k hlt
    have hz:∀ o,(w.alloc o).cell? ⟨b,off+k,none⟩=some x:=fun o=>by rw [((Below.refl _ _).alloc (Nat.le_refl _) o:Below w.heap.size w (w.alloc o)).cell (cell_lt (p:=⟨b,off+k,none⟩) hx)];exact hx
    have hbs':Hid (∀ o,Bs (w.alloc o) x ls[k]):=fun o=>hbs.below ((Below.refl _ _).alloc (Nat.le_refl _) o)
    have HS:=hide (fnv_flat fnvStart ls k hlt)
    have Hlk:=hide (Hl.out ls[k] (List.getElem_mem hlt))
    clear hc Hv hbs hx
    generalize ls[k]=lk at *
    generalize fnv fnvStart (ls.take k).flatten=m at *
    go_wp2_with fail
    refine(stir_any m x lk _ Hlk.out r0 r1 (hbs'.out _)).mono ?_
    rintro e w' ⟨rfl,rfl⟩
    go_wp2_with fail
    go_round
    case rel=>exact⟨k+1,by omega,by go_num,by rw [HS.out]⟩
    case measure=>simp [intOf];omega
  ·have hkl:ls.take k=ls:=List.take_of_length_le (by omega)
   have Hk:=hide hkl
   clear hkl
   go_wp2_with fail
   refine(hf_any _ _ r0 r1).mono ?_
   rintro e w' ⟨rfl,hb⟩
   have hg:w'.heap[w.heap.size]?=some (.cells #[Value.int IntKind.u8 0,Value.int IntKind.u8 0,Value.int IntKind.u8 0,Value.int IntKind.u8 0,Value.int IntKind.u8 0,Value.int IntKind.u8 0,Value.int IntKind.u8 0,Value.int IntKind.u8 0] 91 (0,0)):=by
    rw [hb.block _ (by simp)];exact heap_alloc_last _ _
   have Hg:=hide hg
   clear hg
   go_wp2_with (refine wpList_store_row rfl 91 _ _ rfl w.heap.size (hv (out8 (fnv fnvStart (List.take k ls).flatten))) rfl rfl 91 _ Hg.out (by kernel_rfl) rfl (hv_one _) ?_)
   refine bodyPost_ret (v:= .agg (hv (out8 (fnv fnvStart (List.take k ls).flatten)))) (results_cell_row Tryz.results84 _ _ w.heap.size 91 _ (0,0) _ rfl (setRow_heap _ _ _ _ _ _ Hg.out) Tryz.underlying91 rfl (by kernel_rfl)) rfl ⟨?_,?_⟩
   ·rw [Hk.out];rfl
   ·exact below_setRow (((Below.refl _ _).alloc (Nat.le_refl _) _).trans (hb.mono (by simp))) (Nat.le_refl _) _
end
section
set_option maxHeartbeats 400000
open Go.RowKit
theorem cell_new (w:World)(c:Array Value)(t:TypeId)(i n:Nat)(hn:n=w.heap.size):(w.alloc (.cells c t)).cell? ⟨n,i,none⟩=c[i]?:=by
 subst hn
 rw [cell_of_row _ _ _ c t (0,0) (heap_alloc_last _ _)]
theorem cell_old (w:World)(o:Obj)(p:Addr)(h:p.block < w.heap.size):(w.alloc o).cell? p=w.cell? p :=
 ((Below.refl _ _).alloc (Nat.le_refl _) o:Below w.heap.size w (w.alloc o)).cell h
theorem size_alloc (w:World)(o:Obj):(w.alloc o).heap.size=w.heap.size+1:=by simp
theorem below_alloc (w:World)(o:Obj):Below w.heap.size w (w.alloc o):=(Below.refl _ _).alloc (Nat.le_refl _) o
theorem below_alloc2 (w:World)(o p:Obj):Below w.heap.size w ((w.alloc o).alloc p):=(below_alloc w o).trans ((below_alloc _ p).mono (by simp))
theorem below_alloc3 (w:World)(o p q:Obj):Below w.heap.size w (((w.alloc o).alloc p).alloc q):=(below_alloc2 w o p).trans ((below_alloc _ q).mono (by simp;omega))
theorem Bs.fresh (w:World)(l:List UInt8)(t:TypeId)(n:Nat)(hn:n=w.heap.size)(cap:Nat):Bs (w.alloc (.cells (hv l) t)) (.slice (some ⟨n,0,none⟩) l.length cap) l :=
 ⟨_,_,rfl,.inr ⟨_,_,rfl,fun i h=>by rw [cell_new _ _ _ _ _ hn];simp [hv,h]⟩⟩
theorem leaf_parts (w:World)(o:Obj)(v:Value)(e:List UInt8)(h:Bs w v e):
  Bss (((w.alloc o).alloc (.cells #[.int .u8 0] 5)).alloc (.cells #[.slice (some ⟨w.heap.size+1,0,none⟩) 1 1,v] 76)) (.slice (some ⟨w.heap.size+1+1,0,none⟩) 2 2) [[0],e]:=by
 refine⟨_,_,rfl,Nat.le_refl _,.inr ⟨_,_,rfl,fun i hi=>?_⟩⟩
 match i,hi with
 | 0,_ =>
  refine⟨.slice (some ⟨w.heap.size+1,0,none⟩) 1 1,by rw [cell_new _ _ _ _ _ (by simp)];rfl,?_⟩
  exact(Bs.fresh (w.alloc o) [0] _ _ (by simp) 1).below (below_alloc _ _)
 | 1,_ =>
  refine⟨v,by rw [cell_new _ _ _ _ _ (by simp)];rfl,?_⟩
  exact h.below (below_alloc3 _ _ _ _)
theorem leaf_any (v:Value)(e:List UInt8)(w:World)(hlen:e.length≤maxLen)(h:Bs w v e):
  Calls Tryz.prog 63 #[v] w fun r w'=>r= .returned (.agg (hv (leafH e)))∧Below w.heap.size w w':=by
 have H:=hide h
 have Hlen:=hide hlen
 clear hlen
 obtain⟨a,cap,rfl,h'⟩:=h
 clear h'
 go_enter Tryz.func63,Tryz.ntmps63
 go_wp2_with fail
 refine(hashOf_any _ [[0],e] _ (by unfold maxLen;simp) (fun l hl=>by simp at hl;rcases hl with rfl | rfl;(simp [maxLen]);exact Hlen.out) (leaf_parts w _ _ e H.out)).mono ?_
 rintro r w' ⟨hr,hb⟩
 rw [show hash [[0],e].flatten=leafH e by simp [leafH]] at hr
 subst hr
 have hg:w'.heap[w.heap.size]?=some (.cells #[Value.int IntKind.u8 0,Value.int IntKind.u8 0,Value.int IntKind.u8 0,Value.int IntKind.u8 0,Value.int IntKind.u8 0,Value.int IntKind.u8 0,Value.int IntKind.u8 0,Value.int IntKind.u8 0] 91 (0,0)):=by
  rw [hb.block _ (by simp;omega)]
  exact heap_alloc_old (heap_alloc_old (heap_alloc_last _ _))
 have Hg:=hide hg
 clear hg
 go_wp2_with (refine wpList_store_row rfl 91 _ _ rfl w.heap.size (hv (leafH e)) rfl rfl 91 _ Hg.out (by kernel_rfl) rfl (hv_one _) ?_)
 refine bodyPost_ret (v:= .agg (hv (leafH e))) (results_cell_row Tryz.results63 _ _ w.heap.size 91 _ (0,0) _ rfl (setRow_heap _ _ _ _ _ _ Hg.out) Tryz.underlying91 rfl (by kernel_rfl)) rfl ⟨?_,?_⟩
 ·rfl
 ·exact below_setRow ((below_alloc3 _ _ _ _).trans (hb.mono (by simp;omega))) (Nat.le_refl _) _
end
section
set_option maxHeartbeats 1000000
open Go.RowKit
theorem node_parts (w:World)(O:Obj)(a b:List UInt8)(ha:a.length=8)(hb:b.length=8):
  Bss (((((w.alloc (.cells (hv a) 91)).alloc (.cells (hv b) 91)).alloc O).alloc (.cells #[.int .u8 1] 5)).alloc
   (.cells #[.slice (some ⟨w.heap.size+1+1+1,0,none⟩) 1 1,.slice (some ⟨w.heap.size,0,none⟩) 8 8,.slice (some ⟨w.heap.size+1,0,none⟩) 8 8] 76)) (.slice (some ⟨w.heap.size+1+1+1+1,0,none⟩) 3 3) [[1],a,b]:=by
 refine⟨_,_,rfl,Nat.le_refl _,.inr ⟨_,_,rfl,fun i hi=>?_⟩⟩
 match i,hi with
 | 0,_ =>
  refine⟨.slice (some ⟨w.heap.size+1+1+1,0,none⟩) 1 1,by rw [cell_new _ _ _ _ _ (by simp)];rfl,?_⟩
  exact(Bs.fresh _ [1] _ _ (by simp) 1).below (below_alloc _ _)
 | 1,_ =>
  refine⟨.slice (some ⟨w.heap.size,0,none⟩) 8 8,by rw [cell_new _ _ _ _ _ (by simp)];rfl,?_⟩
  have h:=(Bs.fresh w a 91 _ rfl 8)
  rw [ha] at h
  exact(h.below (below_alloc3 _ _ _ _)).below (below_alloc _ _)
 | 2,_ =>
  refine⟨.slice (some ⟨w.heap.size+1,0,none⟩) 8 8,by rw [cell_new _ _ _ _ _ (by simp)];rfl,?_⟩
  have h:=(Bs.fresh (w.alloc (.cells (hv a) 91)) b 91 (w.heap.size+1) (by simp) 8)
  rw [hb] at h
  exact h.below (below_alloc3 _ _ _ _)
theorem agg8 (l:List UInt8)(h:l.length=8):∃ x0 x1 x2 x3 x4 x5 x6 x7:Int,hv l=#[.int .u8 x0,.int .u8 x1,.int .u8 x2,.int .u8 x3,.int .u8 x4,.int .u8 x5,.int .u8 x6,.int .u8 x7]:=by
 obtain⟨b0,b1,b2,b3,b4,b5,b6,b7,rfl⟩:=hv8 l h
 exact⟨_,_,_,_,_,_,_,_,rfl⟩
theorem below_set8 {B g:Nat}{a w:World}(h:Below B a w)(hg:B≤g)(v0 v1 v2 v3 v4 v5 v6 v7:Value):
  Below B a ((((((((w.setCell ⟨g,0,none⟩ v0).setCell ⟨g,1,none⟩ v1).setCell ⟨g,2,none⟩ v2).setCell ⟨g,3,none⟩ v3).setCell ⟨g,4,none⟩ v4).setCell ⟨g,5,none⟩ v5).setCell ⟨g,6,none⟩ v6).setCell ⟨g,7,none⟩ v7) :=
 (((((((h.setCell hg _).setCell hg _).setCell hg _).setCell hg _).setCell hg _).setCell hg _).setCell hg _).setCell hg _
theorem zeros8 {w:World}{g:Nat}{t:TypeId}(hg:w.heap[g]?=some (.cells #[Value.int IntKind.u8 0,Value.int IntKind.u8 0,Value.int IntKind.u8 0,Value.int IntKind.u8 0,Value.int IntKind.u8 0,Value.int IntKind.u8 0,Value.int IntKind.u8 0,Value.int IntKind.u8 0] t (0,0))):
  (w.cell? ⟨g,0,none⟩=some (.int .u8 0)∧w.cell? ⟨g,1,none⟩=some (.int .u8 0)∧w.cell? ⟨g,2,none⟩=some (.int .u8 0)∧w.cell? ⟨g,3,none⟩=some (.int .u8 0)∧w.cell? ⟨g,4,none⟩=some (.int .u8 0)∧w.cell? ⟨g,5,none⟩=some (.int .u8 0)∧w.cell? ⟨g,6,none⟩=some (.int .u8 0)∧w.cell? ⟨g,7,none⟩=some (.int .u8 0))∧∀ j,w.frozen? ⟨g,j,none⟩=false:=by
 refine⟨⟨?_,?_,?_,?_,?_,?_,?_,?_⟩,fun j=>frozen_of_row _ _ _ _ _ hg⟩<;>(rw [cell_of_row _ _ _ _ _ _ hg];rfl)
theorem node_call (a b:List UInt8)(w:World)(ha:a.length=8)(hb:b.length=8){xs:Array Value}(hx:hv (nodeH a b)=xs):
  Calls Tryz.prog 84 #[.slice (some ⟨w.heap.size+1+1+1+1,0,none⟩) 3 3] (((((w.alloc (.cells (hv a) 91)).alloc (.cells (hv b) 91)).alloc (.cells #[Value.int IntKind.u8 0,Value.int IntKind.u8 0,Value.int IntKind.u8 0,Value.int IntKind.u8 0,Value.int IntKind.u8 0,Value.int IntKind.u8 0,Value.int IntKind.u8 0,Value.int IntKind.u8 0] 91)).alloc (.cells #[.int .u8 1] 5)).alloc
   (.cells #[.slice (some ⟨w.heap.size+1+1+1,0,none⟩) 1 1,.slice (some ⟨w.heap.size,0,none⟩) 8 8,.slice (some ⟨w.heap.size+1,0,none⟩) 8 8] 76)).drew
   fun e w'=>e= .returned (.agg xs)∧((w'.cell? ⟨w.heap.size+1+1,0,none⟩=some (.int .u8 0)∧w'.cell? ⟨w.heap.size+1+1,1,none⟩=some (.int .u8 0)∧w'.cell? ⟨w.heap.size+1+1,2,none⟩=some (.int .u8 0)∧w'.cell? ⟨w.heap.size+1+1,3,none⟩=some (.int .u8 0)∧w'.cell? ⟨w.heap.size+1+1,4,none⟩=some (.int .u8 0)∧w'.cell? ⟨w.heap.size+1+1,5,none⟩=some (.int .u8 0)∧w'.cell? ⟨w.heap.size+1+1,6,none⟩=some (.int .u8 0)∧w'.cell? ⟨w.heap.size+1+1,7,none⟩=some (.int .u8 0))∧∀ j,w'.frozen? ⟨w.heap.size+1+1,j,none⟩=false)∧Hid (Below w.heap.size w w'):=by
 refine(hashOf_any _ [[1],a,b] _ (by unfold maxLen;simp) ?_ (by exact node_parts w _ a b ha hb)).mono ?_
 ·intro l hl
  simp at hl
  rcases hl with rfl | rfl | rfl<;>simp [maxLen, *]
 rintro r w' ⟨hr,hbe⟩
 refine⟨?_,zeros8 (t:=91) ?_,?_⟩
 ·rw [hr,← hx];simp [nodeH]
 ·rw [hbe.block _ (by simp)]
  exact heap_alloc_old (heap_alloc_old (by rw [show w.heap.size+1+1=((w.alloc (.cells (hv a) 91)).alloc (.cells (hv b) 91)).heap.size by simp];exact heap_alloc_last _ _))
 ·refine Below.trans (b:=(((((w.alloc (.cells (hv a) 91)).alloc (.cells (hv b) 91)).alloc (.cells #[Value.int IntKind.u8 0,Value.int IntKind.u8 0,Value.int IntKind.u8 0,Value.int IntKind.u8 0,Value.int IntKind.u8 0,Value.int IntKind.u8 0,Value.int IntKind.u8 0,Value.int IntKind.u8 0] 91)).alloc (.cells #[.int .u8 1] 5)).alloc
   (.cells #[.slice (some ⟨w.heap.size+1+1+1,0,none⟩) 1 1,.slice (some ⟨w.heap.size,0,none⟩) 8 8,.slice (some ⟨w.heap.size+1,0,none⟩) 8 8] 76)).drew) ?_ (hbe.mono (by simp;omega))
  exact((below_alloc3 w _ _ _).trans ((below_alloc2 _ _ _).mono (by simp;omega))).drew
theorem node_any (a b:List UInt8)(w:World)(ha:a.length=8)(hb:b.length=8):
  Calls Tryz.prog 86 #[.agg (hv a),.agg (hv b)] w fun r w'=>r= .returned (.agg (hv (nodeH a b)))∧Below w.heap.size w w':=by
 obtain⟨x0,x1,x2,x3,x4,x5,x6,x7,hx⟩:=agg8 (nodeH a b) (nodeH_length a b)
 have Hx:=hide hx
 have Ha:=hide ha
 have Hb:=hide hb
 clear ha hb hx
 go_enter Tryz.func86,Tryz.ntmps86
 go_wp2_with fail
 go_region_with (go_at_call 84;(refine(node_call a b w Ha.out Hb.out Hx.out).mono ?_;rintro e w' ⟨rfl,⟨⟨c0,c1,c2,c3,c4,c5,c6,c7⟩,hf⟩,HB⟩))
 go_wp2
 refine bodyPost_ret (v:= .agg #[.int .u8 x0,.int .u8 x1,.int .u8 x2,.int .u8 x3,.int .u8 x4,.int .u8 x5,.int .u8 x6,.int .u8 x7]) (by simp [results,Tryz.results86,go_sem,c0,c1,c2,c3,c4,c5,c6,c7]) rfl ⟨by rw [Hx.out],?_⟩
 exact below_set8 HB.out (by omega) _ _ _ _ _ _ _ _
end
section
set_option maxHeartbeats 4000000
open Go.RowKit
theorem bitLen_log (m:Nat)(h:m≠0)(h':m < 2 ^ 64):Lib.bitLen m=m.log2+1:=by
 have h1:=Nat.log2_self_le h
 have h2:m < 2 ^ (m.log2+1):=Nat.lt_log2_self
 rw [Lib.bitLen_shift m.log2 m h1 h']
 have e:m / 2 ^ m.log2=1:=by
  have hp:0 < 2 ^ m.log2:=Nat.two_pow_pos _
  rw [Nat.pow_succ] at h2
  exact Nat.div_eq_of_lt_le (by omega) (by omega)
 rw [e]
 rfl
theorem tab_at (q:Int)(h0:0≤q)(h1:q < 256)(hs:q.toNat < Lib.len8tab.size):((Lib.len8tab[q.toNat]'hs).toNat:Int)=Lib.bitLen q.toNat:=by
 rw [← Lib.len8_of q h0 (by omega)]
 unfold Lib.len8
 rw [getElem?_pos Lib.len8tab q.toNat hs]
 rfl
theorem len_way (c:Nat)(q:Int)(x:Nat)(hc:c≤56)(h0:0≤q)(h1:q < 256)(hs:q.toNat < Lib.len8tab.size)(hx:Lib.bitLen x=c+Lib.bitLen q.toNat):
  wrap64 (c+wrap64 ((Lib.len8tab[q.toNat]'hs).toNat:Int))=(Lib.bitLen x:Int):=by
 rw [tab_at q h0 h1 hs,hx]
 have:=Lib.bitLen_le8' q h0 (by omega)
 rw [show wrap64 (Lib.bitLen q.toNat:Int)=(Lib.bitLen q.toNat:Int) by unfold wrap64;omega]
 unfold wrap64
 omega
set_option maxRecDepth 100000 in
theorem len64_any (x:Int)(w:World)(h0:0≤x)(h1:x≤18446744073709551615):
  Calls Tryz.prog 115 #[.int .u64 x] w fun e w'=>e= .returned (.int .i64 (Lib.bitLen x.toNat))∧w'=w:=by
 have hsz:Lib.len8tab.size=256:=Lib.len8tab_size
 go_enter Tryz.func115,Tryz.ntmps115
 go_wp2
 all_goals go_ret
 all_goals refine⟨congrArg Ending.returned (congrArg (Value.int IntKind.i64) ?_),rfl⟩
 ·exact len_way 56 _ _ (by omega) (by omega) (by omega) (by omega) (by rw [Lib.bitLen_shift56 x.toNat (by omega) (by omega)];congr 2;omega)
 ·exact len_way 48 _ _ (by omega) (by omega) (by omega) (by omega) (by rw [Lib.bitLen_shift48 x.toNat (by omega) (by omega)];congr 2;omega)
 ·exact len_way 40 _ _ (by omega) (by omega) (by omega) (by omega) (by rw [Lib.bitLen_shift40 x.toNat (by omega) (by omega)];congr 2;omega)
 ·exact len_way 32 _ _ (by omega) (by omega) (by omega) (by omega) (by rw [Lib.bitLen_shift32 x.toNat (by omega) (by omega)];congr 2;omega)
 ·exact len_way 24 _ _ (by omega) (by omega) (by omega) (by omega) (by rw [Lib.bitLen_shift24 x.toNat (by omega) (by omega)];congr 2;omega)
 ·exact len_way 16 _ _ (by omega) (by omega) (by omega) (by omega) (by rw [Lib.bitLen_shift16 x.toNat (by omega) (by omega)];congr 2;omega)
 ·exact len_way 8 _ _ (by omega) (by omega) (by omega) (by omega) (by rw [Lib.bitLen_shift8 x.toNat (by omega) (by omega)];congr 2;omega)
 ·have:=len_way 0 x x.toNat (by omega) (by omega) (by omega) (by omega) (by simp)
  simpa using this
theorem len_any (x:Int)(w:World)(h0:0≤x)(h1:x≤18446744073709551615):
  Calls Tryz.prog 66 #[.int .u64 x] w fun e w'=>e= .returned (.int .i64 (Lib.bitLen x.toNat))∧w'=w:=by
 go_enter Tryz.func66,Tryz.ntmps66
 go_wp2_with fail
 refine(len64_any x w h0 h1).mono ?_
 rintro e w' ⟨rfl,rfl⟩
 go_wp2_with fail
 go_ret
 exact⟨rfl,rfl⟩
theorem split_any (n:Nat)(w:World)(h0:2≤n)(h1:n≤9223372036854775807):
  Calls Tryz.prog 85 #[.int .i64 n] w fun e w'=>e= .returned (.int .i64 (kOf n))∧w'=w:=by
 go_enter Tryz.func85,Tryz.ntmps85
 go_wp2_with fail
 refine(len_any ((n:Int) - 1) w (by omega) (by omega)).mono ?_
 rintro e w' ⟨hr,rfl⟩
 have hj:Lib.bitLen ((n:Int) - 1).toNat=(n - 1).log2+1:=by
  rw [show((n:Int) - 1).toNat=n - 1 by omega]
  exact bitLen_log _ (by omega) (by omega)
 have hj62:(n - 1).log2≤62:=by
  have:=(Nat.log2_lt (n:=n - 1) (k:=63) (by omega)).2 (by omega)
  omega
 rw [hj] at hr
 subst hr
 have Hk:Hid (kOf n=2 ^ (n - 1).log2):=rfl
 clear hj
 generalize (n - 1).log2=j at *
 go_wp2_with fail
 go_ret
 refine⟨congrArg Ending.returned (congrArg (Value.int IntKind.i64) ?_),rfl⟩
 have h2:2 ^ j≤2 ^ 62:=Nat.pow_le_pow_right (by omega) hj62
 have h3:((2:Int) ^ j)=((2 ^ j:Nat):Int):=by simp
 rw [Hk.out]
 show wrap64 ((2:Int) ^ j)=_
 rw [h3]
 generalize 2 ^ j=p at *
 unfold wrap64
 omega
end
end Go.Proofs.YtinhekmmdlhfkaaGreatDoor
