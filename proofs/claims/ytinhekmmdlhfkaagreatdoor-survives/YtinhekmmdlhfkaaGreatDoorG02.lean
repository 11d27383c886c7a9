import Derived.Test.YtinhekmmdlhfkaaGreatDoorG01
import Derived.BigRegion
import Derived.Deep.RegionWith
import Derived.Lib.Strings
import Derived.Lib.Slices
import Derived.Lib.Small
import Derived.Lib.Walk
import Derived.Lib.BitFns
namespace Go.Proofs.YtinhekmmdlhfkaaGreatDoor
section
set_option maxHeartbeats 400000
open Go.RowKit
set_option maxRecDepth 100000
def txv (l:List UInt8):Value:= .string ⟨l.toArray⟩
def jm (fs:Fs):List Value:=fs.flatMap fun f=>[txv f.1,txv f.2]
def zcg (fv:Value)(d:Dk):Array Value:=#[fv,.int .i64 d.calls,.int .i64 d.failAt,.bool d.dead,.bool d.once,.bool d.half,.bool d.hit,.bool d.turned]
def zm (w:World)(O:Nat→Prop)(b:Nat)(d:Dk):Prop :=
 ∃ fv,O b∧w.heap[b]?=some (.cells (zcg fv d) 41 (0,0))∧w.ownsRow 0 63 2 fv d.fs.length (jm d.fs)∧∀ g,fv.ownBlock=some g→O g
def vv (b:Nat):Value:= .pointer (some ⟨b,0,none⟩)
abbrev dT1:List Nat:=[41]
abbrev dT:List Nat:=[41,63]
theorem zg {w:World}{b:Nat}{t:TypeId}{cs:Array Value}(h:w.heap[b]?=some (.cells cs t (0,0))):∀ i v,cs[i]?=some v→w.cell? ⟨b,i,none⟩=some v∧w.frozen? ⟨b,i,none⟩=false:=by
 intro i v hv
 refine⟨by rw [cell_of_row _ _ _ _ _ _ h];exact hv,by simp [World.frozen?,h]⟩
theorem qj {w:World}{b:Nat}{t:TypeId}{cs:Array Value}(h:w.heap[b]?=some (.cells cs t (0,0)))(i:Nat)(v:Value):(w.setCell ⟨b,i,none⟩ v).heap[b]?=some (.cells (cs.setIfInBounds i v) t (0,0)):=heap_setCell_same w b i cs t v h
theorem zd1 {w:World}{b:Nat}{fv:Value}{d:Dk}(h:w.heap[b]?=some (.cells (zcg fv d) 41 (0,0))):(w.cell? ⟨b,0,none⟩=some fv∧w.frozen? ⟨b,0,none⟩=false)∧(w.cell? ⟨b,1,none⟩=some (.int .i64 d.calls)∧w.frozen? ⟨b,1,none⟩=false)∧(w.cell? ⟨b,2,none⟩=some (.int .i64 d.failAt)∧w.frozen? ⟨b,2,none⟩=false)∧(w.cell? ⟨b,3,none⟩=some (.bool d.dead)∧w.frozen? ⟨b,3,none⟩=false)∧(w.cell? ⟨b,4,none⟩=some (.bool d.once)∧w.frozen? ⟨b,4,none⟩=false)∧(w.cell? ⟨b,5,none⟩=some (.bool d.half)∧w.frozen? ⟨b,5,none⟩=false)∧(w.cell? ⟨b,6,none⟩=some (.bool d.hit)∧w.frozen? ⟨b,6,none⟩=false)∧(w.cell? ⟨b,7,none⟩=some (.bool d.turned)∧w.frozen? ⟨b,7,none⟩=false) :=
 ⟨zg h 0 _ rfl,zg h 1 _ rfl,zg h 2 _ rfl,zg h 3 _ rfl,zg h 4 _ rfl,zg h 5 _ rfl,zg h 6 _ rfl,zg h 7 _ rfl⟩
theorem zm.turn {w w':World}{O O':Nat→Prop}{b:Nat}{d d':Dk}{fv:Value}(hO:∀ k,O k→O' k)(h:O b)(hf:w.ownsRow 0 63 2 fv d.fs.length (jm d.fs))(hg:∀ g,fv.ownBlock=some g→O g)
  (ht:zf O dT1 w w') (hb:w'.heap[b]?=some (.cells (zcg fv d') 41 (0,0))) (hd:d'.fs=d.fs):zm w' O' b d' :=
 ⟨fv,hO b h,hb,by rw [hd];exact zo hf ht (by decide),fun g hg'=>hO g (hg g hg')⟩
theorem zm.stay {w w':World}{O O1:Nat→Prop}{T:List Nat}{b:Nat}{d:Dk}(h:zm w O b d)(ht:zf O1 T w w')(h1:41∉T)(h2:63∉T):zm w' O b d:=by
 obtain⟨fv,a,hb,hf,hg⟩:=h
 exact⟨fv,a,ht.keep hb h1,zo hf ht h2,hg⟩
theorem zm.out {w w':World}{O O1:Nat→Prop}{T:List Nat}{b:Nat}{d:Dk}(h:zm w O b d)(ht:zf O1 T w w')(h1:∀ k,O k→¬ O1 k):zm w' O b d:=by
 obtain⟨fv,a,hb,hf,hg⟩:=h
 exact⟨fv,a,ht.stay hb (h1 b a),zit hf ht (fun g hg'=>h1 g (hg g hg')),hg⟩
theorem zm.mono {w:World}{O O':Nat→Prop}{b:Nat}{d:Dk}(h:zm w O b d)(hO:∀ k,O k→O' k):zm w O' b d:=by
 obtain⟨fv,a,hb,hf,hg⟩:=h
 exact⟨fv,hO b a,hb,hf,fun g e=>hO g (hg g e)⟩
theorem z4n (O:Nat→Prop)(b:Nat)(d:Dk)(w:World)(h:zm w O b d):
  Calls Tryz.prog 15 #[vv b] w fun r w'=>r= .returned (.tuple #[])∧zf O dT1 w w'∧zm w' O b { d with failAt:=0,dead:=false,hit:=false }:=by
 obtain⟨fv,hO,hb,hf,hg⟩:=h
 obtain⟨⟨c0,f0⟩,⟨c1,f1⟩,⟨c2,f2⟩,⟨c3,f3⟩,⟨c4,f4⟩,⟨c5,f5⟩,⟨c6,f6⟩,⟨c7,f7⟩⟩:=zd1 hb
 have HB:=za hb
 have HF:=za hf
 have HG:=za hg
 clear hb hf hg
 unfold vv
 go_enter Tryz.func15,Tryz.ntmps15
 go_wp2_with fail
 go_end0
 have t1:=(zf.refl O dT1 w).set (o:=2) (.inl hO) HB.o (by decide) (.int .i64 0)
 have h1:=qj HB.o 2 (.int .i64 0)
 have t2:=t1.set (o:=3) (.inl hO) h1 (by decide) (.bool false)
 have h2:=qj h1 3 (.bool false)
 have t3:=t2.set (o:=6) (.inl hO) h2 (by decide) (.bool false)
 have h3:=qj h2 6 (.bool false)
 exact⟨rfl,t3,zm.turn (d:=d) (fun _ h=>h) hO HF.o HG.o t3 h3 rfl⟩
theorem z5h (O:Nat→Prop)(b:Nat)(d:Dk)(w:World)(h:zm w O b d):
  Calls Tryz.prog 14 #[vv b] w fun r w'=>r= .returned (.bool d.hit)∧w'=w:=by
 obtain⟨fv,hO,hb,hf,hg⟩:=h
 obtain⟨⟨c0,f0⟩,⟨c1,f1⟩,⟨c2,f2⟩,⟨c3,f3⟩,⟨c4,f4⟩,⟨c5,f5⟩,⟨c6,f6⟩,⟨c7,f7⟩⟩:=zd1 hb
 clear hb hf hg
 unfold vv
 go_enter Tryz.func14,Tryz.ntmps14
 go_wp2_with fail
 go_ret
 exact⟨rfl,rfl⟩
theorem zxc (O:Nat→Prop)(b:Nat)(d:Dk)(w:World)(h:zm w O b d)(n:Int)(half once:Bool):
  Calls Tryz.prog 11 #[vv b,.int .i64 n,.bool half,.bool once] w fun r w'=>r= .returned (.tuple #[])∧zf O dT1 w w'∧zm w' O b { d with failAt:=wrap64 (d.calls+n),half:=half,once:=once,dead:=false,hit:=false }:=by
 obtain⟨fv,hO,hb,hf,hg⟩:=h
 obtain⟨⟨c0,f0⟩,⟨c1,f1⟩,⟨c2,f2⟩,⟨c3,f3⟩,⟨c4,f4⟩,⟨c5,f5⟩,⟨c6,f6⟩,⟨c7,f7⟩⟩:=zd1 hb
 have HB:=za hb
 have HF:=za hf
 have HG:=za hg
 clear hb hf hg
 unfold vv
 go_enter Tryz.func11,Tryz.ntmps11
 go_wp2_with fail
 go_end0
 have t1:=(zf.refl O dT1 w).set (o:=2) (.inl hO) HB.o (by decide) (.int .i64 (wrap64 (d.calls+n)))
 have h1:=qj HB.o 2 (.int .i64 (wrap64 (d.calls+n)))
 have t2:=t1.set (o:=5) (.inl hO) h1 (by decide) (.bool half)
 have h2:=qj h1 5 (.bool half)
 have t3:=t2.set (o:=4) (.inl hO) h2 (by decide) (.bool once)
 have h3:=qj h2 4 (.bool once)
 have t4:=t3.set (o:=3) (.inl hO) h3 (by decide) (.bool false)
 have h4:=qj h3 3 (.bool false)
 have t5:=t4.set (o:=6) (.inl hO) h4 (by decide) (.bool false)
 have h5:=qj h4 6 (.bool false)
 exact⟨rfl,t5,zm.turn (d:=d) (fun _ h=>h) hO HF.o HG.o t5 h5 rfl⟩
theorem zj3 (O:Nat→Prop)(b:Nat)(d:Dk)(w:World)(h:zm w O b d):
  Calls Tryz.prog 236 #[vv b] w fun r w'=>r= .returned (.int .i64 (xc d))∧zf O dT1 w w'∧zm w' O b (ye d):=by
 obtain⟨fv,hO,hb,hf,hg⟩:=h
 obtain⟨⟨c0,f0⟩,⟨c1,f1⟩,⟨c2,f2⟩,⟨c3,f3⟩,⟨c4,f4⟩,⟨c5,f5⟩,⟨c6,f6⟩,⟨c7,f7⟩⟩:=zd1 hb
 have HF:=za hf
 have HG:=za hg
 unfold vv
 obtain⟨c,hc⟩:∃ c,wrap64 (d.calls+1)=c:=⟨_,rfl⟩
 have HN:Hid (zob d=c):=hc
 have t1:=za ((zf.refl O dT1 w).set (o:=1) (.inl hO) hb (by decide) (.int .i64 c))
 have h1:=za (qj hb 1 (.int .i64 c))
 clear hb hf hg
 cases hd:d.dead with
 | true =>
  rw [hd] at c3
  have HR:Hid (xc d=2∧ye d={ d with calls:=c }):=by unfold xc ye;rw [hd,HN.o];exact⟨rfl,rfl⟩
  clear hd
  go_enter Tryz.func236,Tryz.ntmps236
  go_wp2_with fail
  go_ret
  refine⟨by rw [HR.o.1];rfl,t1.out,?_⟩
  rw [HR.o.2]
  exact zm.turn (d:=d) (fun _ h=>h) hO HF.o HG.o t1.out h1.out rfl
 | false =>
  rw [hd] at c3
  have HE:∀ n,Hid (((w.setCell ⟨b,1,none⟩ (.int .i64 c)).drewN n).heap[b]?=some (.cells ((zcg fv d).setIfInBounds 1 (.int .i64 c)) 41 (0,0))):=fun _=>h1.out
  by_cases hat:0 < d.failAt∧c=d.failAt
  ·have HR:Hid (xc d=(if d.half then 1 else 2)∧ye d={ d with calls:=c,dead:=!d.once,hit:=true }):=by
    unfold xc ye
    rw [hd,HN.o]
    simp only [Bool.false_eq_true,if_false,if_pos hat]
    exact⟨trivial,trivial⟩
   obtain⟨p0,p1⟩:=hat
   have q1:(c==d.failAt)=true:=by simp [p1]
   clear hd p1
   cases hh:d.half with
   | true =>
    rw [hh] at c5 HR
    have HH:=za hh
    clear hh
    go_enter Tryz.func236,Tryz.ntmps236
    go_wp2_with fail
    go_quiet (fail)
    go_wp2_with fail
    go_ret
    have t2:=(t1.out.drewN nq).set (o:=3) (.inl hO) (HE nq).out (by decide) (.bool !d.once)
    have h2:=qj (HE nq).out 3 (.bool !d.once)
    have t3:=t2.set (o:=6) (.inl hO) h2 (by decide) (.bool true)
    have h3:=qj h2 6 (.bool true)
    refine⟨by rw [HR.o.1];rfl,t3,?_⟩
    rw [HR.o.2]
    refine zm.turn (d:=d) (fun _ h=>h) hO HF.o HG.o t3 ?_ rfl
    rw [h3]
    simp only [zcg,HH.o]
    rfl
   | false =>
    rw [hh] at c5 HR
    have HH:=za hh
    clear hh
    go_enter Tryz.func236,Tryz.ntmps236
    go_wp2_with fail
    go_quiet (fail)
    go_wp2_with fail
    go_ret
    have t2:=(t1.out.drewN nq).set (o:=3) (.inl hO) (HE nq).out (by decide) (.bool !d.once)
    have h2:=qj (HE nq).out 3 (.bool !d.once)
    have t3:=t2.set (o:=6) (.inl hO) h2 (by decide) (.bool true)
    have h3:=qj h2 6 (.bool true)
    refine⟨by rw [HR.o.1];rfl,t3,?_⟩
    rw [HR.o.2]
    refine zm.turn (d:=d) (fun _ h=>h) hO HF.o HG.o t3 ?_ rfl
    rw [h3]
    simp only [zcg,HH.o]
    rfl
  ·have HR:Hid (xc d=0∧ye d={ d with calls:=c }):=by
    unfold xc ye
    rw [hd,HN.o]
    simp only [Bool.false_eq_true,if_false,if_neg hat]
    exact⟨trivial,trivial⟩
   have HDD:=za hd
   clear hd
   by_cases p0:0 < d.failAt
   ·have q1:(c==d.failAt)=false:=by
     rw [beq_eq_false_iff_ne]
     exact fun e=>hat ⟨p0,e⟩
    clear hat
    go_enter Tryz.func236,Tryz.ntmps236
    go_wp2_with fail
    go_quiet (fail)
    go_wp2_with fail
    go_ret
    refine⟨by rw [HR.o.1];rfl,t1.out.drewN nq,?_⟩
    rw [HR.o.2]
    refine zm.turn (d:=d) (fun _ h=>h) hO HF.o HG.o (t1.out.drewN nq) ?_ rfl
    rw [(HE nq).out]
    simp only [zcg,HDD.o]
    rfl
   ·have q0:decide (0 < d.failAt)=false:=by simp;omega
    clear hat p0
    go_enter Tryz.func236,Tryz.ntmps236
    go_wp2_with fail
    go_quiet (fail)
    go_wp2_with fail
    go_ret
    refine⟨by rw [HR.o.1];rfl,t1.out.drewN nq,?_⟩
    rw [HR.o.2]
    refine zm.turn (d:=d) (fun _ h=>h) hO HF.o HG.o (t1.out.drewN nq) ?_ rfl
    rw [(HE nq).out]
    simp only [zcg,HDD.o]
    rfl
end
section
set_option maxHeartbeats 1000000
open Go.RowKit
theorem z7k {k:IntKind}{a b:Int}(h:a=b):Ending.returned (.int k a)= .returned (.int k b):=by rw [h]
theorem z10 (n:Int)(l:List UInt8)(k:Nat)(h:k < l.length):fnv n (l.take (k+1))=st (fnv n (l.take k)) l[k].toNat:=by
 rw [List.take_succ_eq_append_getElem h,z07]
theorem z0u (n:Int)(v:Value)(l:List UInt8)(w:World)(hlen:l.length≤maxLen)(h0:0≤n)(h1:n≤18446744073709551615)(hv:Bs w v l):
  Calls Tryz.prog 126 #[.int .u64 n,v] w fun e w'=>e= .returned (.int .u64 (fnv n l))∧w'=w:=by
 unfold maxLen at hlen
 obtain⟨a,cap,rfl,hv⟩:=hv
 have hv':l.length=0∨∃ b off,a=some ⟨b,off,none⟩∧∀ i (h:i < l.length),w.cell? ⟨b,off+i,none⟩=some (bv l[i]):=by
  rcases hv with h | h
  ·exact .inl (by simp [h])
  ·exact .inr h
 clear hv
 have Hv:=za hv'
 clear hv'
 go_enter Tryz.func126,Tryz.ntmps126
 go_wp2
 go_loop [0,9] (fun t i=>∃ k:Nat,k≤l.length∧i= .int .i64 k∧t= .int .u64 (fnv n (l.take k))) (fun _ i=>l.length - (intOf i).toNat)
 case atStart=>exact⟨0,Nat.zero_le _,rfl,rfl⟩
 case round =>
  obtain⟨k,hk,rfl,rfl⟩:=hrel
  obtain⟨r0,r1⟩:=zpn n (l.take k) h0 h1
  by_cases hlt:k < l.length
  ·rcases Hv.o with h | ⟨b,off,rfl,hc⟩
   ·omega
   ·have hz:w.cell? ⟨b,off+k,none⟩=some (.int .u8 (l[k].toNat)):=hc k hlt
    have hb:(l[k].toNat:Int)≤255:=by have:=l[k].toNat_lt;omega
    have HS:=za (z10 n l k hlt)
    clear hc Hv
    generalize l[k].toNat=z at *
    generalize fnv n (l.take k)=m at *
    go_wp2
    go_round
    case rel=>exact⟨k+1,by omega,by go_num,by rw [HS.o];rfl⟩
    case measure=>simp [intOf];omega
  ·clear Hv
   go_wp2
   go_ret
   exact⟨z7k (by rw [List.take_of_length_le (by omega)]),rfl⟩
theorem z3y (n:Int)(w:World)(h0:0≤n)(h1:n≤18446744073709551615):
  Calls Tryz.prog 95 #[.int .u64 n] w fun e w'=>e= .returned (.agg (hv (zn4 n)))∧Below w.heap.size w w':=by
 have Hh:=za (z6a n h0 h1)
 go_enter Tryz.func95,Tryz.ntmps95
 go_wp2
 refine wp_loop_rounds 9 ?_
 rw [rounds_succ]
 go_wp2
 rw [rounds_succ]
 go_wp2
 rw [rounds_succ]
 go_wp2
 rw [rounds_succ]
 go_wp2
 rw [rounds_succ]
 go_wp2
 rw [rounds_succ]
 go_wp2
 rw [rounds_succ]
 go_wp2
 rw [rounds_succ]
 go_wp2
 rw [rounds_succ]
 go_wp2
 refine bodyPost_ret (v:= .agg #[.int .u8 (n / 72057594037927936),.int .u8 (n / 281474976710656 % 256),.int .u8 (n / 1099511627776 % 256),.int .u8 (n / 4294967296 % 256),.int .u8 (n / 16777216 % 256),.int .u8 (n / 65536 % 256),.int .u8 (n / 256 % 256),.int .u8 (n % 256)]) (by simp [results,Tryz.results95,go_sem]) rfl ⟨by rw [Hh.o],((Below.refl _ _).alloc (Nat.le_refl _) _).alloc (by simp) _⟩
theorem z4z (n:Int)(ls:List (List UInt8))(k:Nat)(h:k < ls.length):fnv n (ls.take (k+1)).flatten=fnv (fnv n (ls.take k).flatten) ls[k]:=by
 rw [List.take_succ_eq_append_getElem h,List.flatten_append,zlt];simp
theorem zfk (v:Value)(ls:List (List UInt8))(w:World)(hlen:ls.length≤maxLen)(hl:∀ l∈ls,l.length≤maxLen)(hv':Bss w v ls):
  Calls Tryz.prog 84 #[v] w fun e w'=>e= .returned (.agg (hv (hash ls.flatten)))∧Below w.heap.size w w':=by
 unfold maxLen at hlen
 have Hb:=za hv'
 have Hl:=za hl
 clear hl
 obtain⟨a,cap,rfl,hcap,hv''⟩:=hv'
 have hv3:ls.length=0∨∃ b off,a=some ⟨b,off,none⟩∧∀ i (h:i < ls.length),∃ x,w.cell? ⟨b,off+i,none⟩=some x∧Bs w x ls[i]:=by
  rcases hv'' with h | h
  ·exact .inl (by simp [h])
  ·exact .inr h
 have Hv:=za hv3
 clear hv'' hv3
 go_enter Tryz.func84,Tryz.ntmps84
 go_wp2
 go_loop [3,8] (fun t i=>∃ k:Nat,k≤ls.length∧i= .int .i64 k∧t= .int .u64 (fnv zbz (ls.take k).flatten)) (fun _ i=>ls.length - (intOf i).toNat)
 case atStart=>exact⟨0,Nat.zero_le _,rfl,rfl⟩
 case round =>
  obtain⟨k,hk,rfl,rfl⟩:=hrel
  obtain⟨r0,r1⟩:=zpn zbz (ls.take k).flatten zgj.1 zgj.2
  by_cases hlt:k < ls.length
  ·rcases Hv.o with h | ⟨b,off,rfl,hc⟩
   ·omega
   ·obtain⟨x,hx,hbs⟩:=hc k hlt
    have hz:∀ o,(w.alloc o).cell? ⟨b,off+k,none⟩=some x:=fun o=>by rw [((Below.refl _ _).alloc (Nat.le_refl _) o:Below w.heap.size w (w.alloc o)).cell (zj (p:=⟨b,off+k,none⟩) hx)];exact hx
    have hbs':Hid (∀ o,Bs (w.alloc o) x ls[k]):=fun o=>hbs.below ((Below.refl _ _).alloc (Nat.le_refl _) o)
    have HS:=za (z4z zbz ls k hlt)
    have Hlk:=za (Hl.o ls[k] (List.getElem_mem hlt))
    clear hc Hv hbs hx
    generalize ls[k]=lk at *
    generalize fnv zbz (ls.take k).flatten=m at *
    go_wp2_with fail
    refine(z0u m x lk _ Hlk.o r0 r1 (hbs'.out _)).mono ?_
    rintro e w' ⟨rfl,rfl⟩
    go_wp2_with fail
    go_round
    case rel=>exact⟨k+1,by omega,by go_num,by rw [HS.o]⟩
    case measure=>simp [intOf];omega
  ·have hkl:ls.take k=ls:=List.take_of_length_le (by omega)
   have Hk:=za hkl
   clear hkl
   go_wp2_with fail
   refine(z3y _ _ r0 r1).mono ?_
   rintro e w' ⟨rfl,hb⟩
   have hg:w'.heap[w.heap.size]?=some (.cells #[Value.int IntKind.u8 0,Value.int IntKind.u8 0,Value.int IntKind.u8 0,Value.int IntKind.u8 0,Value.int IntKind.u8 0,Value.int IntKind.u8 0,Value.int IntKind.u8 0,Value.int IntKind.u8 0] 91 (0,0)):=by
    rw [hb.block _ (by simp)];exact heap_alloc_last _ _
   have Hg:=za hg
   clear hg
   go_wp2_with (refine wpList_store_row rfl 91 _ _ rfl w.heap.size (hv (zn4 (fnv zbz (List.take k ls).flatten))) rfl rfl 91 _ Hg.o (by kernel_rfl) rfl (jp _) ?_)
   refine bodyPost_ret (v:= .agg (hv (zn4 (fnv zbz (List.take k ls).flatten)))) (results_cell_row Tryz.results84 _ _ w.heap.size 91 _ (0,0) _ rfl (setRow_heap _ _ _ _ _ _ Hg.o) Tryz.underlying91 rfl (by kernel_rfl)) rfl ⟨?_,?_⟩
   ·rw [Hk.o];rfl
   ·exact below_setRow (((Below.refl _ _).alloc (Nat.le_refl _) _).trans (hb.mono (by simp))) (Nat.le_refl _) _
end
section
set_option maxHeartbeats 400000
open Go.RowKit
theorem zb0 (w:World)(c:Array Value)(t:TypeId)(i n:Nat)(hn:n=w.heap.size):(w.alloc (.cells c t)).cell? ⟨n,i,none⟩=c[i]?:=by
 subst hn
 rw [cell_of_row _ _ _ c t (0,0) (heap_alloc_last _ _)]
theorem zk (w:World)(o:Obj)(p:Addr)(h:p.block < w.heap.size):(w.alloc o).cell? p=w.cell? p :=
 ((Below.refl _ _).alloc (Nat.le_refl _) o:Below w.heap.size w (w.alloc o)).cell h
theorem zmx (w:World)(o:Obj):(w.alloc o).heap.size=w.heap.size+1:=by simp
theorem ze (w:World)(o:Obj):Below w.heap.size w (w.alloc o):=(Below.refl _ _).alloc (Nat.le_refl _) o
theorem zw (w:World)(o p:Obj):Below w.heap.size w ((w.alloc o).alloc p):=(ze w o).trans ((ze _ p).mono (by simp))
theorem je (w:World)(o p q:Obj):Below w.heap.size w (((w.alloc o).alloc p).alloc q):=(zw w o p).trans ((ze _ q).mono (by simp;omega))
theorem Bs.fresh (w:World)(l:List UInt8)(t:TypeId)(n:Nat)(hn:n=w.heap.size)(cap:Nat):Bs (w.alloc (.cells (hv l) t)) (.slice (some ⟨n,0,none⟩) l.length cap) l :=
 ⟨_,_,rfl,.inr ⟨_,_,rfl,fun i h=>by rw [zb0 _ _ _ _ _ hn];simp [hv,h]⟩⟩
theorem zu7 (w:World)(o:Obj)(v:Value)(e:List UInt8)(h:Bs w v e):
  Bss (((w.alloc o).alloc (.cells #[.int .u8 0] 5)).alloc (.cells #[.slice (some ⟨w.heap.size+1,0,none⟩) 1 1,v] 76)) (.slice (some ⟨w.heap.size+1+1,0,none⟩) 2 2) [[0],e]:=by
 refine⟨_,_,rfl,Nat.le_refl _,.inr ⟨_,_,rfl,fun i hi=>?_⟩⟩
 match i,hi with
 | 0,_ =>
  refine⟨.slice (some ⟨w.heap.size+1,0,none⟩) 1 1,by rw [zb0 _ _ _ _ _ (by simp)];rfl,?_⟩
  exact(Bs.fresh (w.alloc o) [0] _ _ (by simp) 1).below (ze _ _)
 | 1,_ =>
  refine⟨v,by rw [zb0 _ _ _ _ _ (by simp)];rfl,?_⟩
  exact h.below (je _ _ _ _)
theorem zsn (v:Value)(e:List UInt8)(w:World)(hlen:e.length≤maxLen)(h:Bs w v e):
  Calls Tryz.prog 63 #[v] w fun r w'=>r= .returned (.agg (hv (qu e)))∧Below w.heap.size w w':=by
 have H:=za h
 have Hlen:=za hlen
 clear hlen
 obtain⟨a,cap,rfl,h'⟩:=h
 clear h'
 go_enter Tryz.func63,Tryz.ntmps63
 go_wp2_with fail
 refine(zfk _ [[0],e] _ (by unfold maxLen;simp) (fun l hl=>by simp at hl;rcases hl with rfl | rfl;(simp [maxLen]);exact Hlen.o) (zu7 w _ _ e H.o)).mono ?_
 rintro r w' ⟨hr,hb⟩
 rw [show hash [[0],e].flatten=qu e by simp [qu]] at hr
 subst hr
 have hg:w'.heap[w.heap.size]?=some (.cells #[Value.int IntKind.u8 0,Value.int IntKind.u8 0,Value.int IntKind.u8 0,Value.int IntKind.u8 0,Value.int IntKind.u8 0,Value.int IntKind.u8 0,Value.int IntKind.u8 0,Value.int IntKind.u8 0] 91 (0,0)):=by
  rw [hb.block _ (by simp;omega)]
  exact zc (zc (heap_alloc_last _ _))
 have Hg:=za hg
 clear hg
 go_wp2_with (refine wpList_store_row rfl 91 _ _ rfl w.heap.size (hv (qu e)) rfl rfl 91 _ Hg.o (by kernel_rfl) rfl (jp _) ?_)
 refine bodyPost_ret (v:= .agg (hv (qu e))) (results_cell_row Tryz.results63 _ _ w.heap.size 91 _ (0,0) _ rfl (setRow_heap _ _ _ _ _ _ Hg.o) Tryz.underlying91 rfl (by kernel_rfl)) rfl ⟨?_,?_⟩
 ·rfl
 ·exact below_setRow ((je _ _ _ _).trans (hb.mono (by simp;omega))) (Nat.le_refl _) _
end
section
set_option maxHeartbeats 1000000
open Go.RowKit
theorem zuh (w:World)(O:Obj)(a b:List UInt8)(ha:a.length=8)(hb:b.length=8):
  Bss (((((w.alloc (.cells (hv a) 91)).alloc (.cells (hv b) 91)).alloc O).alloc (.cells #[.int .u8 1] 5)).alloc
   (.cells #[.slice (some ⟨w.heap.size+1+1+1,0,none⟩) 1 1,.slice (some ⟨w.heap.size,0,none⟩) 8 8,.slice (some ⟨w.heap.size+1,0,none⟩) 8 8] 76)) (.slice (some ⟨w.heap.size+1+1+1+1,0,none⟩) 3 3) [[1],a,b]:=by
 refine⟨_,_,rfl,Nat.le_refl _,.inr ⟨_,_,rfl,fun i hi=>?_⟩⟩
 match i,hi with
 | 0,_ =>
  refine⟨.slice (some ⟨w.heap.size+1+1+1,0,none⟩) 1 1,by rw [zb0 _ _ _ _ _ (by simp)];rfl,?_⟩
  exact(Bs.fresh _ [1] _ _ (by simp) 1).below (ze _ _)
 | 1,_ =>
  refine⟨.slice (some ⟨w.heap.size,0,none⟩) 8 8,by rw [zb0 _ _ _ _ _ (by simp)];rfl,?_⟩
  have h:=(Bs.fresh w a 91 _ rfl 8)
  rw [ha] at h
  exact(h.below (je _ _ _ _)).below (ze _ _)
 | 2,_ =>
  refine⟨.slice (some ⟨w.heap.size+1,0,none⟩) 8 8,by rw [zb0 _ _ _ _ _ (by simp)];rfl,?_⟩
  have h:=(Bs.fresh (w.alloc (.cells (hv a) 91)) b 91 (w.heap.size+1) (by simp) 8)
  rw [hb] at h
  exact h.below (je _ _ _ _)
theorem zkb (l:List UInt8)(h:l.length=8):∃ x0 x1 x2 x3 x4 x5 x6 x7:Int,hv l=#[.int .u8 x0,.int .u8 x1,.int .u8 x2,.int .u8 x3,.int .u8 x4,.int .u8 x5,.int .u8 x6,.int .u8 x7]:=by
 obtain⟨b0,b1,b2,b3,b4,b5,b6,b7,rfl⟩:=hv8 l h
 exact⟨_,_,_,_,_,_,_,_,rfl⟩
theorem znc {B g:Nat}{a w:World}(h:Below B a w)(hg:B≤g)(v0 v1 v2 v3 v4 v5 v6 v7:Value):
  Below B a ((((((((w.setCell ⟨g,0,none⟩ v0).setCell ⟨g,1,none⟩ v1).setCell ⟨g,2,none⟩ v2).setCell ⟨g,3,none⟩ v3).setCell ⟨g,4,none⟩ v4).setCell ⟨g,5,none⟩ v5).setCell ⟨g,6,none⟩ v6).setCell ⟨g,7,none⟩ v7) :=
 (((((((h.setCell hg _).setCell hg _).setCell hg _).setCell hg _).setCell hg _).setCell hg _).setCell hg _).setCell hg _
theorem z13 {w:World}{g:Nat}{t:TypeId}(hg:w.heap[g]?=some (.cells #[Value.int IntKind.u8 0,Value.int IntKind.u8 0,Value.int IntKind.u8 0,Value.int IntKind.u8 0,Value.int IntKind.u8 0,Value.int IntKind.u8 0,Value.int IntKind.u8 0,Value.int IntKind.u8 0] t (0,0))):
  (w.cell? ⟨g,0,none⟩=some (.int .u8 0)∧w.cell? ⟨g,1,none⟩=some (.int .u8 0)∧w.cell? ⟨g,2,none⟩=some (.int .u8 0)∧w.cell? ⟨g,3,none⟩=some (.int .u8 0)∧w.cell? ⟨g,4,none⟩=some (.int .u8 0)∧w.cell? ⟨g,5,none⟩=some (.int .u8 0)∧w.cell? ⟨g,6,none⟩=some (.int .u8 0)∧w.cell? ⟨g,7,none⟩=some (.int .u8 0))∧∀ j,w.frozen? ⟨g,j,none⟩=false:=by
 refine⟨⟨?_,?_,?_,?_,?_,?_,?_,?_⟩,fun j=>frozen_of_row _ _ _ _ _ hg⟩<;>(rw [cell_of_row _ _ _ _ _ _ hg];rfl)
theorem zzf (a b:List UInt8)(w:World)(ha:a.length=8)(hb:b.length=8){xs:Array Value}(hx:hv (xa a b)=xs):
  Calls Tryz.prog 84 #[.slice (some ⟨w.heap.size+1+1+1+1,0,none⟩) 3 3] (((((w.alloc (.cells (hv a) 91)).alloc (.cells (hv b) 91)).alloc (.cells #[Value.int IntKind.u8 0,Value.int IntKind.u8 0,Value.int IntKind.u8 0,Value.int IntKind.u8 0,Value.int IntKind.u8 0,Value.int IntKind.u8 0,Value.int IntKind.u8 0,Value.int IntKind.u8 0] 91)).alloc (.cells #[.int .u8 1] 5)).alloc
   (.cells #[.slice (some ⟨w.heap.size+1+1+1,0,none⟩) 1 1,.slice (some ⟨w.heap.size,0,none⟩) 8 8,.slice (some ⟨w.heap.size+1,0,none⟩) 8 8] 76)).drew
   fun e w'=>e= .returned (.agg xs)∧((w'.cell? ⟨w.heap.size+1+1,0,none⟩=some (.int .u8 0)∧w'.cell? ⟨w.heap.size+1+1,1,none⟩=some (.int .u8 0)∧w'.cell? ⟨w.heap.size+1+1,2,none⟩=some (.int .u8 0)∧w'.cell? ⟨w.heap.size+1+1,3,none⟩=some (.int .u8 0)∧w'.cell? ⟨w.heap.size+1+1,4,none⟩=some (.int .u8 0)∧w'.cell? ⟨w.heap.size+1+1,5,none⟩=some (.int .u8 0)∧w'.cell? ⟨w.heap.size+1+1,6,none⟩=some (.int .u8 0)∧w'.cell? ⟨w.heap.size+1+1,7,none⟩=some (.int .u8 0))∧∀ j,w'.frozen? ⟨w.heap.size+1+1,j,none⟩=false)∧Hid (Below w.heap.size w w'):=by
 refine(zfk _ [[1],a,b] _ (by unfold maxLen;simp) ?_ (by exact zuh w _ a b ha hb)).mono ?_
 ·intro l hl
  simp at hl
  rcases hl with rfl | rfl | rfl<;>simp [maxLen, *]
 rintro r w' ⟨hr,hbe⟩
 refine⟨?_,z13 (t:=91) ?_,?_⟩
 ·rw [hr,← hx];simp [xa]
 ·rw [hbe.block _ (by simp)]
  exact zc (zc (by rw [show w.heap.size+1+1=((w.alloc (.cells (hv a) 91)).alloc (.cells (hv b) 91)).heap.size by simp];exact heap_alloc_last _ _))
 ·refine Below.trans (b:=(((((w.alloc (.cells (hv a) 91)).alloc (.cells (hv b) 91)).alloc (.cells #[Value.int IntKind.u8 0,Value.int IntKind.u8 0,Value.int IntKind.u8 0,Value.int IntKind.u8 0,Value.int IntKind.u8 0,Value.int IntKind.u8 0,Value.int IntKind.u8 0,Value.int IntKind.u8 0] 91)).alloc (.cells #[.int .u8 1] 5)).alloc
   (.cells #[.slice (some ⟨w.heap.size+1+1+1,0,none⟩) 1 1,.slice (some ⟨w.heap.size,0,none⟩) 8 8,.slice (some ⟨w.heap.size+1,0,none⟩) 8 8] 76)).drew) ?_ (hbe.mono (by simp;omega))
  exact((je w _ _ _).trans ((zw _ _ _).mono (by simp;omega))).drew
theorem zaw (a b:List UInt8)(w:World)(ha:a.length=8)(hb:b.length=8):
  Calls Tryz.prog 86 #[.agg (hv a),.agg (hv b)] w fun r w'=>r= .returned (.agg (hv (xa a b)))∧Below w.heap.size w w':=by
 obtain⟨x0,x1,x2,x3,x4,x5,x6,x7,hx⟩:=zkb (xa a b) (qf a b)
 have Hx:=za hx
 have Ha:=za ha
 have Hb:=za hb
 clear ha hb hx
 go_enter Tryz.func86,Tryz.ntmps86
 go_wp2_with fail
 go_region_with (go_at_call 84;(refine(zzf a b w Ha.o Hb.o Hx.o).mono ?_;rintro e w' ⟨rfl,⟨⟨c0,c1,c2,c3,c4,c5,c6,c7⟩,hf⟩,HB⟩))
 go_wp2
 refine bodyPost_ret (v:= .agg #[.int .u8 x0,.int .u8 x1,.int .u8 x2,.int .u8 x3,.int .u8 x4,.int .u8 x5,.int .u8 x6,.int .u8 x7]) (by simp [results,Tryz.results86,go_sem,c0,c1,c2,c3,c4,c5,c6,c7]) rfl ⟨by rw [Hx.o],?_⟩
 exact znc HB.o (by omega) _ _ _ _ _ _ _ _
end
section
set_option maxHeartbeats 4000000
open Go.RowKit
theorem ztw (m:Nat)(h:m≠0)(h':m < 2 ^ 64):Lib.bitLen m=m.log2+1:=by
 have h1:=Nat.log2_self_le h
 have h2:m < 2 ^ (m.log2+1):=Nat.lt_log2_self
 rw [Lib.bitLen_shift m.log2 m h1 h']
 have e:m / 2 ^ m.log2=1:=by
  have hp:0 < 2 ^ m.log2:=Nat.two_pow_pos _
  rw [Nat.pow_succ] at h2
  exact Nat.div_eq_of_lt_le (by omega) (by omega)
 rw [e]
 rfl
theorem z79 (q:Int)(h0:0≤q)(h1:q < 256)(hs:q.toNat < Lib.len8tab.size):((Lib.len8tab[q.toNat]'hs).toNat:Int)=Lib.bitLen q.toNat:=by
 rw [← Lib.len8_of q h0 (by omega)]
 unfold Lib.len8
 rw [getElem?_pos Lib.len8tab q.toNat hs]
 rfl
theorem zee (c:Nat)(q:Int)(x:Nat)(hc:c≤56)(h0:0≤q)(h1:q < 256)(hs:q.toNat < Lib.len8tab.size)(hx:Lib.bitLen x=c+Lib.bitLen q.toNat):
  wrap64 (c+wrap64 ((Lib.len8tab[q.toNat]'hs).toNat:Int))=(Lib.bitLen x:Int):=by
 rw [z79 q h0 h1 hs,hx]
 have:=Lib.bitLen_le8' q h0 (by omega)
 rw [show wrap64 (Lib.bitLen q.toNat:Int)=(Lib.bitLen q.toNat:Int) by unfold wrap64;omega]
 unfold wrap64
 omega
set_option maxRecDepth 100000 in
theorem zxy (x:Int)(w:World)(h0:0≤x)(h1:x≤18446744073709551615):
  Calls Tryz.prog 115 #[.int .u64 x] w fun e w'=>e= .returned (.int .i64 (Lib.bitLen x.toNat))∧w'=w:=by
 have hsz:Lib.len8tab.size=256:=Lib.len8tab_size
 go_enter Tryz.func115,Tryz.ntmps115
 go_wp2
 all_goals go_ret
 all_goals refine⟨congrArg Ending.returned (congrArg (Value.int IntKind.i64) ?_),rfl⟩
 ·exact zee 56 _ _ (by omega) (by omega) (by omega) (by omega) (by rw [Lib.bitLen_shift56 x.toNat (by omega) (by omega)];congr 2;omega)
 ·exact zee 48 _ _ (by omega) (by omega) (by omega) (by omega) (by rw [Lib.bitLen_shift48 x.toNat (by omega) (by omega)];congr 2;omega)
 ·exact zee 40 _ _ (by omega) (by omega) (by omega) (by omega) (by rw [Lib.bitLen_shift40 x.toNat (by omega) (by omega)];congr 2;omega)
 ·exact zee 32 _ _ (by omega) (by omega) (by omega) (by omega) (by rw [Lib.bitLen_shift32 x.toNat (by omega) (by omega)];congr 2;omega)
 ·exact zee 24 _ _ (by omega) (by omega) (by omega) (by omega) (by rw [Lib.bitLen_shift24 x.toNat (by omega) (by omega)];congr 2;omega)
 ·exact zee 16 _ _ (by omega) (by omega) (by omega) (by omega) (by rw [Lib.bitLen_shift16 x.toNat (by omega) (by omega)];congr 2;omega)
 ·exact zee 8 _ _ (by omega) (by omega) (by omega) (by omega) (by rw [Lib.bitLen_shift8 x.toNat (by omega) (by omega)];congr 2;omega)
 ·have:=zee 0 x x.toNat (by omega) (by omega) (by omega) (by omega) (by simp)
  simpa using this
theorem z6m (x:Int)(w:World)(h0:0≤x)(h1:x≤18446744073709551615):
  Calls Tryz.prog 66 #[.int .u64 x] w fun e w'=>e= .returned (.int .i64 (Lib.bitLen x.toNat))∧w'=w:=by
 go_enter Tryz.func66,Tryz.ntmps66
 go_wp2_with fail
 refine(zxy x w h0 h1).mono ?_
 rintro e w' ⟨rfl,rfl⟩
 go_wp2_with fail
 go_ret
 exact⟨rfl,rfl⟩
theorem zdj (n:Nat)(w:World)(h0:2≤n)(h1:n≤9223372036854775807):
  Calls Tryz.prog 85 #[.int .i64 n] w fun e w'=>e= .returned (.int .i64 (kOf n))∧w'=w:=by
 go_enter Tryz.func85,Tryz.ntmps85
 go_wp2_with fail
 refine(z6m ((n:Int) - 1) w (by omega) (by omega)).mono ?_
 rintro e w' ⟨hr,rfl⟩
 have hj:Lib.bitLen ((n:Int) - 1).toNat=(n - 1).log2+1:=by
  rw [show((n:Int) - 1).toNat=n - 1 by omega]
  exact ztw _ (by omega) (by omega)
 have hj62:(n - 1).log2≤62:=by
  have:=(Nat.log2_lt (n:=n - 1) (k:=63) (by omega)).2 (by omega)
  omega
 rw [hj] at hr
 subst hr
 have Hk:Hid (kOf n=2 ^ (n - 1).log2):=rfl
 clear hj
 generalize (n - 1).log2=j at *
 go_wp2_with fail
 go_ret
 refine⟨congrArg Ending.returned (congrArg (Value.int IntKind.i64) ?_),rfl⟩
 have h2:2 ^ j≤2 ^ 62:=Nat.pow_le_pow_right (by omega) hj62
 have h3:((2:Int) ^ j)=((2 ^ j:Nat):Int):=by simp
 rw [Hk.o]
 show wrap64 ((2:Int) ^ j)=_
 rw [h3]
 generalize 2 ^ j=p at *
 unfold wrap64
 omega
end
end Go.Proofs.YtinhekmmdlhfkaaGreatDoor
