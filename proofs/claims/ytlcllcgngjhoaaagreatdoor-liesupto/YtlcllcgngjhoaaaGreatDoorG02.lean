import Derived.Test.YtlcllcgngjhoaaaGreatDoorG01
import Derived.Lib.Strings
import Derived.Lib.Slices
import Derived.Lib.Small
import Derived.Lib.Walk
import Derived.Lib.BitFns
set_option maxHeartbeats 8000000
set_option maxRecDepth 100000
set_option linter.all false
namespace Go.Proofs.YtlcllcgngjhoaaaGreatDoor
open Go.RowKit Go.Proofs.Tryz
def zg:=@heap_alloc_last
def z8:=@bodyPost_ret
def yk:=@beq_eq_false_iff_ne
def yq:=@cell_of_row
def xe:=@wpList_store_row
def xo:=@rounds_succ
def qf:=@List.take_succ_eq_append_getElem
def qh:=@List.mem_of_mem_take
def ja:=@List.take_of_length_le
def js:=@Nat.pow_le_pow_right
def zab:=@List.length_singleton
def za0:=@setRow_heap
def za2:=@below_setRow
def zbs:=@results_cell_row
def zb5:=@List.mem_of_mem_drop
def zd8:=@wp_loop_rounds
def zfz:=@List.flatten_append
def zqj:=@heap_setCell_same
def z9x:=@Below.trans
variable {O O' O1:Nat→Prop}{T:List Nat}{b:Nat}{d d':Dk}{fv:Value}{t:TypeId}{w w':World}
def qo (l:zc):Value:= .string ⟨l.toArray⟩
def jk (fs:Fs):List Value:=fs.flatMap fun f=>[qo f.1,qo f.2]
def zit (a:Value)(d:Dk):Array Value:=#[a,.int .i64 d.calls,.int .i64 d.failAt,.bool d.dead,.bool d.once,.bool d.half,.bool d.hit,.bool d.turned]
def yw (w:World)(O:Nat→Prop)(b:Nat)(d:Dk):Prop :=
 ∃ a,O b∧w.heap[b]?=some (.cells (zit a d) 82 (0,0))∧w.ownsRow 0 99 2 a d.fs.length (jk d.fs)∧∀ g,a.ownBlock=some g→O g
def zdp (b:Nat):Value:= .pointer (some ⟨b,0,none⟩)
abbrev dT1:List Nat:=[82]
abbrev dT:List Nat:=[82,99]
theorem zw {a:Array Value}(h:w.heap[b]?=some (.cells a t (0,0))):∀ i v,a[i]?=some v→w.cell? ⟨b,i,none⟩=some v∧w.frozen? ⟨b,i,none⟩=false:=by
 intro i v hv;refine⟨by rw [yq _ _ _ _ _ _ h];exact hv,by simp [World.frozen?,h]⟩
theorem zav {a:Array Value}(h:w.heap[b]?=some (.cells a t (0,0)))(i:Nat)(v:Value):(w.setCell ⟨b,i,none⟩ v).heap[b]?=some (.cells (a.setIfInBounds i v) t (0,0)):=zqj w b i a t v h
theorem zlg (h:w.heap[b]?=some (.cells (zit fv d) 82 (0,0))):(w.cell? ⟨b,0,none⟩=some fv∧w.frozen? ⟨b,0,none⟩=false)∧(w.cell? ⟨b,1,none⟩=some (.int .i64 d.calls)∧w.frozen? ⟨b,1,none⟩=false)∧(w.cell? ⟨b,2,none⟩=some (.int .i64 d.failAt)∧w.frozen? ⟨b,2,none⟩=false)∧(w.cell? ⟨b,3,none⟩=some (.bool d.dead)∧w.frozen? ⟨b,3,none⟩=false)∧(w.cell? ⟨b,4,none⟩=some (.bool d.once)∧w.frozen? ⟨b,4,none⟩=false)∧(w.cell? ⟨b,5,none⟩=some (.bool d.half)∧w.frozen? ⟨b,5,none⟩=false)∧(w.cell? ⟨b,6,none⟩=some (.bool d.hit)∧w.frozen? ⟨b,6,none⟩=false)∧(w.cell? ⟨b,7,none⟩=some (.bool d.turned)∧w.frozen? ⟨b,7,none⟩=false) :=
 ⟨zw h 0 _ rfl,zw h 1 _ rfl,zw h 2 _ rfl,zw h 3 _ rfl,zw h 4 _ rfl,zw h 5 _ rfl,zw h 6 _ rfl,zw h 7 _ rfl⟩
theorem yw.turn (c:∀ k,O k→O' k)(h:O b)(i:w.ownsRow 0 99 2 fv d.fs.length (jk d.fs))(j:∀ g,fv.ownBlock=some g→O g)
 (l:zq O dT1 w w') (e:w'.heap[b]?=some (.cells (zit fv d') 82 (0,0))) (f:d'.fs=d.fs):yw w' O' b d' :=
 ⟨fv,c b h,e,by rw [f];exact zo i l (by decide),fun g a=>c g (j g a)⟩
theorem yw.stay (h:yw w O b d)(c:zq O1 T w w')(f:82∉T)(g:99∉T):yw w' O b d:=by
 obtain⟨e,a,i,j,k⟩:=h;exact⟨e,a,c.keep i f,zo j c g,k⟩
theorem yw.out (h:yw w O b d)(i:zq O1 T w w')(e:∀ k,O k→¬ O1 k):yw w' O b d:=by
 obtain⟨j,a,l,m,f⟩:=h;exact⟨j,a,i.stay l (e b a),zdq m i (fun g c=>e g (f g c)),f⟩
theorem yw.mono (h:yw w O b d)(c:∀ k,O k→O' k):yw w O' b d:=by
 obtain⟨f,a,i,j,l⟩:=h;exact⟨f,c b a,i,j,fun g e=>c g (l g e)⟩
theorem yhz (O:Nat→Prop)(b:Nat)(d:Dk)(w:World)(h:yw w O b d):
  Calls prog 33 #[zdp b] w fun r k=>r= .returned (.tuple #[])∧zq O dT1 w k∧yw k O b { d with failAt:=0,dead:=false,hit:=false }:=by
 obtain⟨z,a,c,i,j⟩:=h;obtain⟨⟨p,f0⟩,⟨q,f1⟩,⟨s,f2⟩,⟨t,f3⟩,⟨u,f4⟩,⟨v,f5⟩,⟨x,f6⟩,⟨y,f7⟩⟩:=zlg c;have e:=zf c;have l:=zf i;have m:=zf j;clear c i j;unfold zdp;go_enter func33,ntmps33;go_wp2_with fail
 go_end0
 have t1:=(zq.refl O dT1 w).set (o:=2) (.inl a) e.o (by decide) (.int .i64 0);have f:=zav e.o 2 (.int .i64 0);have t2:=t1.set (o:=3) (.inl a) f (by decide) (.bool false);have g:=zav f 3 (.bool false);have t3:=t2.set (o:=6) (.inl a) g (by decide) (.bool false);have n:=zav g 6 (.bool false);exact⟨rfl,t3,yw.turn (d:=d) (fun _ h=>h) a l.o m.o t3 n rfl⟩
theorem ylb (O:Nat→Prop)(b:Nat)(d:Dk)(w:World)(h:yw w O b d):
  Calls prog 38 #[zdp b] w fun r f=>r= .returned (.bool d.hit)∧f=w:=by
 obtain⟨p,q,a,c,e⟩:=h;obtain⟨⟨g,f0⟩,⟨i,f1⟩,⟨j,f2⟩,⟨k,f3⟩,⟨l,f4⟩,⟨m,f5⟩,⟨n,f6⟩,⟨o,f7⟩⟩:=zlg a;clear a c e;unfold zdp;go_enter func38,ntmps38;go_wp2_with fail;go_ret;exact⟨rfl,rfl⟩
theorem zsx (O:Nat→Prop)(b:Nat)(d:Dk)(w:World)(h:yw w O b d):
  Calls prog 275 #[zdp b] w fun r E=>r= .returned (.int .i64 (zag d))∧zq O dT1 w E∧yw E O b (jb d):=by
 obtain⟨F,g,s,B,C⟩:=h;obtain⟨⟨I,f0⟩,⟨J,f1⟩,⟨K,f2⟩,⟨y,f3⟩,⟨L,f4⟩,⟨z,f5⟩,⟨M,f6⟩,⟨N,f7⟩⟩:=zlg s;have m:=zf B;have p:=zf C;unfold zdp;obtain⟨c,G⟩:∃ c,wrap64 (d.calls+1)=c:=⟨_,rfl⟩;have u:Hid (zzi d=c):=G;have t1:=zf ((zq.refl O dT1 w).set (o:=1) (.inl g) s (by decide) (.int .i64 c));have A:=zf (zav s 1 (.int .i64 c));clear s B C;cases i:d.dead with
 | true =>
  rw [i] at y;have a:Hid (zag d=2∧jb d={ d with calls:=c }):=by unfold zag jb;rw [i,u.o];exact⟨rfl,rfl⟩
  clear i;go_enter func275,ntmps275;go_wp2_with fail;go_ret;refine⟨by rw [a.o.1];rfl,t1.out,?_⟩;rw [a.o.2];exact yw.turn (d:=d) (fun _ h=>h) g m.o p.o t1.out A.out rfl
 | false =>
  rw [i] at y;have j:∀ n,Hid (((w.setCell ⟨b,1,none⟩ (.int .i64 c)).drewN n).heap[b]?=some (.cells ((zit F d).setIfInBounds 1 (.int .i64 c)) 82 (0,0))):=fun _=>A.out
  by_cases f:0 < d.failAt∧c=d.failAt
  ·have a:Hid (zag d=(if d.half then 1 else 2)∧jb d={ d with calls:=c,dead:=!d.once,hit:=true }):=by
    unfold zag jb;rw [i,u.o];simp only [zas,zd3,if_pos f];exact⟨trivial,trivial⟩
   obtain⟨x,D⟩:=f;have H:(c==d.failAt)=true:=by simp [D]
   clear i D;cases k:d.half with
   | true =>
    rw [k] at z a;have t:=zf k;clear k;go_enter func275,ntmps275;go_wp2_with fail
    go_quiet (fail)
    go_wp2_with fail;go_ret;have t2:=(t1.out.drewN nq).set (o:=3) (.inl g) (j nq).out (by decide) (.bool !d.once);have q:=zav (j nq).out 3 (.bool !d.once);have t3:=t2.set (o:=6) (.inl g) q (by decide) (.bool true);have v:=zav q 6 (.bool true);refine⟨by rw [a.o.1];rfl,t3,?_⟩;rw [a.o.2];refine yw.turn (d:=d) (fun _ h=>h) g m.o p.o t3 ?_ rfl;rw [v];simp only [zit,t.o]
    rfl
   | false =>
    rw [k] at z a;have t:=zf k;clear k;go_enter func275,ntmps275;go_wp2_with fail
    go_quiet (fail)
    go_wp2_with fail;go_ret;have t2:=(t1.out.drewN nq).set (o:=3) (.inl g) (j nq).out (by decide) (.bool !d.once);have q:=zav (j nq).out 3 (.bool !d.once);have t3:=t2.set (o:=6) (.inl g) q (by decide) (.bool true);have v:=zav q 6 (.bool true);refine⟨by rw [a.o.1];rfl,t3,?_⟩;rw [a.o.2];refine yw.turn (d:=d) (fun _ h=>h) g m.o p.o t3 ?_ rfl;rw [v];simp only [zit,t.o]
    rfl
  ·have a:Hid (zag d=0∧jb d={ d with calls:=c }):=by
    unfold zag jb;rw [i,u.o];simp only [zas,zd3,if_neg f];exact⟨trivial,trivial⟩
   have l:=zf i;clear i
   by_cases x:0 < d.failAt
   ·have H:(c==d.failAt)=false:=by
     rw [yk];exact fun e=>f ⟨x,e⟩
    clear f;go_enter func275,ntmps275;go_wp2_with fail
    go_quiet (fail)
    go_wp2_with fail;go_ret;refine⟨by rw [a.o.1];rfl,t1.out.drewN nq,?_⟩;rw [a.o.2];refine yw.turn (d:=d) (fun _ h=>h) g m.o p.o (t1.out.drewN nq) ?_ rfl;rw [(j nq).out];simp only [zit,l.o]
    rfl
   ·have P:decide (0 < d.failAt)=false:=by simp;omega
    clear f x;go_enter func275,ntmps275;go_wp2_with fail
    go_quiet (fail)
    go_wp2_with fail;go_ret;refine⟨by rw [a.o.1];rfl,t1.out.drewN nq,?_⟩;rw [a.o.2];refine yw.turn (d:=d) (fun _ h=>h) g m.o p.o (t1.out.drewN nq) ?_ rfl;rw [(j nq).out];simp only [zit,l.o]
    rfl
theorem yl8 {k:IntKind}{a b:Int}(h:a=b):Ending.returned (.int k a)= .returned (.int k b):=by rw [h]
theorem z3c (n:Int)(l:zc)(k:Nat)(h:k < l.length):fnv n (l.take (k+1))=st (fnv n (l.take k)) l[k].toNat:=by
 rw [qf h,ygy]
theorem yjs (n:Int)(v:Value)(l:zc)(w:World)(d:l.length≤maxLen)(h0:0≤n)(s:n≤18446744073709551615)(hv:Bs w v l):
  Calls prog 142 #[.int .u64 n,v] w fun e u=>e= .returned (.int .u64 (fnv n l))∧u=w:=by
 unfold maxLen at d;obtain⟨a,r,rfl,hv⟩:=hv;have g:l.length=0∨∃ b c,a=some ⟨b,c,none⟩∧∀ i (h:i < l.length),w.cell? ⟨b,c+i,none⟩=some (bv l[i]):=by
  rcases hv with h | h
  ·exact .inl (by simp [h])
  ·exact .inr h
 clear hv;have j:=zf g;clear g;go_enter func142,ntmps142
 go_wp2
 go_loop [0,9] (fun t i=>∃ k:Nat,k≤l.length∧i= .int .i64 k∧t= .int .u64 (fnv n (l.take k))) (fun _ i=>l.length - (intOf i).toNat)
 case atStart=>exact⟨0,yv _,rfl,rfl⟩
 case round =>
  obtain⟨k,y,rfl,rfl⟩:=hrel;obtain⟨B,C⟩:=zsz n (l.take k) h0 s
  by_cases f:k < l.length
  ·rcases j.o with h | ⟨b,c,rfl,p⟩
   ·omega
   ·have A:w.cell? ⟨b,c+k,none⟩=some (.int .u8 (l[k].toNat)):=p k f;have x:(l[k].toNat:Int)≤255:=by have:=l[k].toNat_lt;omega
    have q:=zf (z3c n l k f);clear p j;generalize l[k].toNat=z at *;generalize fnv n (l.take k)=m at *
    go_wp2
    go_round
    case rel=>exact⟨k+1,by omega,by go_num,by rw [q.o];rfl⟩
    case measure=>simp [intOf];omega
  ·clear j
   go_wp2
   go_ret;exact⟨yl8 (by rw [ja (by omega)]),rfl⟩
theorem yg5 (n:Int)(w:World)(h0:0≤n)(b:n≤18446744073709551615):
  Calls prog 115 #[.int .u64 n] w fun e c=>e= .returned (.agg (hv (zta n)))∧Below w.heap.size w c:=by
 have a:=zf (yaj n h0 b);go_enter func115,ntmps115
 go_wp2
 refine zd8 9 ?_;rw [xo]
 go_wp2
 rw [xo]
 go_wp2
 rw [xo]
 go_wp2
 rw [xo]
 go_wp2
 rw [xo]
 go_wp2
 rw [xo]
 go_wp2
 rw [xo]
 go_wp2
 rw [xo]
 go_wp2
 rw [xo]
 go_wp2
 refine z8 (v:= .agg #[.int .u8 (n / 72057594037927936),.int .u8 (n / 281474976710656 % 256),.int .u8 (n / 1099511627776 % 256),.int .u8 (n / 4294967296 % 256),.int .u8 (n / 16777216 % 256),.int .u8 (n / 65536 % 256),.int .u8 (n / 256 % 256),.int .u8 (n % 256)]) (by simp [results,results115,go_sem]) rfl ⟨by rw [a.o],((yf _ _).alloc (zm _) _).alloc (by simp) _⟩
theorem ygx (n:Int)(a:za)(k:Nat)(h:k < a.length):fnv n (a.take (k+1)).flatten=fnv (fnv n (a.take k).flatten) a[k]:=by
 rw [qf h,zfz,zv2];simp
theorem zm6 (v:Value)(c:za)(w:World)(r:c.length≤maxLen)(H:∀ l∈c,l.length≤maxLen)(s:Bss w v c):
  Calls prog 101 #[v] w fun e y=>e= .returned (.agg (hv (hash c.flatten)))∧Below w.heap.size w y:=by
 unfold maxLen at r;have P:=zf s;have M:=zf H;clear H;obtain⟨a,N,rfl,F,f⟩:=s;have u:c.length=0∨∃ b d,a=some ⟨b,d,none⟩∧∀ i (h:i < c.length),∃ x,w.cell? ⟨b,d+i,none⟩=some x∧Bs w x c[i]:=by
  rcases f with h | h
  ·exact .inl (by simp [h])
  ·exact .inr h
 have C:=zf u;clear f u;go_enter func101,ntmps101
 go_wp2
 go_loop [3,8] (fun t i=>∃ k:Nat,k≤c.length∧i= .int .i64 k∧t= .int .u64 (fnv zdb (c.take k).flatten)) (fun _ i=>c.length - (intOf i).toNat)
 case atStart=>exact⟨0,yv _,rfl,rfl⟩
 case round =>
  obtain⟨k,Q,rfl,rfl⟩:=hrel;obtain⟨I,J⟩:=zsz zdb (c.take k).flatten zh4.1 zh4.2
  by_cases g:k < c.length
  ·rcases C.o with h | ⟨b,d,rfl,E⟩
   ·omega
   ·obtain⟨x,A,j⟩:=E k g;have R:∀ o,(w.alloc o).cell? ⟨b,d+k,none⟩=some x:=fun o=>by rw [((yf _ _).alloc (zm _) o:Below w.heap.size w (w.alloc o)).cell (yg (p:=⟨b,d+k,none⟩) A)];exact A
    have n:Hid (∀ o,Bs (w.alloc o) x c[k]):=fun o=>j.below ((yf _ _).alloc (zm _) o);have K:=zf (ygx zdb c k g);have z:=zf (M.o c[k] (yd g));clear E C j A;generalize c[k]=O at *;generalize fnv zdb (c.take k).flatten=m at *;go_wp2_with fail;refine(yjs m x O _ z.o I J (n.out _)).mono ?_;rintro e y ⟨rfl,rfl⟩;go_wp2_with fail
    go_round
    case rel=>exact⟨k+1,by omega,by go_num,by rw [K.o]⟩
    case measure=>simp [intOf];omega
  ·have q:c.take k=c:=ja (by omega);have L:=zf q;clear q;go_wp2_with fail;refine(yg5 _ _ I J).mono ?_;rintro e y ⟨rfl,D⟩;have G:y.heap[w.heap.size]?=some (.cells #[Value.int IntKind.u8 0,Value.int IntKind.u8 0,Value.int IntKind.u8 0,Value.int IntKind.u8 0,Value.int IntKind.u8 0,Value.int IntKind.u8 0,Value.int IntKind.u8 0,Value.int IntKind.u8 0] 110 (0,0)):=by
    rw [D.block _ (by simp)];exact zg _ _
   have B:=zf G;clear G;go_wp2_with (refine xe rfl 110 _ _ rfl w.heap.size (hv (zta (fnv zdb (List.take k c).flatten))) rfl rfl 110 _ B.o (by kernel_rfl) rfl (zcz _) ?_);refine z8 (v:= .agg (hv (zta (fnv zdb (List.take k c).flatten)))) (zbs results101 _ _ w.heap.size 110 _ (0,0) _ rfl (za0 _ _ _ _ _ _ B.o) underlying110 rfl (by kernel_rfl)) rfl ⟨?_,?_⟩
   ·rw [L.o];rfl
   ·exact za2 (((yf _ _).alloc (zm _) _).trans (D.mono (by simp))) (zm _) _
theorem zh2 (w:World)(c:Array Value)(t:TypeId)(i n:Nat)(a:n=w.heap.size):(w.alloc (.cells c t)).cell? ⟨n,i,none⟩=c[i]?:=by
 subst a;rw [yq _ _ _ c t (0,0) (zg _ _)]
theorem yp (w:World)(o:Obj)(p:Addr)(h:p.block < w.heap.size):(w.alloc o).cell? p=w.cell? p :=
 ((yf _ _).alloc (zm _) o:Below w.heap.size w (w.alloc o)).cell h
theorem zxn (w:World)(o:Obj):(w.alloc o).heap.size=w.heap.size+1:=by simp
theorem zk (w:World)(o:Obj):Below w.heap.size w (w.alloc o):=(yf _ _).alloc (zm _) o
theorem xu (w:World)(o p:Obj):Below w.heap.size w ((w.alloc o).alloc p):=(zk w o).trans ((zk _ p).mono (by simp))
theorem zca (w:World)(o p q:Obj):Below w.heap.size w (((w.alloc o).alloc p).alloc q):=(xu w o p).trans ((zk _ q).mono (by simp;omega))
theorem Bs.fresh (w:World)(l:zc)(t:TypeId)(n:Nat)(b:n=w.heap.size)(a:Nat):Bs (w.alloc (.cells (hv l) t)) (.slice (some ⟨n,0,none⟩) l.length a) l :=
 ⟨_,_,rfl,.inr ⟨_,_,rfl,fun i h=>by rw [zh2 _ _ _ _ _ b];simp [hv,h]⟩⟩
theorem z7j (w:World)(o:Obj)(v:Value)(e:zc)(h:Bs w v e):
  Bss (((w.alloc o).alloc (.cells #[.int .u8 0] 5)).alloc (.cells #[.slice (some ⟨w.heap.size+1,0,none⟩) 1 1,v] 114)) (.slice (some ⟨w.heap.size+1+1,0,none⟩) 2 2) [[0],e]:=by
 refine⟨_,_,rfl,zm _,.inr ⟨_,_,rfl,fun i a=>?_⟩⟩
 match i,a with
 | 0,_ =>
  refine⟨.slice (some ⟨w.heap.size+1,0,none⟩) 1 1,by rw [zh2 _ _ _ _ _ (by simp)];rfl,?_⟩;exact(Bs.fresh (w.alloc o) [0] _ _ (by simp) 1).below (zk _ _)
 | 1,_ =>
  refine⟨v,by rw [zh2 _ _ _ _ _ (by simp)];rfl,?_⟩;exact h.below (zca _ _ _ _)
theorem z3t (v:Value)(e:zc)(w:World)(b:e.length≤maxLen)(h:Bs w v e):
  Calls prog 102 #[v] w fun r d=>r= .returned (.agg (hv (zae e)))∧Below w.heap.size w d:=by
 have H:=zf h;have c:=zf b;clear b;obtain⟨a,m,rfl,n⟩:=h;clear n;go_enter func102,ntmps102;go_wp2_with fail;refine(zm6 _ [[0],e] _ (by unfold maxLen;simp) (fun l j=>by simp at j;rcases j with rfl | rfl;(simp [maxLen]);exact c.o) (z7j w _ _ e H.o)).mono ?_;rintro r d ⟨k,g⟩;rw [show hash [[0],e].flatten=zae e by simp [zae]] at k;subst k;have i:d.heap[w.heap.size]?=some (.cells #[Value.int IntKind.u8 0,Value.int IntKind.u8 0,Value.int IntKind.u8 0,Value.int IntKind.u8 0,Value.int IntKind.u8 0,Value.int IntKind.u8 0,Value.int IntKind.u8 0,Value.int IntKind.u8 0] 110 (0,0)):=by
  rw [g.block _ (by simp;omega)];exact zj (zj (zg _ _))
 have f:=zf i;clear i;go_wp2_with (refine xe rfl 110 _ _ rfl w.heap.size (hv (zae e)) rfl rfl 110 _ f.o (by kernel_rfl) rfl (zcz _) ?_);refine z8 (v:= .agg (hv (zae e))) (zbs results102 _ _ w.heap.size 110 _ (0,0) _ rfl (za0 _ _ _ _ _ _ f.o) underlying110 rfl (by kernel_rfl)) rfl ⟨?_,?_⟩
 ·rfl
 ·exact za2 ((zca _ _ _ _).trans (g.mono (by simp;omega))) (zm _) _
variable {B g:Nat}{a:World}
theorem z7w (w:World)(O:Obj)(a b:zc)(c:a.length=8)(d:b.length=8):
  Bss (((((w.alloc (.cells (hv a) 110)).alloc (.cells (hv b) 110)).alloc O).alloc (.cells #[.int .u8 1] 5)).alloc
   (.cells #[.slice (some ⟨w.heap.size+1+1+1,0,none⟩) 1 1,.slice (some ⟨w.heap.size,0,none⟩) 8 8,.slice (some ⟨w.heap.size+1,0,none⟩) 8 8] 114)) (.slice (some ⟨w.heap.size+1+1+1+1,0,none⟩) 3 3) [[1],a,b]:=by
 refine⟨_,_,rfl,zm _,.inr ⟨_,_,rfl,fun i e=>?_⟩⟩
 match i,e with
 | 0,_ =>
  refine⟨.slice (some ⟨w.heap.size+1+1+1,0,none⟩) 1 1,by rw [zh2 _ _ _ _ _ (by simp)];rfl,?_⟩;exact(Bs.fresh _ [1] _ _ (by simp) 1).below (zk _ _)
 | 1,_ =>
  refine⟨.slice (some ⟨w.heap.size,0,none⟩) 8 8,by rw [zh2 _ _ _ _ _ (by simp)];rfl,?_⟩;have h:=(Bs.fresh w a 110 _ rfl 8);rw [c] at h;exact(h.below (zca _ _ _ _)).below (zk _ _)
 | 2,_ =>
  refine⟨.slice (some ⟨w.heap.size+1,0,none⟩) 8 8,by rw [zh2 _ _ _ _ _ (by simp)];rfl,?_⟩;have h:=(Bs.fresh (w.alloc (.cells (hv a) 110)) b 110 (w.heap.size+1) (by simp) 8);rw [d] at h;exact h.below (zca _ _ _ _)
theorem zsp (l:zc)(h:l.length=8):∃ a b c d e f g i:Int,hv l=#[.int .u8 a,.int .u8 b,.int .u8 c,.int .u8 d,.int .u8 e,.int .u8 f,.int .u8 g,.int .u8 i]:=by
 obtain⟨j,k,m,n,o,p,q,r,rfl⟩:=hv8 l h;exact⟨_,_,_,_,_,_,_,_,rfl⟩
theorem zvi (h:Below B a w)(b:B≤g)(c d e f i j k l:Value):
  Below B a ((((((((w.setCell ⟨g,0,none⟩ c).setCell ⟨g,1,none⟩ d).setCell ⟨g,2,none⟩ e).setCell ⟨g,3,none⟩ f).setCell ⟨g,4,none⟩ i).setCell ⟨g,5,none⟩ j).setCell ⟨g,6,none⟩ k).setCell ⟨g,7,none⟩ l) :=
 (((((((h.setCell b _).setCell b _).setCell b _).setCell b _).setCell b _).setCell b _).setCell b _).setCell b _
theorem yj5 (a:w.heap[g]?=some (.cells #[Value.int IntKind.u8 0,Value.int IntKind.u8 0,Value.int IntKind.u8 0,Value.int IntKind.u8 0,Value.int IntKind.u8 0,Value.int IntKind.u8 0,Value.int IntKind.u8 0,Value.int IntKind.u8 0] t (0,0))):
  (w.cell? ⟨g,0,none⟩=some (.int .u8 0)∧w.cell? ⟨g,1,none⟩=some (.int .u8 0)∧w.cell? ⟨g,2,none⟩=some (.int .u8 0)∧w.cell? ⟨g,3,none⟩=some (.int .u8 0)∧w.cell? ⟨g,4,none⟩=some (.int .u8 0)∧w.cell? ⟨g,5,none⟩=some (.int .u8 0)∧w.cell? ⟨g,6,none⟩=some (.int .u8 0)∧w.cell? ⟨g,7,none⟩=some (.int .u8 0))∧∀ j,w.frozen? ⟨g,j,none⟩=false:=by
 refine⟨⟨?_,?_,?_,?_,?_,?_,?_,?_⟩,fun j=>frozen_of_row _ _ _ _ _ a⟩<;>(rw [yq _ _ _ _ _ _ a];rfl)
theorem yc7 (a b:zc)(w:World)(h:a.length=8)(i:b.length=8){g:Array Value}(m:hv (jx a b)=g):
  Calls prog 101 #[.slice (some ⟨w.heap.size+1+1+1+1,0,none⟩) 3 3] (((((w.alloc (.cells (hv a) 110)).alloc (.cells (hv b) 110)).alloc (.cells #[Value.int IntKind.u8 0,Value.int IntKind.u8 0,Value.int IntKind.u8 0,Value.int IntKind.u8 0,Value.int IntKind.u8 0,Value.int IntKind.u8 0,Value.int IntKind.u8 0,Value.int IntKind.u8 0] 110)).alloc (.cells #[.int .u8 1] 5)).alloc
   (.cells #[.slice (some ⟨w.heap.size+1+1+1,0,none⟩) 1 1,.slice (some ⟨w.heap.size,0,none⟩) 8 8,.slice (some ⟨w.heap.size+1,0,none⟩) 8 8] 114)).drew
   fun e c=>e= .returned (.agg g)∧((c.cell? ⟨w.heap.size+1+1,0,none⟩=some (.int .u8 0)∧c.cell? ⟨w.heap.size+1+1,1,none⟩=some (.int .u8 0)∧c.cell? ⟨w.heap.size+1+1,2,none⟩=some (.int .u8 0)∧c.cell? ⟨w.heap.size+1+1,3,none⟩=some (.int .u8 0)∧c.cell? ⟨w.heap.size+1+1,4,none⟩=some (.int .u8 0)∧c.cell? ⟨w.heap.size+1+1,5,none⟩=some (.int .u8 0)∧c.cell? ⟨w.heap.size+1+1,6,none⟩=some (.int .u8 0)∧c.cell? ⟨w.heap.size+1+1,7,none⟩=some (.int .u8 0))∧∀ j,c.frozen? ⟨w.heap.size+1+1,j,none⟩=false)∧Hid (Below w.heap.size w c):=by
 refine(zm6 _ [[1],a,b] _ (by unfold maxLen;simp) ?_ (by exact z7w w _ a b h i)).mono ?_
 ·intro l f;simp at f;rcases f with rfl | rfl | rfl<;>simp [maxLen, *]
 rintro r c ⟨k,d⟩;refine⟨?_,yj5 (t:=110) ?_,?_⟩
 ·rw [k,← m];simp [jx]
 ·rw [d.block _ (by simp)];exact zj (zj (by rw [show w.heap.size+1+1=((w.alloc (.cells (hv a) 110)).alloc (.cells (hv b) 110)).heap.size by simp];exact zg _ _))
 ·refine z9x (b:=(((((w.alloc (.cells (hv a) 110)).alloc (.cells (hv b) 110)).alloc (.cells #[Value.int IntKind.u8 0,Value.int IntKind.u8 0,Value.int IntKind.u8 0,Value.int IntKind.u8 0,Value.int IntKind.u8 0,Value.int IntKind.u8 0,Value.int IntKind.u8 0,Value.int IntKind.u8 0] 110)).alloc (.cells #[.int .u8 1] 5)).alloc
   (.cells #[.slice (some ⟨w.heap.size+1+1+1,0,none⟩) 1 1,.slice (some ⟨w.heap.size,0,none⟩) 8 8,.slice (some ⟨w.heap.size+1,0,none⟩) 8 8] 114)).drew) ?_ (d.mono (by simp;omega))
  exact((zca w _ _ _).trans ((xu _ _ _).mono (by simp;omega))).drew
theorem zgd (a b:zc)(w:World)(d:a.length=8)(f:b.length=8):
  Calls prog 104 #[.agg (hv a),.agg (hv b)] w fun r h=>r= .returned (.agg (hv (jx a b)))∧Below w.heap.size w h:=by
 obtain⟨x,y,z,A,B,C,D,E,g⟩:=zsp (jx a b) (vb a b);have c:=zf g;have j:=zf d;have k:=zf f;clear d f g;go_enter func104,ntmps104;go_wp2_with fail
 go_region_with (go_at_call 101;(refine(yc7 a b w j.o k.o c.o).mono ?_;rintro e h ⟨rfl,⟨⟨l,m,n,p,q,s,t,u⟩,F⟩,i⟩))
 go_wp2
 refine z8 (v:= .agg #[.int .u8 x,.int .u8 y,.int .u8 z,.int .u8 A,.int .u8 B,.int .u8 C,.int .u8 D,.int .u8 E]) (by simp [results,results104,go_sem,l,m,n,p,q,s,t,u]) rfl ⟨by rw [c.o],?_⟩;exact zvi i.o (by omega) _ _ _ _ _ _ _ _
theorem z6t (m:Nat)(h:m≠0)(a:m < 2 ^ 64):Lib.bitLen m=m.log2+1:=by
 have b:=Nat.log2_self_le h;have c:m < 2 ^ (m.log2+1):=Nat.lt_log2_self;rw [Lib.bitLen_shift m.log2 m b a];have e:m / 2 ^ m.log2=1:=by
  have d:0 < 2 ^ m.log2:=Nat.two_pow_pos _;rw [qy] at c;exact Nat.div_eq_of_lt_le (by omega) (by omega)
 rw [e]
 rfl
theorem ynq (q:Int)(h0:0≤q)(b:q < 256)(a:q.toNat < Lib.len8tab.size):((Lib.len8tab[q.toNat]'a).toNat:Int)=Lib.bitLen q.toNat:=by
 rw [← Lib.len8_of q h0 (by omega)];unfold Lib.len8;rw [getElem?_pos Lib.len8tab q.toNat a]
 rfl
theorem zlv (c:Nat)(q:Int)(x:Nat)(e:c≤56)(h0:0≤q)(b:q < 256)(a:q.toNat < Lib.len8tab.size)(d:Lib.bitLen x=c+Lib.bitLen q.toNat):
  wrap64 (c+wrap64 ((Lib.len8tab[q.toNat]'a).toNat:Int))=(Lib.bitLen x:Int):=by
 rw [ynq q h0 b a,d];have:=Lib.bitLen_le8' q h0 (by omega);rw [show wrap64 (Lib.bitLen q.toNat:Int)=(Lib.bitLen q.toNat:Int) by unfold wrap64;omega];unfold wrap64;omega
theorem ycp (x:Int)(w:World)(h0:0≤x)(c:x≤18446744073709551615):
  Calls prog 152 #[.int .u64 x] w fun e b=>e= .returned (.int .i64 (Lib.bitLen x.toNat))∧b=w:=by
 have a:Lib.len8tab.size=256:=Lib.len8tab_size;go_enter func152,ntmps152
 go_wp2
 all_goals go_ret
 all_goals refine⟨congrArg Ending.returned (congrArg (Value.int IntKind.i64) ?_),rfl⟩
 ·exact zlv 56 _ _ (by omega) (by omega) (by omega) (by omega) (by rw [Lib.bitLen_shift56 x.toNat (by omega) (by omega)];congr 2;omega)
 ·exact zlv 48 _ _ (by omega) (by omega) (by omega) (by omega) (by rw [Lib.bitLen_shift48 x.toNat (by omega) (by omega)];congr 2;omega)
 ·exact zlv 40 _ _ (by omega) (by omega) (by omega) (by omega) (by rw [Lib.bitLen_shift40 x.toNat (by omega) (by omega)];congr 2;omega)
 ·exact zlv 32 _ _ (by omega) (by omega) (by omega) (by omega) (by rw [Lib.bitLen_shift32 x.toNat (by omega) (by omega)];congr 2;omega)
 ·exact zlv 24 _ _ (by omega) (by omega) (by omega) (by omega) (by rw [Lib.bitLen_shift24 x.toNat (by omega) (by omega)];congr 2;omega)
 ·exact zlv 16 _ _ (by omega) (by omega) (by omega) (by omega) (by rw [Lib.bitLen_shift16 x.toNat (by omega) (by omega)];congr 2;omega)
 ·exact zlv 8 _ _ (by omega) (by omega) (by omega) (by omega) (by rw [Lib.bitLen_shift8 x.toNat (by omega) (by omega)];congr 2;omega)
 ·have:=zlv 0 x x.toNat (by omega) (by omega) (by omega) (by omega) (by simp);simpa using this
theorem yll (x:Int)(w:World)(h0:0≤x)(b:x≤18446744073709551615):
  Calls prog 108 #[.int .u64 x] w fun e a=>e= .returned (.int .i64 (Lib.bitLen x.toNat))∧a=w:=by
 go_enter func108,ntmps108;go_wp2_with fail;refine(ycp x w h0 b).mono ?_;rintro e a ⟨rfl,rfl⟩;go_wp2_with fail;go_ret;exact⟨rfl,rfl⟩
theorem zkq (n:Nat)(w:World)(h0:2≤n)(h:n≤9223372036854775807):
  Calls prog 103 #[.int .i64 n] w fun e d=>e= .returned (.int .i64 (yo n))∧d=w:=by
 go_enter func103,ntmps103;go_wp2_with fail;refine(yll ((n:Int) - 1) w (by omega) (by omega)).mono ?_;rintro e d ⟨c,rfl⟩;have b:Lib.bitLen ((n:Int) - 1).toNat=(n - 1).log2+1:=by
  rw [show((n:Int) - 1).toNat=n - 1 by omega];exact z6t _ (by omega) (by omega)
 have a:(n - 1).log2≤62:=by
  have:=(Nat.log2_lt (n:=n - 1) (k:=63) (by omega)).2 (by omega);omega
 rw [b] at c;subst c;have f:Hid (yo n=2 ^ (n - 1).log2):=rfl;clear b;generalize (n - 1).log2=j at *;go_wp2_with fail;go_ret;refine⟨congrArg Ending.returned (congrArg (Value.int IntKind.i64) ?_),rfl⟩;have i:2 ^ j≤2 ^ 62:=js (by omega) a;have g:((2:Int) ^ j)=((2 ^ j:Nat):Int):=by simp
 rw [f.o];show wrap64 ((2:Int) ^ j)=_;rw [g];generalize 2 ^ j=p at *;unfold wrap64;omega
theorem zee (n:Nat)(w:World)(h0:2≤n)(g:n≤9223372036854775807):
  Calls prog 52 #[.int .i64 n] w fun e f=>e= .returned (.int .i64 (yo n))∧f=w:=by
 go_enter func52,ntmps52;go_wp2_with fail
 go_loop [3] (fun t=>∃ j:Nat,∃ k:Nat,k=2 ^ j∧k < n∧t= .int .i64 k) (fun t=>n - (intOf t).toNat)
 case atStart=>exact⟨0,1,rfl,by omega,rfl⟩
 case round =>
  obtain⟨j,k,b,d,rfl⟩:=hrel;have a:=zf b;have c:1≤k:=by rw [b];exact zgw
  clear b
  by_cases h:2*k < n
  ·go_wp2
   go_round
   case rel=>exact⟨j+1,2*k,by rw [a.o,qy];omega,by omega,by go_num⟩
   case measure=>simp [intOf];omega
  ·go_wp2
   go_ret;refine⟨congrArg Ending.returned (congrArg (Value.int IntKind.i64) (congrArg Int.ofNat ?_)),rfl⟩;rw [a.o];exact yhd n j (by rw [← a.o];omega) (by rw [qy,← a.o];omega)
variable {w1 w2:World}
theorem zzy (f:Nat)(v:Value)(c:za)(w:World)(h0:c.length=0)(h:Bss w v c):
  Calls prog 75 #[v] w fun r e=>r= .returned (.agg (hv (zaf f c)))∧Below w.heap.size w e:=by
 obtain⟨a,m,rfl,b,-⟩:=h;rw [ze1 f c h0,h0];clear b;go_enter func75,ntmps75;go_wp2_with fail;refine(zm6 _ [] _ (by simp) (fun l n=>by simp at n) ⟨none,0,rfl,zm _,.inl rfl⟩).mono ?_;rintro r e ⟨k,i⟩;have d:r= .returned (.agg (hv (hash []))):=k;clear k;subst d;have j:e.heap[w.heap.size]?=some (.cells #[Value.int IntKind.u8 0,Value.int IntKind.u8 0,Value.int IntKind.u8 0,Value.int IntKind.u8 0,Value.int IntKind.u8 0,Value.int IntKind.u8 0,Value.int IntKind.u8 0,Value.int IntKind.u8 0] 110 (0,0)):=by
  rw [i.block _ (by simp)];exact zg _ _
 have g:=zf j;clear j;go_wp2_with (refine xe rfl 110 _ _ rfl w.heap.size (hv (hash [])) rfl rfl 110 _ g.o (by kernel_rfl) rfl (zcz _) ?_);refine z8 (v:= .agg (hv (hash []))) (zbs results75 _ _ w.heap.size 110 _ (0,0) _ rfl (za0 _ _ _ _ _ _ g.o) underlying110 rfl (by kernel_rfl)) rfl ⟨rfl,?_⟩;exact za2 ((zk _ _).trans (i.mono (by simp))) (zm _) _
theorem yjh (f:Nat)(v:Value)(i:za)(w:World)(n:i.length=1)(u:∀ l∈i,l.length≤maxLen)(h:Bss w v i):
  Calls prog 75 #[v] w fun r k=>r= .returned (.agg (hv (zaf (f+1) i)))∧Below w.heap.size w k:=by
 rw [zi0 f i n];obtain⟨e,rfl⟩:=List.length_eq_one_iff.1 n;obtain⟨a,A,rfl,g,h⟩:=h;rcases h with h | ⟨b,c,rfl,s⟩
 ·simp at h
 obtain⟨x,j,d⟩:=s 0 (by simp);have z:=zf (u e (by simp));have y:Hid (Bs w x e):=d;clear g s d u;have B:∀ o,(w.alloc o).cell? ⟨b,c,none⟩=some x:=fun o=>by rw [yp _ _ ⟨b,c,none⟩ (yg (p:=⟨b,c+0,none⟩) j)];exact j
 clear j;simp only [zab,List.headD_cons] at *;go_enter func75,ntmps75;go_wp2_with fail;refine(z3t x e _ z.o (y.o.below (zk _ _))).mono ?_;rintro r k ⟨rfl,q⟩;have t:k.heap[w.heap.size]?=some (.cells #[Value.int IntKind.u8 0,Value.int IntKind.u8 0,Value.int IntKind.u8 0,Value.int IntKind.u8 0,Value.int IntKind.u8 0,Value.int IntKind.u8 0,Value.int IntKind.u8 0,Value.int IntKind.u8 0] 110 (0,0)):=by
  rw [q.block _ (by simp)];exact zg _ _
 have m:=zf t;clear t;go_wp2_with (refine xe rfl 110 _ _ rfl w.heap.size (hv (zae e)) rfl rfl 110 _ m.o (by kernel_rfl) rfl (zcz _) ?_);refine z8 (v:= .agg (hv (zae e))) (zbs results75 _ _ w.heap.size 110 _ (0,0) _ rfl (za0 _ _ _ _ _ _ m.o) underlying110 rfl (by kernel_rfl)) rfl ⟨rfl,?_⟩;exact za2 ((zk _ _).trans (q.mono (by simp))) (zm _) _
def Own (w a:World):Prop:=Below w.heap.size w a∧a.heap[w.heap.size]?=some (.cells #[Value.int IntKind.u8 0,Value.int IntKind.u8 0,Value.int IntKind.u8 0,Value.int IntKind.u8 0,Value.int IntKind.u8 0,Value.int IntKind.u8 0,Value.int IntKind.u8 0,Value.int IntKind.u8 0] 110 (0,0))
theorem Own.start (w:World):Own w (w.alloc (.cells #[Value.int IntKind.u8 0,Value.int IntKind.u8 0,Value.int IntKind.u8 0,Value.int IntKind.u8 0,Value.int IntKind.u8 0,Value.int IntKind.u8 0,Value.int IntKind.u8 0,Value.int IntKind.u8 0] 110)).drew :=
 ⟨(zk _ _).drew,zg _ _⟩
theorem Own.next (h:Own w w1)(c:Below w1.heap.size w1 w2):Own w w2:=by
 have d:=h.1.size;have b:w.heap.size < w1.heap.size:=by
  rcases qu w.heap.size w1.heap.size with a | a
  ·exact a
  ·have:=h.2;simp [zbg a] at this
 exact⟨h.1.trans (c.mono d),by rw [c.block _ b];exact h.2⟩
theorem yed (f:Nat)(b d c:Nat)(a:za)(w:World)(s:2≤a.length)(O:a.length≤1000000)(B:a.length≤c)(g:∀ l∈a,l.length≤maxLen)(h:Bss w (.slice (some ⟨b,d,none⟩) a.length c) a)
 (G:∀(v:Value) (a:za) (w:World),a.length≤f→a.length≤1000000→(∀ l∈a,l.length≤maxLen)→Bss w v a→Calls prog 75 #[v] w fun r p=>r= .returned (.agg (hv (zaf f a)))∧Below w.heap.size w p) (N:a.length≤f+1) :
  Calls prog 75 #[.slice (some ⟨b,d,none⟩) a.length c] w fun r p=>r= .returned (.agg (hv (zaf (f+1) a)))∧Below w.heap.size w p:=by
 obtain⟨k1,k2,k3⟩:=vz a.length s;rw [zdl f a s];have C:yo a.length≤a.length:=by omega
 obtain⟨S,T,U,V,W,X,Y,Z,E⟩:=zsp (jx (zaf f (a.take (yo a.length))) (zaf f (a.drop (yo a.length)))) (vb _ _);have u:=zf E;have t:=zf g;have H:=zf h;have x:=zf G;have f1:(a.take (yo a.length)).length≤f:=by simp;omega
 have f2:(a.drop (yo a.length)).length≤f:=by simp;omega
 have f3:(a.take (yo a.length)).length≤1000000:=by simp;omega
 have f4:(a.drop (yo a.length)).length≤1000000:=by simp;omega
 have F:=zf (And.intro f1 (And.intro f2 (And.intro f3 f4)));clear f1 f2 f3 f4;have n1:((a.length:Int)==0)=false:=yk.2 (by omega);have n2:((a.length:Int)==1)=false:=yk.2 (by omega);clear E g h G;go_enter func75,ntmps75;go_wp2_with fail;refine(zkq a.length _ s (zu O (by decide))).mono ?_;rintro e p ⟨rfl,rfl⟩;have y:(yo a.length:Int)≤(c:Int):=by omega
 have z:(yo a.length:Int)≤(a.length:Int):=by omega
 have A:(0:Int)≤(yo a.length:Int):=by omega
 go_wp2_with fail
 go_region_with (first
  | (go_at_call_of 75 (Value.slice (some (⟨b,d,none⟩:Addr)) (yo a.length) c);refine(x.out _ (a.take (yo a.length)) _ F.out.1 F.out.2.2.1 (fun l g=>t.o l (qh g)) (by exact(H.o.take _ C).below (Own.start w).1)).mono ?_;rintro e P ⟨rfl,k⟩;have i:Hid (Own w P):=(Own.start w).next k;clear k)
  | (go_at_call_of 75 (Value.slice (some (⟨b,d+yo a.length,none⟩:Addr)) (a.length - yo a.length) (c - yo a.length));refine(x.out _ (a.drop (yo a.length)) _ F.out.2.1 F.out.2.2.2 (fun l g=>t.o l (zb5 g)) (by exact(H.o.drop _ C).below i.o.1)).mono ?_;rintro e Q ⟨rfl,m⟩;have q:Hid (Own w Q):=i.o.next m;clear m)
  | (go_at_call 104;refine(zgd _ _ _ (zbv _ _) (zbv _ _)).mono ?_;rintro e R ⟨D,n⟩;rw [u.o] at D;subst D;have j:Hid (Own w R):=q.o.next n;clear n;obtain⟨⟨I,y,z,A,J,K,L,M⟩,N⟩:=yj5 j.o.2))
 go_wp2
 refine z8 (v:= .agg #[.int .u8 S,.int .u8 T,.int .u8 U,.int .u8 V,.int .u8 W,.int .u8 X,.int .u8 Y,.int .u8 Z]) (by simp [results,results75,go_sem,I,y,z,A,J,K,L,M]) rfl ⟨by rw [u.o],?_⟩;exact zvi j.o.1 (zm _) _ _ _ _ _ _ _ _
theorem zsb (f:Nat):∀(v:Value) (c:za) (w:World),c.length≤f→c.length≤1000000→(∀ l∈c,l.length≤maxLen)→Bss w v c →
  Calls prog 75 #[v] w fun r p=>r= .returned (.agg (hv (zaf f c)))∧Below w.heap.size w p:=by
 induction f with
 | zero=>exact fun v c w i _ _ h=>zzy 0 v c w (by omega) h
 | succ f o =>
  intro v c w i n j h
  by_cases h0:c.length=0
  ·exact zzy _ v c w h0 h
  by_cases m:c.length=1
  ·exact yjh f v c w m j h
  ·have k:=h;obtain⟨a,e,rfl,d,h⟩:=h;rcases h with h | ⟨b,g,rfl,-⟩
   ·exact absurd (by simp [h]) h0
   ·exact yed f b g e c w (by omega) n d j k o i
end Go.Proofs.YtlcllcgngjhoaaaGreatDoor
