import Derived.Test.YtlcllcgngjhoaaaGreatDoorG02
import Derived.Shelf.SlicesQ.Load
import Derived.Deep.AppendLies
set_option maxHeartbeats 8000000
set_option maxRecDepth 100000
set_option linter.all false
namespace Go.Proofs.YtlcllcgngjhoaaaGreatDoor
open Go.RowKit Go.Proofs.Tryz
def zy:=@List.length_append
def yh:=@heap_setCell_other
def xj:=@World.news_of_block
def xk:=@Nat.zero_add
def qj:=@List.getElem?_take
def qw:=@Tryz.underlying9
def jt:=@Tryz.underlying5
def vo:=@List.getElem_of_mem
def vu:=@step_append_lies
def zbt:=@World.ownsRow.alloc
def zcc:=@Addr.add_mid
def zde:=@run_convert_bytes_back
def zfb:=@Bool.eq_iff_iff
def zg0:=@List.length_set
def zhx:=@Array.getElem?_append_left
def zid:=@Array.getElem?_eq_getElem
def zrk:=@enters_of
variable {B b cap g:Nat}{O:Nat→Prop}{T:List Nat}{d:Dk}{fv v:Value}{l:zc}{t:TypeId}{w w' w1 w3:World}
theorem zyx (fs:Fs):∀(j:Nat) (h:j < fs.length),(jk fs)[j*2]?=some (qo fs[j].1)∧(jk fs)[j*2+1]?=some (qo fs[j].2):=by
 induction fs with
 | nil=>intro j h;simp at h
 | cons f r a =>
  intro j h;have e:jk (f::r)=qo f.1::qo f.2::jk r:=by simp [jk]
  cases j with
  | zero=>rw [e];exact⟨rfl,rfl⟩
  | succ j =>
   rw [e,show(j+1)*2=j*2+1+1 by omega];have:=a j (by simpa using h);simpa using this
theorem z67 (fs:Fs):(jk fs).length=fs.length*2:=by
 induction fs with
 | nil=>rfl
 | cons f r a=>simp [jk] at a ⊢;omega
theorem zvy:∀(fs:Fs) (k:Nat)(p x:zc)(a:k < fs.length) ,fs[k].1=p→jk (fs.set k (p,x))=(jk fs).set (k*2+1) (qo x)
 | [],k,_,_,a,_=>by simp at a
 | f::r,0,p,x,_,e=>by
  obtain rfl:f.1=p:=by simpa using e
  simp [jk]
 | f::r,k+1,p,x,a,e=>by
  have h:=zvy r k p x (by simpa using a) (by simpa using e);rw [zoa,show(k+1)*2+1=k*2+1+1+1 by omega];have b:∀ l,jk (f::l)=qo f.1::qo f.2::jk l:=fun l=>by simp [jk]
  rw [b,b,h]
  rfl
theorem zjc (a b:Fs):jk (a++b)=jk a++jk b:=by simp [jk]
def zrc (w:World)(t:TypeId)(v:Value)(fs:Fs):Prop:=∃ a c,v= .slice a fs.length c∧(fs.length=0∨∃ g,a=some ⟨g,0,none⟩∧∃ b,w.heap[g]?=some (.cells b t (0,0))∧fs.length≤c∧b.size=c*2∧∀ j (h:j < fs.length),b[j*2]?=some (qo fs[j].1)∧b[j*2+1]?=some (qo fs[j].2))
theorem zk1 {fs:Fs}(h:w.ownsRow B t 2 v fs.length (jk fs)):zrc w t v fs:=by
 rcases h.2 with ⟨rfl,h0⟩ | ⟨g,b,a,rfl,-,c,f,-,i,k⟩
 ·exact⟨none,0,by rw [h0],.inl h0⟩
 ·refine⟨_,_,rfl,.inr ⟨g,rfl,a,c,f,i,fun j d=>?_⟩⟩;have e:=zyx fs j d;rw [← k,qj,qj,if_pos (by omega),if_pos (by omega)] at e;simpa using e
theorem zrc.below {fs:Fs}(h:zrc w t v fs)(i:Below w.heap.size w w'):zrc w' t v fs:=by
 obtain⟨a,b,e,h | ⟨g,f,c,d,r⟩⟩:=h
 ·exact⟨a,b,e,.inl h⟩
 ·exact⟨a,b,e,.inr ⟨g,f,c,by rw [i.block g (zi d)];exact d,r⟩⟩
theorem yiw (q:zc)(B:Nat)(f:zc×zc)(w:World)(a:w.cell? ⟨B,0,none⟩=some (qo q)):
  Calls prog 95 #[.agg #[qo f.1,qo f.2],.pointer (some ⟨B,0,none⟩)] w fun r e=>r= .returned (.bool (decide (f.1=q)))∧Below w.heap.size w e:=by
 have d:=yg a;unfold qo at *;have c:∀ o,(w.alloc o).cell? ⟨B,0,none⟩=some (.string ⟨q.toArray⟩):=fun o=>by rw [yp _ _ ⟨_,0,none⟩ d];exact a
 clear a;go_enter func95,ntmps95;go_wp2_with fail;go_ret;exact⟨congrArg (fun b=>Ending.returned (.bool b)) (by show(f.1==q)=_;rw [zfb];simp),(yf _ _).alloc (zm _) _⟩
def ixI (fs:Fs)(p:zc):Int:=match ixF fs p with
 | some i=>i
 | none=>-1
theorem yck (q:zc)(B:Nat)(v:Value)(fs:Fs)(w:World)(W:fs.length≤1000000000)(h:zrc w 99 v fs)(I:w.cell? ⟨B,0,none⟩=some (qo q)):
  Calls prog 94 #[v,.func (.func 95) #[] #[.pointer (some ⟨B,0,none⟩)]] w fun r H=>r= .returned (.int .i64 (ixI fs q))∧Below w.heap.size w H:=by
 obtain⟨a,x,rfl,J⟩:=h;have O:=zf J;have u:=zf I;clear J I;have U:∀ l w,(callFunc 95 l).run prog w= .ok (.enter 95 l) w:=zrk func95 (by kernel_rfl) rfl;go_enter func94,ntmps94;go_wp2_with fail;go_loopw [5,8] (fun _ i wr=>∃ k:Nat,k≤fs.length∧i= .int .i64 k∧Below w.heap.size w wr∧∀ j (s:j < fs.length),j < k→fs[j].1≠q) (fun _ i _=>fs.length - (intOf i).toNat)
 case atStart=>exact⟨0,yv _,rfl,yf _ _,fun j _ s=>absurd s (zed _)⟩
 case round =>
  obtain⟨k,V,rfl,y,A⟩:=hrel;have c:=zf y;have C:=zf A;clear y A
  by_cases z:k < fs.length
  ·obtain⟨g,rfl,d,F,K,E,L⟩:∃ g,a=some ⟨g,0,none⟩∧∃ d,w.heap[g]?=some (.cells d 99 (0,0))∧fs.length≤x∧d.size=x*2∧∀ j (h:j < fs.length),d[j*2]?=some (qo fs[j].1)∧d[j*2+1]?=some (qo fs[j].2):=by
    rcases O.o with h0 | h0
    ·omega
    ·exact h0
   have n:wr.heap[g]?=some (.cells d 99 (0,0)):=by rw [c.o.block g (zi F)];exact F
   obtain⟨M,N⟩:=L k z;have S:wr.cell? ⟨g,k*2,none⟩=some (qo fs[k].1):=by rw [yq _ _ _ _ _ _ n];exact M
   have T:wr.cell? ⟨g,k*2+1,none⟩=some (qo fs[k].2):=by rw [yq _ _ _ _ _ _ n];exact N
   unfold qo at S T;have b:=yiw q B fs[k] wr (by rw [c.o.cell (p:=⟨B,0,none⟩) (yg u.o)];exact u.o);unfold qo at b;clear F n L E M N
   by_cases t:fs[k].1=q
   ·have P:Hid (ixF fs q=some k):=z7f z t (fun j s=>C.o j (by omega) s);rw [show decide (fs[k].1=q)=true by simp [t]] at b;clear t;generalize fs[k]=f at *;go_wp2_with (go_at_fn 95;refine b.mono ?_;rintro e H ⟨rfl,m⟩);go_ret;exact⟨by unfold ixI;rw [P.o];rfl,c.o.trans (m.mono c.o.size)⟩
   ·rw [show decide (fs[k].1=q)=false by simp [t]] at b;have D:Hid (∀ j (s:j < fs.length),j < k+1→fs[j].1≠q):=fun j G R=>by
     rcases qu j k with h | h
     ·exact C.o j G h
     ·obtain rfl:j=k:=by omega
      exact t
    clear t C;generalize fs[k]=f at *;go_wp2_with (go_at_fn 95;refine b.mono ?_;rintro e H ⟨rfl,m⟩)
    go_roundw
    case rel=>exact⟨k+1,by omega,by go_num,c.o.trans (m.mono c.o.size),D.o⟩
    case measure=>simp [intOf];omega
  ·go_wp2_with fail;go_ret;refine⟨?_,c.o⟩;have:ixF fs q=none:=zou (fun f Q=>by
    obtain⟨j,s,rfl⟩:=vo Q;exact C.o j s (by omega))
   unfold ixI;rw [this]
   rfl
theorem zos (O:Nat→Prop)(b:Nat)(d:Dk)(q:zc)(w:World)(s:d.fs.length≤1000000000)(h:yw w O b d):
  Calls prog 64 #[zdp b,qo q] w fun r g=>r= .returned (.int .i64 (ixI d.fs q))∧Below w.heap.size w g:=by
 obtain⟨i,t,c,j,p⟩:=h;obtain⟨m,f0⟩:=(zlg c).1;have f:=zi c;have l:=zf (zk1 j);clear c j p;unfold zdp qo;have n:∀ o,(w.alloc o).cell? ⟨b,0,none⟩=some i:=fun o=>by rw [yp _ _ ⟨_,0,none⟩ f];exact m
 go_enter func64,ntmps64;go_wp2_with fail;refine(yck q w.heap.size i d.fs _ s (l.o.below (zk _ _)) (by simp [qo])).mono ?_;rintro e g ⟨rfl,a⟩;have k:Hid (Below w.heap.size w g):=(zk w _).trans (a.mono (by simp));clear a;go_wp2_with fail;go_ret;exact⟨rfl,k.o⟩
def Bq (w:World)(v:Value)(l:zc):Prop:=∃ g a C b,v= .slice (some ⟨g,0,none⟩) l.length a∧l.length≤a∧w.heap[g]?=some (.cells C 5 b)∧∀ i (c:i < l.length),C[i]?=some (bv l[i])
theorem Bq.turn (h:Bq w v l)(j:zq O T w w')(c:5∉T):Bq w' v l:=by
 obtain⟨g,a,C,b,e,i,f,d⟩:=h;exact⟨g,a,C,b,e,i,j.keep f c,d⟩
theorem Bq.below (h:Bq w v l)(a:Below w.heap.size w w'):Bq w' v l:=h.turn (O:=fun _=>False) (T:=[]) (.of_below a) (by simp)
theorem Bq.conv (h:Bq w v l):(convert 114 9 v).run prog w= .ok (.string ⟨l.toArray⟩) w:=by
 obtain⟨g,a,C,e,rfl,-,c,b⟩:=h;refine zde w _ _ 5 ⟨g,0,none⟩ a l underlying114 jt qw (fun j d=>?_);rw [zcc,xk,yq _ _ _ _ _ _ c];exact b j d
theorem zv7:(prog.info? 99).map (fun i=>(i.zero,i.size,i.bytes))=some (some (.agg #[.string ⟨#[]⟩,.string ⟨#[]⟩]),2,32):=by kernel_rfl
theorem yaw {p x:zc}{o:Obj}(v:zq O [] w w1)(l:O b)(r:∀ g,fv.ownBlock=some g→O g)(u:w1.ownsRow 0 99 2 fv d.fs.length (jk d.fs))(t:ixF d.fs p=none)
 (c:w3.ownsRow 0 99 2 (.slice (some ⟨g,0,none⟩) (d.fs.length+1) cap) (d.fs.length+1) (jk d.fs++[.string ⟨p.toArray⟩,.string ⟨x.toArray⟩])) (j:(w1.alloc o).drew.grownBy w3 fv.ownBlock) (i:fv.ownBlock=some g∨g=w1.heap.size+1) (a:w3.heap[b]?=some (.cells (zit fv d) 82 (0,0))) :
  Ending.returned (.tuple #[])= .returned (.tuple #[])∧zq O dT w (w3.setCell ⟨b,0,none⟩ (.slice (some ⟨g,0,none⟩) (d.fs.length+1) cap))∧yw (w3.setCell ⟨b,0,none⟩ (.slice (some ⟨g,0,none⟩) (d.fs.length+1) cap)) (jz O w (w3.setCell ⟨b,0,none⟩ (.slice (some ⟨g,0,none⟩) (d.fs.length+1) cap))) b { d with fs:=zfn d.fs p x }:=by
 have t0:zq O dT w w1:=v.mono (fun _ h=>h) (by simp);have t1:zq O dT w (w1.alloc o).drew:=(t0.alloc o).drew;have m:(w1.alloc o).drew.ownsRow 0 99 2 fv d.fs.length (jk d.fs):=zbt (w:=w1) u o;have t2:zq O dT w w3:=t1.grown m j (fun k n=> .inl (r k n)) (by decide);have t3:=t2.set (o:=0) (.inl l) a (by decide) (.slice (some ⟨g,0,none⟩) (d.fs.length+1) cap);have f:zfn d.fs p x=d.fs++[(p,x)]:=by unfold zfn;rw [t]
 have A:g < w3.heap.size:=by
  rcases c.2 with ⟨e,-⟩ | ⟨k,s,y,e,-,z,-⟩
  ·simp at e
  ·simp at e;rw [e.1];exact zi z
 have q:(w3.setCell ⟨b,0,none⟩ (.slice (some ⟨g,0,none⟩) (d.fs.length+1) cap)).heap.size=w3.heap.size:=by simp [World.setCell]
 have tb:zq O dT1 w3 (w3.setCell ⟨b,0,none⟩ (.slice (some ⟨g,0,none⟩) (d.fs.length+1) cap)):=(zq.refl O dT1 w3).set (.inl l) a (by decide) _;refine⟨rfl,t3,.slice (some ⟨g,0,none⟩) (d.fs.length+1) cap,.inl l,zav a 0 _,?_,fun k e=>?_⟩
 ·show World.ownsRow _ 0 99 2 _ (zfn d.fs p x).length (jk (zfn d.fs p x));rw [f,zjc,zy];exact zo c tb (by decide)
 ·simp only [Value.ownBlock,zr] at e;subst e;rcases i with h | h
  ·exact .inl (r _ h)
  ·have:=t0.size;exact .inr (by rw [q];omega)
theorem zp0 (O:Nat→Prop)(b:Nat)(d:Dk)(p x:zc)(v:Value)(w:World)(hn:d.fs.length≤1000000000)(h:yw w O b d)(hv:Bq w v x):
  Calls prog 276 #[zdp b,qo p,v] w fun r w'=>r= .returned (.tuple #[])∧zq O dT w w'∧yw w' (jz O w w') b { d with fs:=zfn d.fs p x }:=by
 have N:=zf h;have Z:=zf hv;clear h hv;unfold zdp qo;go_enter func276,ntmps276;go_wp2_with fail;refine(zos O b d p w hn N.o).mono ?_;rintro e c ⟨rfl,C⟩;have Y:Hid (zq O [] w c):= .of_below C;have l:=zf (N.o.stay Y.o (by decide) (by decide));have m:=zf (Z.o.below C);clear C;cases e:ixF d.fs p with
 | some k =>
  have H:ixI d.fs p=k:=by unfold ixI;rw [e]
  rw [H];obtain⟨hk,J,-⟩:=zb8 e;obtain⟨B,hO,j,q,n⟩:=l.o;obtain⟨c0,f0⟩:=(zlg j).1;have aa:=Bq.conv (w:=c.drew) m.o;rcases q.2 with ⟨rfl,h0⟩ | ⟨g,F,A,rfl,-,f,ab,hm,hs,ht⟩
  ·omega
  have c1:∃ u,c.cell? ⟨g,k*2+1,none⟩=some u:=by
   rw [yq _ _ _ _ _ _ f];exact⟨A[k*2+1]'(by omega),by simp⟩
  have f1:c.frozen? ⟨g,k*2+1,none⟩=false:=by simp [World.frozen?,f]
  obtain⟨u,c1⟩:=c1;have P:=zf n;have z:=zf f;have R:=zf j;have HS:=zf (And.intro hs ht);have HF:=zf q;have T:=zf e;have HK:=zf J;clear n f j hs ht q e J H Z m N l;go_wp2_with fail
  go_region
  go_end0
  have t1:zq O dT w (c.setCell ⟨g,k*2+1,none⟩ (.string ⟨x.toArray⟩)):=(Y.o.mono (T':=dT) (fun _ h=>h) (by simp)).set (.inl (P.o g rfl)) z.o (by decide) _;have ad:b≠g:=fun e=>by
   have h1:=R.o;rw [e,z.o] at h1;simp at h1
  refine⟨rfl,t1.drew,_,.inl hO,?_,?_,fun g' e=> .inl (P.o g' e)⟩
  ·show(c.setCell ⟨g,k*2+1,none⟩ (.string ⟨x.toArray⟩)).heap[b]?=_;rw [yh _ _ _ _ (by simpa using ad)];exact R.o
  ·have y:zfn d.fs p x=d.fs.set k (p,x):=by unfold zfn;rw [T.o]
   have s:(zfn d.fs p x).length=d.fs.length:=by rw [y,zg0]
   show World.ownsRow _ 0 99 2 _ (zfn d.fs p x).length (jk (zfn d.fs p x));rw [s];refine⟨by rw [z67,s],.inr ⟨g,F,_,rfl,yv _,zqj c g (k*2+1) A _ _ z.o,ab,hm,by rw [Array.size_setIfInBounds];exact HS.o.1,?_⟩⟩;rw [y,zvy d.fs k p x hk HK.o,← HS.o.2,Array.toList_setIfInBounds,List.take_set]
   rfl
 | none =>
  have H:ixI d.fs p=-1:=by unfold ixI;rw [e]
  rw [H];obtain⟨i,hi,I⟩:=zz.1 zv7;obtain⟨K,L,M⟩:i.zero=some (.agg #[.string ⟨#[]⟩,.string ⟨#[]⟩])∧i.size=2∧i.bytes=32:=by simpa using I
  clear I;have HI:=zf hi;have HZ:=zf (And.intro K (And.intro L M));clear hi K L M;obtain⟨B,hO,j,q,n⟩:=l.o;obtain⟨c0,f0⟩:=(zlg j).1;have aa:=Bq.conv (w:=c.drew) m.o;have P:=zf n;have R:=zf j;have HF:=zf q;have T:=zf e;have U:Hid (∀ o,(c.alloc o).drew.ownsRow 0 99 2 B d.fs.length (jk d.fs)):=fun o=>zbt (w:=c) q o;have E:Hid (∀ o,(c.alloc o).drew.heap[b]?=some (.cells (zit B d) 82 (0,0))):=fun o=>zj (w:=c) j;have ag:∀ o,(c.alloc o).cell? ⟨b,0,none⟩=some B:=fun o=>by rw [yp _ _ ⟨_,0,none⟩ (zi j)];exact c0
  have W:Hid (∀ g,B.ownBlock=some g→b≠g):=fun g n e=>by
   rcases q.2 with ⟨rfl,-⟩ | ⟨g',F,A,rfl,-,f,-⟩
   ·simp [Value.ownBlock] at n
   ·simp only [Value.ownBlock,zr] at n;subst n;rw [e,f] at j;simp at j
  clear n j q e H Z m N l;go_wp2_with fail
  go_region_law (refine vu _ (by rfl) _ _ _ (by rfl) 0 99 i (.agg #[.string ⟨#[]⟩,.string ⟨#[]⟩]) 2 32 underlying75 HI.o HZ.o.1 HZ.o.2.1 HZ.o.2.2 rfl (by omega) B d.fs.length (jk d.fs) (by rfl) (U.o _) ⟨c.heap.size,0,none⟩ 1 1 [.string ⟨p.toArray⟩,.string ⟨x.toArray⟩] (by rfl) rfl (xj (zg _ _)) (by simp [Value.oneCell']) (by omega) (by unfold maxLen;omega) (by omega) (by omega) (c.heap.size+1) (by simp) ?_;intro g ae w3 t a G af;have D:w3.heap[b]?=some (.cells (zit B d) 82 (0,0)):=(by rw [a.block b (zi (E.o _)) (fun e=>W.o b e.symm rfl)];exact E.o _);obtain⟨c3,f3⟩:=(zlg D).1;have X:=zf t;have V:=zf a;have Q:=zf G;have S:=zf D;clear t a G D)
  all_goals go_end0
  all_goals exact yaw Y.o hO P.o HF.o T.o X.o V.o Q.o S.o
def txt (l:zc):Value:= .string ⟨l.toArray⟩
theorem zon (w:World)(g:Nat)(a n:Nat)(l:zc)(t:TypeId)(b:Nat×Nat)(e:l.length=n)(c:w.heap[g]?=some (.cells (hv l) t b)):
  (convert 114 9 (.slice (some ⟨g,0,none⟩) n a)).run prog w= .ok (txt l) w:=by
 subst e;refine zde w _ _ 5 ⟨g,0,none⟩ a l underlying114 jt qw (fun j d=>?_);rw [zcc,xk,yq _ _ _ _ _ _ c];simp [hv,bv,d]
theorem ym9 (m:Int)(a:0≤m)(b:m≤18446744073709551615):(#[Value.int IntKind.u8 (m / 256 / 256 / 256 / 256 / 256 / 256 / 256),
        Value.int IntKind.u8 (m / 256 / 256 / 256 / 256 / 256 / 256 % 256),
        Value.int IntKind.u8 (m / 256 / 256 / 256 / 256 / 256 % 256),
        Value.int IntKind.u8 (m / 256 / 256 / 256 / 256 % 256),
        Value.int IntKind.u8 (m / 256 / 256 / 256 % 256),Value.int IntKind.u8 (m / 256 / 256 % 256),
        Value.int IntKind.u8 (m / 256 % 256),Value.int IntKind.u8 (m % 256)]:Array Value)=hv (zta m):=by
 rw [yaj m a b];rw [show m / 256 / 256 / 256 / 256 / 256 / 256 / 256=m / 72057594037927936 by omega,show m / 256 / 256 / 256 / 256 / 256 / 256=m / 281474976710656 by omega,show m / 256 / 256 / 256 / 256 / 256=m / 1099511627776 by omega,show m / 256 / 256 / 256 / 256=m / 4294967296 by omega,show m / 256 / 256 / 256=m / 16777216 by omega,show m / 256 / 256=m / 65536 by omega]
theorem zjp (s:ByteArray)(w:World)(j:s.size≤maxLen):
  Calls prog 51 #[.string s] w fun e l=>e= .returned (txt (hash s.data.toList))∧Below w.heap.size w l:=by
 unfold maxLen at j;have h:∀ w,(Instr.makeSlice 114 (.int .i64 8) (.int .i64 8)).run prog w= .ok (.slice (some ⟨w.heap.size,0,none⟩) 8 8) (w.alloc (.cells #[Value.int IntKind.u8 0,Value.int IntKind.u8 0,Value.int IntKind.u8 0,Value.int IntKind.u8 0,Value.int IntKind.u8 0,Value.int IntKind.u8 0,Value.int IntKind.u8 0,Value.int IntKind.u8 0] 5)):=fun _=>by kernel_rfl
 go_enter func51,ntmps51;go_wp2_with fail
 go_loop [3,4] (fun t i=>∃ k:Nat,k≤s.size∧i= .int .i64 k∧t= .int .u64 (fnv zdb (s.data.toList.take k))) (fun _ i=>s.size - (intOf i).toNat)
 case atStart=>exact⟨0,yv _,rfl,rfl⟩
 case round =>
  obtain⟨k,p,rfl,rfl⟩:=hrel;obtain⟨c,d⟩:=zsz zdb (s.data.toList.take k) zh4.1 zh4.2
  by_cases b:k < s.size
  ·have f:Hid (fnv zdb (s.data.toList.take (k+1))=st (fnv zdb (s.data.toList.take k)) (s[k]).toNat):=z3c zdb s.data.toList k (by simpa using b);have n:((s[k]).toNat:Int)≤255:=by have:=(s[k]).toNat_lt;omega
   generalize fnv zdb (s.data.toList.take k)=m at *
   go_wp2
   go_round
   case rel=>exact⟨k+1,by omega,by go_num,by rw [f.o];unfold st;rfl⟩
   case measure=>simp [intOf];omega
  ·have a:s.data.toList.take k=s.data.toList:=ja (by simp;show s.size≤k;omega);rw [a] at c d ⊢;have g:Hid (hash s.data.toList=zta (fnv zdb s.data.toList)):=rfl;clear a;generalize fnv zdb s.data.toList=m at *;go_wp2_with fail;refine zd8 9 ?_;rw [xo]
   go_wp2
   rw [xo]
   go_wp2
   rw [xo]
   go_wp2
   rw [xo]
   go_wp2
   rw [xo]
   go_wp2
   rw [xo]
   go_wp2
   rw [xo]
   go_wp2
   rw [xo]
   go_wp2
   rw [xo]
   go_wp2
   rw [ym9 m c d,zon _ w.heap.size 8 8 (zta m) 5 (0,0) rfl (zg _ _)]
   go_wp2
   go_ret;exact⟨by rw [g.o];rfl,(yf _ _).alloc (zm _) _⟩
theorem zh1 (a b:ByteArray):(a++b).data.toList=a.data.toList++b.data.toList:=by simp
theorem zjs (a b:ByteArray):(a++b).size=a.size+b.size:=by simp
theorem zt9 (s:ByteArray)(w:World)(c:s.size < maxLen):
  Calls prog 29 #[.string s] w fun e d=>e= .returned (txt (zae s.data.toList))∧Below w.heap.size w d:=by
 have f:=zf c;have h:¬ 9223372036854775807 < 1+s.size:=by unfold maxLen at c;omega
 clear c;go_enter func29,ntmps29;go_wp2_with fail;refine(zjp _ w (by rw [zjs];have:=f.o;show 1+s.size≤maxLen;omega)).mono ?_;rintro e d ⟨a,g⟩;rw [zh1] at a;have b:e= .returned (txt (zae s.data.toList)):=a;subst b;clear a;go_wp2_with fail;go_ret;exact⟨rfl,g⟩
theorem zgh (a b:zc)(w:World)(h:a.length≤8)(i:b.length≤8):
  Calls prog 53 #[txt a,txt b] w fun e g=>e= .returned (txt (jx a b))∧Below w.heap.size w g:=by
 unfold txt;have H:Hid (∀ l,Value.string ⟨l.toArray⟩=txt l):=fun _=>rfl;go_enter func53,ntmps53;go_wp2_with fail;refine(zjp _ w (by rw [zjs,zjs];show 1+a.toArray.size+b.toArray.size≤maxLen;simp [maxLen];omega)).mono ?_;rintro e g ⟨d,c⟩;rw [zh1,zh1] at d;have f:e= .returned (txt (jx a b)):=by rw [d];simp [jx]
 subst f;clear d;go_wp2_with fail;go_ret;exact⟨rfl,c⟩
theorem z4x (a b:zc)(w:World)(d:a.length=8)(f:b.length=8):
  Calls prog 53 #[txt a,txt b] w fun e c=>e= .returned (txt (jx a b))∧Below w.heap.size w c :=
 zgh a b w (by omega) (by omega)
def bys (a:List ByteArray):za:=a.map fun s=>s.data.toList
theorem jq (a:List ByteArray):(bys a).length=a.length:=by simp [bys]
theorem zf7 (a:List ByteArray)(k:Nat):bys (a.take k)=(bys a).take k:=by simp [bys]
theorem zvl (a:List ByteArray)(k:Nat):bys (a.drop k)=(bys a).drop k:=by simp [bys]
theorem zr7 (f:Nat)(v:Value)(c:List ByteArray)(w:World)(h0:c.length=0)(h:Sss w v c):
  Calls prog 20 #[v] w fun r g=>r= .returned (txt (zaf f (bys c)))∧Below w.heap.size w g:=by
 obtain⟨a,i,rfl,b,-⟩:=h;rw [ze1 f (bys c) (by rw [jq];exact h0),h0];clear b;go_enter func20,ntmps20;go_wp2_with fail;refine(zjp _ _ (by decide)).mono ?_;rintro r g ⟨e,j⟩;have d:r= .returned (txt (hash [])):=e;clear e;subst d;go_wp2_with fail;go_ret;exact⟨rfl,j⟩
theorem z40 (f:Nat)(v:Value)(d:List ByteArray)(w:World)(i:d.length=1)(k:∀ s∈d,s.size < maxLen)(h:Sss w v d):
  Calls prog 20 #[v] w fun r l=>r= .returned (txt (zaf (f+1) (bys d)))∧Below w.heap.size w l:=by
 rw [zi0 f (bys d) (by rw [jq];exact i)];obtain⟨s,rfl⟩:=List.length_eq_one_iff.1 i;obtain⟨a,n,rfl,c,h⟩:=h;rcases h with h | ⟨b,e,rfl,j⟩
 ·simp at h
 have q:w.cell? ⟨b,e,none⟩=some (.string s):=j 0 (by simp);have m:=zf (k s (by simp));clear c j k;have g:bys [s]=[s.data.toList]:=rfl;rw [g];clear g;simp only [zab,List.headD_cons] at *;go_enter func20,ntmps20;go_wp2_with fail;refine(zt9 s _ m.o).mono ?_;rintro r l ⟨rfl,p⟩;go_wp2_with fail;go_ret;exact⟨rfl,p⟩
theorem z1k (f:Nat)(b n c:Nat)(a:List ByteArray)(w:World)(t:2≤a.length)(B:a.length≤1000000)(y:a.length≤c)(g:∀ s∈a,s.size < maxLen)(h:Sss w (.slice (some ⟨b,n,none⟩) a.length c) a)
 (A:∀(v:Value) (a:List ByteArray) (w:World),a.length≤f→a.length≤1000000→(∀ s∈a,s.size < maxLen)→Sss w v a→Calls prog 20 #[v] w fun r p=>r= .returned (txt (zaf f (bys a)))∧Below w.heap.size w p) (G:a.length≤f+1) :
  Calls prog 20 #[.slice (some ⟨b,n,none⟩) a.length c] w fun r p=>r= .returned (txt (zaf (f+1) (bys a)))∧Below w.heap.size w p:=by
 obtain⟨I,J,K⟩:=vz a.length t;rw [zdl f (bys a) (by rw [jq];exact t),jq,← zf7,← zvl];have z:yo a.length≤a.length:=by omega
 have u:=zf g;have H:=zf h;have x:=zf A;have f1:(a.take (yo a.length)).length≤f:=by simp;omega
 have f2:(a.drop (yo a.length)).length≤f:=by simp;omega
 have f3:(a.take (yo a.length)).length≤1000000:=by simp;omega
 have f4:(a.drop (yo a.length)).length≤1000000:=by simp;omega
 have F:=zf (And.intro f1 (And.intro f2 (And.intro f3 f4)));clear f1 f2 f3 f4;have L:((a.length:Int)==0)=false:=yk.2 (by omega);have M:((a.length:Int)==1)=false:=yk.2 (by omega);clear g h A;go_enter func20,ntmps20;go_wp2_with fail;refine(zee a.length _ t (zu B (by decide))).mono ?_;rintro e p ⟨rfl,rfl⟩;have C:(yo a.length:Int)≤(c:Int):=by omega
 have D:(yo a.length:Int)≤(a.length:Int):=by omega
 have E:(0:Int)≤(yo a.length:Int):=by omega
 go_wp2_with fail;refine(x.out _ (a.take (yo a.length)) _ F.out.1 F.out.2.2.1 (fun l g=>u.o l (qh g)) (by exact H.o.take _ z)).mono ?_;rintro e N ⟨rfl,j⟩;have d:=zf j;clear j;go_wp2_with fail;refine(x.out _ (a.drop (yo a.length)) _ F.out.2.1 F.out.2.2.2 (fun l g=>u.o l (zb5 g)) (by exact(H.o.drop _ z).below d.o)).mono ?_;rintro e O ⟨rfl,k⟩;have i:=zf (d.o.trans (k.mono d.o.size));clear k;go_wp2_with fail;refine(z4x _ _ _ (zbv _ _) (zbv _ _)).mono ?_;rintro e P ⟨rfl,m⟩;have q:=zf (i.o.trans (m.mono i.o.size));clear m;go_wp2_with fail;go_ret;exact⟨rfl,q.o⟩
theorem zpb (f:Nat):∀(v:Value) (c:List ByteArray) (w:World),c.length≤f→c.length≤1000000→(∀ s∈c,s.size < maxLen)→Sss w v c →
  Calls prog 20 #[v] w fun r o=>r= .returned (txt (zaf f (bys c)))∧Below w.heap.size w o:=by
 induction f with
 | zero=>exact fun v c w i _ _ h=>zr7 0 v c w (by omega) h
 | succ f n =>
  intro v c w i m j h
  by_cases h0:c.length=0
  ·exact zr7 _ v c w h0 h
  by_cases l:c.length=1
  ·exact z40 f v c w l j h
  ·have k:=h;obtain⟨a,e,rfl,d,h⟩:=h;rcases h with h | ⟨b,g,rfl,-⟩
   ·exact absurd (by simp [h]) h0
   ·exact z1k f b g e c w (by omega) m d j k n i
variable {e:TypeId}{s:Nat}{x:Value}{xs:List Value}
def EB (w:World)(B:Nat)(x:Value)(l:zc):Prop :=
 ∃ g a C b,x= .slice (some ⟨g,0,none⟩) l.length a∧B≤g∧w.heap[g]?=some (.cells C 5 b)∧(∀ i (h:i < l.length),C[i]?=some (bv l[i]))∧l.length≤b.1
theorem ju {o:Obj}(h:w.heap[g]?=some o):g < w.heap.size:=by
 rcases qu g w.heap.size with a | a
 ·exact a
 ·simp [zbg a] at h
theorem EB.below (h:EB w B x l)(f:Below w.heap.size w w'):EB w' B x l:=by
 obtain⟨g,a,C,c,e,d,b,i,j⟩:=h;exact⟨g,a,C,c,e,d,by rw [f.block g (ju b)];exact b,i,j⟩
theorem EB.grown {n:Nat}(h:EB w B x l)(p:w.ownsRow B 114 1 v n xs)(d:w.grownBy w' v.ownBlock):EB w' B x l:=by
 obtain⟨g,b,C,j,e,k,c,m,o⟩:=h;refine⟨g,b,C,j,e,k,?_,m,o⟩;rw [d.block g (ju c) ?_]
 ·exact c
 ·intro f;rcases p.2 with ⟨rfl,_⟩ | ⟨r,q,i,rfl,_,a,_⟩
  ·simp [Value.ownBlock] at f
  ·simp only [Value.ownBlock,zr] at f;subst f;rw [c] at a;simp at a
theorem ym {n:Nat}(h:w.ownsRow B e s v n xs)(i:Below w.heap.size w w'):w'.ownsRow B e s v n xs:=by
 refine⟨h.1,?_⟩;rcases h.2 with h | ⟨g,a,b,d,f,c,r⟩
 ·exact .inl h
 ·exact .inr ⟨g,a,b,d,f,by rw [i.block g (ju c)];exact c,r⟩
theorem EB.bs (h:EB w B x l):Bs w x l:=by
 obtain⟨g,a,C,e,rfl,f,c,b,j⟩:=h;refine⟨_,_,rfl,.inr ⟨g,0,rfl,fun i d=>?_⟩⟩;rw [xk,yq _ _ _ _ _ _ c];exact b i d
theorem EB.conv (w:World)(s:ByteArray)(B a:Nat)(c:B≤w.heap.size):
  EB (w.alloc (.cells (bytesRow s a) 5 ((bytesRow s a).size,(bytesRow s a).size+1))) B (.slice (some ⟨w.heap.size,0,none⟩) s.size a) s.data.toList:=by
 refine⟨w.heap.size,a,_,_,by simp,c,zg _ _,fun i d=>?_,?_⟩
 ·have b:i < s.data.size:=by simpa using d
  rw [bytesRow,zhx (by simpa using b)];rw [Array.getElem?_map,zid b]
  rfl
 ·simp [bytesRow]
theorem vq {n:Nat}(h:w.ownsRow B e s v n xs):∀ k,v.ownBlock=some k→B≤k:=by
 intro k a;rcases h.2 with ⟨rfl,_⟩ | ⟨g,b,c,rfl,d,_⟩
 ·simp [Value.ownBlock] at a
 ·simp only [Value.ownBlock,zr] at a;omega
theorem zy0:(prog.info? 114).map (fun i=>(i.zero,i.size,i.bytes))=some (some (.slice none 0 0),1,24):=by kernel_rfl
end Go.Proofs.YtlcllcgngjhoaaaGreatDoor
