import Derived.Test.YtlcllcgngjhoaaaGreatDoorG22
import Derived.Test.YtlcllcgngjhoaaaGreatDoorG16
set_option maxHeartbeats 8000000
set_option maxRecDepth 100000
set_option linter.all false
namespace Go.Proofs.YtlcllcgngjhoaaaGreatDoor
open Go.RowKit Go.Proofs.Tryz
end Go.Proofs.YtlcllcgngjhoaaaGreatDoor
namespace Go.Proofs
open Go.Shelf
def Tryz.cloneLie_ren:Go.Shelf.Ren:=⟨fun | 41=>47 | n=>n,fun | 22=>23 | 23=>36 | 4=>4 | n=>n,fun | n=>n⟩
theorem Tryz.cloneLie:Go.Proofs.SlLaysE0.n41 Tryz.prog Tryz.cloneLie_ren:={
 mixed:=by kernel_rfl
 f41:=⟨Tryz.f47.name,by decide,Tryz.func47.trans (congrArg some (by kernel_rfl))⟩
 t4:=Tryz.underlying4
 a4:=Tryz.isAgg4
 z4:=Tryz.sizeOf4
 v4:=Tryz.zeroValue4
 t22:=Tryz.underlying23
 a22:=Tryz.isAgg23
 z22:=Tryz.sizeOf23
 v22:=Tryz.zeroValue23 }
end Go.Proofs
namespace Go.Proofs.YtlcllcgngjhoaaaGreatDoor
open Go.RowKit Go.Proofs.Tryz
variable {B:Nat}{v:Value}{w w':World}
def lcs (a:List Ly):List Value:=a.flatMap fun l=>[qo l.path,qo l.data,.bool l.fails,.int .i64 l.times]
theorem zut (b:List Ly):(lcs b).length=b.length*4:=by
 induction b with
 | nil=>rfl
 | cons a r c =>
  unfold lcs at c ⊢;rw [zd9,zy,c];simp only [y9,jc];omega
theorem ylk (b:List Ly):∀ u∈lcs b,u.oneCell'=true:=by
 intro u a;unfold lcs at a;obtain⟨f,-,h⟩:=zce.1 a;simp only [jr,zf3,z4f] at h;rcases h with rfl | rfl | rfl | rfl<;>rfl
theorem yhm:∀(b:List Ly) (j:Nat) (h:j < b.length),(lcs b)[j*4]?=some (qo b[j].path)∧(lcs b)[j*4+1]?=some (qo b[j].data)∧(lcs b)[j*4+2]?=some (.bool b[j].fails)∧(lcs b)[j*4+3]?=some (.int .i64 b[j].times):=by
 intro b
 induction b with
 | nil=>intro j h;simp at h
 | cons a r c =>
  intro j h;have e:lcs (a::r)=qo a.path::qo a.data:: .bool a.fails:: .int .i64 a.times::lcs r:=by simp [lcs]
  cases j with
  | zero=>rw [e];exact⟨rfl,rfl,rfl,rfl⟩
  | succ j =>
   have:=c j (by simpa using h);rw [e,show(j+1)*4=j*4+4 by omega];simpa using this
def Lss (w:World)(v:Value)(e:List Ly):Prop:=∃ a d,v= .slice a e.length d∧(e=[]∨∃ b c,a=some ⟨b,c,none⟩∧∀ j u,(lcs e)[j]?=some u→w.cell? ⟨b,c+j,none⟩=some u)
theorem Lss.below {i:List Ly}(h:Lss w v i)(l:Below w.heap.size w w'):Lss w' v i:=by
 obtain⟨a,c,e,h | ⟨b,d,k,g⟩⟩:=h
 ·exact⟨a,c,e,.inl h⟩
 ·exact⟨a,c,e,.inr ⟨b,d,k,fun j u f=>by rw [l.cell (p:=⟨b,_,none⟩) (yg (g j u f))];exact g j u f⟩⟩
theorem z0z:(prog.info? 36).map (fun i=>(i.zero,i.size,i.bytes))=some (some (.agg #[.string ⟨#[]⟩,.string ⟨#[]⟩,.bool false,.int .i64 0]),4,48):=by kernel_rfl
theorem yle:(prog.info? 3).map (fun i=>(i.zero,i.size,i.bytes))=some (some (.int .i64 0),1,8):=by kernel_rfl
theorem z2v (a:Addr)(c:Nat)(w:World):
  Calls prog 47 #[.slice (some a) 0 c] w fun e s=>∃ f,e= .returned f∧Below w.heap.size w s∧s.ownsRow w.heap.size 36 4 f 0 []:=by
 obtain⟨i,v,h⟩:=zz.1 z0z;obtain⟨l,m,o⟩:i.zero=some (.agg #[.string ⟨#[]⟩,.string ⟨#[]⟩,.bool false,.int .i64 0])∧i.size=4∧i.bytes=48:=by simpa using h
 have t:∀(w:World) (a:Option Addr) (n c p g:Nat),(binOp .eql 23 (.slice a n c) (.slice none p g)).run prog w= .ok (.bool a.isNone) w:=fun w a n c p g=>zhf w _ _ a n c p g underlying23;have r:∀ w,Sem.run prog (underlying 23) w= .ok (TypeDesc.slice 36) w:=zcu underlying23;go_enter func47,ntmps47;go_wp2_with (at_builtin;refine zqo _ rfl _ _ 23 rfl w.heap.size 36 i (.agg #[.string ⟨#[]⟩,.string ⟨#[]⟩,.bool false,.int .i64 0]) 4 48 underlying23 v l m o rfl (by decide) _ _ _ rfl (World.ownsRow_made w #[] 0 (zm _) (yv _) rfl) a 0 c [] rfl rfl (by intro j u x;simp at x) (by intro u r;cases r) (by unfold maxLen;omega) (by omega) (by simp) ?_);intro f z d b q;go_wp2_with fail;go_ret;exact⟨f,rfl,((yf _ w).alloc (zm _) _).grown b (by simp) (by intro k y;simp [Value.ownBlock] at y;omega),by simpa using d⟩
theorem z62 (v:Value)(c:List Ly)(w:World)(s:c.length≤1000000000)(h:Lss w v c):
  Calls prog 47 #[v] w fun e g=>∃ f,e= .returned f∧Below w.heap.size w g∧g.ownsRow w.heap.size 36 4 f c.length (lcs c):=by
 obtain⟨a,d,rfl,rfl | ⟨b,n,rfl,r⟩⟩:=h
 ·cases a with
  | none =>
   refine(AnyE.slices_Clone_nil Tryz.cloneLie 0 d w).mono ?_;rintro e g ⟨rfl,rfl⟩;exact⟨_,rfl,yf _ _,rfl,.inl ⟨rfl,rfl⟩⟩
  | some a=>exact z2v a d w
 ·obtain⟨i,p,j⟩:=zz.1 z0z;obtain⟨k,l,m⟩:i.zero=some (.agg #[.string ⟨#[]⟩,.string ⟨#[]⟩,.bool false,.int .i64 0])∧i.size=4∧i.bytes=48:=by simpa using j
  refine(AnyE.slices_Clone Tryz.cloneLie i (.agg #[.string ⟨#[]⟩,.string ⟨#[]⟩,.bool false,.int .i64 0]) 4 48 p k l m rfl (by omega) sizeOf36 b n c.length d (lcs c) w (zut c) (by unfold maxLen;omega) (by omega) r (ylk c)).mono ?_;rintro e g ⟨f,rfl,q,-,o⟩;exact⟨f,rfl,o,q⟩
theorem z3x {a:List Ly}(h:w.ownsRow B 36 4 v a.length (lcs a)):zva w v a:=by
 rcases h.2 with ⟨rfl,h0⟩ | ⟨g,d,b,rfl,-,n,s,r,t,q⟩
 ·exact⟨none,0,by rw [h0],.inl h0⟩
 ·refine⟨_,d,rfl,.inr ⟨g,rfl,b,n,fun j o=>?_⟩⟩;have c:∀ k u,k < a.length*4→(lcs a)[k]?=some u→b[k]?=some u:=fun k u p e=>by
   rw [← q,qj,if_pos p,zco] at e;exact e
  obtain⟨f,i,l,m⟩:=yhm a j o;exact⟨c _ _ (by omega) f,c _ _ (by omega) i,c _ _ (by omega) l,c _ _ (by omega) m⟩
theorem yc1 (n:Nat):madeCells #[.int .i64 0] n=((List.replicate n (0:Int)).map (Value.int .i64)).toArray:=by
 apply Array.ext
 ·simp [madeCells]
 ·intro i a b;simp [madeCells,Nat.mod_one]
theorem zrv (O:Nat→Prop)(d B:Nat)(n:Nt)(v:Value)(b:List Ly)(w:World)(U:b.length≤1000000000)(R:zdn w O d B n)(h:Lss w v b):
  Calls prog 18 #[.pointer (some ⟨d,0,none⟩),v] w fun r H=>r= .returned (.tuple #[])∧zq O [93] w H∧zdn H (jz O w H) d B ⟨b,List.replicate b.length 0,n.fetches⟩:=by
 obtain⟨lv,tv,J,K,-,-,-⟩:=R;obtain⟨a,N,e,-⟩:=id h;have u:=zf (z62 v b w U h);have x:=zf J;have I:=zf K;have S:=run_make_row' (P:=prog) 91 3 (.int .i64 0) 8 underlying91 yle rfl .i64 .i64 b.length (by omega) (by omega);clear K h J;subst e;go_enter func18,ntmps18;go_wp2_with fail;refine u.o.mono ?_;rintro r f ⟨W,rfl,p,D⟩;have m:zq O [] w f:= .of_below p;have k:=zf (m.keep I.o (by simp));have y:=zf D;obtain⟨i,j,rfl⟩:∃ a c,W= .slice a b.length c:=by
  rcases D.2 with ⟨rfl,h0⟩ | ⟨g,Z,Q,rfl,-⟩
  ·exact⟨none,0,by rw [h0]⟩
  ·exact⟨_,_,rfl⟩
 have V:d≠f.heap.size:=by have:=zi k.o;omega
 obtain⟨X,f1⟩:=zw k.o 1 _ rfl;have l:Hid (∀ o,((f.setCell ⟨d,1,none⟩ (.slice i b.length j)).alloc o).heap[d]?=some (.cells #[zdp B,.slice i b.length j,tv,.int .i64 n.fetches] 93 (0,0))):=fun o=>(zq.of_below (O:=O) (T:=[]) (zk _ o)).keep (zav k.o 1 (.slice i b.length j)) (by simp);have f2:∀ o,((f.setCell ⟨d,1,none⟩ (.slice i b.length j)).alloc o).frozen? ⟨d,2,none⟩=false:=fun o=>(zw (l.o o) 2 _ rfl).2;have Y:∀ o,((f.setCell ⟨d,1,none⟩ (.slice i b.length j)).alloc o).cell? ⟨d,2,none⟩=some tv:=fun o=>(zw (l.o o) 2 _ rfl).1;have z:=zf p.size;have A:Hid (∀ o,zq O [93] w ((f.setCell ⟨d,1,none⟩ (.slice i b.length j)).alloc o)):=fun o=>((m.mono (T':=[93]) (fun _ h=>h) (by simp)).set (.inl x.o) k.o (by simp) _).then_below (zk _ o);have L:Hid (∀ o,((f.setCell ⟨d,1,none⟩ (.slice i b.length j)).alloc o).ownsRow w.heap.size 36 4 (.slice i b.length j) b.length (lcs b)):=fun o=>zo (zo y.o ((zq.refl (fun _=>True) [93] f).set (.inl trivial) k.o (by simp) (.slice i b.length j)) (by decide)) (zq.of_below (O:=O) (T:=[]) (zk _ o)) (by simp);have M:Hid (∀ o,((f.setCell ⟨d,1,none⟩ (.slice i b.length j)).alloc o).heap[f.heap.size]?=some o):=fun o=>by
  have:=zg (f.setCell ⟨d,1,none⟩ (.slice i b.length j)) o;simpa [World.setCell] using this
 clear p D m I;go_wp2_with fail
 go_end0
 have q:=l.o (.cells (madeCells #[.int .i64 0] b.length) 3);have F:=A.o (.cells (madeCells #[.int .i64 0] b.length) 3);have G:=L.o (.cells (madeCells #[.int .i64 0] b.length) 3);have s:=M.o (.cells (madeCells #[.int .i64 0] b.length) 3);generalize (f.setCell ⟨d,1,none⟩ (.slice i b.length j)).alloc (.cells (madeCells #[.int .i64 0] b.length) 3)=t at *;have E:zq (fun _=>True) [93] t (t.setCell ⟨d,2,none⟩ (.slice (some ⟨f.heap.size,0,none⟩) b.length b.length)):=(zq.refl (fun _=>True) [93] t).set (.inl trivial) q (by simp) _;have C:f.heap.size < t.heap.size:=zi s;refine⟨rfl,F.set (.inl x.o) q (by simp) _,_,_,.inl x.o,zav q 2 _,z3x (zo G E (by decide)),⟨_,_,by rw [List.length_replicate],.inr ⟨f.heap.size,rfl,.inr ⟨z.o,zx C E.size⟩,?_⟩⟩,by simp⟩;rw [E.keep s (by decide),yc1]
variable {cap k:Nat}
theorem zq1 (a b:List Ly):lcs (a++b)=lcs a++lcs b:=by simp [lcs]
theorem ykh (w:World){ops:Array Oper}{rest:List Oper}{o:Oper}{a:Act}{Q:Exit→Act→World→Prop}
 (e:o.guard=none) (s x:Operand) (j:o.op=Op.call { callee:=Callee.builtin Builtin.append,args:=#[s,x],argTypes:=#[23,23] })
 (B:Nat) (G:B≤w.heap.size) (v:Value) (L:List Ly) (D:a.eval s=v) (d:w.ownsRow B 36 4 v L.length (lcs L))
 (l:Ly) (H:Nat) (u:w.heap.size=H) (E:a.eval x= .slice (some ⟨H,0,none⟩) 1 1) (I:L.length≤1000000000)
 (h:∀ r p,p.ownsRow B 36 4 r (L++[l]).length (lcs (L++[l]))→zq (fun g=>v.ownBlock=some g) [36] w p→wpList prog ops Q rest (a.put o.dst r) p):wpList prog ops Q (o::rest) a (w.alloc (.cells #[qo l.path,qo l.data,.bool l.fails,.int .i64 l.times] 36)):=by
 obtain⟨i,A,f⟩:=zz.1 z0z;obtain⟨k,m,n⟩:i.zero=some (.agg #[.string ⟨#[]⟩,.string ⟨#[]⟩,.bool false,.int .i64 0])∧i.size=4∧i.bytes=48:=by simpa using f
 subst u;have q:=zbt d (.cells #[qo l.path,qo l.data,.bool l.fails,.int .i64 l.times] 36);refine zaa _ e s x _ j B 36 i (.agg #[.string ⟨#[]⟩,.string ⟨#[]⟩,.bool false,.int .i64 0]) 4 48 underlying23 A k m n rfl (by omega) v L.length (lcs L) D q ⟨w.heap.size,0,none⟩ 1 1 [qo l.path,qo l.data,.bool l.fails,.int .i64 l.times] E rfl (xj (zg _ _)) (by simp [qo,Value.oneCell']) (by omega) (by unfold maxLen;omega) (by omega) (by simp;omega) (w.heap.size+1) (by simp) fun g t F c b y C=>?_;refine h _ F ?_ (((zq.refl (fun g=>v.ownBlock=some g) [36] w).alloc _).grown q b (fun g z=> .inl z) (by simp));rw [zy,zq1];exact c
theorem zo2 {L:List Ly}(h:w.ownsRow B 36 4 v L.length (lcs L)):Lss w v L:=by
 rcases h.2 with ⟨rfl,h0⟩ | ⟨g,a,d,rfl,-,e,k,i,l,f⟩
 ·exact⟨none,0,by rw [h0],.inl (j5.1 h0)⟩
 ·refine⟨_,a,rfl,.inr ⟨g,0,rfl,fun j u b=>?_⟩⟩;have c:=(xy.1 b).1;rw [zut] at c;rw [xk,yq _ _ _ _ _ _ e];rw [← f,qj,if_pos c,zco] at b;exact b
theorem yht {a:Option Addr}{n:Nat}{c:List Ly}(h:Lss w (.slice a n cap) c)(l:k < c.length):∃ b d,a=some ⟨b,d,none⟩∧w.cell? ⟨b,d+k*4,none⟩=some (qo c[k].path)∧w.cell? ⟨b,d+k*4+1,none⟩=some (qo c[k].data)∧w.cell? ⟨b,d+k*4+2,none⟩=some (.bool c[k].fails)∧w.cell? ⟨b,d+k*4+3,none⟩=some (.int .i64 c[k].times):=by
 obtain⟨q,i,e,h | ⟨b,d,m,g⟩⟩:=h
 ·rw [h] at l;simp at l
 ·cases e;have e:c=c.take k++c[k]::c.drop (k+1):=by rw [List.getElem_cons_drop,List.take_append_drop]
  have o:(lcs (c.take k)).length=k*4:=by rw [zut,vi,zjv (by omega)]
  have f:∀ j u,j < 4→[qo c[k].path,qo c[k].data,Value.bool c[k].fails,Value.int .i64 c[k].times][j]?=some u→(lcs c)[k*4+j]?=some u:=fun j u r p=>by
   rw [e,zq1,qi (by omega),o,zc1,show c[k]::c.drop (k+1)=[c[k]]++c.drop (k+1) from rfl,zq1,qd (by simp [lcs];omega)];simpa [lcs] using p
  exact⟨b,d,m,g _ _ (f 0 _ (by omega) rfl),g _ _ (f 1 _ (by omega) rfl),g _ _ (f 2 _ (by omega) rfl),g _ _ (f 3 _ (by omega) rfl)⟩
theorem zyk (v:Value)(c:za)(s:zc)(w:World)(J:c.length≤1000000000)(h:Sss w v (c.map tb)):
  Calls prog 24 #[v,qo s] w fun r F=>r= .returned (.bool (decide (s∈c)))∧F=w:=by
 obtain⟨a,A,rfl,n,d⟩:=h;simp only [yi] at n d ⊢;have H:=zf d;clear d;unfold qo;go_enter func24,ntmps24;go_wp2_with fail
 go_loop [5] (fun i=>∃ k:Nat,k≤c.length∧i= .int .i64 k∧∀ j (m:j < c.length),j < k→c[j]≠s) (fun i=>c.length - (intOf i).toNat)
 case atStart=>exact⟨0,yv _,rfl,fun j m h=>by omega⟩
 case round =>
  obtain⟨k,I,rfl,t⟩:=hrel;have u:=zf t;clear t
  by_cases g:k < c.length
  ·obtain⟨b,f,rfl,q⟩:∃ b f,a=some ⟨b,f,none⟩∧∀ i (h:i < c.length),w.cell? ⟨b,f+i,none⟩=some (.string ⟨c[i].toArray⟩):=by
    rcases H.o with h | ⟨b,f,B,C⟩
    ·have h0:c=[]:=by simpa using h
     rw [h0] at g;simp at g
    ·exact⟨b,f,B,fun j m=>(C j m).trans (by rw [za4];rfl)⟩
   have G:=q k g;clear q
   by_cases l:c[k]=s
   ·have z:Hid (s∈c):=l▸yd g;rw [l] at G;clear l u;go_wp2_with fail;go_ret;exact⟨by rw [decide_eq_true z.o];rfl,rfl⟩
   ·have x:Hid (∀ j (m:j < c.length),j < k+1→c[j]≠s):=fun j y D=>by
     rcases qu j k with h | h
     ·exact u.o j y h
     ·obtain rfl:j=k:=by omega
      exact l
    generalize c[k]=p at *;clear u;go_wp2_with fail
    ·first
      | (rename_i h _;exact absurd (by simpa using h) l)
      | (rename_i h _ _;exact absurd (by simpa using h) l)
      | (rename_i h _ _ _;exact absurd (by simpa using h) l)
    ·go_round
     case rel=>exact⟨k+1,by omega,by go_num,x.o⟩
     case measure=>simp [intOf];omega
  ·go_wp2_with fail;go_ret;refine⟨?_,rfl⟩;have:¬ s∈c:=fun E=>by
    obtain⟨j,m,e⟩:=vo E;exact u.o j m (by omega) e
   rw [decide_eq_false this]
   rfl
def noT (l:Ly):Ly:={ l with times:=0 }
theorem ycy (v:Value)(d:List Ly)(w:World)(K:d.length≤1000000)(h:Lss w v d):
  Calls prog 7 #[v] w fun r B=>∃ x,r= .returned x∧Below w.heap.size w B∧B.ownsRow w.heap.size 36 4 x (d.map noT).length (lcs (d.map noT)):=by
 obtain⟨a,C,rfl,-⟩:=id h;have H:=zf h;clear h;go_enter func7,ntmps7;go_wp2_with fail;go_loopw [3,4,5] (fun t i _ wr=>∃ k:Nat,k≤d.length∧i= .int .i64 k∧Below w.heap.size w wr∧wr.ownsRow w.heap.size 36 4 t ((d.take k).map noT).length (lcs ((d.take k).map noT))) (fun _ i _ _=>d.length - (intOf i).toNat)
 case atStart=>exact⟨0,yv _,rfl,yf _ _,⟨rfl,.inl ⟨rfl,rfl⟩⟩⟩
 case round =>
  obtain⟨k,J,rfl,A,c⟩:=hrel;have m:=zf A;have n:=zf c;clear A c
  by_cases f:k < d.length
  ·obtain⟨b,E,rfl,G,I,M,N⟩:=yht (H.o.below m.o) f;unfold qo at G I;have z:Hid ((d.take (k+1)).map noT=(d.take k).map noT++[noT d[k]]):=by
    show _=_;rw [qf f,yy]
    rfl
   generalize d[k]=l at *;have u:=zf (fun o=>zbt n.o o);have e:=zf (fun o=>m.o.alloc m.o.size o);have y:Hid (∀ o,w.heap.size≤(wr.alloc o).heap.size):=fun o=>(e.o o).size;have q:Hid (((d.take k).map noT).length≤1000000000):=by show _≤_;rw [yi,vi];omega
   go_wp2_with (at_builtin;refine ykh _ rfl _ _ rfl w.heap.size (y.o _) u3 ((d.take k).map noT) rfl (u.o _) (noT l) (wr.heap.size+1) (by simp) rfl q.o ?_;intro L F c j);have p:Hid (Below w.heap.size w F):=(e.o _).trans (j.below (fun g D=>vq n.o g D) (e.o _).size);have s:=zf c;clear j c;go_wp2_with fail
   go_roundw
   case rel=>exact⟨k+1,by omega,by go_num,p.o,by rw [z.o];exact s.o⟩
   case measure=>simp [intOf];omega
  ·obtain rfl:k=d.length:=by omega
   rw [jg] at n;go_wp2_with fail;go_ret;exact⟨_,rfl,m.o,n.o⟩
variable {E:Prop}{fv lv v' v1:Value}{m nb:Nat}{w0 w3:World}
theorem yha:(prog.info? 4).map (fun i=>(i.zero,i.size,i.bytes))=some (some (.bool false),1,1):=by kernel_rfl
theorem yeo (w:World){ops:Array Oper}{o:Oper}{a:Act}{K:Act→World→Prop}{Q:Exit→Act→World→Prop}(k:o.guard=none)(s x:Operand)
 (m:o.op=Op.call { callee:=Callee.builtin Builtin.append,args:=#[s,x],argTypes:=#[115,115] })
 (B:Nat) (I:B≤w.heap.size) (v:Value) (n:Nat) (j:List Bool) (F:a.eval s=v) (f:w.ownsRow B 4 1 v n (j.map Value.bool))
 (t:Bool) (G:a.eval x= .slice (some ⟨w.heap.size,0,none⟩) 1 1) (J:n≤1000000000)
 (h:∀ g b u,u.ownsRow B 4 1 (.slice (some ⟨g,0,none⟩) (n+1) b) (n+1) ((j++[t]).map Value.bool)→zq (fun g=>v.ownBlock=some g) [4] w u→K (a.put o.dst (.slice (some ⟨g,0,none⟩) (n+1) b)) u):if Region.wanted o (yielded ops a.tmps)=true then Oper.wp prog o a (w.alloc (.cells #[.bool t] 4)).drew K Q else E:=by
 obtain⟨i,A,l⟩:=zz.1 yha;obtain⟨p,q,r⟩:i.zero=some (.bool false)∧i.size=1∧i.bytes=1:=by simpa using l
 have D:=zbt f (.cells #[.bool t] 4);have e:(w.alloc (.cells #[.bool t] 4)).drew.ownsRow B 4 1 v n (j.map Value.bool):=D;refine vu _ k s x _ m B 4 i (.bool false) 1 1 underlying115 A p q r rfl (by omega) v n (j.map Value.bool) F e ⟨w.heap.size,0,none⟩ 1 1 [.bool t] G rfl (xj (w:=(w.alloc (.cells #[.bool t] 4)).drew) (zg _ _)) (by simp [Value.oneCell']) (by omega) (by unfold maxLen;omega) (by omega) (by show B≤(w.alloc _).heap.size;simp;omega) (w.heap.size+1) (by show(w.alloc _).heap.size=_;simp) fun g b H d c y C=>?_;refine h g b H ?_ (((zq.refl (fun g=>v.ownBlock=some g) [4] w).alloc _).drew.grown e c (fun g z=> .inl z) (by simp));rw [yy];exact d
theorem yep (w:World){ops:Array Oper}{o:Oper}{a:Act}{K:Act→World→Prop}{Q:Exit→Act→World→Prop}(l:o.guard=none)(s x:Operand)
 (p:o.op=Op.call { callee:=Callee.builtin Builtin.append,args:=#[s,x],argTypes:=#[45,45] })
 (B:Nat) (J:B≤w.heap.size) (v:Value) (n:Nat) (k:Fs) (G:a.eval s=v) (j:w.ownsRow B 50 2 v n (jk k))
 (e t:zc) (H:a.eval x= .slice (some ⟨w.heap.size,0,none⟩) 1 1) (L:n≤1000000000)
 (h:∀ g b y,y.ownsRow B 50 2 (.slice (some ⟨g,0,none⟩) (n+1) b) (n+1) (jk (k++[(e,t)]))→zq (fun g=>v.ownBlock=some g) [50] w y→K (a.put o.dst (.slice (some ⟨g,0,none⟩) (n+1) b)) y):if Region.wanted o (yielded ops a.tmps)=true then Oper.wp prog o a (w.alloc (.cells #[qo e,qo t] 50)).drew K Q else E:=by
 obtain⟨i,C,m⟩:=zz.1 zs1;obtain⟨q,r,u⟩:i.zero=some (.agg #[.string ⟨#[]⟩,.string ⟨#[]⟩])∧i.size=2∧i.bytes=32:=by simpa using m
 have F:=zbt j (.cells #[qo e,qo t] 50);have f:(w.alloc (.cells #[qo e,qo t] 50)).drew.ownsRow B 50 2 v n (jk k):=F;refine vu _ l s x _ p B 50 i (.agg #[.string ⟨#[]⟩,.string ⟨#[]⟩]) 2 32 underlying45 C q r u rfl (by omega) v n (jk k) G f ⟨w.heap.size,0,none⟩ 1 1 [qo e,qo t] H rfl (xj (w:=(w.alloc (.cells #[qo e,qo t] 50)).drew) (zg _ _)) (by simp [qo,Value.oneCell']) (by omega) (by unfold maxLen;omega) (by omega) (by show B≤(w.alloc _).heap.size;simp;omega) (w.heap.size+1) (by show(w.alloc _).heap.size=_;simp) fun g b I d c z D=>?_;refine h g b I ?_ (((zq.refl (fun g=>v.ownBlock=some g) [50] w).alloc _).drew.grown f c (fun g A=> .inl A) (by simp));rw [zjc];exact d
def zx2 (b w:World)(a:Nat)(g d c:Value)(n m:Nat)(f:List Ly)(e:List Bool):Prop :=
 Below b.heap.size b w∧b.heap.size≤a∧w.heap[a]?=some (.cells #[g,d,c] 117 (0,0))∧w.ownsRow (a+1) 50 2 d n (jk (lyF f))∧w.ownsRow (a+1) 4 1 c m (e.map Value.bool)
theorem zx2.lie {n:Nat}{b:List Ly}{e:List Bool}{l:Ly}(h:zx2 w0 w nb v1 lv fv n m b e)(q:w3.ownsRow (nb+1) 50 2 v' (n+1) (jk (lyF b++[(l.path,l.data)])))(d:zq (fun g=>lv.ownBlock=some g) [50] w w3):zx2 w0 (w3.setCell ⟨nb,1,none⟩ v') nb v1 v' fv (n+1) m (b++[l]) e:=by
 obtain⟨f,i,k,o,p⟩:=h;have a:=d.keep k (by decide);have c:zq (fun g=>g=nb) [117] w3 (w3.setCell ⟨nb,1,none⟩ v'):=(zq.refl (fun g=>g=nb) [117] w3).set (.inl rfl) a (by simp) _;have j:=f.trans (d.below (fun g a=>zu i (Nat.le_of_succ_le (vq o g a))) f.size);refine⟨j.trans (c.below (fun g a=>by omega) j.size),i,zav a 1 v',?_,zo (zo p d (by decide)) c (by decide)⟩;rw [show lyF (b++[l])=lyF b++[(l.path,l.data)] by simp [lyF]];exact zo q c (by decide)
theorem zx2.fail {n:Nat}{k:List Ly}{c:List Bool}{b:Bool}(h:zx2 w0 w nb v1 lv fv n m k c)(q:w3.ownsRow (nb+1) 4 1 v' (m+1) ((c++[b]).map Value.bool))(e:zq (fun g=>fv.ownBlock=some g) [4] w w3):zx2 w0 (w3.setCell ⟨nb,2,none⟩ v') nb v1 lv v' n (m+1) k (c++[b]):=by
 obtain⟨f,i,l,o,p⟩:=h;have a:=e.keep l (by decide);have d:zq (fun g=>g=nb) [117] w3 (w3.setCell ⟨nb,2,none⟩ v'):=(zq.refl (fun g=>g=nb) [117] w3).set (.inl rfl) a (by simp) _;have j:=f.trans (e.below (fun g a=>zu i (Nat.le_of_succ_le (vq p g a))) f.size);exact⟨j.trans (d.below (fun g a=>by omega) j.size),i,zav a 2 v',zo (zo o e (by decide)) d (by decide),zo q d (by decide)⟩
theorem ykl {a:List Bool}(h:w.ownsRow B 4 1 v a.length (a.map Value.bool)):Bls w v a:=by
 rcases h.2 with ⟨rfl,h0⟩ | ⟨g,c,d,rfl,-,e,l,k,m,i⟩
 ·exact⟨none,0,by rw [h0],by omega,.inl (j5.1 h0)⟩
 ·refine⟨_,c,rfl,by omega,.inr ⟨g,0,rfl,fun j f=>?_⟩⟩;have b:(a.map Value.bool)[j]?=some (.bool a[j]):=by simp [f]
  rw [xk,yq _ _ _ _ _ _ e];rw [← i,qj,if_pos (by omega),zco] at b;exact b
theorem yap (O:Nat→Prop)(b Q:Nat)(d:Dk)(v:Value)(g:List Ly)(w:World)(hn:d.fs.length≤1000000000)(hl:g.length≤1000000)(h:yw w O b d)(X:w.cell? ⟨Q,0,none⟩=some (zdp b))(hv:Lss w v g):
  Calls prog 22 #[.pointer (some ⟨Q,0,none⟩),v] w fun r w'=>∃ N,∃ e:Fs,r= .returned (yx N)∧w.heap.size≤N∧e.Perm d.fs∧Below w.heap.size w w'∧zso w' N e g:=by
 have R:=zf (ziv O b Q d w hn h X);obtain⟨a,aa,rfl,-⟩:=id hv;have HV:=zf hv;clear h X hv;go_enter func22,ntmps22;go_wp2_with fail;refine R.o.mono ?_;rintro r j ⟨v1,e,rfl,Z,L,x,-⟩;have HP:=zf Z;have B:=zf L;have q:=zf x;obtain⟨J,K,rfl,-,-⟩:=id L;clear Z L x R;have G:=zf (HV.o.below q.o);have s:Hid (zx2 j (j.alloc (.cells #[.slice J e.length K,.slice none 0 0,.slice none 0 0] 117)) j.heap.size (.slice J e.length K) (.slice none 0 0) (.slice none 0 0) 0 0 [] []):=⟨zk _ _,zm _,zg _ _,⟨rfl,.inl ⟨rfl,rfl⟩⟩,⟨rfl,.inl ⟨rfl,rfl⟩⟩⟩;go_wp2_with fail;go_loopw [6] (fun i wr=>∃(k:Nat) (lv U:Value),k≤g.length∧i= .int .i64 k∧zx2 j wr j.heap.size (.slice J e.length K) lv U k k (g.take k) ((g.take k).map (·.fails))) (fun i _=>g.length - (intOf i).toNat)
 case atStart=>exact⟨0,_,_,yv _,rfl,s.o⟩
 case round =>
  obtain⟨k,lv,U,hk,rfl,Y⟩:=hrel;have n:=zf Y;clear Y s
  by_cases y:k < g.length
  ·obtain⟨b,ad,rfl,z,A,z2,-⟩:=yht G.o y;have F:Hid (g.take (k+1)=g.take k++[g[k]]):=qf y;have t:Hid (k≤1000000000):=zu hk (zu hl (by decide));have E:Hid (j.heap.size+1≤wr.heap.size):=ju n.o.2.2.1;obtain⟨la,lc,rfl⟩:=qr n.o.2.2.2.1;obtain⟨V,W,rfl⟩:=qr n.o.2.2.2.2;generalize g[k]=l at *;unfold qo at z A;have y0:=(n.o.1.cell (p:=⟨b,_,none⟩) (yg z)).trans z;have y1:=(n.o.1.cell (p:=⟨b,_,none⟩) (yg A)).trans A;have S:=zf z2;obtain⟨H,f1⟩:=zw n.o.2.2.1 1 _ rfl;clear z A z2;have I:∀ o,(wr.alloc o).drew.cell? ⟨j.heap.size,1,none⟩=some (.slice la k lc):=fun o=>(yp _ _ ⟨j.heap.size,1,none⟩ (yg H)).trans H;go_wp2_with fail
   go_region_law (refine yep wr (by rfl) _ _ (by rfl) (j.heap.size+1) E.o (.slice la k lc) k (lyF (g.take k)) (by rfl) n.o.2.2.2.1 l.path l.data (by rfl) t.o ?_;intro g3 u w3 c f;have m:=zf (zx2.lie (l:=l) n.o c f);obtain⟨k1,g1⟩:=zw (f.keep n.o.2.2.1 (by decide)) 1 _ rfl;clear c f)
   all_goals
    generalize M:w3.setCell ⟨j.heap.size,1,none⟩ (.slice (some ⟨g3,0,none⟩) (k+1) u)=P at *;obtain⟨k2,g2⟩:=zw m.o.2.2.1 2 _ rfl;have y2:=(m.o.1.cell (p:=⟨b,_,none⟩) (yg S.out)).trans S.out;have D:Hid (j.heap.size+1≤P.heap.size):=ju m.o.2.2.1;clear M I H f1 k1 g1;have ab:∀ o,(P.alloc o).drew.cell? ⟨j.heap.size,2,none⟩=some (.slice V k W):=fun o=>(yp _ _ ⟨j.heap.size,2,none⟩ (yg k2)).trans k2;go_wp2_with fail
    go_region_law (refine yeo P (by rfl) _ _ (by rfl) (j.heap.size+1) D.o (.slice V k W) k ((g.take k).map (·.fails)) (by rfl) m.o.2.2.2.2 l.fails (by rfl) t.o ?_;intro g5 T w5 c f;have C:=zf (zx2.fail (b:=l.fails) m.o c f);obtain⟨m1,n1⟩:=zw (f.keep m.o.2.2.1 (by decide)) 2 _ rfl;clear c f)
    all_goals
     go_wp2_with fail
     go_roundw
     case rel=>exact⟨k+1,_,_,by omega,by go_num,by rw [F.o,yy];exact C.o⟩
     case measure=>simp [intOf];omega
  ·obtain rfl:k=g.length:=by omega
   rw [jg] at n;go_wp2_with fail;go_ret;obtain⟨q1,q2,q3,q4,q5⟩:=n.o;exact⟨j.heap.size,e,rfl,zu q.o.size q2,HP.o,q.o.trans (q1.mono q.o.size),_,_,_,q3,B.o.below q1,zf9 (by rw [yi];exact q4),ykl (by rw [yi];exact q5)⟩
structure Wd where
 key:zc
 published:Int
 failed:Bool
 foreign:Bool
def yns (a:Nat)(c b:Value)(x:Wd):Array Value:=#[zdp a,qo x.key,c,b,.int .i64 x.published,.bool x.failed,.bool x.foreign]
def WAt (w:World)(d a:Nat)(c b:Value)(x:Wd):Prop:=w.heap[d]?=some (.cells (yns a c b x) 42 (0,0))
theorem ye6 (v:Value)(fs:Fs)(b:zc)(w:World)(A:fs.length≤1000000)(h:Fss w v fs):
  Calls prog 10 #[v,qo b] w fun r t=>r= .returned (.pointer (some ⟨w.heap.size,0,none⟩))∧Below w.heap.size w t∧WAt t w.heap.size (w.heap.size+1) (.pointer none) (.slice none 0 0) { key:=b,published:=0,failed:=false,foreign:=false }∧yw t (fun k=>w.heap.size≤k) (w.heap.size+1) { dk0 with fs:=zl3 [] fs }:=by
 have y:=zf h;obtain⟨a,z,rfl,i,-⟩:=h;clear i;unfold qo;go_enter func10,ntmps10;go_wp2_with fail;have c:Hid (Below w.heap.size w (w.alloc (.cells #[.pointer none,.string ⟨b.toArray⟩,.pointer none,.slice none 0 0,.int .i64 0,.bool false,.bool false] 42))):=zk _ _;have f:Hid ((w.alloc (.cells #[.pointer none,.string ⟨b.toArray⟩,.pointer none,.slice none 0 0,.int .i64 0,.bool false,.bool false] 42)).heap[w.heap.size]?=some (.cells #[.pointer none,.string ⟨b.toArray⟩,.pointer none,.slice none 0 0,.int .i64 0,.bool false,.bool false] 42 (0,0))):=zg _ _;have q:Hid ((w.alloc (.cells #[.pointer none,.string ⟨b.toArray⟩,.pointer none,.slice none 0 0,.int .i64 0,.bool false,.bool false] 42)).heap.size=w.heap.size+1):=by show _=_;simp
 generalize (w.alloc (.cells #[.pointer none,.string ⟨b.toArray⟩,.pointer none,.slice none 0 0,.int .i64 0,.bool false,.bool false] 42))=u at *;refine(ylp _ fs u A (y.o.below c.o)).mono ?_;rintro r m ⟨rfl,d,j⟩;have e:m.heap[w.heap.size]?=some (.cells #[.pointer none,.string ⟨b.toArray⟩,.pointer none,.slice none 0 0,.int .i64 0,.bool false,.bool false] 42 (0,0)):=by rw [d.block _ (zi f.o)];exact f.o
 obtain⟨B,f0⟩:=zw e 0 _ rfl;have g:=zf e;have n:Hid (Below w.heap.size w m):=c.o.trans (d.mono c.o.size);have p:=zf j;clear d e j;unfold zdp;go_wp2_with fail;go_ret;have x:=q.o;have t1:zq (fun _=>True) [42] m (m.setCell ⟨w.heap.size,0,none⟩ (.pointer (some ⟨u.heap.size,0,none⟩))):=(zq.refl _ _ m).set (.inl trivial) g.o (by simp) _;have l:=(p.o.stay t1 (by decide) (by decide)).mono (O':=fun k=>w.heap.size≤k) (fun k C=>by omega);have s:=zav g.o 0 (.pointer (some ⟨u.heap.size,0,none⟩));refine⟨rfl,n.o.setCell (zm _) _,?_,?_⟩
 ·unfold WAt;rw [s,x]
  rfl
 ·rw [x] at l ⊢;exact l
end Go.Proofs.YtlcllcgngjhoaaaGreatDoor
