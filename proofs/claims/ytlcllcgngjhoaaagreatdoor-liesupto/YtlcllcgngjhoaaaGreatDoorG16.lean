import Derived.Shelf.SlSortCmp.NoneTotal
import Derived.Shelf.SlicesE.Clone
import Derived.Lib.OwnBridge
import Derived.Test.YtlcllcgngjhoaaaGreatDoorG15
set_option maxHeartbeats 8000000
set_option maxRecDepth 100000
set_option linter.all false
namespace Go.Proofs.YtlcllcgngjhoaaaGreatDoor
open Go.RowKit Go.Proofs.Tryz
def z17:=@Nat.sub_zero
end Go.Proofs.YtlcllcgngjhoaaaGreatDoor
namespace Go.Proofs
open Go.Shelf
def Tryz.sortFile_ren:Go.Shelf.Ren:=⟨fun | 6=>79 | 15=>108 | 14=>107 | 28=>151 | 29=>152 | 20=>143 | 21=>144 | 22=>145 | 23=>146 | 24=>147 | 25=>148 | 26=>149 | 27=>150 | 46=>192 | 47=>193 | 48=>194 | 49=>195 | 50=>196 | 57=>228 | n=>n,fun | 22=>75 | 24=>99 | 25=>169 | 3=>3 | 39=>184 | 0=>0 | 53=>160 | 55=>183 | 4=>4 | 46=>261 | 45=>260 | 50=>265 | 5=>5 | 9=>9 | 66=>320 | 70=>324 | 76=>348 | 77=>349 | n=>n,fun | n=>n⟩
theorem Tryz.sortFile:Go.Proofs.SlLaysF0.n6 Tryz.prog Tryz.sortFile_ren:={
 mixed:=by kernel_rfl
 f6:=⟨Tryz.f79.name,by decide,Tryz.func79.trans (congrArg some (by kernel_rfl))⟩
 f14:=⟨Tryz.f107.name,by decide,Tryz.func107.trans (congrArg some (by kernel_rfl))⟩
 f15:=Tryz.func108.trans (congrArg some (by kernel_rfl))
 f20:=⟨Tryz.f143.name,by decide,Tryz.func143.trans (congrArg some (by kernel_rfl))⟩
 f21:=⟨Tryz.f144.name,by decide,Tryz.func144.trans (congrArg some (by kernel_rfl))⟩
 f22:=⟨Tryz.f145.name,by decide,Tryz.func145.trans (congrArg some (by kernel_rfl))⟩
 f23:=⟨Tryz.f146.name,by decide,Tryz.func146.trans (congrArg some (by kernel_rfl))⟩
 f24:=⟨Tryz.f147.name,by decide,Tryz.func147.trans (congrArg some (by kernel_rfl))⟩
 f25:=⟨Tryz.f148.name,by decide,Tryz.func148.trans (congrArg some (by kernel_rfl))⟩
 f26:=⟨Tryz.f149.name,by decide,Tryz.func149.trans (congrArg some (by kernel_rfl))⟩
 f27:=⟨Tryz.f150.name,by decide,Tryz.func150.trans (congrArg some (by kernel_rfl))⟩
 f28:=Tryz.func151.trans (congrArg some (by kernel_rfl))
 f29:=Tryz.func152.trans (congrArg some (by kernel_rfl))
 f46:=⟨Tryz.f192.name,by decide,Tryz.func192.trans (congrArg some (by kernel_rfl))⟩
 f47:=Tryz.func193.trans (congrArg some (by kernel_rfl))
 f48:=Tryz.func194.trans (congrArg some (by kernel_rfl))
 f49:=⟨Tryz.f195.name,by decide,Tryz.func195.trans (congrArg some (by kernel_rfl))⟩
 f50:=⟨Tryz.f196.name,by decide,Tryz.func196.trans (congrArg some (by kernel_rfl))⟩
 f57:=⟨Tryz.f228.name,by decide,Tryz.func228.trans (congrArg some (by kernel_rfl))⟩
 t0:=Tryz.underlying0
 a0:=Tryz.isAgg0
 z0:=Tryz.sizeOf0
 v0:=Tryz.zeroValue0
 t3:=Tryz.underlying3
 a3:=Tryz.isAgg3
 z3:=Tryz.sizeOf3
 v3:=Tryz.zeroValue3
 t4:=Tryz.underlying4
 a4:=Tryz.isAgg4
 z4:=Tryz.sizeOf4
 v4:=Tryz.zeroValue4
 t5:=Tryz.underlying5
 a5:=Tryz.isAgg5
 z5:=Tryz.sizeOf5
 v5:=Tryz.zeroValue5
 t9:=Tryz.underlying9
 a9:=Tryz.isAgg9
 z9:=Tryz.sizeOf9
 v9:=Tryz.zeroValue9
 t22:=Tryz.underlying75
 a22:=Tryz.isAgg75
 z22:=Tryz.sizeOf75
 v22:=Tryz.zeroValue75
 t25:=Tryz.underlying169
 a25:=Tryz.isAgg169
 z25:=Tryz.sizeOf169
 v25:=Tryz.zeroValue169
 t39:=Tryz.underlying184
 a39:=Tryz.isAgg184
 z39:=Tryz.sizeOf184
 v39:=Tryz.zeroValue184
 t45:=Tryz.underlying260
 a45:=Tryz.isAgg260
 z45:=Tryz.sizeOf260
 v45:=Tryz.zeroValue260
 t46:=Tryz.underlying261
 a46:=Tryz.isAgg261
 z46:=Tryz.sizeOf261
 v46:=Tryz.zeroValue261
 t50:=Tryz.underlying265
 a50:=Tryz.isAgg265
 z50:=Tryz.sizeOf265
 v50:=Tryz.zeroValue265
 t53:=Tryz.underlying160
 a53:=Tryz.isAgg160
 z53:=Tryz.sizeOf160
 v53:=Tryz.zeroValue160
 t55:=Tryz.underlying183
 a55:=Tryz.isAgg183
 z55:=Tryz.sizeOf183
 v55:=Tryz.zeroValue183
 t66:=Tryz.underlying320
 a66:=Tryz.isAgg320
 z66:=Tryz.sizeOf320
 v66:=Tryz.zeroValue320
 t70:=Tryz.underlying324
 a70:=Tryz.isAgg324
 z70:=Tryz.sizeOf324
 v70:=Tryz.zeroValue324
 t76:=Tryz.underlying348
 a76:=Tryz.isAgg348
 z76:=Tryz.sizeOf348
 v76:=Tryz.zeroValue348
 t77:=Tryz.underlying349
 a77:=Tryz.isAgg349
 z77:=Tryz.sizeOf349
 v77:=Tryz.zeroValue349 }
end Go.Proofs
namespace Go.Proofs.YtlcllcgngjhoaaaGreatDoor
open Go.RowKit Go.Proofs.Tryz
def cfF (x y:zc×zc):Int:=if x.1 < y.1 then -1 else if y.1 < x.1 then 1 else 0
def yb3 (x:zc×zc):List Value:=[qo x.1,qo x.2]
theorem z6y (x y:zc×zc):ltOf cfF x y=decide (x.1 < y.1):=by
 unfold ltOf cfF
 by_cases h:x.1 < y.1
 ·simp [h]
 ·by_cases a:y.1 < x.1<;>simp [h,a]
theorem ykp:Go.Sort.SWO (ltOf cfF) where
 irrefl x:=by rw [z6y];simp
 trans x y z h1 h2:=by
  rw [z6y] at *;simp only [vj] at *;exact List.lt_trans h1 h2
 ntrans x y z h1 h2:=by
  rw [z6y] at *;simp only [decide_eq_false_iff_not,List.not_lt] at *;exact List.le_trans h2 h1
theorem zxx (w:World)(a b:Obj):(w.alloc a).alloc b=Go.Sort.grow (w.drewN 0) #[a,b]:=by
 show World.alloc (World.alloc w a) b=_;unfold Go.Sort.grow World.alloc;simp;exact⟨by apply Array.ext';simp,rfl,rfl,rfl⟩
theorem yku (x y:zc×zc)(w:World):
  Calls prog 80 #[.agg #[qo x.1,qo x.2],.agg #[qo y.1,qo y.2]] w fun e k=>e= .returned (.int .i64 (cfF x y))∧∃ q i,k=Go.Sort.grow (w.drewN q) i:=by
 obtain⟨p,a⟩:=x;obtain⟨q,b⟩:=y;have j:Op.bytesLess p q=decide (p < q):=bytesLess_eq p q;unfold qo;simp only;go_enter func80,ntmps80;go_wp2_with fail
 ·go_ret;rename_i h;exact⟨congrArg (fun z=>Ending.returned (.int .i64 z)) (by unfold cfF;simp [h]),0,_,zxx w _ _⟩
 ·go_ret;rename_i h d;refine⟨congrArg (fun z=>Ending.returned (.int .i64 z)) ?_,0,_,zxx w _ _⟩;have c:p≠q:=by simpa using d
  have g:q < p:=by
   rcases List.le_iff_lt_or_eq.1 (List.not_lt.1 h) with f | f
   ·exact f
   ·exact absurd f.symm c
  unfold cfF;simp [h,g]
 ·go_ret;rename_i h d;refine⟨congrArg (fun z=>Ending.returned (.int .i64 z)) ?_,0,_,zxx w _ _⟩;have c:p=q:=by simpa using d
  subst c;unfold cfF;simp only;rw [if_neg h,if_neg h]
end Go.Proofs.YtlcllcgngjhoaaaGreatDoor
namespace Go.Proofs
open Go.Shelf
def Tryz.cloneFile_ren:Go.Shelf.Ren:=⟨fun | 41=>78 | n=>n,fun | 22=>75 | 23=>99 | 4=>4 | n=>n,fun | n=>n⟩
theorem Tryz.cloneFile:Go.Proofs.SlLaysE0.n41 Tryz.prog Tryz.cloneFile_ren:={
 mixed:=by kernel_rfl
 f41:=⟨Tryz.f78.name,by decide,Tryz.func78.trans (congrArg some (by kernel_rfl))⟩
 t4:=Tryz.underlying4
 a4:=Tryz.isAgg4
 z4:=Tryz.sizeOf4
 v4:=Tryz.zeroValue4
 t22:=Tryz.underlying75
 a22:=Tryz.isAgg75
 z22:=Tryz.sizeOf75
 v22:=Tryz.zeroValue75 }
end Go.Proofs
namespace Go.Proofs.YtlcllcgngjhoaaaGreatDoor
open Go.RowKit Go.Proofs.Tryz
variable {B:Nat}{a w:World}
section
open Go.RowKit Go.Lib Go.Sort
theorem z68 (fs:Fs):∀ u∈jk fs,u.oneCell'=true:=by
 intro u a;unfold jk at a;obtain⟨f,-,h⟩:=zce.1 a;simp only [jr,zf3,z4f] at h;rcases h with rfl | rfl<;>rfl
theorem z61 (o:Value)(fs:Fs)(w:World)(y:fs.length≤1000000000)(f:w.ownsRow 0 99 2 o fs.length (jk fs)):
  Calls prog 78 #[o] w fun e c=>∃ b,e= .returned b∧Below w.heap.size w c∧c.ownsRow w.heap.size 99 2 b fs.length (jk fs):=by
 rcases f.2 with ⟨rfl,h0⟩ | ⟨g,d,p,rfl,-,h,s,x,z,v⟩
 ·refine(AnyE.slices_Clone_nil Tryz.cloneFile 0 0 w).mono ?_;rintro e c ⟨rfl,rfl⟩;exact⟨_,rfl,yf _ _,f.1,.inl ⟨rfl,h0⟩⟩
 ·obtain⟨i,r,k⟩:=zz.1 zv7;obtain⟨l,m,n⟩:i.zero=some (.agg #[.string ⟨#[]⟩,.string ⟨#[]⟩])∧i.size=2∧i.bytes=32:=by simpa using k
  refine(AnyE.slices_Clone Tryz.cloneFile i (.agg #[.string ⟨#[]⟩,.string ⟨#[]⟩]) 2 32 r l m n rfl (by omega) sizeOf99 g 0 fs.length d (jk fs) w f.1 (by unfold maxLen;omega) (by omega) ?_ (z68 fs)).mono ?_
  ·intro j u a;rw [xk,yq _ _ _ _ _ _ h,← zco];rw [← v] at a;rw [qj] at a;split at a
   ·exact a
   ·simp at a
  ·rintro e c ⟨b,rfl,t,-,q⟩;exact⟨b,rfl,q,t⟩
theorem z6q (h:Below B a w)(d:B≤a.heap.size)(c:Array Obj):Below B a (Go.Sort.grow w c) :=
 ⟨h.os,h.tape,h.output,by simp only [Go.Sort.grow,Array.size_append];have:=h.size;omega,fun k b=>by
  rw [← h.block k b];have:=h.size;simp only [Go.Sort.grow];exact zhx (by omega)⟩
theorem ygp (fs:Fs)(j:Nat)(h:j < fs.length*2):(jk fs)[j]?=some (flatK yb3 2 fs.toArray)[j]! := by
 rw [get_flatK _ _ _ _ (by simpa using h)];have e:j / 2 < fs.length:=by omega
 obtain⟨c,d⟩:=zyx fs (j / 2) e;have f:fs.toArray[j / 2]! = fs[j / 2]:=by
  rw [getElem!_pos _ _ (by simpa using e)];simp
 rw [f];rcases zc9 j with b | b
 ·rw [b];have a:j / 2*2=j:=by omega
  rw [a] at c;rw [c]
  rfl
 ·rw [b];have a:j / 2*2+1=j:=by omega
  rw [a] at d;rw [d]
  rfl
theorem yem (v:Value)(fs:Fs)(s w:World)(R:fs.length≤1000000000)(G:Below s.heap.size s w)(N:w.ownsRow s.heap.size 99 2 v fs.length (jk fs)):
  Calls prog 79 #[v,.func (.func 80) #[] #[]] w fun e z=>e= .returned (.tuple #[])∧∃ p:Fs,p.Perm fs∧Fss z v p∧Below s.heap.size s z:=by
 rcases N.2 with ⟨rfl,h0⟩ | ⟨g,o,I,rfl,K,c,B,Q,S,O⟩
 ·obtain rfl:fs=[]:=zdy h0;refine(AnyF.slices_SortFunc_none Tryz.sortFile none 0 _ w).mono ?_;rintro e z ⟨rfl,rfl⟩;exact⟨rfl,[],List.Perm.refl _,⟨none,0,rfl,zm _,.inl rfl⟩,G⟩
 ·have J:∀ f w,(callFunc 80 f).run prog w= .ok (.enter 80 f) w:=zrk func80 (by kernel_rfl) rfl;have C:HoldsK yb3 2 w g 0 fs.toArray:=by
   intro j E;rw [size_flatK] at E;have A:j < fs.length*2:=by simpa using E
   rw [xk];refine⟨?_,by simp [World.frozen?,c]⟩;have e:=ygp fs j A;rw [← O,qj,if_pos (by omega),zco] at e;rw [yq _ _ _ _ _ _ c];exact e
  have r:CmpLays prog 80 #[] yb3 2 cfF g 0 fs.toArray.size w:=by
   intro m H P L x y;exact yku x y _
  have d:fs.toArray.size=fs.length:=by simp
  have a:=AnyQ.slices_SortFunc Tryz.sortFile 2 isAgg99 sizeOf99 yb3 (fun _=>rfl) (fun x v hv=>by
   simp only [yb3,jr,zf3,z4f] at hv;rcases hv with rfl | rfl<;>rfl) cfF ykp 80 #[] g 0 o fs.toArray w J r C (zi c) (by rw [d];omega)
  rw [d] at a;refine a.mono ?_;rintro e z ⟨rfl,l,n,H,F,-,rfl⟩;have D:l.size=fs.length:=by rw [F.1,d]
  have k:l.toList.Perm fs:=by
   have h:=F.2.2;rw [Array.extract_eq_self_of_le (by omega),Array.extract_eq_self_of_le (by omega)] at h;simpa using h
  have b:l.toList.length=fs.length:=by simp [D]
  have q:=holdsK_sortWorldK_c yb3 2 w g 0 fs.toArray l n H C (zi c) (by rw [D,d]);refine⟨rfl,l.toList,k,⟨some ⟨g,0,none⟩,o,by rw [b],by rw [b];exact B,.inr ⟨g,0,rfl,fun i M=>?_⟩⟩,z6q (below_putRow G K) (zm _) _⟩;rw [b] at M;have t:=(q (i*2) (by rw [size_flatK];omega)).1;have u:=(q (i*2+1) (by rw [size_flatK];omega)).1;rw [get_flatK _ _ _ _ (by omega)] at t u;rw [show i*2 / 2=i by omega,show i*2 % 2=0 by omega] at t;rw [show(i*2+1) / 2=i by omega,show(i*2+1) % 2=1 by omega] at u;rw [getElem!_pos l i (by omega)] at t u;exact⟨t,u⟩
theorem ycb (O:Nat→Prop)(b:Nat)(d:Dk)(w:World)(t:d.fs.length≤1000000000)(h:yw w O b d):
  Calls prog 46 #[zdp b] w fun r x=>∃ v,∃ c:Fs,r= .returned v∧c.Perm d.fs∧Fss x v c∧Below w.heap.size w x:=by
 obtain⟨G,B,s,m,C⟩:=h;obtain⟨A,f0⟩:=(zlg s).1;have y:=zf m;have f:=zk1 m;clear s m C B f0;obtain⟨a,e,rfl,-⟩:=f;have D:∀(q:Fn) (first e:Array Value) (w:World),(Instr.makeFunc q first e).run prog w= .ok (.func q first e) w:=fun _ _ _ _=>rfl;unfold zdp;go_enter func46,ntmps46;go_wp2_with fail;refine(z61 _ d.fs w t y.o).mono ?_;rintro r E ⟨H,rfl,g,n⟩;have k:=zf g;have z:=zf n;have f:=zk1 n;clear g n A;obtain⟨F,p,rfl,-⟩:=f;go_wp2_with fail;refine(yem _ d.fs w E t k.o z.o).mono ?_;rintro r I ⟨rfl,c,u,j,i⟩;have l:=zf (And.intro u (And.intro j i));clear u j i;go_wp2_with fail;go_ret;exact⟨_,c,rfl,l.o.1,l.o.2.1,l.o.2.2⟩
end
variable {B' k:Nat}{e t:TypeId}{v:Value}{xs:List Value}
theorem zs1:(prog.info? 50).map (fun i=>(i.zero,i.size,i.bytes))=some (some (.agg #[.string ⟨#[]⟩,.string ⟨#[]⟩]),2,32):=by kernel_rfl
theorem zq4 {n:Nat}(h:w.ownsRow B e k v n xs)(f:B'≤B):w.ownsRow B' e k v n xs:=by
 refine⟨h.1,?_⟩;rcases h.2 with h | ⟨g,a,b,c,d,r⟩
 ·exact .inl h
 ·exact .inr ⟨g,a,b,c,zu f d,r⟩
theorem zf9 {fs:Fs}(h:w.ownsRow B t 2 v fs.length (jk fs)):Fss w v fs:=by
 obtain⟨a,b,rfl,h0 | ⟨g,rfl,d,c,f,-,j⟩⟩:=zk1 h
 ·obtain rfl:fs=[]:=zdy h0;exact⟨a,b,rfl,yv _,.inl rfl⟩
 ·refine⟨_,b,rfl,f,.inr ⟨g,0,rfl,fun i e=>?_⟩⟩;rw [xk,yq _ _ _ _ _ _ c,yq _ _ _ _ _ _ c];exact j i e
theorem ziv (O:Nat→Prop)(b wb:Nat)(d:Dk)(w:World)(hn:d.fs.length≤1000000000)(h:yw w O b d)(Y:w.cell? ⟨wb,0,none⟩=some (zdp b)):
  Calls prog 16 #[.pointer (some ⟨wb,0,none⟩)] w fun r V=>∃ v,∃ f:Fs,r= .returned v∧f.Perm d.fs∧Fss V v f∧Below w.heap.size w V∧V.ownsRow 0 50 2 v f.length (jk f):=by
 have HD:=zf h;unfold zdp at Y;clear h;go_enter func16,ntmps16;go_wp2_with fail;refine(ycb O b d w hn HD.o).mono ?_;rintro r m ⟨v,fs,rfl,U,Z,y⟩;have HP:=zf U;have HF:=zf Z;have q:=zf y;have ae:fs.length≤1000000000:=by rw [U.length_eq];exact hn
 obtain⟨a,ad,rfl,B,-⟩:=Z;clear U y Y B;obtain⟨i,hi,C⟩:=zz.1 zs1;obtain⟨F,G,H⟩:i.zero=some (.agg #[.string ⟨#[]⟩,.string ⟨#[]⟩])∧i.size=2∧i.bytes=32:=by simpa using C
 clear C;have HI:=zf hi;have T:=zf (And.intro F (And.intro G H));clear hi F G H;go_wp2_with fail;go_loopw [3,5] (fun o j wr=>∃ k:Nat,k≤fs.length∧j= .int .i64 k∧Below m.heap.size m wr∧wr.ownsRow m.heap.size 50 2 o k (jk (fs.take k))) (fun _ j _=>fs.length - (intOf j).toNat)
 case atStart=>exact⟨0,yv _,rfl,yf _ _,⟨rfl,.inl ⟨rfl,rfl⟩⟩⟩
 case round =>
  obtain⟨k,hk,rfl,z,c⟩:=hrel;have n:=zf z;have P:=zf c;clear z c
  by_cases D:k < fs.length
  ·obtain⟨-,-,E⟩:=HF.o.at;obtain⟨I,X,rfl,hx⟩:=E (by omega);obtain⟨J,K⟩:=hx k D;have S:Hid (jk (fs.take (k+1))=jk (fs.take k)++[.string ⟨fs[k].1.toArray⟩,.string ⟨fs[k].2.toArray⟩]):=by
    show _=_;rw [zmr fs k D,zjc]
    rfl
   generalize fs[k].1=p at *;generalize fs[k].2=x at *;unfold qo at J K;have r0:wr.cell? ⟨I,X+k*2,none⟩=some (.string ⟨p.toArray⟩):=by rw [n.o.cell (p:=⟨I,_,none⟩) (yg J)];exact J
   have r1:wr.cell? ⟨I,X+k*2+1,none⟩=some (.string ⟨x.toArray⟩):=by rw [n.o.cell (p:=⟨I,_,none⟩) (yg K)];exact K
   have M:=zf (fun o=>zbt (w:=wr) P.o o);have t:Hid (∀ o,m.heap.size≤(wr.alloc o).drew.heap.size):=fun o=>by
    have:=n.o.size;show m.heap.size≤(wr.alloc o).heap.size;simp;omega
   clear J K hx E;go_wp2_with fail
   go_region_law (refine vu _ (by rfl) _ _ _ (by rfl) m.heap.size 50 i (.agg #[.string ⟨#[]⟩,.string ⟨#[]⟩]) 2 32 underlying45 HI.o T.o.1 T.o.2.1 T.o.2.2 rfl (by omega) _ k (jk (fs.take k)) (by rfl) (by exact M.o _) ⟨wr.heap.size,0,none⟩ 1 1 [.string ⟨p.toArray⟩,.string ⟨x.toArray⟩] (by rfl) rfl (xj (zg _ _)) (by simp [Value.oneCell']) (by omega) (by unfold maxLen;omega) (by omega) (by exact t.o _) (wr.heap.size+1) (by simp) ?_;intro g W w3 c e u aa;have R:=zf c;have N:=zf e;have ab:=zf u;clear c e u)
   all_goals
    have A:∀ o,Below m.heap.size m (wr.alloc o).drew:=fun o=>(n.o.trans ((zk wr o).mono n.o.size)).drew;have L:=zf ((A _).grown N.o (t.o _) (vq P.o));clear A;go_wp2_with fail
    go_roundw
    case rel=>exact⟨k+1,by omega,by go_num,L.o,by rw [S.o];exact R.o⟩
    case measure=>simp [intOf];omega
  ·obtain rfl:k=fs.length:=by omega
   have l:=P.o;rw [jg] at l;have s:=zf (zf9 l);have Q:=zf (zq4 l (yv _));obtain⟨oa,oc,he,-⟩:=id s.o;subst he;clear l;go_wp2_with fail;go_ret;exact⟨_,fs,rfl,HP.o,s.o,q.o.trans (n.o.mono q.o.size),Q.o⟩
def zjm (l:Int)(a:za)(k:Nat):Fs:=(List.range k).map fun(j:Nat)=>(qq l j (wid a.length j),((a.drop (4*j)).take (wid a.length j)).flatten)
def z3u (l:Int)(a:za):Fs:=zjm l a ((a.length+3) / 4)
theorem z7k (l:Int)(a:za)(k:Nat):zjm l a (k+1)=zjm l a k++[(qq l k (wid a.length k),((a.drop (4*k)).take (wid a.length k)).flatten)]:=by
 unfold zjm;rw [zfe,yy]
 rfl
theorem ycr (l:Int)(a:za)(k:Nat):(zjm l a k).length=k:=by simp [zjm]
theorem zy2 (es:za)(l:Int)(c:Nat):z3u l ((List.range c).map (zad es l))=zox es l 0 c:=by
 unfold z3u zjm zox;rw [yi,List.length_range,z17,← List.range_eq_range'];refine zin fun j d=>?_;unfold zgr zih;rw [← List.map_drop,← List.map_take];have:((List.range c).drop (4*j)).take (wid c j)=List.range' (4*j) (wid c j):=by
  apply zre
  ·simp [wid]
  ·intro i a b;simp
 rw [this]
theorem zv1 (b:za)(a j:Nat)(h:a+j < b.length):((b.drop a).take (j+1)).flatten=((b.drop a).take j).flatten++b[a+j]:=by
 rw [qf (by simp;omega),zfz,zcn];simp
theorem yae (b:za)(a j:Nat)(l:j≤4)(h:∀ d∈b,d.length≤21):((b.drop a).take j).flatten.length≤84:=by
 have:∀ c:za,(∀ d∈c,d.length≤21)→c.flatten.length≤c.length*21:=by
  intro c
  induction c with
  | nil=>simp
  | cons x r k =>
   intro f;have g:=f x (by simp);have i:=k (fun d e=>f d (by simp [e]));rw [zfh,zy,y9,zdg];omega
 have g:=this ((b.drop a).take j) (fun d e=>h d (zb5 (qh e)));have i:((b.drop a).take j).length≤4:=by rw [vi];omega
 omega
theorem z2d (w:World){ops:Array Oper}{rest:List Oper}{o:Oper}{a:Act}{Q:Exit→Act→World→Prop}
 (j:o.guard=none) (s x:Operand) (l:o.op=Op.call { callee:=Callee.builtin Builtin.append,args:=#[s,x],argTypes:=#[45,45] })
 (B:Nat) (H:B≤w.heap.size) (v:Value) (b:Fs) (E:a.eval s=v) (e:w.ownsRow B 50 2 v b.length (jk b))
 (f t:zc) (F:a.eval x= .slice (some ⟨w.heap.size,0,none⟩) 1 1) (I:b.length≤1000000000)
 (h:∀ u q,q.ownsRow B 50 2 u (b++[(f,t)]).length (jk (b++[(f,t)]))→zq (fun g=>v.ownBlock=some g) [50] w q→wpList prog ops Q rest (a.put o.dst u) q):wpList prog ops Q (o::rest) a (w.alloc (.cells #[qo f,qo t] 50)):=by
 obtain⟨i,C,k⟩:=zz.1 zs1;obtain⟨m,n,p⟩:i.zero=some (.agg #[.string ⟨#[]⟩,.string ⟨#[]⟩])∧i.size=2∧i.bytes=32:=by simpa using k
 have r:=zbt e (.cells #[qo f,qo t] 50);refine zaa _ j s x _ l B 50 i (.agg #[.string ⟨#[]⟩,.string ⟨#[]⟩]) 2 32 underlying45 C m n p rfl (by omega) v b.length (jk b) E r ⟨w.heap.size,0,none⟩ 1 1 [qo f,qo t] F rfl (xj (zg _ _)) (by simp [qo,Value.oneCell']) (by omega) (by unfold maxLen;omega) (by omega) (by simp;omega) (w.heap.size+1) (by simp) fun g y G d c z D=>?_;refine h _ G ?_ (((zq.refl (fun g=>v.ownBlock=some g) [50] w).alloc _).grown r c (fun g A=> .inl A) (by simp));rw [zy,zjc];exact d
theorem zr6 (v dv:Value)(fs:Fs)(l:Int)(a:za)(B:Nat)(w:World)(hB:B≤w.heap.size)(hf:w.ownsRow B 50 2 v fs.length (jk fs))(hn:fs.length≤100000000)(hd:w.ownsRow B 9 1 dv a.length (a.map qo))(an:a.length≤1000000)(Y:∀ d∈a,d.length≤21):
  Calls prog 71 #[v,.int .i64 l,dv] w fun r w'=>∃ v',r= .returned v'∧zq (fun k=>B≤k) [50] w w'∧w'.ownsRow B 50 2 v' (fs++z3u l a).length (jk (fs++z3u l a)):=by
 have HF:=zf hf;have HD:=zf hd;have E:=zf Y;obtain⟨da,dc,rfl⟩:=qr hd;obtain⟨va,vc,rfl⟩:=qr hf;clear hf hd Y;go_enter func71,ntmps71;go_wp2_with fail;go_loopw [0,7] (fun lv iv wr=>∃ k:Nat,4*k < a.length+4∧iv= .int .i64 (4*(k:Int))∧zq (fun k=>B≤k) [50] w wr∧wr.ownsRow B 50 2 lv (fs++zjm l a k).length (jk (fs++zjm l a k))) (fun _ iv _=>a.length+4 - (intOf iv).toNat)
 case atStart=>exact⟨0,by omega,rfl,zq.refl _ _ _,by simpa [zjm] using HF.o⟩
 case round =>
  obtain⟨k,hk,rfl,ht,b⟩:=hrel;have HT:=zf ht;have V:=zf b;obtain⟨S,U,rfl⟩:=qr b;have Z:Hid ((fs++zjm l a k).length=fs.length+k):=by show _=_;rw [zy,ycr]
  have I:Hid (fs++zjm l a (k+1)=(fs++zjm l a k)++[(qq l k (wid a.length k),((a.drop (4*k)).take (wid a.length k)).flatten)]):=by show _=_;rw [z7k,xt]
  have ad:Hid (k=(a.length+3) / 4→fs++z3u l a=fs++zjm l a k):=fun e=>by unfold z3u;rw [← e]
  clear ht b;generalize fs++zjm l a k=f at *
  by_cases ao:4*k < a.length
  ·by_cases h4:4 < a.length - 4*k
   ·have af:(4:Int) < (a.length:Int) - 4*(k:Int):=by omega
    have A:wid a.length k=4:=by unfold wid;omega
    have ak:4≤4:=by omega
    have aj:1≤4:=by omega
    have al:4*k+4≤a.length:=by omega
    go_wp2_with fail;refine(zjq l k 4 (by omega) wr).mono ?_;rintro r F ⟨rfl,q⟩;have m:Hid (zq (fun k=>B≤k) [50] w F):=HT.o.then_below q;have u:Hid (F.ownsRow B 50 2 (.slice S f.length U) f.length (jk f)):=zo V.o (zq.of_below (O:=fun _=>False) (T:=[]) q) (by simp);have G:=zf (zha (zo HD.o m.o (by decide)));rw [A] at I;have X:((4:Nat):Int)=4:=rfl;rw [X] at I;clear X;clear q V A;generalize qq l (k:Int) 4=nm at *;go_wp2_with fail;go_loopw [10,11] (fun sv P Q=>∃ j:Nat,j≤4∧P= .int .i64 (4*(k:Int)+(j:Int))∧sv= .string ⟨(((a.drop (4*k)).take j).flatten).toArray⟩∧Below F.heap.size F Q) (fun _ P _=>4*k+4 - (intOf P).toNat)
    case atStart=>exact⟨0,by omega,by simp,by simp,yf _ _⟩
    case round =>
     obtain⟨j,hj,rfl,rfl,z⟩:=hrel;have c:=zf z;clear z
     by_cases ag:j < 4
     ·obtain⟨-,-,i⟩:=G.o.at;obtain⟨W,N,rfl,C⟩:=i (by omega);have s:4*k+j < a.length:=by omega
      have R:=C (4*k+j) s;have r1:wr.cell? ⟨W,N+(4*k+j),none⟩=some (qo a[4*k+j]):=by rw [c.o.cell (p:=⟨W,_,none⟩) (yg R)];exact R
      have J:=zf (zv1 a (4*k) j s);have ah:=yae a (4*k) j (by omega) E.o;have ai:=E.o _ (yd s);unfold qo at r1;clear R C i;generalize a[4*k+j]=p at *;generalize ((a.drop (4*k)).take j).flatten=t at *;have b1:¬ 9223372036854775807 < t.length+p.length:=by omega
      go_wp2_with fail
      go_roundw
      case rel=>exact⟨j+1,by omega,by go_num,by rw [J.o];first | rfl | simp,c.o⟩
      case measure=>simp [intOf];omega
     ·obtain rfl:j=4:=by omega
      have K:Hid (fs++zjm l a (k+1)=f++[(nm,((a.drop (4*k)).take 4).flatten)]):=I.o;have y:Hid (zq (fun k=>B≤k) [50] w wr):=m.o.then_below c.o;have x:Hid (wr.ownsRow B 50 2 (.slice S f.length U) f.length (jk f)):=zo u.o (zq.of_below (O:=fun _=>False) (T:=[]) c.o) (by simp);have L:Hid (B≤wr.heap.size):=by have:=y.o.size;show _≤_;omega
      clear u m c I;generalize (((a.drop (4*k)).take 4).flatten)=t at *;go_wp2_with (at_builtin;refine z2d wr rfl _ _ rfl B L.o (.slice S f.length U) f rfl x.o nm t rfl (by have:=Z.out;omega) ?_;intro v' w3 b D;have H:=zf b;have M:Hid (zq (fun k=>B≤k) [50] w w3):=y.o.trans (D.mono (fun g hg=> .inl (vq x.o g hg)) (fun _ h=>h));obtain⟨ya,yc,he⟩:=qr b;subst he;clear b D)
      go_roundw
      case rel=>exact⟨k+1,by omega,by go_num,M.o,by rw [K.o];have h:=H.o;rw [zy] at h ⊢;exact h⟩
      case measure=>simp [intOf];omega
   ·have af:¬(4:Int) < (a.length:Int) - 4*(k:Int):=by omega
    have aa:(a.length:Int) - 4*(k:Int)=((a.length - 4*k:Nat):Int):=by omega
    have ae:=zf aa;clear aa;obtain⟨n,am⟩:∃ n:Nat,n=a.length - 4*k:=⟨_,rfl⟩;have A:wid a.length k=n:=by unfold wid;omega
    have ak:n≤4:=by omega
    have aj:1≤n:=by omega
    have al:4*k+n≤a.length:=by omega
    go_wp2_with fail;rw [ae.o,← am];refine(zjq l k (n:Int) (by omega) wr).mono ?_;rintro r F ⟨rfl,q⟩;have m:Hid (zq (fun k=>B≤k) [50] w F):=HT.o.then_below q;have u:Hid (F.ownsRow B 50 2 (.slice S f.length U) f.length (jk f)):=zo V.o (zq.of_below (O:=fun _=>False) (T:=[]) q) (by simp);have G:=zf (zha (zo HD.o m.o (by decide)));rw [A] at I;clear q V A;generalize qq l (k:Int) (n:Int)=nm at *;go_wp2_with fail;go_loopw [10,11] (fun sv P Q=>∃ j:Nat,j≤n∧P= .int .i64 (4*(k:Int)+(j:Int))∧sv= .string ⟨(((a.drop (4*k)).take j).flatten).toArray⟩∧Below F.heap.size F Q) (fun _ P _=>4*k+n - (intOf P).toNat)
    case atStart=>exact⟨0,by omega,by simp,by simp,yf _ _⟩
    case round =>
     obtain⟨j,hj,rfl,rfl,z⟩:=hrel;have c:=zf z;clear z
     by_cases ag:j < n
     ·obtain⟨-,-,i⟩:=G.o.at;obtain⟨W,N,rfl,C⟩:=i (by omega);have s:4*k+j < a.length:=by omega
      have R:=C (4*k+j) s;have r1:wr.cell? ⟨W,N+(4*k+j),none⟩=some (qo a[4*k+j]):=by rw [c.o.cell (p:=⟨W,_,none⟩) (yg R)];exact R
      have J:=zf (zv1 a (4*k) j s);have ah:=yae a (4*k) j (by omega) E.o;have ai:=E.o _ (yd s);unfold qo at r1;clear R C i;generalize a[4*k+j]=p at *;generalize ((a.drop (4*k)).take j).flatten=t at *;have b1:¬ 9223372036854775807 < t.length+p.length:=by omega
      go_wp2_with fail
      go_roundw
      case rel=>exact⟨j+1,by omega,by go_num,by rw [J.o];first | rfl | simp,c.o⟩
      case measure=>simp [intOf];omega
     ·obtain rfl:j=n:=by omega
      have K:Hid (fs++zjm l a (k+1)=f++[(nm,((a.drop (4*k)).take j).flatten)]):=I.o;have y:Hid (zq (fun k=>B≤k) [50] w wr):=m.o.then_below c.o;have x:Hid (wr.ownsRow B 50 2 (.slice S f.length U) f.length (jk f)):=zo u.o (zq.of_below (O:=fun _=>False) (T:=[]) c.o) (by simp);have L:Hid (B≤wr.heap.size):=by have:=y.o.size;show _≤_;omega
      clear u m c I;generalize (((a.drop (4*k)).take j).flatten)=t at *;go_wp2_with (at_builtin;refine z2d wr rfl _ _ rfl B L.o (.slice S f.length U) f rfl x.o nm t rfl (by have:=Z.out;omega) ?_;intro v' w3 b D;have H:=zf b;have M:Hid (zq (fun k=>B≤k) [50] w w3):=y.o.trans (D.mono (fun g hg=> .inl (vq x.o g hg)) (fun _ h=>h));obtain⟨ya,yc,he⟩:=qr b;subst he;clear b D)
      go_roundw
      case rel=>exact⟨k+1,by omega,by go_num,M.o,by rw [K.o];have h:=H.o;rw [zy] at h ⊢;exact h⟩
      case measure=>simp [intOf];omega
  ·have ab:=zf (ad.o (by omega));go_wp2_with fail;go_ret;exact⟨_,rfl,HT.o,by rw [ab.o];exact V.o⟩
end Go.Proofs.YtlcllcgngjhoaaaGreatDoor
