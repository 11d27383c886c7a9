import Derived.Test.YtfdbeldiomkdiaaGreatDoorG15
import Derived.Shelf.SlSortCmp.NoneTotal
import Derived.Shelf.SlicesE.Clone
import Derived.Lib.OwnBridge
set_option maxHeartbeats 8000000
set_option maxRecDepth 100000
set_option linter.all false
namespace Go.Proofs.YtfdbeldiomkdiaaGreatDoor
open Go.RowKit Go.Proofs.Tryz
def Bk:=@Nat.mod_two_eq_zero_or_one
def CF:=@List.eq_nil_of_length_eq_zero
def DO:=@List.flatMap_cons
def M9:=@Option.isSome_iff_exists
variable {cap k:Nat}{w:World}{wt:Fs}
def Mr.at {a:Option Addr}{n:Nat}{c:Fs}(h:Mr w (.slice a n cap) c):n=c.length/\c.length<=cap/\(0<c.length->∃b d,a=some ⟨b,d,none⟩/\∀i (h:i<c.length),w.cell? ⟨b,d+i*2,none⟩=some (qy c[i].1)/\w.cell? ⟨b,d+i*2+1,none⟩=some (qy c[i].2)):=by
 obtain⟨k,f,e,g,j⟩:=h;simp only[jk]at e;obtain⟨rfl,rfl,rfl⟩:=e;refine⟨rfl,g,λh0=>?_⟩;rcases j with h|h
 ·rw[h]at h0;simp at h0
 ·exact h
def Qs (b:Fs)(f:zb×zb):Bool:=match xr b f.1 with
 |some y=>decide (y≠f.2)
 |none=>false
def Ya (b a:Fs)(k:Nat)(h:k<a.length):Ep b (a.take (k+1))=(Ep b (a.take k)||Qs b a[k]):=by
 unfold Ep;rw[JR a k h,List.any_append];congr 1;rw[List.any_cons,List.any_nil,Bool.or_false]
 rfl
def zbb {b:Fs}(h:k<wt.length)(a:Qs b wt[k]=true):Ep b wt=true:=by
 unfold Ep;rw[List.any_eq_true];exact⟨wt[k],ye h,a⟩
def zba (Q R:Value)(b a:Fs)(w:World)(U:b.length<=1000000000)(hw:a.length<=1000000000)(N:Mr w Q b)(O:Mr w R a):
  Calls prog 134 #[Q,R] w λr w'=>r=.returned (.bool (Ep b a))/\zc w w':=by
 have L:=ze N;have S:=ze O;obtain⟨a1,c1,rfl,V,-⟩:=N;obtain⟨a2,c2,rfl,W,-⟩:=O;go_enter func134,ntmps134
 go_wp2
 go_loopw [5] (λi wr=>∃k:Nat,k<=a.length/\i=.int .i64 k/\zc w wr/\Ep b (a.take k)=false) (λi _=>a.length-(intOf i).toNat)
 case atStart=>exact⟨0,yk _,rfl,zu _ _,rfl⟩
 case round =>
  obtain⟨k,hk,rfl,F,H⟩:=hrel;have d:=ze F;have E:=ze H
  by_cases l:k<a.length
  ·have h:=ze (Ya b a k l);have q:Hid (Qs b a[k]=true->Ep b a=true):=zbb l;obtain⟨-,-,z⟩:=S.o.at;obtain⟨A,P,rfl,K⟩:=z (by omega);obtain⟨B,C⟩:=K k l;obtain⟨⟨p,x⟩,I⟩:∃f,a[k]=f:=⟨_,rfl⟩;rw[I]at B C h q;unfold qy at B C;have r0:wr.cell? ⟨A,P+k*2,none⟩=some (.string ⟨p.toArray⟩):=by rw[d.o.cell (p:=⟨A,_,none⟩) (yf B)];exact B
   have r1:wr.cell? ⟨A,P+k*2+1,none⟩=some (.string ⟨x.toArray⟩):=by rw[d.o.cell (p:=⟨A,_,none⟩) (yf C)];exact C
   go_wp2_with fail;refine(AF _ b p wr U (L.o.below d.o)).mono ?_;rintro r w1 ⟨rfl,rfl⟩;have m:Hid (Qs b (p,x)=match xr b p with|some y=>decide (y≠x)|none=>false):=rfl;cases e:GC b p with
   |none =>
    have G:Ed b p=-1:=by unfold Ed;rw[e]
    rw[G];have g:Hid (Ep b (a.take (k+1))=false):=by
     show _=_;rw[h.o,E.o,m.o,(Bm e).1]
     rfl
    go_wp2
    go_region
    all_goals
     go_wp2
     go_round
     case rel=>exact⟨k+1,by omega,by go_num,d.o.drew,g.o⟩
     case measure=>simp[intOf];omega
   |some j =>
    have G:Ed b p=j:=by unfold Ed;rw[e]
    rw[G];obtain⟨X,-,u,-⟩:=Bn e;obtain⟨-,-,v⟩:=L.o.at;obtain⟨M,Z,rfl,J⟩:=v (by omega);obtain⟨-,D⟩:=J j X;obtain⟨y,Y⟩:∃y,b[j].2=y:=⟨_,rfl⟩;rw[Y]at D u;unfold qy at D;have r2:w1.cell? ⟨M,Z+j*2+1,none⟩=some (.string ⟨y.toArray⟩):=by rw[d.o.cell (p:=⟨M,_,none⟩) (yf D)];exact D
    have n:Hid (Qs b (p,x)=decide (y≠x)):=by
     show _=_;rw[m.o,u]
    go_wp2
    go_region
    all_goals
     by_cases c:y=x
     ·have g:Hid (Ep b (a.take (k+1))=false):=by
       show _=_;rw[h.o,E.o,n.o,c];simp
      rw[show(y==x)=true by simpa using c]
      go_wp2
      go_round
      case rel=>exact⟨k+1,by omega,by go_num,d.o.drew,g.o⟩
      case measure=>simp[intOf];omega
     ·have T:Hid (Ep b a=true):=q.o (by rw[n.o];simpa using c);rw[show(y==x)=false by simpa using c]
      go_wp2
      go_ret;exact⟨by rw[T.o];rfl,d.o.drew⟩
  ·obtain rfl:k=a.length:=by omega
   have s:=E.o;rw[jb]at s;have t:=ze s
   go_wp2
   go_ret;exact⟨by rw[t.o];rfl,d.o⟩
end Go.Proofs.YtfdbeldiomkdiaaGreatDoor
namespace Go.Proofs
open Go.Shelf Tryz
def Tryz.sortFile_ren:Go.Shelf.Ren:=⟨fun | 6=>185 | 15=>154 | 14=>216 | 28=>195 | 29=>196 | 20=>255 | 21=>256 | 22=>257 | 23=>258 | 24=>259 | 25=>260 | 26=>261 | 27=>262 | 46=>289 | 47=>290 | 48=>291 | 49=>292 | 50=>293 | 57=>298 | n=>n,fun | 22=>23 | 24=>125 | 25=>298 | 3=>3 | 39=>170 | 0=>0 | 53=>225 | 55=>169 | 4=>4 | 46=>365 | 45=>364 | 50=>369 | 5=>5 | 9=>9 | 66=>397 | 70=>401 | 76=>411 | 77=>412 | n=>n,fun | n=>n⟩
def Tryz.sortFile:Go.Proofs.SlLaysF0.n6 prog sortFile_ren:={
 mixed:=by kernel_rfl
 f6:=⟨f185.name,by decide,kq func185 (by kernel_rfl)⟩
 f14:=⟨f216.name,by decide,kq func216 (by kernel_rfl)⟩
 f15:=kq func154 (by kernel_rfl)
 f20:=⟨f255.name,by decide,kq func255 (by kernel_rfl)⟩
 f21:=⟨f256.name,by decide,kq func256 (by kernel_rfl)⟩
 f22:=⟨f257.name,by decide,kq func257 (by kernel_rfl)⟩
 f23:=⟨f258.name,by decide,kq func258 (by kernel_rfl)⟩
 f24:=⟨f259.name,by decide,kq func259 (by kernel_rfl)⟩
 f25:=⟨f260.name,by decide,kq func260 (by kernel_rfl)⟩
 f26:=⟨f261.name,by decide,kq func261 (by kernel_rfl)⟩
 f27:=⟨f262.name,by decide,kq func262 (by kernel_rfl)⟩
 f28:=kq func195 (by kernel_rfl)
 f29:=kq func196 (by kernel_rfl)
 f46:=⟨f289.name,by decide,kq func289 (by kernel_rfl)⟩
 f47:=kq func290 (by kernel_rfl)
 f48:=kq func291 (by kernel_rfl)
 f49:=⟨f292.name,by decide,kq func292 (by kernel_rfl)⟩
 f50:=⟨f293.name,by decide,kq func293 (by kernel_rfl)⟩
 f57:=⟨f298.name,by decide,kq func298 (by kernel_rfl)⟩
 t0:=underlying0
 a0:=isAgg0
 z0:=sizeOf0
 v0:=zeroValue0
 t3:=underlying3
 a3:=isAgg3
 z3:=sizeOf3
 v3:=zeroValue3
 t4:=underlying4
 a4:=isAgg4
 z4:=sizeOf4
 v4:=zeroValue4
 t5:=underlying5
 a5:=isAgg5
 z5:=sizeOf5
 v5:=zeroValue5
 t9:=underlying9
 a9:=isAgg9
 z9:=sizeOf9
 v9:=zeroValue9
 t22:=underlying23
 a22:=isAgg23
 z22:=sizeOf23
 v22:=zeroValue23
 t25:=underlying298
 a25:=isAgg298
 z25:=sizeOf298
 v25:=zeroValue298
 t39:=underlying170
 a39:=isAgg170
 z39:=sizeOf170
 v39:=zeroValue170
 t45:=underlying364
 a45:=isAgg364
 z45:=sizeOf364
 v45:=zeroValue364
 t46:=underlying365
 a46:=isAgg365
 z46:=sizeOf365
 v46:=zeroValue365
 t50:=underlying369
 a50:=isAgg369
 z50:=sizeOf369
 v50:=zeroValue369
 t53:=underlying225
 a53:=isAgg225
 z53:=sizeOf225
 v53:=zeroValue225
 t55:=underlying169
 a55:=isAgg169
 z55:=sizeOf169
 v55:=zeroValue169
 t66:=underlying397
 a66:=isAgg397
 z66:=sizeOf397
 v66:=zeroValue397
 t70:=underlying401
 a70:=isAgg401
 z70:=sizeOf401
 v70:=zeroValue401
 t76:=underlying411
 a76:=isAgg411
 z76:=sizeOf411
 v76:=zeroValue411
 t77:=underlying412
 a77:=isAgg412
 z77:=sizeOf412
 v77:=zeroValue412 }
end Go.Proofs
namespace Go.Proofs.YtfdbeldiomkdiaaGreatDoor
open Go.RowKit Go.Proofs.Tryz
variable {cap k:Nat}{w:World}{wt:Fs}
def cfF (x y:zb×zb):Int:=if x.1<y.1 then -1 else if y.1<x.1 then 1 else 0
def zbk (x:zb×zb):List Value:=[qy x.1,qy x.2]
def XX (x y:zb×zb):ltOf cfF x y=decide (x.1<y.1):=by
 unfold ltOf cfF
 by_cases h:x.1<y.1
 ·simp[h]
 ·by_cases a:y.1<x.1<;>simp[h,a]
def zj5:Go.Sort.SWO (ltOf cfF) where
 irrefl x:=by rw[XX];simp
 trans x y z h1 h2:=by
  rw[XX]at *;simp only[ja]at *;exact List.lt_trans h1 h2
 ntrans x y z h1 h2:=by
  rw[XX]at *;simp only[decide_eq_false_iff_not,List.not_lt]at *;exact List.le_trans h2 h1
def RN (w:World)(a b:Obj):(w.alloc a).alloc b=Go.Sort.grow (w.drewN 0) #[a,b]:=by
 show World.alloc (World.alloc w a) b=_;unfold Go.Sort.grow World.alloc;simp;exact⟨by apply Array.ext';simp,rfl,rfl,rfl⟩
def zj8 (x y:zb×zb)(w:World):
  Calls prog 186 #[.agg #[qy x.1,qy x.2],.agg #[qy y.1,qy y.2]] w λe k=>e=.returned (.int .i64 (cfF x y))/\∃q i,k=Go.Sort.grow (w.drewN q) i:=by
 obtain⟨p,a⟩:=x;obtain⟨q,b⟩:=y;have j:=bytesLess_eq p q;unfold qy;simp only;go_enter func186,ntmps186
 go_wp2
 ·go_ret;rename_i h;exact⟨congrArg (λz=>Ending.returned (.int .i64 z)) (by unfold cfF;simp[h]),0,_,RN w _ _⟩
 ·go_ret;rename_i h d;refine⟨congrArg (λz=>Ending.returned (.int .i64 z)) ?_,0,_,RN w _ _⟩;have c:p≠q:=by simpa using d
  have g:q<p:=by
   rcases List.le_iff_lt_or_eq.1 (List.not_lt.1 h)with f|f
   ·exact f
   ·exact absurd f.symm c
  unfold cfF;simp[h,g]
 ·go_ret;rename_i h d;refine⟨congrArg (λz=>Ending.returned (.int .i64 z)) ?_,0,_,RN w _ _⟩;have c:p=q:=by simpa using d
  subst c;unfold cfF;simp only;rw[if_neg h,if_neg h]
end Go.Proofs.YtfdbeldiomkdiaaGreatDoor
namespace Go.Proofs
open Go.Shelf Tryz
def Tryz.cloneFile_ren:Go.Shelf.Ren:=⟨fun | 41=>184 | n=>n,fun | 22=>23 | 23=>125 | 4=>4 | n=>n,fun | n=>n⟩
def Tryz.cloneFile:Go.Proofs.SlLaysE0.n41 prog cloneFile_ren:={
 mixed:=by kernel_rfl
 f41:=⟨f184.name,by decide,kq func184 (by kernel_rfl)⟩
 t4:=underlying4
 a4:=isAgg4
 z4:=sizeOf4
 v4:=zeroValue4
 t22:=underlying23
 a22:=isAgg23
 z22:=sizeOf23
 v22:=zeroValue23 }
end Go.Proofs
namespace Go.Proofs.YtfdbeldiomkdiaaGreatDoor
open Go.RowKit Go.Proofs.Tryz
variable {cap k:Nat}{w:World}{wt:Fs}
variable {B:Nat}
section
open Go.RowKit Go.Lib Go.Sort
def Ym (b:Fs):∀u∈vt b,u.oneCell'=true:=by
 intro u a;unfold vt at a;obtain⟨f,-,h⟩:=Bz.1 a;simp only[jl,Cx,N6]at h;rcases h with rfl|rfl<;>rfl
def Yc (p:Value)(a:Fs)(w:World)(z:a.length<=1000000000)(h:w.ownsRow 0 125 2 p a.length (vt a)):
  Calls prog 184 #[p] w λe d=>∃c,e=.returned c/\zc w d/\d.ownsRow w.heap.size 125 2 c a.length (vt a):=by
 rcases h.2 with ⟨rfl,h0⟩|⟨g,f,q,rfl,-,k,t,y,A,x⟩
 ·refine(AnyE.slices_Clone_nil Tryz.cloneFile 0 0 w).mono ?_;rintro e d ⟨rfl,rfl⟩;exact⟨_,rfl,zu _ _,h.1,.inl ⟨rfl,h0⟩⟩
 ·obtain⟨i,s,l⟩:=zx.1 Q8;obtain⟨m,n,o⟩:i.zero=some (.agg #[.string ⟨#[]⟩,.string ⟨#[]⟩])/\i.size=2/\i.bytes=32:=by simpa using l
  refine(AnyE.slices_Clone Tryz.cloneFile i (.agg #[.string ⟨#[]⟩,.string ⟨#[]⟩]) 2 32 s m n o rfl (by omega) sizeOf125 g 0 a.length f (vt a) w h.1 (by unfold maxLen;omega) (by omega) ?_ (Ym a)).mono ?_
  ·intro j u b;rw[xk,xe _ _ _ _ _ _ k,<- D4];rw[<- x]at b;rw[qi]at b;split at b
   ·exact b
   ·simp at b
  ·rintro e d ⟨c,rfl,v,-,r⟩;exact⟨c,rfl,r,v⟩
def XO {a:World}(h:Below B a w)(d:B<=a.heap.size)(c:Array Obj):Below B a (Go.Sort.grow w c):=
 ⟨h.os,h.tape,h.output,by simp only[Go.Sort.grow,Array.size_append];have:=h.size;omega,λk b=>by
  rw[<- h.block k b];have:=h.size;simp only[Go.Sort.grow];exact Dt (by omega)⟩
def zf9 (a:Fs)(j:Nat)(h:j<a.length*2):(vt a)[j]?=some (flatK zbk 2 a.toArray)[j]! := by
 rw[get_flatK _ _ _ _ (by simpa using h)];have f:j/2<a.length:=by omega
 obtain⟨d,e⟩:=SG a (j/2) f;have g:a.toArray[j/2]! = a[j/2]:=by
  rw[getElem!_pos _ _ (by simpa using f)];simp
 rw[g];rcases Bk j with c|c
 ·rw[c];have b:j/2*2=j:=by omega
  rw[b]at d;rw[d]
  rfl
 ·rw[c];have b:j/2*2+1=j:=by omega
  rw[b]at e;rw[e]
  rfl
def zd5 (v:Value)(a:Fs)(B w:World)(R:a.length<=1000000000)(G:zc B w)(N:w.ownsRow B.heap.size 125 2 v a.length (vt a)):
  Calls prog 185 #[v,.func (.func 186) #[] #[]] w λe u=>e=.returned (.tuple #[])/\∃p:Fs,p.Perm a/\Mr u v p/\zc B u:=by
 rcases N.2 with ⟨rfl,h0⟩|⟨g,o,I,rfl,K,d,A,Q,S,O⟩
 ·obtain rfl:a=[]:=CF h0;refine(AnyF.slices_SortFunc_none Tryz.sortFile none 0 _ w).mono ?_;rintro e u ⟨rfl,rfl⟩;exact⟨rfl,[],List.Perm.refl _,⟨none,0,rfl,zk _,.inl rfl⟩,G⟩
 ·have J:=KP func186 (by kernel_rfl) rfl;have C:HoldsK zbk 2 w g 0 a.toArray:=by
   intro j E;rw[size_flatK]at E;have z:j<a.length*2:=by simpa using E
   rw[xk];refine⟨?_,by simp[World.frozen?,d]⟩;have e:=zf9 a j z;rw[<- O,qi,if_pos (by omega),D4]at e;rw[xe _ _ _ _ _ _ d];exact e
  have r:CmpLays prog 186 #[] zbk 2 cfF g 0 a.toArray.size w:=by
   intro m H P L x y;exact zj8 x y _
  have f:a.toArray.size=a.length:=by simp
  have b:=AnyQ.slices_SortFunc Tryz.sortFile 2 isAgg125 sizeOf125 zbk (λ_=>rfl) (λx v hv=>by
   simp only[zbk,jl,Cx,N6]at hv;rcases hv with rfl|rfl<;>rfl) cfF zj5 186 #[] g 0 o a.toArray w J r C (zg d) (by rw[f];omega)
  rw[f]at b;refine b.mono ?_;rintro e u ⟨rfl,l,n,H,F,-,rfl⟩;have D:l.size=a.length:=by rw[F.1,f]
  have k:l.toList.Perm a:=by
   have h:=F.2.2;rw[Array.extract_eq_self_of_le (by omega),Array.extract_eq_self_of_le (by omega)]at h;simpa using h
  have c:l.toList.length=a.length:=by simp[D]
  have q:=holdsK_sortWorldK_c zbk 2 w g 0 a.toArray l n H C (zg d) (by rw[D,f]);refine⟨rfl,l.toList,k,⟨some ⟨g,0,none⟩,o,by rw[c],by rw[c];exact A,.inr ⟨g,0,rfl,λi M=>?_⟩⟩,XO (below_putRow G K) (zk _) _⟩;rw[c]at M;have s:=(q (i*2) (by rw[size_flatK];omega)).1;have t:=(q (i*2+1) (by rw[size_flatK];omega)).1;rw[get_flatK _ _ _ _ (by omega)]at s t;rw[show i*2/2=i by omega,show i*2%2=0 by omega]at s;rw[show(i*2+1)/2=i by omega,show(i*2+1)%2=1 by omega]at t;rw[getElem!_pos l i (by omega)]at s t;exact⟨s,t⟩
def zbt (O:Nat->Prop)(b:Nat)(d:Dk)(w:World)(q:d.fs.length<=1000000000)(h:ym w O b d):
  Calls prog 140 #[BD b] w λr t=>∃v,∃c:Fs,r=.returned v/\c.Perm d.fs/\Mr t v c/\zc w t:=by
 obtain⟨E,F,y,p,G⟩:=h;obtain⟨D,f0⟩:=(GW y).1;have u:=ze p;have f:=Ir p;obtain⟨a,e,rfl,-⟩:=f;have z:∀(n:Fn) (first e:Array Value) (w:World),(Instr.makeFunc n first e).run prog w=.ok (.func n first e) w:=λ_ _ _ _=>rfl;unfold BD;go_enter func140,ntmps140;go_wp2_with fail;refine(Yc _ d.fs w q u.o).mono ?_;rintro r B ⟨H,rfl,j,s⟩;have g:=ze j;have x:=ze s;have f:=Ir s;obtain⟨C,m,rfl,-⟩:=f;go_wp2_with fail;refine(zd5 _ d.fs w B q g.o x.o).mono ?_;rintro r I ⟨rfl,c,A,l,k⟩;have i:=ze (And.intro A (And.intro l k))
 go_wp2
 go_ret;exact⟨_,c,rfl,i.o.1,i.o.2.1,i.o.2.2⟩
end
variable {B':Nat}{e t:TypeId}{v:Value}
def SK:(prog.info? 157).map (λi=>(i.zero,i.size,i.bytes))=some (some (.agg #[.string ⟨#[]⟩,.string ⟨#[]⟩]),2,32):=by kernel_rfl
def MI {n:Nat}{c:List Value}(h:w.ownsRow B e k v n c)(i:B'<=B):w.ownsRow B' e k v n c:=by
 refine⟨h.1,?_⟩;rcases h.2 with h|⟨g,a,b,d,f,r⟩
 ·exact .inl h
 ·exact .inr ⟨g,a,b,d,zt i f,r⟩
def JC {c:Fs}(h:w.ownsRow B t 2 v c.length (vt c)):Mr w v c:=by
 obtain⟨a,b,rfl,h0|⟨g,rfl,e,d,j,-,k⟩⟩:=Ir h
 ·obtain rfl:c=[]:=CF h0;exact⟨a,b,rfl,yk _,.inl rfl⟩
 ·refine⟨_,b,rfl,j,.inr ⟨g,0,rfl,λi f=>?_⟩⟩;rw[xk,xe _ _ _ _ _ _ d,xe _ _ _ _ _ _ d];exact k i f
def CN (O:Nat->Prop)(b wb:Nat)(d:Dk)(w:World)(Z:d.fs.length<=1000000000)(h:ym w O b d)(hc:w.cell? ⟨wb,0,none⟩=some (BD b)):
  Calls prog 95 #[.pointer (some ⟨wb,0,none⟩)] w λr R=>∃v,∃f:Fs,r=.returned v/\f.Perm d.fs/\Mr R v f/\zc w R/\R.ownsRow 0 157 2 v f.length (vt f):=by
 have HD:=ze h;unfold BD at hc;go_enter func95,ntmps95;go_wp2_with fail;refine(zbt O b d w Z HD.o).mono ?_;rintro r q ⟨v,c,rfl,hp,X,I⟩;have HP:=ze hp;have HF:=ze X;have s:=ze I;have ad:c.length<=1000000000:=by rw[hp.length_eq];exact Z
 obtain⟨a,aa,rfl,W,-⟩:=X;obtain⟨i,hi,L⟩:=zx.1 SK;obtain⟨N,P,Q⟩:i.zero=some (.agg #[.string ⟨#[]⟩,.string ⟨#[]⟩])/\i.size=2/\i.bytes=32:=by simpa using L
 have HI:=ze hi;have H:=ze (And.intro N (And.intro P Q))
 go_wp2
 go_loopw [3,5] (λo j wr=>∃k:Nat,k<=c.length/\j=.int .i64 k/\zc q wr/\wr.ownsRow q.heap.size 157 2 o k (vt (c.take k))) (λ_ j _=>c.length-(intOf j).toNat)
 case atStart=>exact⟨0,yk _,rfl,zu _ _,⟨rfl,.inl ⟨rfl,rfl⟩⟩⟩
 case round =>
  obtain⟨k,hk,rfl,J,e⟩:=hrel;have n:=ze J;have D:=ze e
  by_cases y:k<c.length
  ·obtain⟨-,-,M⟩:=HF.o.at;obtain⟨z,V,rfl,hx⟩:=M (by omega);obtain⟨S,T⟩:=hx k y;have G:Hid (vt (c.take (k+1))=vt (c.take k)++[.string ⟨c[k].1.toArray⟩,.string ⟨c[k].2.toArray⟩]):=by
    show _=_;rw[JR c k y,Jp]
    rfl
   generalize c[k].1=p at *;generalize c[k].2=x at *;unfold qy at S T;have r0:wr.cell? ⟨z,V+k*2,none⟩=some (.string ⟨p.toArray⟩):=by rw[n.o.cell (p:=⟨z,_,none⟩) (yf S)];exact S
   have r1:wr.cell? ⟨z,V+k*2+1,none⟩=some (.string ⟨x.toArray⟩):=by rw[n.o.cell (p:=⟨z,_,none⟩) (yf T)];exact T
   have B:=ze (λo=>El (w:=wr) D.o o);have u:Hid (∀o,q.heap.size<=(wr.alloc o).drew.heap.size):=λo=>by
    have:=n.o.size;show q.heap.size<=(wr.alloc o).heap.size;simp;omega
   go_wp2
   go_region_law (refine AZ _ (by rfl) _ _ _ (by rfl) q.heap.size 157 i (.agg #[.string ⟨#[]⟩,.string ⟨#[]⟩]) 2 32 underlying137 HI.o H.o.1 H.o.2.1 H.o.2.2 rfl (by omega) _ k (vt (c.take k)) (by rfl) (by exact B.o _) ⟨wr.heap.size,0,none⟩ 1 1 [.string ⟨p.toArray⟩,.string ⟨x.toArray⟩] (by rfl) rfl (xm (zf _ _)) (by simp[Value.oneCell']) (by omega) (by unfold maxLen;omega) (by omega) (by exact u.o _) (wr.heap.size+1) (by simp) ?_;intro g U w3 e l ab Y;have F:=ze e;have C:=ze l)
   all_goals
    have K:∀o,zc q (wr.alloc o).drew:=λo=>(n.o.trans ((zi wr o).mono n.o.size)).drew;have A:=ze ((K _).grown C.o (u.o _) (vg D.o))
    go_wp2
    go_roundw
    case rel=>exact⟨k+1,by omega,by go_num,A.o,by rw[G.o];exact F.o⟩
    case measure=>simp[intOf];omega
  ·obtain rfl:k=c.length:=by omega
   have m:=D.o;rw[jb]at m;have t:=ze (JC m);have E:=ze (MI m (yk _));obtain⟨oa,oc,he,-⟩:=id t.o;subst he
   go_wp2
   go_ret;exact⟨_,c,rfl,HP.o,t.o,s.o.trans (n.o.mono s.o.size),E.o⟩
def OW (v:Value)(b:Fs)(S:Option Addr)(n T:Nat)(w:World)(N:∀f∈b,f.1.length<=9223372036854775807/\f.2.length<=9223372036854775807)(h:Mr w v b):
  Calls prog 42 #[v,.slice S n T] w λr U=>zc w U/\∃A,r=.returned (.bool A)/\(A=true->b.length<=4096/\n<=4096/\∀f∈b,f.1.length<=1048576/\f.2.length<=1048576):=by
 have F:=ze h;have G:=ze N;obtain⟨a,H,rfl,E,-⟩:=h
 by_cases C:4096<b.length
 ·have I:(4096:Int)<(b.length:Int):=by omega
  go_enter func42,ntmps42
  go_wp2
  go_ret;exact⟨zu _ _,false,rfl,λh=>by simp at h⟩
 ·by_cases D:4096<n
  ·go_enter func42,ntmps42
   go_wp2
   go_ret;exact⟨zu _ _,false,rfl,λh=>by simp at h⟩
  ·go_enter func42,ntmps42
   go_wp2
   go_loopw [5] (λi wr=>∃k:Nat,k<=b.length/\i=.int .i64 k/\zc w wr/\∀j (h:j<b.length),j<k->b[j].1.length<=1048576/\b[j].2.length<=1048576) (λi _=>b.length-(intOf i).toNat)
   case atStart=>exact⟨0,yk _,rfl,zu _ _,λj _ h=>by omega⟩
   case round =>
    obtain⟨k,V,rfl,q,s⟩:=hrel;have c:=ze q;have z:=ze s
    by_cases d:k<b.length
    ·obtain⟨-,-,t⟩:=F.o.at;obtain⟨e,B,rfl,Q⟩:=t (by omega);obtain⟨u,y⟩:=Q k d;have O:=G.o _ (ye d);have l:Hid (b[k].1.length<=1048576->b[k].2.length<=1048576->∀j (h:j<b.length),j<k+1->b[j].1.length<=1048576/\b[j].2.length<=1048576):=λC D j g M=>by
      rcases qf j k with h|h
      ·exact z.o j g h
      ·obtain rfl:j=k:=by omega
       exact⟨C,D⟩
     generalize b[k].1=p at *;generalize b[k].2=x at *;unfold qy at u y;have W:wr.cell? ⟨e,B+k*2,none⟩=some (.string ⟨p.toArray⟩):=by rw[c.o.cell (p:=⟨e,_,none⟩) (yf u)];exact u
     have X:wr.cell? ⟨e,B+k*2+1,none⟩=some (.string ⟨x.toArray⟩):=by rw[c.o.cell (p:=⟨e,_,none⟩) (yf y)];exact y
     by_cases R:1048576<x.length
     ·have J:decide ((1048576:Int)<(x.length:Int))=true:=by simp;omega
      go_wp2
      go_ret;exact⟨c.o,false,rfl,λh=>by simp at h⟩
     ·have J:decide ((1048576:Int)<(x.length:Int))=false:=by simp;omega
      by_cases P:1048576<p.length
      ·have K:decide ((1048576:Int)<(p.length:Int))=true:=by simp;omega
       go_wp2
       go_ret;exact⟨c.o,false,rfl,λh=>by simp at h⟩
      ·have K:decide ((1048576:Int)<(p.length:Int))=false:=by simp;omega
       have m:=ze (l.o (by omega) (by omega))
       go_wp2
       go_round
       case rel=>exact⟨k+1,by omega,by go_num,c.o,m.o⟩
       case measure=>simp[intOf];omega
    ·obtain rfl:k=b.length:=by omega
     go_wp2
     go_ret;refine⟨c.o,true,rfl,λ_=>⟨by omega,by omega,λf L=>?_⟩⟩;obtain⟨j,g,rfl⟩:=ji L;exact z.o j g g
structure Wd where
 key:zb
 ar:Int
 failed:Bool
 aw:Bool
def znu (a:Nat)(c b:Value)(x:Wd):Array Value:=#[BD a,qy x.key,c,b,.int .i64 x.ar,.bool x.failed,.bool x.aw]
def KO (w:World)(d a:Nat)(c b:Value)(x:Wd):Prop:=w.heap[d]?=some (.cells (znu a c b x) 76 (0,0))
def Mj (v:Value)(n:Fs)(b:zb)(w:World)(B:n.length<=1000000)(h:Mr w v n):
  Calls prog 44 #[v,qy b] w λr u=>r=.returned (.pointer (some ⟨w.heap.size,0,none⟩))/\zc w u/\KO u w.heap.size (w.heap.size+1) (.pointer none) (.slice none 0 0) {key:=b,ar:=0,failed:=false,aw:=false}/\ym u (λk=>w.heap.size<=k) (w.heap.size+1) {ZG with fs:=GK [] n}:=by
 have z:=ze h;obtain⟨a,A,rfl,i,-⟩:=h;clear i;unfold qy;go_enter func44,ntmps44;go_wp2_with fail;have c:Hid (zc w (w.alloc (.cells #[.pointer none,.string ⟨b.toArray⟩,.pointer none,.slice none 0 0,.int .i64 0,.bool false,.bool false] 76))):=zi _ _;have f:Hid ((w.alloc (.cells #[.pointer none,.string ⟨b.toArray⟩,.pointer none,.slice none 0 0,.int .i64 0,.bool false,.bool false] 76)).heap[w.heap.size]?=some (.cells #[.pointer none,.string ⟨b.toArray⟩,.pointer none,.slice none 0 0,.int .i64 0,.bool false,.bool false] 76 (0,0))):=zf _ _;have s:Hid ((w.alloc (.cells #[.pointer none,.string ⟨b.toArray⟩,.pointer none,.slice none 0 0,.int .i64 0,.bool false,.bool false] 76)).heap.size=w.heap.size+1):=by show _=_;simp
 generalize (w.alloc (.cells #[.pointer none,.string ⟨b.toArray⟩,.pointer none,.slice none 0 0,.int .i64 0,.bool false,.bool false] 76))=x at *;refine(zk1 _ n x B (z.o.below c.o)).mono ?_;rintro r m ⟨rfl,d,j⟩;have e:m.heap[w.heap.size]?=some (.cells #[.pointer none,.string ⟨b.toArray⟩,.pointer none,.slice none 0 0,.int .i64 0,.bool false,.bool false] 76 (0,0)):=by rw[d.block _ (zg f.o)];exact f.o
 obtain⟨C,f0⟩:=zm e 0 _ rfl;have g:=ze e;have p:Hid (zc w m):=c.o.trans (d.mono c.o.size);have q:=ze j;clear d e j;unfold BD
 go_wp2
 go_ret;have y:=s.o;have t1:zl (λ_=>True) [76] m (m.setCell ⟨w.heap.size,0,none⟩ (.pointer (some ⟨x.heap.size,0,none⟩))):=(zl.refl _ _ m).set (.inl trivial) g.o (by simp) _;have l:=(q.o.stay t1 (by decide) (by decide)).mono (O':=λk=>w.heap.size<=k) (λk D=>by omega);have t:=Aw g.o 0 (.pointer (some ⟨x.heap.size,0,none⟩));refine⟨rfl,p.o.setCell (zk _) _,?_,?_⟩
 ·unfold KO;rw[t,y]
  rfl
 ·rw[y]at l ⊢;exact l
variable {M j:Nat}{fs':Fs}
def zak (l:zb):Nat:=l.foldl (λa c=>a*10+(c.toNat-48)) 0
def zep (n:Nat):zak (DD n)=n:=by
 induction n using Nat.strongRecOn with
 |ind n a =>
  by_cases h:n<10
  ·rw[LX h];unfold zak;simp only[List.foldl_cons,List.foldl_nil,IZ n h];omega
  ·rw[JA h];have:=a (n/10) (by omega);unfold zak at this ⊢;rw[Ij,this];simp only[List.foldl_cons,List.foldl_nil,IZ (n%10) (by omega)];omega
def Ow (c:UInt8):Bool:=decide (48<=c.toNat/\c.toNat<=57)
def ixN (p:zb):Nat:=zak ((p.drop 8).takeWhile Ow)
def Sy (n:Nat)(r:zb)(e:Tb r):(DD n++r).takeWhile Ow=DD n:=by
 rw[List.takeWhile_append_of_pos (λa b=>by have h:=MF n a b;unfold Fp at h;simpa[Ow]using h)];have:r.takeWhile Ow=[]:=by
  cases r with
  |nil=>rfl
  |cons c t =>
   have d:Ow c=false:=by
    have:¬Fp c:=e;simpa[Ow,Fp]using this
   simp[List.takeWhile,d]
 rw[this,AT]
def QA (j w:Nat)(a:1<=w)(b:w<=4):ixN (qz (-1) j w)=j:=by
 rw[DF (by unfold AG;omega),Hw,qk];unfold ixN;rw[List.drop_left' (show EO.length=8 from rfl),Sy _ _ (P3 _),zep];simp
def OR (a:Fs):IS (xr a) (a.map λf=>ixN f.1):=by
 intro j w b c h;obtain⟨d,e⟩:=M9.1 h;exact yi.2 ⟨_,L6 e,QA j w b c⟩
def zl6 {c:za}{w:Nat}{x:zb}(i:1<=w)(k:w<=4)(h:(qz (-1) j w,x)∈j8 c):4*j<c.length:=by
 obtain⟨l,m,b,d,e⟩:=Cv.1 h;unfold Eb at e;simp only[xj]at e;have g:=JD b d
 by_cases f:l=-1
 ·subst f;have a:=congrArg ixN e.1;rw[QA j w i k,QA m _ (by unfold CD;omega) (by unfold CD;omega)]at a;subst a;simpa[qx]using d
 ·have a:=e.1;rw[DF (by unfold AG;omega),DF g,Hw,It l f]at a;simp[EO,BJ]at a
def XJ {a:za}{b:Fs}{c:zb}{s:List Nat}(i:IS (xr b) s)(h0:∀j,4*j<a.length->j∈s)(w:Ip (j8 a) c b fs'):IS (xr fs') s:=by
 intro j g d f h;rcases w (qz (-1) j g)with e|⟨_,x,k,_⟩|⟨e,_⟩
 ·rw[e]at h;exact i j g d f h
 ·exact h0 j (zl6 d f k)
 ·exact absurd e QI
def zge (b:za)(B:Nat)(h:∀l∈b,l.length<=B):b.flatten.length<=b.length*B:=by
 induction b with
 |nil=>simp
 |cons a r d =>
  have e:=h a (by simp);have f:=d (λl c=>h l (by simp[c]));rw[DP,zw,xf,BW];omega
def SC {a:za}(b:∀e∈a,e.length<=20)(l:Int)(k:Nat):(Ao a l k).length<=21:=by
 unfold Ao;split
 ·unfold NY;rw[zj];cases e:a[k]? with
  |none=>simp
  |some x =>
   have:=b x (List.mem_of_getElem? e);simp;omega
 ·unfold yy;rw[j5];omega
def zjd {a:za}(b:∀e∈a,e.length<=20){q x:zb}(h:(q,x)∈j8 a):x.length<=84:=by
 obtain⟨l,j,d,f,e⟩:=Cv.1 h;unfold Eb at e;simp only[xj]at e;rw[e.2];unfold D6;refine zt (zge _ 21 λy c=>?_) ?_
 ·obtain⟨k,-,rfl⟩:=yi.1 c;exact SC b l k
 ·rw[yg,List.length_range'];unfold CD;omega
def zg4 {g:za}{h:Fs}{c:zb}(i:∀e∈g,e.length<=20)(m:∀f∈h,f.2.length<=M)(k:c.length<=M)(o:84<=M)(j:D5 fs')(w:Ip (j8 g) c h fs'):∀f∈fs',f.2.length<=M:=by
 intro f l;have e:=L9 (p:=f.1) (d:=f.2) j l;rcases w f.1 with a|⟨_,x,n,a⟩|⟨_,a⟩
 ·rw[e]at a;exact m (f.1,f.2) (L6 a.symm)
 ·rw[e]at a;obtain b:f.2=x:=by simpa using a
  have:=zjd i n;rw[b];omega
 ·rw[e]at a;obtain b:f.2=c:=by simpa using a
  rw[b];exact k
def zic (d:Dk)(p x:zb):(E0 d p x).fs.length<=d.fs.length+1:=by
 have h:=LR d.fs p x;have e:=congrArg List.length (je d);unfold E0;split<;>(try split)<;>(try split)<;>(try simp only)<;>omega
def Tr:∀(t:Fs) (d:Dk) ,(AU t d).2.fs.length<=d.fs.length+t.length
 |[],d=>by simp[AU]
 |f::r,d=>by
  have h:=zic d f.1 f.2;have a:=Tr r (E0 d f.1 f.2);unfold AU;split
  ·simp only[xf];omega
  ·simp only[xf];omega
def zd8 (d:Dk)(p x:zb):(GR d p x).fs.length<=d.fs.length+1:=by
 have h:=LR d.fs p x;have e:=congrArg List.length (je d);unfold GR;split
 ·simp only;omega
 ·omega
def WL (t:Fs)(c:zb)(d:Dk):(CZ t c d).2.fs.length<=d.fs.length+t.length+1:=by
 have h:=Tr t d;unfold CZ;generalize AU t d=r at *;obtain⟨o,d1⟩:=r;have a:=zd8 d1 CA c;simp only at h ⊢;cases o with
 |some p=>simp only;omega
 |none =>
  simp only;split<;>(simp only;omega)
def Lr (f:Nat->Fs)(B L:Nat)(h:∀k,(f k).length<=B):((List.range L).flatMap f).length<=L*B:=by
 induction L with
 |zero=>simp
 |succ L a =>
  rw[DK,KA,zw,BW];have:=h L;simp only[DO,List.flatMap_nil,AT];omega
def Lx (a:za)(l:Int)(j c:Nat):(Lw a l j c).length<=(c+3)/4:=by
 unfold Lw;rw[yg,List.length_range'];omega
def Wj (a:za)(b:Nat)(l:Int):(IN a b l).length<=(a.length+3)/4:=by
 unfold IN;split
 ·simp
 ·have:=Lx a l (qx l b/4) (qx l a.length);have:=IY l a.length;omega
def Xu (b:za)(a:Nat):(A9 b a).length<=22*((b.length+3)/4):=by
 unfold A9 UQ;rw[zw];have c:=Wj b a (-1);have d:=Lr (λ(k:Nat)=>IN b a (k:Int)) ((b.length+3)/4) 21 (λk=>Wj b a _);omega
def Zz (a:za):(j8 a).length<=22*((a.length+3)/4):=by
 unfold j8 D2;rw[zw];have b:=Lx a (-1) 0 a.length;have c:=Lr (λ(k:Nat)=>Lw a (k:Int) 0 (a.length/4^k)) ((a.length+3)/4) 21 (λk=>by
  have h:=Lx a (k:Int) 0 (a.length/4^k);have:=DL a.length (4^k);omega)
 omega
def X4 {f:zb×zb}:f∉j8 []:=by
 intro h;obtain⟨l,j,-,h,-⟩:=Cv.1 h;simp[qx]at h
variable {a0 a1 a2 a3 a4 a5 a6 a7 a8:Value}
def Ww {b:Nat}(a c d e f g i j k:Value)(h:w.heap[b]?=some (.cells #[a0,a1,a2,a3,a4,a5,a6,a7,a8] t (0,0))):(((((((((w.setCell ⟨b,0,none⟩ a).setCell ⟨b,1,none⟩ c).setCell ⟨b,2,none⟩ d).setCell ⟨b,3,none⟩ e).setCell ⟨b,4,none⟩ f).setCell ⟨b,5,none⟩ g).setCell ⟨b,6,none⟩ i).setCell ⟨b,7,none⟩ j).setCell ⟨b,8,none⟩ k).heap[b]?=some (.cells #[a,c,d,e,f,g,i,j,k] t (0,0)):=by
 have l:=Aw h 0 a;have m:=Aw l 1 c;have n:=Aw m 2 d;have o:=Aw n 3 e;have p:(((((w.setCell ⟨b,0,none⟩ a).setCell ⟨b,1,none⟩ c).setCell ⟨b,2,none⟩ d).setCell ⟨b,3,none⟩ e).setCell ⟨b,4,none⟩ f).heap[b]?=some (.cells #[a,c,d,e,f,a5,a6,a7,a8] t (0,0)):=Aw o 4 f;have q:((((((w.setCell ⟨b,0,none⟩ a).setCell ⟨b,1,none⟩ c).setCell ⟨b,2,none⟩ d).setCell ⟨b,3,none⟩ e).setCell ⟨b,4,none⟩ f).setCell ⟨b,5,none⟩ g).heap[b]?=some (.cells #[a,c,d,e,f,g,a6,a7,a8] t (0,0)):=Aw p 5 g;have r:(((((((w.setCell ⟨b,0,none⟩ a).setCell ⟨b,1,none⟩ c).setCell ⟨b,2,none⟩ d).setCell ⟨b,3,none⟩ e).setCell ⟨b,4,none⟩ f).setCell ⟨b,5,none⟩ g).setCell ⟨b,6,none⟩ i).heap[b]?=some (.cells #[a,c,d,e,f,g,i,a7,a8] t (0,0)):=Aw q 6 i;have s:((((((((w.setCell ⟨b,0,none⟩ a).setCell ⟨b,1,none⟩ c).setCell ⟨b,2,none⟩ d).setCell ⟨b,3,none⟩ e).setCell ⟨b,4,none⟩ f).setCell ⟨b,5,none⟩ g).setCell ⟨b,6,none⟩ i).setCell ⟨b,7,none⟩ j).heap[b]?=some (.cells #[a,c,d,e,f,g,i,j,a8] t (0,0)):=Aw r 7 j;have e8:(((((((((w.setCell ⟨b,0,none⟩ a).setCell ⟨b,1,none⟩ c).setCell ⟨b,2,none⟩ d).setCell ⟨b,3,none⟩ e).setCell ⟨b,4,none⟩ f).setCell ⟨b,5,none⟩ g).setCell ⟨b,6,none⟩ i).setCell ⟨b,7,none⟩ j).setCell ⟨b,8,none⟩ k).heap[b]?=some (.cells #[a,c,d,e,f,g,i,j,k] t (0,0)):=Aw s 8 k;exact e8
def QQ {b:Nat}{a:World}(h:Below B a w)(c:B<=b)(d e f g i j k l m:Value):Below B a (((((((((w.setCell ⟨b,0,none⟩ d).setCell ⟨b,1,none⟩ e).setCell ⟨b,2,none⟩ f).setCell ⟨b,3,none⟩ g).setCell ⟨b,4,none⟩ i).setCell ⟨b,5,none⟩ j).setCell ⟨b,6,none⟩ k).setCell ⟨b,7,none⟩ l).setCell ⟨b,8,none⟩ m):=
 h|>.setCell (p:=⟨b,0,none⟩) c d|>.setCell (p:=⟨b,1,none⟩) c e|>.setCell (p:=⟨b,2,none⟩) c f|>.setCell (p:=⟨b,3,none⟩) c g|>.setCell (p:=⟨b,4,none⟩) c i|>.setCell (p:=⟨b,5,none⟩) c j|>.setCell (p:=⟨b,6,none⟩) c k|>.setCell (p:=⟨b,7,none⟩) c l|>.setCell (p:=⟨b,8,none⟩) c m
def Y7 {b:Nat}(a c d e f g i j l:Value)(h:k≠b):(((((((((w.setCell ⟨b,0,none⟩ a).setCell ⟨b,1,none⟩ c).setCell ⟨b,2,none⟩ d).setCell ⟨b,3,none⟩ e).setCell ⟨b,4,none⟩ f).setCell ⟨b,5,none⟩ g).setCell ⟨b,6,none⟩ i).setCell ⟨b,7,none⟩ j).setCell ⟨b,8,none⟩ l).heap[k]?=w.heap[k]?:=by
 repeat rw[yh _ _ _ _ h]
def zcc (O OL:Nat->Prop)(db c:Nat)(d:Dk)(l:Lg)(w:World)(E:DW w)(hn:d.fs.length<=1000000000)(he:l.es.length<=1000000)(ax:∀e∈l.es,e.length<=20)(hk:l.key.length<=9223372036854775807)(ah:l.live=true)(h:ym w O db d)(hL:Ak w OL db c l):
  Calls prog 254 #[.pointer (some ⟨c,0,none⟩)] w λr g=>∃e,r=.returned e/\EF (Jy d) CA w.heap.size e g/\zl O dT w g/\ym g (qv O w g) db (GR d CA (AR l.es.length (yy l.es) l.key)):=by
 have ar:∀(fn:Fn) (first i:Array Value) (w:World),(Instr.makeFunc fn first i).run prog w=.ok (.func fn first i) w:=λ_ _ _ _=>rfl;have eg:∀X w,(callFunc 288 X).run prog w=.ok (.enter 288 X) w:=KP func288 (by kernel_rfl) rfl;obtain⟨ev,hO,hb,ag,hg⟩:=hL;obtain⟨⟨c0,f0⟩,⟨c1,f1⟩,⟨c2,f2⟩,-⟩:=Jr hb;rw[ah]at c0;have au:=ze c0;have U:=zg hb;have HD:=ze h;have HE:=ze E;have HS:=ze ag;obtain⟨a,i,az⟩:∃a i,ev=.slice a l.es.length i:=by
  obtain⟨a,i,e,-⟩:=ag.bss';exact⟨a,i,e⟩
 subst az;clear h hb ag hg E;go_enter func254,ntmps254;go_wp2_with fail;obtain⟨H,I,J,K,L,M,N,P,hR⟩:=XC (j7 l.es.length l.es) (j5 _ _);have aq:hv (j7 l.es.length l.es)=#[.int .u8 H.toNat,.int .u8 I.toNat,.int .u8 J.toNat,.int .u8 K.toNat,.int .u8 L.toNat,.int .u8 M.toNat,.int .u8 N.toNat,.int .u8 P.toNat]:=by rw[hR];rfl
 have HR:=ze hR;have an:=ze aq;have aj:=ze ax;have ak:Hid (∀g,zc w g->JW g (.slice a l.es.length i) l.es):=λg hb=>HS.o.bss'.below hb;have z:Hid (zc w (w.alloc (.cells #[.pointer (some ⟨c,0,none⟩)] 126)).drew):=(zi _ _).drew;have Q:Hid (∀o,zc w ((w.alloc (.cells #[.pointer (some ⟨c,0,none⟩)] 126)).alloc o).drew):=λo=>((zi w _).alloc (by simp) o).drew;have al:Hid (∀W g,zc w W->zc W g->g.cell? ⟨c,2,none⟩=some (.slice a l.es.length i)):=λW g h1 h2=>by rw[h2.cell (p:=⟨c,2,none⟩) (zq U h1.size),h1.cell (p:=⟨c,2,none⟩) U];exact c2
 have av:Hid (∀g,Below (w.alloc (.cells #[.pointer (some ⟨c,0,none⟩)] 126)).drew.heap.size (w.alloc (.cells #[.pointer (some ⟨c,0,none⟩)] 126)).drew g->g.heap[w.heap.size]?=some (.cells #[.pointer (some ⟨c,0,none⟩)] 126 (0,0))):=λg h=>by rw[h.block _ (by show w.heap.size<(w.heap.push _).size;simp)];exact zf w _
 have aw:Hid (∀o g,Below ((w.alloc (.cells #[.pointer (some ⟨c,0,none⟩)] 126)).alloc o).drew.heap.size ((w.alloc (.cells #[.pointer (some ⟨c,0,none⟩)] 126)).alloc o).drew g->g.heap[w.heap.size]?=some (.cells #[.pointer (some ⟨c,0,none⟩)] 126 (0,0))):=λo g h=>by rw[h.block _ (by show w.heap.size<((w.heap.push _).push _).size;simp;omega)];exact zr (zf w _)
 clear hR aq ax;go_cut [3] from 5 to 15 (λs3 wx=>∃B,s3=.pointer (some ⟨B,0,none⟩)/\wx.heap[B]?=some (.cells (tv l.es.length H I J K L M N P) 120 (0,0))/\zc w wx/\wx.heap[w.heap.size]?=some (.cells #[.pointer (some ⟨c,0,none⟩)] 126 (0,0)))
 case first =>
  clear ar eg c0 f0 c1 f1 f2 hn hk ah hO HD HE;have aJ:¬c=w.heap.size+1:=by omega
  have aK:¬w.heap.size+1=c:=by omega
  go_region_held3 (λW=>W.cell? ⟨w.heap.size,0,none⟩=some (.pointer (some ⟨c,0,none⟩))/\W.cell? ⟨c,2,none⟩=some (.slice a l.es.length i)) (go_keep) (first
   |(go_at_call 59;refine(I8 l.es.length _ l.es (w.alloc (.cells #[.pointer (some ⟨c,0,none⟩)] 126)).drew (zk _) he (by intro e q;have:=aj.o e q;unfold maxLen;omega) (by exact ak.o _ z.o)).mono ?_;rintro r Y ⟨rfl,j⟩;rw[an.o];have u:=ze j;have m2:=al.o _ _ z.o j;have k:=av.o _ j;have V:=(zm k 0 _ rfl).1;have aH:∀o,(Y.alloc o).cell? ⟨c,2,none⟩=some (.slice a l.es.length i):=(λo=>by rw[xg _ _ ⟨_,2,none⟩ (yf m2)];exact m2);have aG:∀o,(Y.alloc o).cell? ⟨w.heap.size,0,none⟩=some (.pointer (some ⟨c,0,none⟩)):=(λo=>by rw[xg _ _ ⟨_,0,none⟩ (yf V)];exact V);have ae:=ze k;clear j k)
   |(go_at_call 59;refine(I8 l.es.length _ l.es ((w.alloc (.cells #[.pointer (some ⟨c,0,none⟩)] 126)).alloc (.cells #[.int .i64 0,.int .u8 0,.int .u8 0,.int .u8 0,.int .u8 0,.int .u8 0,.int .u8 0,.int .u8 0,.int .u8 0] 120)).drew (zk _) he (by intro e q;have:=aj.o e q;unfold maxLen;omega) (by exact ak.o _ (Q.o _))).mono ?_;rintro r Y ⟨rfl,j⟩;rw[an.o];have u:=ze j;have s:=znk w _ _ j;obtain⟨n0,n1,n2,n3,n4,n5,n6,n7,n8⟩:=Kd s;have nz:=Ur s;have ab:=ze s;have m2:=al.o _ _ (Q.o _) j;have k:=aw.o _ _ j;have V:=(zm k 0 _ rfl).1;have aH:∀o,(Y.alloc o).cell? ⟨c,2,none⟩=some (.slice a l.es.length i):=(λo=>by rw[xg _ _ ⟨_,2,none⟩ (yf m2)];exact m2);have aG:∀o,(Y.alloc o).cell? ⟨w.heap.size,0,none⟩=some (.pointer (some ⟨c,0,none⟩)):=(λo=>by rw[xg _ _ ⟨_,0,none⟩ (yf V)];exact V);have ae:=ze k;clear j s k))
  ·go_wp2
   go_meet;refine⟨Y.heap.size,rfl,zf _ _,?_,zr ae.o⟩;exact((z.o.trans (u.o.mono z.o.size)).alloc (zt z.o.size u.o.size) _)
  ·go_wp2
   go_meet;have f:zc w Y:=(Q.o _).trans (u.o.mono (Q.o _).size);have aA:w.heap.size≠w.heap.size+1:=by omega
   have e8:=Ww (.int .i64 (l.es.length:Int)) (.int .u8 (H.toNat:Int)) (.int .u8 (I.toNat:Int)) (.int .u8 (J.toNat:Int)) (.int .u8 (K.toNat:Int)) (.int .u8 (L.toNat:Int)) (.int .u8 (M.toNat:Int)) (.int .u8 (N.toNat:Int)) (.int .u8 (P.toNat:Int)) ab.o;have e9:=QQ f (show w.heap.size<=w.heap.size+1 by omega) (.int .i64 (l.es.length:Int)) (.int .u8 (H.toNat:Int)) (.int .u8 (I.toNat:Int)) (.int .u8 (J.toNat:Int)) (.int .u8 (K.toNat:Int)) (.int .u8 (L.toNat:Int)) (.int .u8 (M.toNat:Int)) (.int .u8 (N.toNat:Int)) (.int .u8 (P.toNat:Int));have ap:=Y7 (w:=Y) (b:=w.heap.size+1) (.int .i64 (l.es.length:Int)) (.int .u8 (H.toNat:Int)) (.int .u8 (I.toNat:Int)) (.int .u8 (J.toNat:Int)) (.int .u8 (K.toNat:Int)) (.int .u8 (L.toNat:Int)) (.int .u8 (M.toNat:Int)) (.int .u8 (N.toNat:Int)) (.int .u8 (P.toNat:Int)) aA;rw[ae.o]at ap;exact⟨w.heap.size+1,rfl,e8,e9,ap⟩
 case rest =>
  obtain⟨B,rfl,hB,f,y⟩:=hcut;have m:=ze f;have A:=ze y;have u:=ze hB;have V:=(zm y 0 _ rfl).1;have m1:wc.cell? ⟨c,1,none⟩=some (.string ⟨l.key.toArray⟩):=by rw[f.cell (p:=⟨c,1,none⟩) U];exact c1
  obtain⟨n0,n1,n2,n3,n4,n5,n6,n7,n8⟩:=Kd hB;have Z:=ze (HE.o.below f);have af:=zg hB;clear f y hB c0 c1 c2 f0 f1 f2;have R:Hid (∀o,zc wc (wc.alloc o).drew):=λo=>(zi _ _).drew;have k:¬w.heap.size=wc.heap.size:=by have:=yf V;simp only at this;omega
  have aB:¬c=wc.heap.size:=by have:=yf m1;simp only at this;omega
  have aC:¬B=wc.heap.size:=by omega
  have aD:¬wc.heap.size=w.heap.size:=by omega
  have aE:¬wc.heap.size=c:=by omega
  have aF:¬wc.heap.size=B:=by omega
  have ad:Hid (∀W',zc wc W'->((λW=>W.cell? ⟨w.heap.size,0,none⟩=some (.pointer (some ⟨c,0,none⟩))/\W.cell? ⟨c,1,none⟩=some (.string ⟨l.key.toArray⟩)/\W.cell? ⟨B,0,none⟩=some (.int .i64 (l.es.length:Int))/\W.cell? ⟨B,1,none⟩=some (.int .u8 (H.toNat:Int))/\W.cell? ⟨B,2,none⟩=some (.int .u8 (I.toNat:Int))/\W.cell? ⟨B,3,none⟩=some (.int .u8 (J.toNat:Int))/\W.cell? ⟨B,4,none⟩=some (.int .u8 (K.toNat:Int))/\W.cell? ⟨B,5,none⟩=some (.int .u8 (L.toNat:Int))/\W.cell? ⟨B,6,none⟩=some (.int .u8 (M.toNat:Int))/\W.cell? ⟨B,7,none⟩=some (.int .u8 (N.toNat:Int))/\W.cell? ⟨B,8,none⟩=some (.int .u8 (P.toNat:Int)))) W'):=λW' hb=>by
   have C:∀{p:Addr}{v:Value},wc.cell? p=some v->W'.cell? p=some v:=fun {p v} h=>by rw[hb.cell (yf h)];exact h
   exact⟨C V,C m1,C n0,C n1,C n2,C n3,C n4,C n5,C n6,C n7,C n8⟩
  have S:Hid (zc wc wc.drew):=(zu _ _).drew;have ao:Hid (AR (l.es.length:Int).toNat [H,I,J,K,L,M,N,P] l.key=AR l.es.length (yy l.es) l.key):=by show _=_;unfold yy;rw[HR.o,zz]
  go_wp2
  go_cut [4] from 16 to 21 (λs4 wx=>∃B4,s4=.pointer (some ⟨B4,0,none⟩)/\wx.heap[B4]?=some (.cells #[qy (AR l.es.length (yy l.es) l.key)] 9 (0,0))/\zc w wx/\wx.heap[w.heap.size]?=some (.cells #[.pointer (some ⟨c,0,none⟩)] 126 (0,0)))
  case first =>
   clear ar eg hn ah HD
   go_region_held3 (λW=>W.cell? ⟨w.heap.size,0,none⟩=some (.pointer (some ⟨c,0,none⟩))/\W.cell? ⟨c,1,none⟩=some (.string ⟨l.key.toArray⟩)/\W.cell? ⟨B,0,none⟩=some (.int .i64 (l.es.length:Int))/\W.cell? ⟨B,1,none⟩=some (.int .u8 (H.toNat:Int))/\W.cell? ⟨B,2,none⟩=some (.int .u8 (I.toNat:Int))/\W.cell? ⟨B,3,none⟩=some (.int .u8 (J.toNat:Int))/\W.cell? ⟨B,4,none⟩=some (.int .u8 (K.toNat:Int))/\W.cell? ⟨B,5,none⟩=some (.int .u8 (L.toNat:Int))/\W.cell? ⟨B,6,none⟩=some (.int .u8 (M.toNat:Int))/\W.cell? ⟨B,7,none⟩=some (.int .u8 (N.toNat:Int))/\W.cell? ⟨B,8,none⟩=some (.int .u8 (P.toNat:Int))) (go_keep) (first
    |(go_at_call 82;refine(NK (l.es.length:Int) (by omega) (by omega) H I J K L M N P l.key hk wc.drew (by exact Z.o.below S.out)).mono ?_;rintro r w2 ⟨rfl,x⟩;have n:zc wc w2:=(S.out).trans (x.mono (S.out).size);obtain⟨q0,q1,q2,q3,q4,q5,q6,q7,q8,q9,aI⟩:=ad.o w2 n;have t:=ze n;clear x n)
    |(go_at_call 82;refine(NK (l.es.length:Int) (by omega) (by omega) H I J K L M N P l.key hk (wc.alloc (.cells #[.string ⟨#[]⟩] 9)).drew (by exact Z.o.below (R.out _))).mono ?_;rintro r w2 ⟨rfl,x⟩;have n:zc wc w2:=((R.out _)).trans (x.mono ((R.out _)).size);obtain⟨q0,q1,q2,q3,q4,q5,q6,q7,q8,q9,aI⟩:=ad.o w2 n;have t:=ze n;have ai:w2.heap[wc.heap.size]?=some (.cells #[.string ⟨#[]⟩] 9 (0,0)):=(by rw[x.block _ (by show wc.heap.size<(wc.heap.push _).size;simp)];exact zf wc _);obtain⟨x0,x1⟩:=zm ai 0 _ rfl;have ab:=ze ai;clear ai;clear x n))
   ·go_wp2
    go_meet;have F:=ao.o;rw[zz]at F;rw[F];exact⟨w2.heap.size,rfl,zf _ _,(m.o.trans (t.o.mono m.o.size)).alloc (zt m.o.size t.o.size) _,zr (by rw[t.o.block _ (zg A.o)];exact A.o)⟩
   ·go_wp2
    go_meet;have F:=ao.o;rw[zz]at F;rw[F];refine⟨wc.heap.size,rfl,Aw ab.o 0 _,(m.o.trans (t.o.mono m.o.size)).setCell (by show w.heap.size<=wc.heap.size;exact m.o.size) _,?_⟩;rw[yh _ _ _ _ k,t.o.block _ (zg A.o)];exact A.o
  case rest =>
   clear k aB aC aD aE aF V m1 n0 n1 n2 n3 n4 n5 n6 n7 n8 af ad R S Z m A u;obtain⟨B4,rfl,h4,f,y⟩:=hcut;go_wp2_with fail;have G:wc.cell? ⟨c,0,none⟩=some (UN db true):=by rw[f.cell (p:=⟨c,0,none⟩) U];exact au.o
   have D:=zd7 O db c w.heap.size B4 d (AR l.es.length (yy l.es) l.key) (wc.alloc (.cells #[.nilIface] 100)) hn
    (HD.o.stay (O1:=λ_=>False) (T:=[]) ((zl.aa f).alloc _) (by simp) (by simp))
    (zm (zr y) 0 _ rfl).1 (zm (zr h4) 0 _ rfl).1 (by rw[xg _ _ ⟨_,0,none⟩ (yf G)];exact G)
   have H0:Hid ((wc.alloc (.cells #[.nilIface] 100)).heap[wc.heap.size]?=some (.cells #[.nilIface] 100 (0,0))):=zf _ _;have af:Hid (zc w (wc.alloc (.cells #[.nilIface] 100))):=f.alloc f.size _;refine(TX CA 288 _ wc (λe g=>FU (Jy d) (wc.alloc (.cells #[.nilIface] 100)).heap.size e g/\zl O dT (wc.alloc (.cells #[.nilIface] 100)) g/\ym g (qv O (wc.alloc (.cells #[.nilIface] 100)) g) db (GR d CA (AR l.es.length (yy l.es) l.key))) eg D ?_).mono ?_
   ·rintro e g ⟨ho,ht,-⟩;exact⟨O5 ho,ht.keep H0.o (by decide)⟩
   have ay:w.heap.size<=wc.heap.size:=f.size;clear D h4 f y G;generalize wc.alloc (.cells #[.nilIface] 100)=W4 at *;rintro r w5 ⟨e,g,⟨ho,ht,hd⟩,h⟩;have am:=ze (Z6 af.out ay H0.o ho ht hd h);clear ho ht hd h;obtain⟨e',q⟩:=am.o;obtain rfl:=q.1;have HX:=ze q.2;clear q am
   go_wp2
   go_ret;exact⟨_,rfl,HX.o⟩
end Go.Proofs.YtfdbeldiomkdiaaGreatDoor
