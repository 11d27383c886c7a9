import Derived.Test.YtlcllcgngjhoaaaGreatDoorG38
import Derived.Test.YtlcllcgngjhoaaaGreatDoorG40
import Derived.Test.YtlcllcgngjhoaaaGreatDoorG17
set_option maxHeartbeats 8000000
set_option maxRecDepth 100000
set_option linter.all false
namespace Go.Proofs.YtlcllcgngjhoaaaGreatDoor
open Go.RowKit Go.Proofs.Tryz
def zx1:=@Nat.add_le_add_left
variable {k:Nat}{wt:Fs}
def zxt (b:Fs)(f:zc×zc):Bool:=match je b f.1 with
 | some y=>decide (y=f.2)
 | none=>false
theorem z9j (b a:Fs)(k:Nat)(h:k < a.length):zi5 b (a.take (k+1))=(zi5 b (a.take k)&&zxt b a[k]):=by
 unfold zi5;rw [zmr a k h,ztq];congr 1;rw [List.all_cons,List.all_nil,Bool.and_true]
 rfl
theorem z9i {b:Fs}(h:k < wt.length)(a:zxt b wt[k]=false):zi5 b wt=false:=by
 unfold zi5;rw [zqa];exact⟨wt[k],yd h,by rw [← Bool.not_eq_true] at a;exact a⟩
theorem yet (X Y:Value)(b a:Fs)(w:World)(hb:b.length≤1000000000)(hw:a.length≤1000000000)(Q:Fss w X b)(R:Fss w Y a):
  Calls prog 43 #[X,Y] w fun r w'=>r= .returned (.bool (zi5 b a))∧Below w.heap.size w w':=by
 have N:=zf Q;have Z:=zf R;obtain⟨a1,c1,rfl,L,-⟩:=Q;obtain⟨a2,c2,rfl,M,-⟩:=R;clear L M;go_enter func43,ntmps43;go_wp2_with fail;go_loopw [5] (fun i wr=>∃ k:Nat,k≤a.length∧i= .int .i64 k∧Below w.heap.size w wr∧zi5 b (a.take k)=true) (fun i _=>a.length - (intOf i).toNat)
 case atStart=>exact⟨0,yv _,rfl,yf _ _,rfl⟩
 case round =>
  obtain⟨k,hk,rfl,z,B⟩:=hrel;have d:=zf z;have O:=zf B;clear z B
  by_cases q:k < a.length
  ·have v:=zf (z9j b a k q);have l:Hid (zxt b a[k]=false→zi5 b a=false):=z9i q;obtain⟨-,-,h⟩:=Z.o.at;obtain⟨I,T,rfl,E⟩:=h (by omega);obtain⟨F,G⟩:=E k q;obtain⟨⟨p,x⟩,C⟩:∃ f,a[k]=f:=⟨_,rfl⟩;rw [C] at F G v l;unfold qo at F G;have U:wr.cell? ⟨I,T+k*2,none⟩=some (.string ⟨p.toArray⟩):=by rw [d.o.cell (p:=⟨I,_,none⟩) (yg F)];exact F
   have V:wr.cell? ⟨I,T+k*2+1,none⟩=some (.string ⟨x.toArray⟩):=by rw [d.o.cell (p:=⟨I,_,none⟩) (yg G)];exact G
   clear F G C E h;go_wp2_with fail;refine(zck _ b p wr hb (N.o.below d.o)).mono ?_;rintro r w1 ⟨rfl,rfl⟩;have s:Hid (zxt b (p,x)=match je b p with | some y=>decide (y=x) | none=>false):=rfl;cases e:ixF b p with
   | none =>
    have A:ixI b p=-1:=by unfold ixI;rw [e]
    rw [A];have K:Hid (zi5 b a=false):=l.o (by rw [s.o,(zci e).1]);clear e A;go_wp2_with fail
    go_region
    all_goals
     go_wp2_with fail;go_ret;exact⟨by rw [K.o];rfl,d.o.drew⟩
   | some j =>
    have A:ixI b p=j:=by unfold ixI;rw [e]
    rw [A];obtain⟨hj,-,n,-⟩:=zb8 e;obtain⟨-,-,g⟩:=N.o.at;obtain⟨P,o1,rfl,D⟩:=g (by omega);obtain⟨-,H⟩:=D j hj;obtain⟨y,S⟩:∃ y,b[j].2=y:=⟨_,rfl⟩;rw [S] at H n;unfold qo at H;have W:w1.cell? ⟨P,o1+j*2+1,none⟩=some (.string ⟨y.toArray⟩):=by rw [d.o.cell (p:=⟨P,_,none⟩) (yg H)];exact H
    have t:Hid (zxt b (p,x)=decide (y=x)):=by
     show _=_;rw [s.o,n]
    have aa:decide ((j:Int) < 0)=false:=by simp
    clear e A D g H S n;go_wp2_with fail
    go_region
    all_goals
     by_cases c:y=x
     ·have J:Hid (zi5 b (a.take (k+1))=true):=by
       show _=_;rw [v.o,O.o,t.o,c];simp
      rw [show(y==x)=true by simpa using c];clear c U V W;go_wp2_with fail
      go_round
      case rel=>exact⟨k+1,by omega,by go_num,d.o.drew,J.o⟩
      case measure=>simp [intOf];omega
     ·have K:Hid (zi5 b a=false):=l.o (by rw [t.o];simpa using c);rw [show(y==x)=false by simpa using c];clear c U V W;go_wp2_with fail;go_ret;exact⟨by rw [K.o];rfl,d.o.drew⟩
  ·obtain rfl:k=a.length:=by omega
   have m:=O.o;rw [jg] at m;have u:=zf m;clear m;go_wp2_with fail;go_ret;exact⟨by rw [u.o];rfl,d.o⟩
def zrr (after:Fs)(c:zc)(f:zc×zc):Bool:=match je after f.1 with
 | some y=>decide (y=f.2)||(decide (f.1=cpF)&&decide (y=c))
 | none=>false
def zov (b wt:Fs)(c:zc)(f:zc×zc):Bool:=match je b f.1 with
 | some _=>true
 | none=>(match je wt f.1 with | some y=>decide (f.2=y) | none=>false)||(decide (f.1=cpF)&&decide (f.2=c))
theorem z2b {α:Type}(g:α→Bool)(l:List α)(k:Nat)(h:k < l.length):(l.take (k+1)).all g=((l.take k).all g&&g l[k]):=by
 rw [zmr l k h,ztq,List.all_cons,List.all_nil,Bool.and_true]
theorem z2a {α:Type}(g:α→Bool){l:List α}(h:k < l.length)(a:g l[k]=false):l.all g=false:=by
 rw [zqa];exact⟨l[k],yd h,by rw [← Bool.not_eq_true] at a;exact a⟩
theorem yhf (v1 v2 v3:Value)(b d g:Fs)(c:zc)(w:World)(hb:b.length≤1000000000)(ha:d.length≤1000000000)(hw:g.length≤1000000000)(h1:Fss w v1 b)(h2:Fss w v2 d)(h3:Fss w v3 g):
  Calls prog 42 #[v1,v2,v3,.string ⟨c.toArray⟩] w fun r w'=>r= .returned (.bool (zqk b d g c))∧Below w.heap.size w w':=by
 have H1:=zf h1;have H2:=zf h2;have H3:=zf h3;have aj:Hid (b.all (zrr d c)=false→zqk b d g c=false):=fun h=>by
  show(b.all (zrr d c)&&_)=false;rw [h,Bool.false_and]
 obtain⟨a1,c1,rfl,ak,-⟩:=h1;obtain⟨a2,c2,rfl,al,-⟩:=h2;obtain⟨a3,c3,rfl,am,-⟩:=h3;clear ak al am;go_enter func42,ntmps42;go_wp2_with fail;go_loopw [9] (fun i wr=>∃ k:Nat,k≤b.length∧i= .int .i64 k∧Below w.heap.size w wr∧(b.take k).all (zrr d c)=true) (fun i _=>b.length - (intOf i).toNat)
 case atStart=>exact⟨0,yv _,rfl,yf _ _,rfl⟩
 case round =>
  obtain⟨k,hk,rfl,N,Q⟩:=hrel;have m:=zf N;have HN:=zf Q;clear N Q
  by_cases E:k < b.length
  ·have C:=zf (z2b (zrr d c) b k E);have s:Hid (zrr d c b[k]=false→zqk b d g c=false):=fun h=>aj.o (z2a _ E h);obtain⟨-,-,A⟩:=H1.o.at;obtain⟨X,o2,rfl,T⟩:=A (by omega);obtain⟨U,V⟩:=T k E;obtain⟨⟨p,x⟩,R⟩:∃ f,b[k]=f:=⟨_,rfl⟩;rw [R] at U V C s;unfold qo at U V;have J:wr.cell? ⟨X,o2+k*2,none⟩=some (.string ⟨p.toArray⟩):=by rw [m.o.cell (p:=⟨X,_,none⟩) (yg U)];exact U
   have K:wr.cell? ⟨X,o2+k*2+1,none⟩=some (.string ⟨x.toArray⟩):=by rw [m.o.cell (p:=⟨X,_,none⟩) (yg V)];exact V
   clear U V R T A;go_wp2_with fail;refine(zck _ d p wr ha (H2.o.below m.o)).mono ?_;rintro r w1 ⟨rfl,rfl⟩;have u:Hid (zrr d c (p,x)=match je d p with | some y=>decide (y=x)||(decide (p=cpF)&&decide (y=c)) | none=>false):=rfl;cases e:ixF d p with
   | none =>
    have O:ixI d p=-1:=by unfold ixI;rw [e]
    rw [O];have G:Hid (zqk b d g c=false):=s.o (by rw [u.o,(zci e).1]);clear e O;go_wp2_with fail
    go_region
    all_goals
     go_wp2_with fail;go_ret;exact⟨by rw [G.o];rfl,m.o.drew⟩
   | some j =>
    have O:ixI d p=j:=by unfold ixI;rw [e]
    rw [O];obtain⟨hj,-,t,-⟩:=zb8 e;obtain⟨-,-,z⟩:=H2.o.at;obtain⟨b1,o1,rfl,S⟩:=z (by omega);obtain⟨-,W⟩:=S j hj;obtain⟨y,hy⟩:∃ y,d[j].2=y:=⟨_,rfl⟩;rw [hy] at W t;unfold qo at W;have Z:w1.cell? ⟨b1,o1+j*2+1,none⟩=some (.string ⟨y.toArray⟩):=by rw [m.o.cell (p:=⟨b1,_,none⟩) (yg W)];exact W
    have n:Hid (zrr d c (p,x)=(decide (y=x)||(decide (p=cpF)&&decide (y=c)))):=by
     show _=_;rw [u.o,t]
    have D:decide ((j:Int) < 0)=false:=by simp
    clear e O S z W hy t;have B:Hid ((decide (y=x)||(decide (p=cpF)&&decide (y=c)))=true→(b.take (k+1)).all (zrr d c)=true):=fun h=>by
     rw [C.o,HN.o,n.o,h]
     rfl
    have ah:Hid ((decide (y=x)||(decide (p=cpF)&&decide (y=c)))=false→zqk b d g c=false):=fun h=>s.o (by rw [n.o];exact h);clear u n C s
    by_cases v:y=x
    ·have L:(y==x)=true:=by simpa using v
     have q:=zf (B.o (by simp [v]));clear v;go_wp2_with fail
     go_region
     all_goals
      clear L J K Z;go_wp2_with fail
      go_round
      case rel=>exact⟨k+1,by omega,by go_num,m.o.drew,q.o⟩
      case measure=>simp [intOf];omega
    ·have L:(y==x)=false:=by simpa using v
     by_cases a:p=cpF
     ·have F:(p==[99,104,101,99,107,112,111,105,110,116])=true:=by simpa [cpF] using a
      by_cases I:y=c
      ·have M:(y==c)=true:=by simpa using I
       have q:=zf (B.o (by simp [a,I]));clear v a I;go_wp2_with fail
       go_region
       all_goals
        clear L F M J K Z;go_wp2_with fail
        go_round
        case rel=>exact⟨k+1,by omega,by go_num,m.o.drew,q.o⟩
        case measure=>simp [intOf];omega
      ·have M:(y==c)=false:=by simpa using I
       have G:=zf (ah.o (by simp [v,I]));clear v a I;go_wp2_with fail
       go_region
       all_goals
        clear L F M J K Z;go_wp2_with fail;go_ret;exact⟨by rw [G.o];rfl,m.o.drew⟩
     ·have F:(p==[99,104,101,99,107,112,111,105,110,116])=false:=by simpa [cpF] using a
      have G:=zf (ah.o (by simp [v,a]));clear v a;go_wp2_with fail
      go_region
      all_goals
       clear L F J K Z;go_wp2_with fail;go_ret;exact⟨by rw [G.o];rfl,m.o.drew⟩
  ·obtain rfl:k=b.length:=by omega
   have ab:=HN.o;rw [jg] at ab;have ae:Hid (zqk b d g c=d.all (zov b g c)):=by
    show(b.all (zrr d c)&&d.all (zov b g c))=_;rw [ab,zyj]
   have ai:=zf m.o;clear ab HN m;go_wp2_with fail;go_loopw [11] (fun i wr=>∃ k:Nat,k≤d.length∧i= .int .i64 k∧Below w.heap.size w wr∧(d.take k).all (zov b g c)=true) (fun i _=>d.length - (intOf i).toNat)
   case atStart=>exact⟨0,yv _,rfl,ai.o,rfl⟩
   case round =>
    obtain⟨k,hk,rfl,N,Q⟩:=hrel;have m:=zf N;have HN:=zf Q;clear N Q
    by_cases E:k < d.length
    ·have C:=zf (z2b (zov b g c) d k E);have s:Hid (zov b g c d[k]=false→zqk b d g c=false):=fun h=>by rw [ae.o];exact z2a _ E h
     obtain⟨-,-,A⟩:=H2.o.at;obtain⟨X,o2,rfl,T⟩:=A (by omega);obtain⟨U,V⟩:=T k E;obtain⟨⟨p,x⟩,R⟩:∃ f,d[k]=f:=⟨_,rfl⟩;rw [R] at U V C s;unfold qo at U V;have J:wr.cell? ⟨X,o2+k*2,none⟩=some (.string ⟨p.toArray⟩):=by rw [m.o.cell (p:=⟨X,_,none⟩) (yg U)];exact U
     have K:wr.cell? ⟨X,o2+k*2+1,none⟩=some (.string ⟨x.toArray⟩):=by rw [m.o.cell (p:=⟨X,_,none⟩) (yg V)];exact V
     clear U V R T A;have B:Hid (zov b g c (p,x)=true→(d.take (k+1)).all (zov b g c)=true):=fun h=>by
      rw [C.o,HN.o,h]
      rfl
     have u:Hid (zov b g c (p,x)=match je b p with | some _=>true | none=>(match je g p with | some y=>decide (x=y) | none=>false)||(decide (p=cpF)&&decide (x=c))):=rfl;clear C;go_wp2_with fail;refine(zck _ b p wr hb (H1.o.below m.o)).mono ?_;rintro r w1 ⟨rfl,rfl⟩;go_wp2_with fail;refine(zck _ g p w1 hw (H3.o.below m.o)).mono ?_;rintro r w2 ⟨rfl,rfl⟩;cases e:ixF b p with
     | some j =>
      have O:ixI b p=j:=by unfold ixI;rw [e]
      rw [O];obtain⟨hj,-,t,-⟩:=zb8 e;have q:=zf (B.o (by rw [u.o,t]));have D:decide ((j:Int) < 0)=false:=by simp
      generalize ixI g p=jj;clear e O hj t;go_wp2_with fail
      go_region
      all_goals
       clear D J K;go_wp2_with fail
       go_round
       case rel=>exact⟨k+1,by omega,by go_num,m.o.drew,q.o⟩
       case measure=>simp [intOf];omega
     | none =>
      have O:ixI b p=-1:=by unfold ixI;rw [e]
      rw [O];have Y:=(zci e).1;clear e O;cases e2:ixF g p with
      | none =>
       have P:ixI g p=-1:=by unfold ixI;rw [e2]
       rw [P];have n:Hid (zov b g c (p,x)=(decide (p=cpF)&&decide (x=c))):=by
        show _=_;rw [u.o,Y,(zci e2).1]
        rfl
       clear e2 P Y u
       by_cases a:p=cpF
       ·have F:(p==[99,104,101,99,107,112,111,105,110,116])=true:=by simpa [cpF] using a
        by_cases l:x=c
        ·have M:(x==c)=true:=by simpa using l
         have q:=zf (B.o (by rw [n.o];simp [a,l]));clear a l;go_wp2_with fail
         go_region
         all_goals
          clear F M J K;go_wp2_with fail
          go_round
          case rel=>exact⟨k+1,by omega,by go_num,m.o.drew,q.o⟩
          case measure=>simp [intOf];omega
        ·have M:(x==c)=false:=by simpa using l
         have G:=zf (s.o (by rw [n.o];simp [l]));clear a l;go_wp2_with fail
         go_region
         all_goals
          clear F M J K;go_wp2_with fail;go_ret;exact⟨by rw [G.o];rfl,m.o.drew⟩
       ·have F:(p==[99,104,101,99,107,112,111,105,110,116])=false:=by simpa [cpF] using a
        have G:=zf (s.o (by rw [n.o];simp [a]));clear a;go_wp2_with fail
        go_region
        all_goals
         clear F J K;go_wp2_with fail;go_ret;exact⟨by rw [G.o];rfl,m.o.drew⟩
      | some j =>
       have P:ixI g p=j:=by unfold ixI;rw [e2]
       rw [P];obtain⟨hj,-,t,-⟩:=zb8 e2;obtain⟨-,-,z⟩:=H3.o.at;obtain⟨b1,o1,rfl,S⟩:=z (by omega);obtain⟨-,W⟩:=S j hj;obtain⟨y,hy⟩:∃ y,g[j].2=y:=⟨_,rfl⟩;rw [hy] at W t;unfold qo at W;have Z:w2.cell? ⟨b1,o1+j*2+1,none⟩=some (.string ⟨y.toArray⟩):=by rw [m.o.cell (p:=⟨b1,_,none⟩) (yg W)];exact W
       have n:Hid (zov b g c (p,x)=(decide (x=y)||(decide (p=cpF)&&decide (x=c)))):=by
        show _=_;rw [u.o,Y,t]
       have D:decide ((j:Int) < 0)=false:=by simp
       clear e2 P S z W hy t Y u
       by_cases H:x=y
       ·have L:(x==y)=true:=by simpa using H
        have q:=zf (B.o (by rw [n.o];simp [H]));clear H;go_wp2_with fail
        go_region
        all_goals
         clear L D J K Z;go_wp2_with fail
         go_round
         case rel=>exact⟨k+1,by omega,by go_num,m.o.drew,q.o⟩
         case measure=>simp [intOf];omega
       ·have L:(x==y)=false:=by simpa using H
        have aa:Hid (zov b g c (p,x)=(decide (p=cpF)&&decide (x=c))):=by
         show _=_;rw [n.o];simp [H]
        clear H n
        by_cases a:p=cpF
        ·have F:(p==[99,104,101,99,107,112,111,105,110,116])=true:=by simpa [cpF] using a
         by_cases l:x=c
         ·have M:(x==c)=true:=by simpa using l
          have q:=zf (B.o (by rw [aa.o];simp [a,l]));clear a l;go_wp2_with fail
          go_region
          all_goals
           clear F M L D J K Z;go_wp2_with fail
           go_round
           case rel=>exact⟨k+1,by omega,by go_num,m.o.drew,q.o⟩
           case measure=>simp [intOf];omega
         ·have M:(x==c)=false:=by simpa using l
          have G:=zf (s.o (by rw [aa.o];simp [l]));clear a l;go_wp2_with fail
          go_region
          all_goals
           clear F M L D J K Z;go_wp2_with fail;go_ret;exact⟨by rw [G.o];rfl,m.o.drew⟩
        ·have F:(p==[99,104,101,99,107,112,111,105,110,116])=false:=by simpa [cpF] using a
         have G:=zf (s.o (by rw [aa.o];simp [a]));clear a;go_wp2_with fail
         go_region
         all_goals
          clear F L D J K Z;go_wp2_with fail;go_ret;exact⟨by rw [G.o];rfl,m.o.drew⟩
    ·obtain rfl:k=d.length:=by omega
     have ad:=HN.o;rw [jg] at ad;have ag:Hid (zqk b d g c=true):=by
      show _=_;rw [ae.o,ad]
     clear ad;go_wp2_with fail;go_ret;exact⟨by rw [ag.o];rfl,m.o⟩
theorem z4m (c:Int)(n:Nat)(w:World)(i:-9223372036854775808≤c)(j:c≤9223372036854775807)(e:0 < n)(g:n≤1000000):
  Calls prog 5 #[.int .i64 c,.int .i64 n] w fun r h=>(∃ m:Nat,m < n∧r= .returned (.int .i64 m))∧h=w:=by
 by_cases k:c < 0
 ·obtain⟨d,b⟩:=qv (show 0≤-(c+1) by omega);have f:=zf b;clear b;have a:d % n < n:=Nat.mod_lt _ e;go_enter func5,ntmps5;go_wp2_with fail;go_ret;refine⟨⟨d % n,a,congrArg (fun z=>Ending.returned (.int .i64 z)) ?_⟩,rfl⟩;show -((c+1).tmod (n:Int))=((d % n:Nat):Int);rw [← Int.neg_tmod,f.o]
  rfl
 ·obtain⟨d,rfl⟩:=qv (show 0≤c by omega);have a:d % n < n:=Nat.mod_lt _ e;go_enter func5,ntmps5;go_wp2_with fail;go_ret;exact⟨⟨d % n,a,congrArg (fun z=>Ending.returned (.int .i64 z)) (by simp)⟩,rfl⟩
variable {M db lb m pb wb:Nat}{O O1:Nat→Prop}{T:List Nat}{d d':Dk}{ev lv:Value}{gs:Fs}{w w':World}
abbrev aT:List Nat:=[82,99,196,114,42,9]
structure Num (n:Nat)(x:Wd)(d:Dk)(s:List Nat):Prop where
 apart:zff d.fs
 data:∀ f∈d.fs,f.2.length≤1048576
 count:d.fs.length≤4096+n*180400
 among:z9w (je d.fs) s
 small:s.length≤4096+n
 key:x.key.length≤1048577
 turned:d.turned=false
structure Ent (x:Wd)(d:Dk)(s:List Nat)(es:za)(put:Nat):Prop where
 short:∀ e∈es,e.length≤20
 ins:∀ j,4*j < es.length→j∈s
 le:put≤es.length
 there:x.failed=false→zp4 d∧∀ f∈j8 (es.take put),je d.fs f.1=some f.2
def Pub (w:World)(O:Nat→Prop)(h:Nat)(f c:Value)(x:Wd)(d:Dk)(s:List Nat):Prop :=
 f= .pointer none∨∃ b e es a,f= .pointer (some ⟨b,0,none⟩)∧O b∧zmx w b e∧za9 w O h e { key:=x.key,es:=es,put:=a,live:=!x.failed }∧w.ownsRow 0 9 1 c es.length (es.map qo)∧(∀ g,c.ownBlock=some g→O g)∧Ent x d s es a
def yff (w:World)(O:Nat→Prop)(e a:Nat)(c b:Value)(x:Wd)(d:Dk)(s:List Nat)(n:Nat):Prop :=
 x.foreign=false∧WAt w e a c b x∧yw w O a d∧Num n x d s∧Pub w O a c b x d s
theorem zpl {x:Wd}{s:List Nat}{es:za}{a:Nat}(h:Ent x d s es a):es.length≤4*s.length:=by
 have:=z1d ((es.length+3) / 4) s (fun j b=>h.ins j (by omega));omega
theorem zml (h:zmx w pb lb)(b:zq O T w w')(a:137∉T):zmx w' pb lb:=b.keep h a
theorem Pub.out {x:Wd}{s:List Nat}(h:Pub w O db lv ev x d s)(b:zq O1 aT w w')(e:∀ k,O k→¬ O1 k):Pub w' O db lv ev x d s:=by
 rcases h with h | ⟨q,p,es,c,a,i,j,l,m,f,n⟩
 ·exact .inl h
 ·exact .inr ⟨q,p,es,c,a,i,zml j b (by decide),l.out b e (by decide),zdq m b (fun g o=>e g (f g o)),f,n⟩
theorem Num.more {n:Nat}{x:Wd}{s:List Nat}(h:Num n x d s)(a:n≤m):Num m x d s :=
 ⟨h.apart,h.data,zu h.count (zx1 (zd1 _ a) _),h.among,zu h.small (zx1 a _),h.key,h.turned⟩
theorem zns {x:Wd}(h:WAt w wb db lv ev x):(w.cell? ⟨wb,0,none⟩=some (zdp db)∧w.frozen? ⟨wb,0,none⟩=false)∧(w.cell? ⟨wb,1,none⟩=some (qo x.key)∧w.frozen? ⟨wb,1,none⟩=false)∧(w.cell? ⟨wb,2,none⟩=some lv∧w.frozen? ⟨wb,2,none⟩=false)∧(w.cell? ⟨wb,3,none⟩=some ev∧w.frozen? ⟨wb,3,none⟩=false)∧(w.cell? ⟨wb,4,none⟩=some (.int .i64 x.published)∧w.frozen? ⟨wb,4,none⟩=false)∧(w.cell? ⟨wb,5,none⟩=some (.bool x.failed)∧w.frozen? ⟨wb,5,none⟩=false)∧(w.cell? ⟨wb,6,none⟩=some (.bool x.foreign)∧w.frozen? ⟨wb,6,none⟩=false) :=
 ⟨zw h 0 _ rfl,zw h 1 _ rfl,zw h 2 _ rfl,zw h 3 _ rfl,zw h 4 _ rfl,zw h 5 _ rfl,zw h 6 _ rfl⟩
theorem zti {fs:Fs}(h:gs.Perm fs)(b:∀ f∈fs,f.2.length≤M):∀ f∈gs,f.2.length≤M:=fun f a=>b f (h.mem_iff.1 a)
theorem z9v {x:Wd}(h:WAt w wb db lv ev x):
  (∀ u,WAt (w.setCell ⟨wb,2,none⟩ u) wb db u ev x)∧(∀ u,WAt (w.setCell ⟨wb,3,none⟩ u) wb db lv u x)∧(∀ n:Int,WAt (w.setCell ⟨wb,4,none⟩ (.int .i64 n)) wb db lv ev { x with published:=n })∧(∀ b:Bool,WAt (w.setCell ⟨wb,5,none⟩ (.bool b)) wb db lv ev { x with failed:=b })∧(∀ b:Bool,WAt (w.setCell ⟨wb,6,none⟩ (.bool b)) wb db lv ev { x with foreign:=b }) :=
 ⟨fun u=>zav h 2 u,fun u=>zav h 3 u,fun _=>zav h 4 _,fun _=>zav h 5 _,fun _=>zav h 6 _⟩
theorem ygh {x:Wd}(h:WAt w wb db lv ev x)(b:yw w O db d):¬ db=wb:=by
 rintro rfl;obtain⟨c,-,a,-⟩:=b;unfold WAt at h;rw [a] at h;simp at h
theorem z4c {n:Nat}{x b:Wd}{s:List Nat}(h:Num n x d s)(c:b.key=x.key)(a:d'.fs=d.fs)(e:d'.turned=d.turned):Num n b d' s :=
 ⟨by rw [a];exact h.apart,by rw [a];exact h.data,by rw [a];exact h.count,by rw [a];exact h.among,h.small,by rw [c];exact h.key,by rw [e];exact h.turned⟩
variable {B:Nat}
theorem zyl (c:B≤w.heap.size)(b:∀ k,O k→B≤k∧k < w.heap.size)(d:w.heap.size≤w'.heap.size):∀ k,jz O w w' k→B≤k∧k < w'.heap.size:=by
 intro k a;rcases a with a | a
 ·exact⟨(b k a).1,zx (b k a).2 d⟩
 ·exact⟨zu c a.1,a.2⟩
theorem yff.below {x:Wd}{s:List Nat}{n:Nat}(h:yff w O wb db lv ev x d s n)(r:Below w.heap.size w w'):yff w' (jz O w w') wb db lv ev x d s n:=by
 obtain⟨h0,m,o,p,q⟩:=h;have a:zq O [] w w':= .of_below r;refine⟨h0,a.keep m (by simp),(o.stay a (by simp) (by simp)).mono (fun _ h=> .inl h),p,?_⟩;rcases q with h | ⟨v,u,es,b,c,e,f,i,j,k,l⟩
 ·exact .inl h
 ·exact .inr ⟨v,u,es,b,c,.inl e,a.keep f (by simp),(i.stay a (by simp) (by simp) (by simp)).mono (fun _ h=> .inl h),zo j a (by simp),fun g t=> .inl (k g t),l⟩
variable {fs2:Fs}
def cpT (x:Wd)(es:za):zc:=zbp es.length (qm es) x.key
theorem ylx {n:Nat}{x x':Wd}{s:List Nat}{es:za}{a:Nat}(L:n≤4100)(h:Num n x d s)(l:Ent x d s es a)(k:x.failed=false)(E:fs2.Perm d.fs)(C:zfv fs2 (j8 es)=false)(D:x'.key=x.key):
  Num (n+1) x' (zd4 (zah es a) (cpT x es) d).2 s∧zk0 (j8 es) (cpT x es) d.fs (zd4 (zah es a) (cpT x es) d).2.fs∧ya6 (j8 es) ∧
   (((zd4 (zah es a) (cpT x es) d).1=none∧zp4 (zd4 (zah es a) (cpT x es) d).2∧je (zd4 (zah es a) (cpT x es) d).2.fs cpF=some (cpT x es)∧∀ f∈j8 es,je (zd4 (zah es a) (cpT x es) d).2.fs f.1=some f.2) ∨
    ((∃ p,(zd4 (zah es a) (cpT x es) d).1=some p∧(p=cpF∨∃ x,(p,x)∈j8 es))∧(zd4 (zah es a) (cpT x es) d).2.hit=true)):=by
 have w:=zpl l;have F:=h.small;have m:es.length≤1000000:=by omega
 have b:=ztp m;have u:zgk d.fs (j8 es):=by
  have i:=z0s C;intro q y G;have:=i q y G;rw [zgm h.apart E] at this;exact this
 obtain⟨j,g⟩:=l.there k;obtain⟨v,t1,o,i⟩:=yav (c:=cpT x es) b j h.apart h.turned u (fun f k=>zz8 f k);have t:(cpT x es).length≤1048576:=by
  have K:(qm es).length=8:=zbv _ _;have i:=zcq (es.length:Int) (by omega) (by omega);rw [yj] at i;have A:=zdc (qm es);have B:(zny es.length (qm es) x.key).length=16:=by unfold zny;rw [zdc];rfl
  have J:zer.length≤10:=by decide
  unfold cpT;rw [zmq];simp only [zy,y9,jc];omega
 refine⟨⟨v,yhn l.short h.data t (by omega) v o,?_,z6l h.among l.ins o,by omega,by rw [D];exact h.key,t1⟩,o,b,?_⟩
 ·have i:=z4s (zah es a) (cpT x es) d;have A:=z5t es a;have B:=h.count;omega
 ·rcases i with ⟨e,z,H,I⟩ | i
  ·refine .inl ⟨e,z,H,fun f k=>?_⟩;rcases z9s l.le f k with r | r
   ·exact I f r
   ·exact o.stays (g f r) (fun e=>b.2 f.2 (by rw [← e];exact k))
  ·exact .inr i
def zcw (d:Dk):Prop:=d.failAt=0∧d.dead=false∧d.hit=false
theorem zcw.enter (h:zcw d):zcw (jb d):=by
 obtain⟨a,b,c⟩:=h;unfold jb;rw [b,if_neg (by simp),if_neg (by omega)];exact⟨a,rfl,c⟩
theorem zcw.files (h:zcw d)(fs:Fs):zcw { d with fs:=fs }:=h
theorem zcw.put (h:zcw d)(p x:zc):zcw (zgg d p x):=by
 unfold zgg;split
 ·split
  ·split
   ·exact h.enter.files _
   ·exact h.enter
  ·exact⟨h.enter.1,h.enter.2.1,h.enter.2.2⟩
 ·split
  ·exact h.enter.files _
  ·exact h.enter
theorem zcw.puts:∀(l:Fs) {d:Dk} ,zcw d→zcw (zbo l d).2
 | [],_,h=>h
 | f::r,d,h=>by
  unfold zbo;split
  ·exact h.put _ _
  ·exact zcw.puts r (h.put _ _)
theorem zcw.swap (h:zcw d)(p x:zc):zcw (zj4 d p x):=by
 unfold zj4;split
 ·exact h.enter.files _
 ·exact h.enter
theorem zcw.pub (h:zcw d)(zah:Fs)(c:zc):zcw (zd4 zah c d).2:=by
 have a:=h.puts zah;unfold zd4;generalize zbo zah d=r at *;obtain⟨o,d1⟩:=r;cases o with
 | some p=>exact a
 | none =>
  simp only;split
  ·exact a.swap _ _
  ·exact a.swap _ _
theorem ybp {a j8:Fs}(h:zgk a j8):zfv a j8=false:=by
 unfold zfv;rw [List.any_eq_false];intro f b;rcases h f.1 f.2 b with e | e<;>rw [e]<;>simp
def Chp (fs:Fs)(es:za)(a:Nat)(b:zc):Prop :=
 a≤es.length∧((je fs cpF=none∧a=0)∨(je fs cpF=some (zbp a (qm (es.take a)) b)∧zf1 fs es a))
theorem z3g (fs:Fs)(es:za):zf1 fs es 0:=fun f a=>absurd a (by rw [List.take_zero];exact z57)
theorem Chp.all {fs:Fs}{es:za}{a:Nat}{b:zc}(h:Chp fs es a b):zf1 fs es a:=by
 rcases h.2 with ⟨-,rfl⟩ | ⟨-,h⟩
 ·exact z3g _ _
 ·exact h
theorem zf1.more {fs:Fs}{es:za}{n:Nat}(h:zf1 fs es n)(c:n≤es.length)(a:za):zf1 fs (es++a) n:=fun f b=>h f (by rw [vh c] at b;exact b)
theorem Chp.more {fs:Fs}{es:za}{c:Nat}{b:zc}(h:Chp fs es c b)(a:za):Chp fs (es++a) c b:=by
 refine⟨by have:=h.1;simp;omega,?_⟩;rcases h.2 with d | ⟨d,e⟩
 ·exact .inl d
 ·exact .inr ⟨by rw [vh h.1];exact d,e.more h.1 a⟩
variable {N O':Nat→Prop}
theorem ydt {es:za}{put:Nat}{c:zc}(a:zcw d)(b:zff d.fs)(j:d.turned=false)(g:es.length≤1000000)(i:zgk d.fs (j8 es)):(zd4 (zah es put) c d).1=none:=by
 obtain⟨-,-,-,h⟩:=yav (c:=c) (ztp g) ⟨a.2.1,a.2.2⟩ b j i (fun f e=>zz8 (put:=put) f e);rcases h with h | ⟨-,h⟩
 ·exact h.1
 ·rw [(a.pub (zah es put) c).2.2] at h;simp at h
def yow (w:World)(O:Nat→Prop)(f:Nat)(h c:Value)(x:Wd)(d:Dk)(s:List Nat)(es:za)(a:Nat):Prop :=
 ∃ b e,h= .pointer (some ⟨b,0,none⟩)∧O b∧zmx w b e∧za9 w O f e { key:=x.key,es:=es,put:=a,live:=!x.failed }∧w.ownsRow 0 9 1 c es.length (es.map qo)∧(∀ g,c.ownBlock=some g→O g)∧Ent x d s es a
def zj2 (w:World)(O:Nat→Prop)(f a:Nat)(e c:Value)(x:Wd)(d:Dk)(s:List Nat)(n:Nat)(es:za)(b:Nat):Prop :=
 x.foreign=false∧WAt w f a e c x∧yw w O a d∧Num n x d s∧yow w O a e c x d s es b
theorem zj2.stay {x:Wd}{s:List Nat}{n:Nat}{es:za}{b:Nat}(h:zj2 w O wb db lv ev x d s n es b)(a:zq N T w w')(q:42∉T)(r:82∉T)(t:99∉T)(u:137∉T)(v:9∉T)(y:196∉T)(z:114∉T)(A:5∉T):zj2 w' O wb db lv ev x d s n es b:=by
 obtain⟨c,f,g,i,C,B,e,j,k,l,m,o,p⟩:=h;exact⟨c,a.keep f q,g.stay a r t,i,C,B,e,j,a.keep k u,l.stay a y z A,zo m a v,o,p⟩
theorem zj2.mono {x:Wd}{s:List Nat}{n:Nat}{es:za}{a:Nat}(h:zj2 w O wb db lv ev x d s n es a)(b:∀ k,O k→O' k):zj2 w O' wb db lv ev x d s n es a:=by
 obtain⟨c,f,i,j,v,u,e,l,m,o,p,q,r⟩:=h;exact⟨c,f,i.mono b,j,v,u,e,b _ l,m,o.mono b,p,fun g t=>b g (q g t),r⟩
theorem zj2.later {x:Wd}{s:List Nat}{n:Nat}{es:za}{a:Nat}(h:zj2 w O wb db lv ev x d s n es a)(b:n≤m):zj2 w O wb db lv ev x d s m es a :=
 ⟨h.1,h.2.1,h.2.2.1,h.2.2.2.1.more b,h.2.2.2.2⟩
structure RP (B:Nat)(w:World)(O:Nat→Prop)(wb db n:Nat)(es:za)(pub:Nat)(key:zc)(d:Dk):Prop where
 hwb:O wb
 own:∀ k,O k→B≤k∧k < w.heap.size
 full:∃ lv ev s put,zj2 w O wb db lv ev { key:=key,published:=(pub:Int),failed:=false,foreign:=false } d s n es put
 still:zcw d
 since:zmv d.fs es
 chk:Chp d.fs es pub key
theorem RP.stay {n:Nat}{es:za}{b:Nat}{a:zc}(h:RP B w O wb db n es b a d)(f:zq N T w w')(j:42∉T)(l:82∉T)(m:99∉T)(o:137∉T)(p:9∉T)(q:196∉T)(r:114∉T)(t:5∉T):RP B w' O wb db n es b a d:=by
 obtain⟨u,i,s,c,g⟩:=h.full;exact⟨h.hwb,fun k e=>⟨(h.own k e).1,zx (h.own k e).2 f.size⟩,⟨u,i,s,c,g.stay f j l m o p q r t⟩,h.still,h.since,h.chk⟩
theorem RP.below {n:Nat}{es:za}{b:Nat}{a:zc}(h:RP B w O wb db n es b a d)(c:Below w.heap.size w w'):RP B w' O wb db n es b a d :=
 h.stay (N:=fun _=>False) (T:=[]) (.of_below c) (by simp) (by simp) (by simp) (by simp) (by simp) (by simp) (by simp) (by simp)
theorem RP.later {n:Nat}{es:za}{b:Nat}{a:zc}(h:RP B w O wb db n es b a d)(f:n≤m):RP B w O wb db m es b a d:=by
 obtain⟨i,e,s,c,g⟩:=h.full;exact⟨h.hwb,h.own,⟨i,e,s,c,g.later f⟩,h.still,h.since,h.chk⟩
theorem RP.ext {n:Nat}{es:za}{c:Nat}{b:zc}(h:RP B w' O wb db n es c b d)(i:B≤w.heap.size):RP B w' (jz O w w') wb db n es c b d:=by
 obtain⟨j,f,s,e,g⟩:=h.full;exact⟨.inl h.hwb,fun k a=>by
  rcases a with a | a
  ·exact h.own k a
  ·exact⟨zu i a.1,a.2⟩,⟨j,f,s,e,g.mono (fun _ h=> .inl h)⟩,h.still,h.since,h.chk⟩
theorem z1w (O:Nat→Prop)(W:World)(aj:Nat→Addr)(al:zbz W aj)(m N:Nat)(lv ev:Value)(x:Wd)(d:Dk)(s:List Nat)(n:Nat)(t:zc)(w:World)(P:∀ k,O k→W.heap.size≤k∧k < w.heap.size)(hW:Below W.heap.size W w)(hn:n≤4200)(ht:t.length≤9223372036854775807)(hO:O m)(es:za)(av:Nat)(h:zj2 w O m N lv ev x d s n es av):
  Calls prog 13 #[.pointer (some ⟨m,0,none⟩),.string ⟨t.toArray⟩] w fun r J=>r= .returned (.bool true)∧zq O aT w J∧(((20 < t.length∨x.failed=true)∧Below w.heap.size w J)∨(t.length≤20∧(∀ k,jz O w J k→W.heap.size≤k∧k < J.heap.size)∧∃ aJ aH s',zj2 J (jz O w J) m N aJ aH x d s' (n+1) (es++[t]) av)):=by
 obtain⟨an,T,hd,a,X,lb,rfl,ak,ao,l,A,ap,b⟩:=h;have ad:=zf a;have aF:=zf T;have HD:=zf hd;have aC:=zf P;have aA:Hid (∀ k,O k→W.heap.size≤k):=fun k D=>(P k D).1;have HW:=zf hW;have aD:=zf al;have HO:=zf hO;have ay:=zf an;have ae:=zf ao;have ab:=zf l;have ah:=zf A;have ag:=zf ap;have aa:=zf b;have aB:=zf ak;have aK:es.length≤40000:=by have:=zpl b;have:=a.small;omega
 obtain⟨-,-,⟨c2,-⟩,-⟩:=zns T;obtain⟨ea,ec,rfl⟩:=qr A;clear T hd a P hW al hO an ao l A ap b ak;go_enter func13,ntmps13;go_wp2_with fail;refine(z4g O W aj aD.o aA.o N X lb _ t w HW.o (by show es.length≤_;omega) ht ae.o ab.o).mono ?_;rintro r f ⟨R,aq⟩;have u:=zf R;have v:Hid (WAt f m N (.pointer (some ⟨X,0,none⟩)) (.slice ea es.length ec) x):=R.keep aF.o (by decide);obtain⟨⟨k0,-⟩,⟨k1,-⟩,⟨k2,f2⟩,⟨k3,f3⟩,⟨k4,f4⟩,⟨k5,f5⟩,-⟩:=zns v.o;unfold zdp at k0;unfold qo at k1;have a5:∀ o,(f.alloc o).cell? ⟨m,5,none⟩=some (.bool x.failed):=fun o=>by rw [yp _ _ ⟨m,5,none⟩ (yg k5)];exact k5
 have a3:∀ o,(f.alloc o).cell? ⟨m,3,none⟩=some (.slice ea es.length ec):=fun o=>by rw [yp _ _ ⟨m,3,none⟩ (yg k3)];exact k3
 clear R c2 k0 k1 k2 f2 k3 f3 k4 f4 k5 f5;rcases aq with ⟨C,rfl,hb⟩ | ⟨C,c,rfl,hb⟩ | ⟨C,c,rfl,l⟩
 ·have Y:=zf hb;unfold told;clear hb;go_wp2_with fail;go_ret;have y:=fun o=>Y.o.alloc Y.o.size o;exact⟨by first | rfl | simp,zq.of_below (y _),.inl ⟨.inl (by omega),y _⟩⟩
 ·have Y:=zf hb;have p:x.failed=true:=by simpa using c
  have az:=zf p;unfold told;rw [p] at a5;clear hb c p;go_wp2_with fail;go_ret;have y:=fun o=>Y.o.alloc Y.o.size o;exact⟨by first | rfl | simp,zq.of_below (y _),.inl ⟨.inr az.o,y _⟩⟩
 ·have p:x.failed=false:=by simpa using c
  have aM:=zf p;have i:zq O [] f (f.alloc (.cells #[.int .i64 0,.string ⟨#[]⟩] 52)):= .of_below (zk f _);have am:(f.alloc (.cells #[.int .i64 0,.string ⟨#[]⟩] 52)).heap[f.heap.size]?=some (.cells #[.int .i64 0,.string ⟨#[]⟩] 52 (0,0)):=zg _ _;have U:∀ k,jz O w f k→jz O w (f.alloc (.cells #[.int .i64 0,.string ⟨#[]⟩] 52)) k:=fun k D=>jz.more i.size k D;have L:=zf ((l.stay i (by simp) (by simp) (by simp)).mono U);have hT:zq O aT w f:=u.o.mono (fun _ h=>h) (by decide);have aE:Hid (zq O aT w (f.alloc (.cells #[.int .i64 0,.string ⟨#[]⟩] 52))):=hT.trans (i.mono (fun _ h=> .inl h) (by simp));have M:=zf (zo (zo ah.o u.o (by decide)) i (by simp));have ax:Hid (yw (f.alloc (.cells #[.int .i64 0,.string ⟨#[]⟩] 52)) (jz O w f) N d):=((HD.o.stay u.o (by decide) (by decide)).mono (fun _ h=> .inl h)).stay i (by simp) (by simp);have af:Hid (zmx (f.alloc (.cells #[.int .i64 0,.string ⟨#[]⟩] 52)) X lb):=zml (zml ae.o u.o (by decide)) i (by simp);have ai:Hid (WAt (f.alloc (.cells #[.int .i64 0,.string ⟨#[]⟩] 52)) m N (.pointer (some ⟨X,0,none⟩)) (.slice ea es.length ec) x):=i.keep v.o (by simp);have aw:=zf am;have aG:=zf U;have au:Hid (w.heap.size≤f.heap.size):=u.o.size;have aL:¬ f.heap.size=m:=by have:=zi v.o;omega
  unfold told;rw [p] at a5;clear c p l hT i am U;go_wp2_with (at_builtin;refine zg2 (f.alloc (.cells #[.int .i64 0,.string ⟨#[]⟩] 52)) rfl _ _ rfl 0 (yv _) (.slice ea es.length ec) es rfl M.o t (f.heap.size+1) (by simp) rfl (by omega) ?_;intro v' K z F I;have G:=zf z;have Z:=zf I;have q:=zf F;obtain⟨ya,yc,Q⟩:=qr z;subst Q;have S:WAt K m N (.pointer (some ⟨X,0,none⟩)) (.slice ea es.length ec) x:=F.keep ai.o (by decide);have H:=zf S;obtain⟨-,-,-,⟨m3,g3⟩,-⟩:=zns S;obtain⟨n0,-⟩:=zw (F.keep aw.o (by decide)) 0 _ rfl;clear z F S I);go_ret;have ar:=(z9v H.o).2.1 (.slice ya (es.length+1) yc);have B:zq (fun k=>k=m) [42] K (K.setCell ⟨m,3,none⟩ (.slice ya (es.length+1) yc)):=(zq.refl (fun k=>k=m) [42] K).set (.inl rfl) H.o (by simp) _;have E:(K.setCell ⟨m,3,none⟩ (.slice ya (es.length+1) yc)).heap.size=K.heap.size:=by simp [World.setCell]
  have h3:zq O aT w K:=aE.o.trans (q.o.mono (fun g V=> .inl (ag.o g V)) (by decide));have hx:∀ k,jz O w f k→jz O w (K.setCell ⟨m,3,none⟩ (.slice ya (es.length+1) yc)) k:=fun k D=>jz.more (by rw [E];exact q.o.size) k (aG.o k D);refine⟨by first | rfl | simp,h3.trans (B.mono (fun k D=> .inl (by rw [D];exact HO.o)) (by decide)),.inr ⟨C,zyl HW.o.size aC.o (by rw [E];exact h3.size),_,_,es.length / 4::s,ay.o,ar,((ax.o.stay q.o (by decide) (by decide)).stay B (by decide) (by decide)).mono hx,?_,X,lb,rfl,.inl aB.o,zml (zml af.o q.o (by decide)) B (by decide),((L.o.stay q.o (by decide) (by decide) (by decide)).stay B (by decide) (by decide) (by decide)).mono (fun k D=>jz.more (by rw [E];exact q.o.size) k D),by have h:=zo G.o B (by decide);rw [zy] at h ⊢;exact h,fun g V=>?_,?_⟩⟩
  ·have a:=ad.o;exact⟨a.apart,a.data,zu a.count (zx1 (zd1 _ (vk n)) _),fun j J h1 h4 h=>zc0 _ (a.among j J h1 h4 h),by have:=a.small;simp only [y9];omega,a.key,a.turned⟩
  ·have V:(Value.slice ya (es++[t]).length yc).ownBlock=some g:=by rw [zy];exact V
   have aI:=G.o.lt g V;rcases Z.o g V with h | h
   ·exact .inl (ag.o g h)
   ·exact .inr ⟨by have:=au.out;simp at h;omega,by rw [E];exact aI.2⟩
  ·have b:=aa.o;refine⟨fun e Q=>?_,fun j hj=>?_,by have:=b.le;rw [zy];omega,fun hf=>?_⟩
   ·rcases yt.1 Q with Q | Q
    ·exact b.short e Q
    ·obtain rfl:e=t:=by simpa using Q
     exact C
   ·rw [zy] at hj;simp only [y9,jc] at hj
    by_cases h4:4*j < es.length
    ·exact zc0 _ (b.ins j h4)
    ·obtain rfl:j=es.length / 4:=by omega
     exact zdo
   ·rw [vh b.le];exact b.there hf
end Go.Proofs.YtlcllcgngjhoaaaGreatDoor
