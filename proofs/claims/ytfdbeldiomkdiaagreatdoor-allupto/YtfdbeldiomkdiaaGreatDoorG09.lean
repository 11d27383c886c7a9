import Derived.Test.YtfdbeldiomkdiaaGreatDoorG08
set_option maxHeartbeats 8000000
set_option maxRecDepth 100000
set_option linter.all false
namespace Go.Proofs.YtfdbeldiomkdiaaGreatDoor
open Go.RowKit Go.Proofs.Tryz
def xf:=@List.length_cons
def EG:=@List.map_map
def EZ:=@Lib.run_eql_slice_nil
def IJ:=@true_and
def K9:=@List.drop_succ_cons
def M6:=@wpList_append_own
def M8:=@Nat.lt_irrefl
def OO:=@List.all_append
def OQ:=@Option.map_some
variable {ix:Int}{ok2:Bool}{s2:zb}
def WV (l i w:Int)(a:AG l i w)(W:World):
  Calls prog 31 #[.int .i64 l,.int .i64 i,.int .i64 w] W λr b=>r=.returned (.string ⟨(qz l i w).toArray⟩)/\zc W b:=by
 rw[Hz a];unfold AG at a;go_enter func31,ntmps31;go_wp2_with fail
 all_goals first|(go_ret;exact⟨rfl,zu _ _⟩)|(exfalso;omega)
def C5 (l i w:Int)(m:i<=9223372036854775807)(W:World):
  Calls prog 31 #[.int .i64 l,.int .i64 i,.int .i64 w] W λr u=>r=.returned (.string ⟨(qz l i w).toArray⟩)/\zc W u:=by
 by_cases g:AG l i w
 ·exact WV l i w g W
 have k:=ze (DF g);unfold AG at g;have A:¬l < -1:=by omega
 have B:¬20<l:=by omega
 have C:¬i<0:=by omega
 have D:¬w<1:=by omega
 have E:¬4<w:=by omega
 have q:=AA i (by omega) m;have t:=AA w (by omega) (by omega);have f:Hid (Dq w=if w<4 then BQ++DD w.toNat else []):=rfl;clear g;go_enter func31,ntmps31
 by_cases n:l=-1
 case' pos =>
  subst n;have j:=ze Hw;have a:=ze (zu W.heap.size W);go_wp2_with fail
 case' neg =>
  have j:=ze (It l n);have s:=AA l (by omega) (by omega);have F:0<=l:=by omega
  go_wp2_with fail;refine(Kf l (by omega) (by omega) W).mono ?_;rintro r G ⟨rfl,c⟩;have a:=ze c;clear c;generalize DD l.toNat=y at *;go_wp2_with (rw[if_neg (by omega)])
 all_goals
  refine(Kf i (by omega) m _).mono ?_;rintro r v ⟨rfl,d⟩;have b:=ze (a.o.trans (d.mono a.o.size));clear d;generalize DD i.toNat=x at *
  by_cases p:w<4
  ·rw[if_pos p]at f;go_wp2_with (rw[if_neg (by omega)]);refine(Kf w (by omega) (by omega) v).mono ?_;rintro r H ⟨rfl,e⟩;have h:=ze (b.o.trans (e.mono b.o.size));clear e;generalize DD w.toNat=z at *;go_wp2_with (rw[if_neg (by omega)]);go_ret;refine⟨?_,h.o⟩;rw[k.o,j.o,f.o]
   exact Hi (by
     first|unfold EO BQ|unfold BJ BQ
     apply Ah;simp)
  ·rw[if_neg p]at f;go_wp2_with (rw[if_neg (by omega)]);go_ret;refine⟨?_,b.o⟩;rw[k.o,j.o,f.o]
   exact Hi (by
     first|unfold EO|unfold BJ
     apply Ah;simp)
def zcr {p q:zb}{e f:Int}(g:DZ p=(e,q,true))(i:KJ q=(ix,f,s2,ok2)):
  (ok2=true->s2=[]->qz e ix f=p->p≠[]->GL p=(e,ix,f,true))/\(ok2=false\/s2≠[]\/qz e ix f≠p\/p=[]->GL p=(0,0,0,false)):=by
 unfold GL;rw[g];simp only[];rw[i];simp only[IJ];refine⟨λa b c d=>if_pos ⟨a,b,c,d⟩,λh=>if_neg λ⟨a,b,c,d⟩=>?_⟩;simp[a,b,c,d]at h
def zcs {p:zb}(h:(DZ p).2.2=false):GL p=(0,0,0,false):=by
 unfold GL;rw[if_neg];intro a;rw[h]at a;simp at a
theorem UF (p:zb)(hp:p.length<=1000000000)(w:World):
  Calls prog 33 #[.string ⟨p.toArray⟩] w λr G=>r=.returned (.tuple (LD (GL p)))/\zc w G:=by
 have f:Hid (DZ p=if (CP p EO).2 then ((-1:Int),(CP p EO).1,true) else if (CP p BJ).2 then (if (Cs (CP p BJ).1).2.2 then (((Cs (CP p BJ).1).1:Int),(CP (Cs (CP p BJ).1).2.1 [47]).1,(CP (Cs (CP p BJ).1).2.1 [47]).2) else (0,[],false)) else (0,[],false)):=rfl;go_enter func33,ntmps33;go_wp2_with fail;refine(Iq p EO w).mono ?_;rintro r w1 ⟨rfl,v⟩;have j:=ze v;clear v;have a:=Le p EO;generalize CP p EO=T at *;obtain⟨q,W⟩:=T;simp only[]at f a ⊢;cases W
 case' true =>
  have u:Hid (DZ p=(-1,q,true)):=f.o;have g:=j
 case' false =>
  go_wp2_with fail;refine(Iq p BJ w1).mono ?_;rintro r w2 ⟨rfl,x⟩;have k:=ze (j.o.trans (x.mono j.o.size));clear x;have E:=Le p BJ;generalize CP p BJ=U at *;obtain⟨t,to⟩:=U;simp only[]at f E ⊢;have n:∀G,zc w G->(DZ p).2.2=false->Ending.returned (.tuple #[.int .i64 0,.int .i64 0,.int .i64 0,.bool false])=.returned (.tuple (LD (GL p)))/\zc w G:=λG h e=>⟨by rw[zcs e];rfl,h⟩
  replace n:=ze n
  cases to
  case false =>
   go_wp2_with fail;exact zv (Ae results33 _ _ _) rfl (n.out _ k.o (by rw[f.o];rfl))
  go_wp2_with fail;refine(Gx t (by omega) w2).mono ?_;rintro r w3 ⟨rfl,y⟩;have l:=ze (k.o.trans (y.mono k.o.size));clear y;have N:=Iy t;generalize Cs t=nt at *;obtain⟨Z,S,nn⟩:=nt;simp only[]at f N ⊢;cases nn
  case false =>
   go_wp2_with fail;exact zv (Ae results33 _ _ _) rfl (n.out _ l.o (by rw[f.o];rfl))
  go_wp2_with fail;refine(Iq S [47] w3).mono ?_;rintro r w4 ⟨rfl,z⟩;have g:=ze (l.o.trans (z.mono l.o.size));clear z a;have a:=Le S [47];generalize CP S [47]=V at *;obtain⟨q,so⟩:=V;simp only[]at f a ⊢;cases so
  case false =>
   go_wp2_with fail;exact zv (Ae results33 _ _ _) rfl (n.out _ g.o (by rw[f.o];rfl))
  have u:Hid (DZ p=((Z:Int),q,true)):=f.o;clear n
 all_goals
  clear f;go_wp2_with fail;refine(Gx q (by omega) _).mono ?_;rintro r w5 ⟨rfl,A⟩;have s:=ze (g.o.trans (A.mono g.o.size));clear A;have b:Hid (KJ q=if (Cs q).2.2&&(CP (Cs q).2.1 BQ).2 then (((Cs q).1:Int),((Cs (CP (Cs q).2.1 BQ).1).1:Int),(Cs (CP (Cs q).2.1 BQ).1).2.1,(Cs (CP (Cs q).2.1 BQ).1).2.2) else (((Cs q).1:Int),(4:Int),(Cs q).2.1,(Cs q).2.2)):=rfl;have M:=Iy q;generalize Cs q=nq at *;obtain⟨Y,J,P⟩:=nq;simp only[]at b M ⊢;go_wp2_with fail;refine(Iq J BQ w5).mono ?_;rintro r w6 ⟨rfl,B⟩;have c:=ze (s.o.trans (B.mono s.o.size));clear B;have L:=Le J BQ;generalize CP J BQ=X at *;obtain⟨R,part⟩:=X;simp only[]at b L ⊢;cases P<;>cases part
  case' true.true =>
   simp only[Bool.and_self,if_true]at b;go_wp2_with fail;refine(Gx R (by omega) w6).mono ?_;rintro r w7 ⟨rfl,C⟩;have d:=ze (c.o.trans (C.mono c.o.size));clear C;have F:=Iy R;generalize Cs R=np at *;obtain⟨wd,s2,Q⟩:=np;simp only[]at b F ⊢
  case' true.false=>have d:=c
  case' false.true=>have d:=c
  case' false.false=>have d:=c
  all_goals
   have m:=ze (zcr u.o b.o);go_wp2_with fail;refine(C5 _ Y _ (by omega) _).mono ?_;rintro r w9 ⟨rfl,D⟩;have K:=ze (d.o.trans (D.mono d.o.size));clear D b;generalize qz _ _ _=I at *
   by_cases i:I=p
   case' pos=>have O:(I==p)=true:=by rw[CY];exact i
   case' neg=>have O:(I==p)=false:=by rw[yp];exact i
   all_goals
    have H:=ze i;clear i
    try cases Q
    all_goals
     first|cases s2|cases J
     all_goals
      cases I
      all_goals
       go_wp2_with fail;refine zv (Ae results33 _ _ _) rfl ⟨?_,K.o⟩
       first
       |(rw[m.o.2 (.inl rfl)];rfl)
       |(rw[m.o.2 (.inl trivial)];rfl)
       |(rw[m.o.2 (.inr (.inl (List.cons_ne_nil _ _)))];rfl)
       |(rw[m.o.2 (.inr (.inr (.inl H.o)))];rfl)
       |(rw[m.o.2 (.inr (.inr (.inr H.o.symm)))];rfl)
       |(rw[m.o.1 (by simp) (by simp) H.o (H.o▸List.cons_ne_nil _ _)];rfl)
variable {fr:Nat × Nat}{g:Nat}{t:TypeId}{w:World}{x1 x2 x3:Int}
def zgm {o:Obj}(h:w.heap[g]?=some o):g<w.heap.size:=by
 rcases qf g w.heap.size with a|a
 ·exact a
 ·simp[A7 a]at h
def zfo {a:Bool}(h:w.heap[g]?=some (.cells #[.int .i64 x1,.int .i64 x2,.int .i64 x3,.bool a] t fr)):
  w.cell? ⟨g,0,none⟩=some (.int .i64 x1)/\w.cell? ⟨g,1,none⟩=some (.int .i64 x2)/\w.cell? ⟨g,2,none⟩=some (.int .i64 x3)/\w.cell? ⟨g,3,none⟩=some (.bool a):=by
 refine⟨?_,?_,?_,?_⟩<;>rw[xe _ _ _ _ _ _ h]<;>rfl
def zci (l i a:Int)(c:i<=9223372036854775807):(qz l i a).length<=100:=by
 by_cases b:AG l i a
 ·rw[Hz b];simp
 ·rw[DF b];unfold AG at b;have d:=zbx l (by omega);have e:=AA i (by omega) c;have f:(Dq a).length<=30:=by
   unfold Dq;split
   ·have:=AA a (by omega) (by omega);simp[BQ];omega
   ·simp
  simp only[zw];omega
def zcj (l i b:Int)(p:ByteArray)(D:i<=9223372036854775807)(hp:p.size<=1000000000)(w:World)(E:DW w):
  Calls prog 8 #[.int .i64 l,.int .i64 i,.int .i64 b,.string p] w λr w'=>r=.returned (.bool true)/\zc w w':=by
 obtain⟨q,rfl⟩:∃q:zb,p=⟨q.toArray⟩:=⟨p.data.toList,by simp⟩;have U:q.length<=1000000000:=by
  have e:(⟨q.toArray⟩:ByteArray).size=q.length:=rfl;omega
 have J:=ze E;have V:=ze (YF q);go_enter func8,ntmps8;go_wp2_with fail;refine(Sl l i b D w J.o).mono ?_;rintro r w1 ⟨rfl,O⟩;have g:=ze O;go_wp2_with fail;refine(C5 l i b D w1).mono ?_;rintro r w2 ⟨rfl,P⟩;have c:=ze (g.o.trans (P.mono g.o.size));go_wp2_with fail;refine(LH q U w2 (J.o.below c.o)).mono ?_;rintro r f ⟨rfl,Q⟩;have h:Hid (zc w f):=c.o.trans (Q.mono c.o.size);have L:=ze V.o.symm;generalize Ea q=x at *;obtain⟨F,G,H,I⟩:=x;unfold LD;simp only[];go_wp2_with (show wpList _ _ _ ({dst:=none,op:=Op.store _ _ _,type:=_,pos:=_,after:=_,guard:=_}::_) _ _;refine yw rfl 48 _ _ rfl f.heap.size #[.int .i64 F,.int .i64 G,.int .i64 H,.bool I] rfl rfl 48 _ (zf _ _) (by kernel_rfl) rfl (by simp[Value.oneCell']) ?_);rw[jr];have n:=ze (zf f (.cells #[.int .i64 F,.int .i64 G,.int .i64 H,.bool I] 48));have j:Hid (zc w (f.alloc (.cells #[.int .i64 F,.int .i64 G,.int .i64 H,.bool I] 48))):=h.o.trans ((zi f _).mono h.o.size);generalize f.alloc (.cells #[.int .i64 F,.int .i64 G,.int .i64 H,.bool I] 48)=W at *;generalize f.heap.size=M at *;refine(UF q U W).mono ?_;rintro r w5 ⟨rfl,u⟩;have s:=ze ((u.block M (zgm n.o)).trans n.o);have d:=ze (j.o.trans (u.mono j.o.size));rw[L.o];have aa:=zci l i b D;have R:(qz l i b=[]/\Ea (qz l i b)=(0,0,0,false))\/(qz l i b≠[]/\Ea (qz l i b)=(l,i,b,true)):=by
  by_cases N:AG l i b
  ·left
   rw[Hz N];exact⟨rfl,YE⟩
  ·exact .inr ⟨QJ N,Jj N D⟩
 have K:=ze R;generalize qz l i b=S at *;unfold LD;simp only[];go_wp2_with fail;refine(LH S (by omega) w5 (J.o.below d.o)).mono ?_;rintro r a ⟨rfl,v⟩;have t:=ze ((v.block M (zgm s.o)).trans s.o);have k:Hid (zc w a):=d.o.trans (v.mono d.o.size);generalize Ea S=y at *;obtain⟨A,B,C,T⟩:=y;unfold LD;simp only[];have Z:=Nat.ne_of_lt (zgm t.o);obtain⟨a1,a2,a3,a4⟩:=zfo (show(a.alloc (.cells #[.int .i64 A,.int .i64 B,.int .i64 C,.bool T] 48)).heap[M]?=_ from zr t.o);obtain⟨c1,c2,c3,c4⟩:=zfo (zf a (.cells #[.int .i64 A,.int .i64 B,.int .i64 C,.bool T] 48));have m:Hid (zc w (a.alloc (.cells #[.int .i64 A,.int .i64 B,.int .i64 C,.bool T] 48))):=k.o.trans ((zi a _).mono k.o.size);rcases K.o with ⟨rfl,e⟩|⟨hz,e⟩
 ·simp only[xj]at e;obtain⟨rfl,rfl,rfl,rfl⟩:=e;go_wp2_with (show wpList _ _ _ ({dst:=none,op:=Op.store _ _ _,type:=_,pos:=_,after:=_,guard:=_}::_) _ _;refine yw rfl 48 _ _ rfl a.heap.size #[.int .i64 0,.int .i64 0,.int .i64 0,.bool false] rfl rfl 48 _ (zf _ _) (by kernel_rfl) rfl (by simp[Value.oneCell']) ?_;rw[jr];generalize a.alloc (.cells #[.int .i64 0,.int .i64 0,.int .i64 0,.bool false] 48)=X at *;generalize a.heap.size=Y at *)
  all_goals go_ret
  all_goals exact⟨rfl,m.o⟩
 ·simp only[xj]at e;obtain⟨rfl,rfl,rfl,rfl⟩:=e;cases S with
  |nil=>exact absurd rfl hz
  |cons z zs =>
   go_wp2_with (show wpList _ _ _ ({dst:=none,op:=Op.store _ _ _,type:=_,pos:=_,after:=_,guard:=_}::_) _ _;refine yw rfl 48 _ _ rfl a.heap.size #[.int .i64 A,.int .i64 B,.int .i64 C,.bool true] rfl rfl 48 _ (zf _ _) (by kernel_rfl) rfl (by simp[Value.oneCell']) ?_;rw[jr];generalize a.alloc (.cells #[.int .i64 A,.int .i64 B,.int .i64 C,.bool true] 48)=X at *;generalize a.heap.size=Y at *)
   all_goals go_ret
   all_goals exact⟨by simp,m.o⟩
variable {acc:za}{r:zb}
def NY (l:zb):zb:=UInt8.ofNat l.length::l
def DB (a:za):zb:=(a.map NY).flatten
def Iz (a:za):Bool:=decide (1<=a.length)&&(decide (a.length<=4)&&a.all λl=>decide (l.length<=20))
def Sz:Nat->zb->Option (za)
 |_,[]=>some []
 |0,_::_=>none
 |f+1,c::r=>if c.toNat<=r.length then (Sz f (r.drop c.toNat)).map (r.take c.toNat::·) else none
def Xz (d:zb):Option (za):=Sz d.length d
def X0:∀(n f g:Nat) (d:zb),d.length<=n->d.length<=f->d.length<=g->Sz f d=Sz g d:=by
 intro n
 induction n with
 |zero =>
  intro f g d a _ _;obtain rfl:d=[]:=vw.1 (by omega);cases f<;>cases g<;>rfl
 |succ n h =>
  intro f g d a b e;cases d with
  |nil=>cases f<;>cases g<;>rfl
  |cons c r =>
   simp only[xf]at a b e;obtain⟨f,rfl⟩:∃k,f=k+1:=⟨f-1,by omega⟩;obtain⟨g,rfl⟩:∃k,g=k+1:=⟨g-1,by omega⟩;have i:(r.drop c.toNat).length<=r.length:=by simp
   rw[Sz,Sz,h f g (r.drop c.toNat) (by omega) (by omega) (by omega)]
def US:Xz []=some []:=rfl
def UR (c:UInt8)(r:zb)(h:c.toNat<=r.length):Xz (c::r)=(Xz (r.drop c.toNat)).map (r.take c.toNat::·):=by
 have a:(r.drop c.toNat).length<=r.length:=by simp
 show Sz (r.length+1) (c::r)=_;rw[Sz,if_pos h,X0 r.length r.length (r.drop c.toNat).length (r.drop c.toNat) a a (zk _)]
 rfl
def zaj (c:UInt8)(r:zb)(h:¬c.toNat<=r.length):Xz (c::r)=none:=by
 show Sz (r.length+1) (c::r)=_;rw[Sz,if_neg h]
def DV (d:zb):Option (za):=match Xz d with
 |some a=>if Iz a then some a else none
 |none=>none
def G1 (a b:za):DB (a++b)=DB a++DB b:=by simp[DB]
def Lh (l:zb):DB [l]=NY l:=by simp[DB]
def Ng (b:za)(h:∀l∈b,l.length<=20):(DB b).length<=21*b.length:=by
 induction b with
 |nil=>simp[DB]
 |cons a t d =>
  rw[show a::t=[a]++t from rfl,G1,Lh];have e:=h a (by simp);have f:=d (λl c=>h l (by simp[c]));simp[NY];omega
def zen:∀(n:Nat) (d:zb)(a:za) ,d.length<=n->Xz d=some a->DB a=d:=by
 intro n
 induction n with
 |zero =>
  intro d a f h;obtain rfl:d=[]:=vw.1 (by omega);rw[US]at h;obtain rfl:[]=a:=by simpa using h
  rfl
 |succ n i =>
  intro d a f h;cases d with
  |nil =>
   rw[US]at h;obtain rfl:[]=a:=by simpa using h
   rfl
  |cons c r =>
   by_cases b:c.toNat<=r.length
   ·rw[UR c r b]at h;obtain⟨t,g,rfl⟩:=zx.1 h;have:=i (r.drop c.toNat) t (by simp at f ⊢;omega) g;rw[show r.take c.toNat::t=[r.take c.toNat]++t from rfl,G1,Lh,this,NY];have e:(r.take c.toNat).length=c.toNat:=by simp;omega
    rw[e];simp
   ·rw[zaj c r b]at h;simp at h
def Un (d:zb)(a:za)(r:zb):Prop:=Xz d=(Xz r).map (a++·)/\a.length+r.length<=d.length
def Un.start (d:zb):Un d [] d:=⟨by cases h:Xz d<;>simp,by simp⟩
def Un.step {d:zb}{c:UInt8}(h:Un d acc (c::r))(a:c.toNat<=r.length):Un d (acc++[r.take c.toNat]) (r.drop c.toNat):=by
 refine⟨?_,?_⟩
 ·rw[h.1,UR c r a];cases Xz (r.drop c.toNat)<;>simp
 ·have:=h.2;simp at this ⊢;omega
def Un.fail {d:zb}{c:UInt8}(h:Un d acc (c::r))(a:¬c.toNat<=r.length):DV d=none:=by
 unfold DV;rw[h.1,zaj c r a]
 rfl
def Un.done {d:zb}(h:Un d acc []):Xz d=some acc:=by
 rw[h.1,US];simp
def Un.many {d:zb}{c:UInt8}(h:Un d acc (c::r))(b:4<=acc.length):DV d=none:=by
 by_cases a:c.toNat<=r.length
 ·have:=(h.step a).1;unfold DV;rw[this];cases Xz (r.drop c.toNat)with
  |none=>rfl
  |some t =>
   have:Iz (acc++[r.take c.toNat]++t)=false:=by
    unfold Iz;rw[show decide ((acc++[r.take c.toNat]++t).length<=4)=false by simp;omega];simp
   simp only[OQ];rw[this]
   rfl
 ·exact h.fail a
def Un.long {d:zb}{c:UInt8}(h:Un d acc (c::r))(b:20<c.toNat):DV d=none:=by
 by_cases a:c.toNat<=r.length
 ·have:=(h.step a).1;unfold DV;rw[this];cases Xz (r.drop c.toNat)with
  |none=>rfl
  |some t =>
   have:Iz (acc++[r.take c.toNat]++t)=false:=by
    unfold Iz;have:(acc++[r.take c.toNat]++t).all (λl=>decide (l.length<=20))=false:=by
     rw[OO,OO];have:([r.take c.toNat]).all (λl=>decide (l.length<=20))=false:=by simp;omega
     rw[this];simp
    rw[this];simp
   simp only[OQ];rw[this]
   rfl
 ·exact h.fail a
def Un.bK {d:zb}(h:Un d acc [])(a:Iz acc=true):DV d=some acc/\DB acc=d:=by
 refine⟨?_,zen d.length d acc (zk _) h.done⟩;unfold DV;rw[h.done];simp[a]
def Un.bz {d:zb}(h:Un d acc [])(a:Iz acc=false):DV d=none:=by
 unfold DV;rw[h.done];simp[a]
variable {B:Nat}{l:zb}{ls:za}{v x:Value}{w' w2:World}
def Nq:(prog.info? 5).map (λi=>(i.zero,i.size,i.bytes))=some (some (.int .u8 0),1,1):=by kernel_rfl
def OB (w:World)(B:Nat)(x:Value)(l:zb):Prop:=w.ownsRow B 5 1 x l.length (l.map bv)/\x≠ .slice none 0 0
def OB.form (h:OB w B x l):∃g a,x=.slice (some ⟨g,0,none⟩) l.length a/\B<=g/\g<w.heap.size/\∀i (c:i<l.length),w.cell? ⟨g,i,none⟩=some (bv l[i]):=by
 rcases h.1.2 with h0|⟨g,a,d,rfl,f,b,m,k,n,j⟩
 ·exact absurd h0.1 h.2
 ·refine⟨g,a,rfl,f,vk b,λi c=>?_⟩;rw[xe _ _ _ _ _ _ b];have e:(l.map bv)[i]?=some (bv l[i]):=by simp[c]
  rw[<- j,qi,if_pos (by omega)]at e;simpa using e
def OB.conv (h:OB w B x l):(convert 94 9 x).run prog w=.ok (AL l) w:=by
 obtain⟨g,a,rfl,-,-,b⟩:=h.form;refine BB w _ _ 5 ⟨g,0,none⟩ a l underlying94 jc xt (λj c=>?_);rw[vp,xk];exact b j c
def OB.below (h:OB w B x l)(a:zc w w'):OB w' B x l:=⟨yx h.1 a,h.2⟩
def EB.cells (h:EB w B x l):∃g a,x=.slice (some ⟨g,0,none⟩) l.length a/\∀i (b:i<l.length),w.cell? ⟨g,i,none⟩=some (bv l[i]):=by
 obtain⟨g,a,C,e,rfl,f,d,c,j⟩:=h;exact⟨g,a,rfl,λi b=>by rw[xe _ _ _ _ _ _ d];exact c i b⟩
def EBs.cells (h:EBs w B v ls):
  ∃a d,v=.slice a ls.length d/\∀j (h:j<ls.length),∃b,a=some ⟨b,0,none⟩/\∃g c,w.cell? ⟨b,j,none⟩=some (.slice (some ⟨g,0,none⟩) ls[j].length c)/\∀i (f:i<ls[j].length),w.cell? ⟨g,i,none⟩=some (bv ls[j][i]):=by
 obtain⟨C,⟨u,p⟩,r⟩:=h;rcases p with ⟨rfl,h0⟩|⟨g,d,k,rfl,s,o,z,y,A,q⟩
 ·exact⟨none,0,by rw[h0],λj t=>by omega⟩
 ·refine⟨_,_,rfl,λi f=>⟨g,rfl,?_⟩⟩;obtain⟨x,e,m⟩:=r i f;obtain⟨l,c,rfl,n⟩:=m.cells;refine⟨l,c,?_,n⟩;rw[xe _ _ _ _ _ _ o];rw[<- q,Ba]at e;rw[qi,if_pos f]at e;simpa using e
def U3 (h:4<ls.length):Iz ls=false:=by
 unfold Iz;rw[show decide (ls.length<=4)=false by simp;omega];simp
def N5 (h:ls.length=0):Iz ls=false:=by
 unfold Iz;rw[h];rfl
def QV (k:Nat)(a:k<ls.length)(h:20<ls[k].length):Iz ls=false:=by
 have:ls.all (λl=>decide (l.length<=20))=false:=by
  rw[Mt];exact⟨ls[k],ye a,by simp;omega⟩
 unfold Iz;rw[this];simp
def QW (b:1<=ls.length)(c:ls.length<=4)(h:∀j (a:j<ls.length),ls[j].length<=20):Iz ls=true:=by
 simp only[Iz,A3,ja,AW];refine⟨b,c,λs d=>?_⟩;obtain⟨j,a,rfl⟩:=ji d;exact h j a
def Vt (a:za)(k:Nat)(b:k<a.length)(h:a[k].length<=20):
  (DB (a.take (k+1))).length=(DB (a.take k)).length+1+a[k].length/\(DB (a.take (k+1))).map bv=(DB (a.take k)).map bv++[.int .u8 (a[k].length:Int)]++a[k].map bv:=by
 rw[yz b,G1,Lh,NY];refine⟨by simp;omega,?_⟩;have e:bv (UInt8.ofNat a[k].length)=.int .u8 (a[k].length:Int):=by
  unfold bv;congr 1;rw[GH];omega
 rw[yv,j4,e];simp
def T8 (e:∀i (f:i<l.length),w.cell? ⟨g,i,none⟩=some (bv l[i]))(d:0<l.length->g<w.heap.size)(c:zc w w2)(j:Nat)(u:Value)(b:(l.map bv)[j]?=some u):w2.cell? ((⟨g,0,none⟩:Addr).add j)=some u:=by
 have a:j<l.length:=by simpa using (qm.1 b).1
 rw[vp,xk,c.cell (p:=⟨g,j,none⟩) (d (by omega)),e j a];simpa[a]using b
def XV (l:zb):∀u∈l.map bv,u.oneCell'=true:=by
 intro u a;obtain⟨t,_,rfl⟩:=yi.1 a
 rfl
def XU (B:Nat)(v:Value)(d:za)(w:World)(hn:d.length<=1000000)(hl:∀l∈d,l.length<=maxLen)(h:EBs w B v d):
  Calls prog 80 #[v] w λr w'=>∃x,r=.returned x/\zc w w'/\(Iz d=true->OB w' w.heap.size x (DB d))/\(Iz d=false->x=.slice none 0 0):=by
 obtain⟨i,hi,X⟩:=zx.1 Nq;obtain⟨af,ag,ah⟩:i.zero=some (.int .u8 0)/\i.size=1/\i.bytes=1:=by simpa using X
 have HI:=ze hi;have D:=ze (And.intro af (And.intro ag ah));obtain⟨a,ak,rfl,hc⟩:=h.cells;have Hc:=ze hc;have Hl:=ze hl
 by_cases J:4<d.length
 ·have U:=ze (U3 J);go_enter func80,ntmps80
  go_wp2
  go_ret;exact⟨_,rfl,zu _ _,λh=>by rw[U.o]at h;simp at h,λ_=>rfl⟩
 ·go_enter func80,ntmps80
  go_wp2
  go_loopw [3,11] (λt i wr=>∃k:Nat,k<=d.length/\i=.int .i64 k/\zc w wr/\wr.ownsRow w.heap.size 5 1 t (DB (d.take k)).length ((DB (d.take k)).map bv)/\(k=0->t=.slice none 0 0)/\(0<k->t≠ .slice none 0 0)/\∀j (z:j<d.length),j<k->d[j].length<=20) (λ_ i _=>d.length-(intOf i).toNat)
  case atStart=>exact⟨0,yk _,rfl,zu _ _,⟨rfl,.inl ⟨rfl,rfl⟩⟩,λ_=>rfl,λh=>absurd h (M8 _),λj _ z=>absurd z (Am _)⟩
  case round =>
   obtain⟨k,hk,rfl,V,f,q,ad,I⟩:=hrel;have E:=ze V;have R:=ze f;have HN:=ze (And.intro q ad);have M:=ze I
   by_cases A:k<d.length
   ·obtain⟨b,rfl,g,c,hx,K⟩:=Hc.o k A;have W:0<d[k].length->g<w.heap.size:=λh0=>yf (p:=⟨g,0,none⟩) (K 0 h0);rw[<- E.o.cell (yf (p:=⟨b,k,none⟩) hx)]at hx;have HS:=ze K;have HG:=ze W;have hm:=Hl.o d[k] (ye A);unfold maxLen at hm
    by_cases ax:20<d[k].length
    ·have U:=ze (QV k A ax);generalize d[k]=l at *
     go_wp2
     go_ret;exact⟨_,rfl,E.o,λh=>by rw[U.o]at h;simp at h,λ_=>rfl⟩
    ·have ae:=Vt d k A (by omega);have G:=ze ae;have P:=ze (Ng (d.take k) (λl hl=>by
      obtain⟨j,z,rfl⟩:=ji hl;have Y:j<k:=by simp at z;omega
      rw[js];exact M.o j (by omega) Y))
     have aa:(d.take k).length=k:=by rw[AM];omega
     have N:Hid (∀j (z:j<d.length),j<k+1->d[j].length<=20):=λj Z am=>by
      rcases qf j k with h|h
      ·exact M.o j Z h
      ·obtain rfl:j=k:=by omega
       omega
     have ao:IntKind.u8.wrap (d[k].length:Int)=(d[k].length:Int):=by
      rw[CW];omega
     generalize d[k]=l at *;generalize DB (d.take k)=m at *;have ab:m.length<=84:=by have:=P.o;rw[aa]at this;omega
     have y:=ze ab;have ai:l.length<=20:=by omega
     have C:=ze E.o.size;have S:Hid (∀o,(wr.alloc o).ownsRow w.heap.size 5 1 u3 m.length (m.map bv)):=λo=>yx R.o (zi wr o);go_wp2_with (first
      |(at_builtin;refine jf _ rfl _ _ _ rfl w.heap.size 5 i (.int .u8 0) 1 1 underlying94 HI.o D.o.1 D.o.2.1 D.o.2.2 rfl (by omega) u3 m.length _ rfl (S.o _) ⟨wr.heap.size,0,none⟩ 1 1 [.int .u8 (l.length:Int)] rfl rfl (xm (zf _ _)) (by simp[Value.oneCell']) (by omega) (by have:=y.o;unfold maxLen;omega) (by have:=y.o;omega) (by have:=C.out;simp;omega) (wr.heap.size+1) (by simp) ?_;intro g' H w2 f n al aj;have s:=ze ((E.o.trans ((zi wr _).mono C.out)).grown n (by have:=C.out;simp;omega) (vg R.o));have F:=ze f)
      |(at_builtin;(refine M6 _ rfl _ _ _ rfl w.heap.size 5 i (.int .u8 0) 1 1 underlying94 HI.o D.o.1 D.o.2.1 D.o.2.2 rfl (by omega) (.slice (some ⟨g',0,none⟩) (m.length+1) H) (m.length+1) (m.map bv++[.int .u8 (l.length:Int)]) rfl F.o ⟨g,0,none⟩ l.length c (l.map bv) rfl (by simp) (λj u z=>T8 HS.o HG.o s.o j u z) (XV l) (by have:=y.o;unfold maxLen;omega) (by have:=y.o;omega) s.o.size ?_;intro v3 w3 f n q;have O:=ze (s.o.grown n (by have:=s.o.size;omega) (vg F.o));have T:=ze f;have Q:Hid (v3≠ .slice none 0 0):=(λe=>absurd (q.1 e).1 (by simp));clear n q f)))
     go_roundw
     case rel=>exact⟨k+1,by omega,by go_num,O.o,by rw[G.o.1,G.o.2];exact T.o,λh=>by omega,λ_=>Q.o,N.o⟩
     case measure=>simp[intOf];omega
   ·go_wp2
    go_ret;have an:d.length=k:=by omega
    refine⟨_,rfl,E.o,λL=>?_,λL=>?_⟩
    ·have:=R.o;rw[xn (by omega)]at this;refine⟨this,HN.o.2 ?_⟩;rcases Dw k with h|h
     ·rw[N5 (by omega)]at L;simp at L
     ·exact h
    ·refine HN.o.1 ?_;rcases Dw k with h|h
     ·exact h
     ·rw[QW (by omega) (by omega) (λj z=>M.o j z (by omega))]at L;simp at L
def Ud (a:za):zb:=if Iz a=true then DB a else []
def Ni (h:Iz ls=true):Ud ls=DB ls:=by unfold Ud;rw[if_pos h]
def Nh (h:Iz ls=false):Ud ls=[]:=by unfold Ud;rw[if_neg (by simp[h])]
def zj1 (a:List ByteArray)(b:∀s∈a,s.size<=1048576):∀l∈A0 a,l.length<=maxLen:=by
 intro l h;obtain⟨s,c,rfl⟩:=yi.1 h;have:=b s c;rw[Ei];unfold maxLen;exact zt this (by decide)
def PF (v:Value)(b:List ByteArray)(w:World)(K:b.length<=4096)(D:∀s∈b,s.size<=1048576)(h:CT w v b):
  Calls prog 34 #[v] w λr G=>r=.returned (.tuple #[AL (Ud (A0 b)),.bool (!Iz (A0 b))])/\zc w G:=by
 have E:=ze (zj1 b D);have H:=ze h;clear h D;have q:∀(w:World) (a:Option Addr) (n c B z:Nat),(binOp .eql 94 (.slice a n c) (.slice none B z)).run prog w=.ok (.bool a.isNone) w:=λw a n c B z=>EZ w _ _ a n c B z underlying94;go_enter func34,ntmps34;go_wp2_with fail;refine(Ja v b w (by omega) H.o).mono ?_;rintro r I ⟨x,rfl,j,m⟩;have f:=ze j;have t:=ze m;clear j m;go_wp2_with fail;refine(XU _ x (A0 b) I (by rw[jd];omega) E.o t.o).mono ?_;rintro r J ⟨y,rfl,k,A,d⟩;have i:Hid (zc w J):=f.o.trans (k.mono f.o.size);clear k
 by_cases e:Iz (A0 b)=true
 ·have C:=ze (A e);clear A d;have u:=ze (Ni e);have p:=ze e;clear e;obtain⟨g,F,rfl,-,-,-⟩:=C.o.form;have l:=C.o.conv;unfold AL at l
  go_wp2
  go_ret2
  exact⟨by rw[u.o,p.o];rfl,i.o⟩
 ·obtain rfl:=d (by simpa using e);have p:=ze (show Iz (A0 b)=false by simpa using e);have l:∀w,(convert 94 9 (.slice none 0 0)).run prog w=.ok (.string ⟨#[]⟩) w:=λw=>by kernel_rfl
  have u:=ze (Nh p.o);clear e A d
  go_wp2
  go_ret2
  exact⟨by rw[u.o,p.o];rfl,i.o⟩
def Jt (v:Value)(c:List ByteArray)(w:World)(hn:c.length<=2000000)(K:∀s∈c,s.size<=1048576)(h:CT w v c):
  Calls prog 35 #[v] w λr W=>r=.returned (.tuple #[AL (Ud (A0 c)),.bool (Iz (A0 c))])/\zc w W:=by
 obtain⟨a,P,rfl,L,Q⟩:=h;have N:Hid (c.length=0\/∃b d,a=some ⟨b,d,none⟩/\∀i (h:i<c.length),w.cell? ⟨b,d+i,none⟩=some (.string c[i])):=by
  rcases Q with h|h
  ·exact .inl (by simp[h])
  ·exact .inr h
 have O:=ze K;have G:=jd c
 by_cases h0:c.length=0
 ·have e:Iz (A0 c)=false:=N5 (by omega);rw[Nh e,e];go_enter func35,ntmps35
  go_wp2
  go_ret2
  exact⟨rfl,zu _ _⟩
 by_cases h4:4<c.length
 ·have e:Iz (A0 c)=false:=U3 (by omega);rw[Nh e,e];go_enter func35,ntmps35
  go_wp2
  go_ret2
  exact⟨rfl,zu _ _⟩
 have n0:((c.length:Int)==0)=false:=by rw[yp];omega
 have n4:¬(4:Int)<(c.length:Int):=by omega
 go_enter func35,ntmps35
 go_wp2
 go_loopw [4,5] (λt i wr=>∃k:Nat,k<=c.length/\i=.int .i64 k/\zc w wr/\t=AL (DB ((A0 c).take k))/\∀j (g:j<(A0 c).length),j<k->(A0 c)[j].length<=20) (λ_ i _=>c.length-(intOf i).toNat)
 case atStart=>exact⟨0,yk _,rfl,zu _ _,rfl,λj _ g=>absurd g (Am _)⟩
 case round =>
  obtain⟨k,hk,rfl,F,rfl,q⟩:=hrel;have n:=ze F;have A:=ze q
  by_cases y:k<c.length
  ·rcases N.o with R|⟨b,d,rfl,f⟩
   ·omega
   have z:=f k y;rw[<- n.o.cell (yf (p:=⟨b,d+k,none⟩) z)]at z;have hm:=O.o c[k] (ye y);have u:(A0 c)[k]'(by omega)=c[k].data.toList:=by simp[A0]
   have x:((A0 c)[k]'(by omega)).length=c[k].size:=by rw[u];simp
   by_cases X:20<c[k].size
   ·have e:Iz (A0 c)=false:=QV k (by omega) (by omega);have M:=ze e;have D:=ze (Nh e);generalize c[k]=s at *
    go_wp2
    go_ret2
    exact⟨by rw[M.o,D.o];rfl,n.o⟩
   ·have E:Hid (DB ((A0 c).take (k+1))=DB ((A0 c).take k)++(UInt8.ofNat c[k].size::c[k].data.toList)):=by
     show DB ((A0 c).take (k+1))=_;rw[yz (by omega),G1,Lh,NY,x,u]
    have B:Hid (∀j (g:j<(A0 c).length),j<k+1->(A0 c)[j].length<=20):=λj J S=>by
     rcases qf j k with h|h
     ·exact A.o j J h
     ·obtain rfl:j=k:=by omega
      omega
    have C:=ze (Ng ((A0 c).take k) (λl K=>by
     obtain⟨j,g,rfl⟩:=ji K;have I:j<k:=by simp at g;omega
     rw[js];exact A.o j (by omega) I))
    have U:IntKind.u8.wrap (c[k].size:Int)=(c[k].size:Int):=by
     rw[CW];omega
    generalize c[k]=s at *;generalize DB ((A0 c).take k)=m at *;have H:=G2 (wr.alloc (.cells #[.int .u8 (s.size:Int)] 5)).drew wr.heap.size 1 1 [UInt8.ofNat s.size] 5 (0,0) rfl (by show(wr.alloc _).heap[_]?=_;rw[zf];simp[hv,bv];omega);have V:∀o,(wr.alloc o).cell? ⟨b,d+k,none⟩=some (.string s):=λo=>(xg wr o ⟨b,d+k,none⟩ (yf (p:=⟨b,d+k,none⟩) z)).trans z;have T:m.length<=84:=by have:=C.o;rw[AM,G]at this;omega
    have Y:¬9223372036854775807<m.length+1:=by omega
    have Z:¬9223372036854775807<m.length+1+s.size:=by omega
    unfold AL at H ⊢
    go_wp2
    go_region
    all_goals go_wp2
    all_goals go_roundw
    case rel=>exact⟨k+1,by omega,by go_num,(n.o.trans ((zi wr _).mono n.o.size)).drew,by rw[E.o];congr 1;apply Ah;simp,B.o⟩
    case measure=>simp[intOf];omega
  ·go_wp2
   go_ret2
   have e:Iz (A0 c)=true:=QW (by omega) (by omega) (λj g=>A.o j g (by omega));rw[Ni e,e,xn (by omega)];exact⟨rfl,n.o⟩
def tb (l:zb):ByteArray:=⟨l.toArray⟩
def CT.aW (h:w.ownsRow B 9 1 v ls.length (ls.map AL)):CT w v (ls.map tb):=by
 refine CT.aI (B:=B) ?_;have e:(ls.map tb).map Value.string=ls.map AL:=by simp[tb,AL]
 rw[e,yg];exact h
def MC (a:za):A0 (a.map tb)=a:=by
 unfold A0 tb;rw[EG]
 conv=>rhs;rw[<- List.map_id a]
 congr 1
def zbn (s:ByteArray)(c:UInt8)(a:zb)(h:s.data.toList=c::a)(n:Nat):s.extract 1 (1+n)=tb (a.take n)/\(s.extract (1+n) s.size).data.toList=a.drop n:=by
 have b:s.size=a.length+1:=by
  have:=congrArg List.length h;simpa using this
 refine⟨?_,?_⟩
 ·apply Ah;apply Array.toList_inj.1;simp[tb,h]
 ·rw[Ii,Array.toList_extract,FM,h,b,show 1+n=n+1 by omega,K9];exact xn (by simp)
def zof:Value->Nat
 |.string s=>s.size
 |_=>0
def Yn (s:ByteArray)(h:0<s.size):∃c b,s.data.toList=c::b/\s[0]=c/\b.length+1=s.size:=by
 have a:s.data.toList.length=s.size:=by simp
 cases d:s.data.toList with
 |nil=>rw[d]at a;simp at a;omega
 |cons c b =>
  refine⟨c,b,rfl,?_,by rw[d]at a;simpa using a⟩;show s.data[0]=c;rw[<- Array.getElem_toList];simp[d]
def MK (s:ByteArray)(w:World)(hs:s.size<=1048576):
  Calls prog 37 #[.string s] w λr w'=>∃x,r=.returned (.tuple #[x,.bool (DV s.data.toList).isSome])/\zc w w'/\CT w' x (((DV s.data.toList).getD []).map tb):=by
 obtain⟨i,hi,E⟩:=zx.1 Hf;obtain⟨K,L,M⟩:i.zero=some (.string ⟨#[]⟩)/\i.size=1/\i.bytes=16:=by simpa using E
 clear E;have HI:=ze hi;have U:=ze (And.intro K (And.intro L M));clear hi K L M;have hd:s.data.toList.length=s.size:=by simp
 have HD:=ze hd;clear hd;go_enter func37,ntmps37
 go_wp2
 go_loopw [0,4] (λt u wr=>∃(d:ByteArray) (a:za),t=.string d/\Un s.data.toList a d.data.toList/\zc w wr/\wr.ownsRow w.heap.size 9 1 u a.length (a.map AL)/\∀l∈a,l.length<=255) (λt _ _=>zof t)
 case atStart=>exact⟨s,[],rfl,Un.start _,zu _ _,⟨rfl,.inl ⟨rfl,rfl⟩⟩,λl F=>by simp at F⟩
 case round =>
  obtain⟨d,a,rfl,A,D,b,k⟩:=hrel;have N:=ze A;have B:=ze D;have Q:=ze b;have X:=ze k;have n:=A.2;rw[HD.o]at n;have J:d.data.toList.length=d.size:=by simp
  rw[J]at n;clear A D b k J
  by_cases h0:0<d.size
  ·obtain⟨c,O,v,aa,ad⟩:=Yn d h0;have f:=ze (v▸N.o);have HC:=ze v;have ab:=c.toNat_lt;clear v N
   by_cases m:c.toNat<=O.length
   ·obtain⟨e1,e2⟩:=zbn d c O HC.o c.toNat;have E1:=ze e1;have W:=ze e2;clear e1 e2;have z:Hid (w.heap.size<=wr.heap.size):=B.o.size;have R:Hid (∀o,(wr.alloc o).ownsRow w.heap.size 9 1 u4 a.length (a.map AL)):=λo=>yx Q.o (zi wr o);go_wp2_with (at_builtin;refine jf _ rfl _ _ _ rfl w.heap.size 9 i (.string ⟨#[]⟩) 1 16 underlying22 HI.o U.o.1 U.o.2.1 U.o.2.2 rfl (by omega) u4 a.length _ rfl (R.o _) ⟨wr.heap.size,0,none⟩ 1 1 _ rfl rfl (xm (zf _ _)) (by simp[Value.oneCell']) (by omega) (by unfold maxLen;omega) (by omega) (by have:=z.out;simp;omega) (wr.heap.size+1) (by simp) ?_;intro g' Z w2 b g V G;have P:Hid (zc w w2):=(B.o.trans ((zi wr _).mono z.out)).grown g (by have:=z.out;simp;omega) (vg Q.o);have S:=ze b;clear g V G b);refine⟨⟨_,a++[O.take c.toNat],rfl,by rw[W.out];exact f.o.step m,P.o,?_,λl F=>?_⟩,?_⟩
    ·have:=S.o;rw[E1.out]at this;rw[zw,yv];exact this
    ·rcases yj.1 F with h|h
     ·exact X.o l h
     ·obtain rfl:l=O.take c.toNat:=by simpa using h
      simp;omega
    ·have e:=congrArg List.length W.out;have e':(d.extract (1+c.toNat) d.size).data.toList.length=(d.extract (1+c.toNat) d.size).size:=by simp
     rw[e',vi]at e;show(d.extract (1+c.toNat) d.size).size<d.size;omega
   ·have j:=ze (f.o.fail m)
    go_wp2
    go_ret2
    exact⟨_,by rw[j.o];rfl,B.o,by rw[j.o];exact⟨none,0,rfl,zk _,.inl rfl⟩⟩
  ·have p:=vw.1 (by rw[Ei];show d.size=0;omega);have f:=ze (p▸N.o);clear N p;have Y:=ze (CT.aW Q.o);go_wp2_with fail;refine(Jt _ (a.map tb) wr (by rw[yg];omega) (λt ht=>by
    obtain⟨l,F,rfl⟩:=yi.1 ht;have:=X.o l F;show l.toArray.size<=_;simp;omega) Y.o).mono ?_
   rintro r w2 ⟨I,q⟩;rw[MC]at I;have C:=ze (B.o.trans (q.mono B.o.size));have T:=ze (Y.o.below q);clear q
   by_cases H:Iz a=true
   ·obtain⟨r1,r2⟩:=f.o.bK H;have et:AL (Ud a)=.string s:=by rw[Ni H,r2];unfold AL;congr 1
    rw[et,H]at I;subst I;have j:=ze r1;clear r1 r2 et H
    go_wp2
    go_ret2
    exact⟨_,by rw[j.o];rfl,C.o,by rw[j.o];exact T.o⟩
   ·have y:Iz a=false:=by simpa using H
    have j:=ze (f.o.bz y);rw[Nh y,y]at I;subst I;unfold AL
    go_wp2
    go_ret2
    exact⟨_,by rw[j.o];rfl,C.o,by rw[j.o];exact⟨none,0,rfl,zk _,.inl rfl⟩⟩
end Go.Proofs.YtfdbeldiomkdiaaGreatDoor
