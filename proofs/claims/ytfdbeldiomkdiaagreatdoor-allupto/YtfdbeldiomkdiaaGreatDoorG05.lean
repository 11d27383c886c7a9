import Derived.Test.YtfdbeldiomkdiaaGreatDoorG04
set_option maxHeartbeats 8000000
set_option maxRecDepth 100000
set_option linter.all false
namespace Go.Proofs.YtfdbeldiomkdiaaGreatDoor
open Go.RowKit Go.Proofs.Tryz
def jq:=@List.length_nil
def vh:=@Array.getD_eq_getD_getElem?
def Bc:=@List.getElem?_eq_none
def CH:=@List.mem_range
def DR:=@below_drewN
def NW:=@Sem.run_bind
def Vd:=@Result.andThen_ok
variable {B B' g:Nat}{P:Program}{e:TypeId}{fn:Func}{v:Value}{w w1 w2:World}
def G8 {P:Program}{fn:Func}{p u:Tmp}{ty:TypeId}(h:fn.results=#[.tmp u,.cell p ty])(tmps:Array Value)(w:World)(g:Nat)(t:TypeId)(cs:Array Value)(fr:Nat×Nat)(d:TypeDesc)
  (hp:tmps.getD p undef=.pointer (some ⟨g,0,none⟩)) (hg:w.heap[g]?=some (.cells cs t fr))
  (hu:P.underlying ty=some d) (hd:(match d with|.struct _|.array _ _=>true|_=>false)=true) (hi:(P.info? ty).map (·.size)=some cs.size) (x:Value) (hx:tmps.getD u undef=x) :
  (results fn tmps).run P w=.ok (.tuple #[x,.agg cs]) w:=by
 have a:=BS (P:=P) w g t ty cs fr d hg hu hd hi;simp only[vh]at hp hx;simp[results,h,hp,hx,asAddr,a]
def Gy {u v:Tmp}(h:fn.results=#[.tmp u,.tmp v])(a:Array Value)(w:World)(x y:Value)(b:a.getD u undef=x)(c:a.getD v undef=y):
  (results fn a).run P w=.ok (.tuple #[x,y]) w:=by
 simp only[vh]at b c;simp[results,h,b,c]
def IF (n:Int):Array Value:=#[.int .i64 n,.string ⟨#[]⟩]
def K6 (n:Int):(prog.info? 39).map (·.size)=some (IF n).size:=by
 show _=some 2
 kernel_rfl
def TG (n:Int):(IF n).all (·.oneCell')=true:=by simp[IF,Value.oneCell']
def KZ (w a:World):Prop:=zc w a/\a.heap[w.heap.size]?=some (.cells (IF 0) 39 (0,0))
def KZ.start (w:World):KZ w (w.alloc (.cells (IF 0) 39)):=⟨zi _ _,zf _ _⟩
def KZ.lt (h:KZ w w1):w.heap.size<w1.heap.size:=vk h.2
def KZ.next (h:KZ w w1)(b:w.heap.size<B)(a:Below B w1 w2):KZ w w2:=
 ⟨h.1.trans (a.mono (by omega)),by rw[a.block _ b];exact h.2⟩
def Pj {s:Nat}{n:Nat}{c:List Value}(h:w.ownsRow B e s v n c)(m:g<B')(l:w.ownsRow B' e s v n c)(f:Array Value):(w.setRow g f).ownsRow B e s v n c:=by
 refine⟨h.1,?_⟩;rcases h.2 with h0|⟨k,a,b,d,i,j,r⟩
 ·exact .inl h0
 ·refine .inr ⟨k,a,b,d,i,?_,r⟩;have o:B'<=k:=vg l k (by rw[d];rfl);rw[FJ _ _ _ _ (by omega)];exact j
def Rng {α:Type}(c:Prop)(P Q:za)(t t0 t1:α):Prop:=c/\t=t0/\Q=P\/¬c/\t=t1/\Q=[]
def zed (f:Nat)(Y:f<=1000000)(k:Nat->Addr)(v:Value)(c:za)(i:Int)(w:World)(z:vj w k)(R:c.length<=f)(J:∀l∈c,l.length<=maxLen)(h:JW w v c):
  Calls prog 65 #[v,.int .i64 i] w λr S=>∃x Q e,r=.returned (.tuple #[x,e])/\zc w S/\zar w S x Q/\Rng (0<=i/\i<(c.length:Int)) (C1 f c i.toNat) Q e .nilIface (.iface 392 (.pointer (some (k 1)))):=by
 have X:=z.range
 by_cases g:0<=i/\i<(c.length:Int)
 ·obtain⟨t,d⟩:=g;have j:=ze (And.intro t d);obtain⟨i,rfl⟩:=qc (show 0<=i by omega);have I:Hid (C1 f c ((i:Nat):Int).toNat=(AD 63 0 c.length i).map λs=>yy (CC c s)):=by
   show _=_;rw[zz,show C1 f c i=C1 f (CC c (0,c.length)) (i-0) by rw[zab];rfl,Pm c 63 f 0 c.length i (by omega) R (by omega) (yk _) (by omega)]
  have D:Hid (∀s∈AD 63 0 c.length i,s.1+s.2<=c.length/\1<=s.2):=λs z=>by
   have:=I0 63 0 c.length i (by omega) s z;omega
  have C:=ze (C4 63 0 c.length i);have H:=ze h;have V:=ze J;have M:∀w,_:=λw=>Rh 63 (by omega) 0 c.length i w (by omega) (by omega) (by omega) (yk _) (by omega);rw[show(((0:Nat)):Int)=0 from rfl]at M;have W:=ze M;obtain⟨a,m,rfl,q,O⟩:=h;obtain⟨b,L,rfl,-⟩:=O.resolve_left (λe=>by simp[e]at d;omega);clear J z X M O;generalize AD 63 0 c.length i=N at *;go_enter func65,ntmps65;go_wp2_with fail;refine(W.out _).mono ?_;rintro r Z ⟨x,rfl,P,K⟩;have A:=ze P;have U:=ze K;obtain⟨xa,xc,rfl,-⟩:=Gq K;clear P K;go_wp2_with fail;refine(NI b L m c _ N Z q (by omega) V.o (by exact H.o.below A.o) (Gq U.o) (by have:=C.o;omega) D.o).mono ?_;rintro r T ⟨y,rfl,p,u⟩;have B:Hid (zc w T):=A.o.trans (p.mono A.o.size);have E:Hid (zar w T y (N.map λs=>yy (CC c s))):=E9 u A.o.size;clear p u;go_wp2_with fail;exact zv (Gy results65 _ _ _ _ rfl rfl) rfl ⟨y,_,_,rfl,B.o,E.o,.inl ⟨j.o,rfl,I.o.symm⟩⟩
 ·have G:=ze g;have F:Hid (∀n,zar w (w.drewN n) (.slice none 0 0) []):=λn=>⟨rfl,.inl ⟨rfl,rfl⟩⟩
  obtain⟨a,m,rfl,-,-⟩:=h;clear z J R
  by_cases t:i<0
  case' neg=>have d:(c.length:Int)<=i:=by omega
  all_goals
   clear g;go_enter func65,ntmps65
   go_wp2
   go_quiet (fail)
   go_wp2_with fail;exact zv (Gy results65 _ _ _ _ rfl rfl) rfl ⟨_,_,_,rfl,DR (zu _ _) _,F.o _,.inr ⟨G.o,rfl,rfl⟩⟩
def zc9 (f:Nat)(A:f<=1000000)(d:Nat->Addr)(v:Value)(c:List ByteArray)(i:Int)(w:World)(I:vj w d)(Y:c.length<=f)(Z:∀s∈c,s.size<=maxLen)(h:CT w v c):
  Calls prog 19 #[v,.int .i64 i] w λr J=>∃x Q t,r=.returned (.tuple #[x,.agg (IF t)])/\zc w J/\J.ownsRow w.heap.size 9 1 x Q.length (Q.map AL)/\Rng (0<=i/\i<(c.length:Int)) (C1 f (A0 c) i.toNat) Q t 0 2:=by
 have H:=ze h;have P:=ze I;have L:=ze (KZ.start w);have S:Hid (∀x w,vj w d->JW w x (A0 c)->_):=λx w a b=>zed f A d x (A0 c) i w a (by rw[jd];exact Y) (λl U=>by
  obtain⟨s,I,rfl⟩:=yi.1 U;simpa using Z s I) b
 simp only[jd]at S;have p:Hid (∀{Q}{t t0 t1:Value},Rng (0<=i/\i<(c.length:Int)) (C1 f (A0 c) i.toNat) Q t t0 t1->(∀l∈Q,l.length=8)/\Q.length<=1000000):=λh=>by
  rcases h with ⟨-,-,rfl⟩|⟨-,-,rfl⟩
  ·have h1:=YH f (A0 c) i.toNat;have h2:=Jk f (A0 c) i.toNat;exact⟨h1,by omega⟩
  ·simp
 obtain⟨a,aa,rfl,-,-⟩:=h;clear I Z;go_enter func19,ntmps19;go_wp2_with fail;refine(Ja _ c _ (zt Y A) (by exact H.o.below L.o.1)).mono ?_;rintro r E ⟨x,rfl,q,X⟩;have k:Hid (KZ w E):=L.o.next L.o.lt q;have HE:=ze X;clear q X;go_wp2_with fail;refine(S.out x E (by exact P.o.below k.o.1) HE.o.cg).mono ?_;rintro r K ⟨y,Q,er,rfl,g,B,T⟩;have V:=ze T;have W:=ze (p.o T);have H2:Hid (KZ w K):=k.o.next k.o.lt g;have N:Hid (K.ownsRow E.heap.size 91 8 y Q.length (IM Q)):=B;have R:Hid (E.heap.size<=K.heap.size):=g.size;clear g B T p S;go_wp2_with fail;refine(TC E.heap.size y Q K W.o.2 R.o W.o.1 N.o).mono ?_;rintro r F ⟨z,rfl,u,C⟩;have G:Hid (KZ w F):=H2.o.next k.o.lt u;have O:=ze C;clear u C;have n:Hid (∃t,Rng (0<=i/\i<(c.length:Int)) (C1 f (A0 c) i.toNat) Q t 0 2/\Calls prog 67 #[er] F λe J=>e=.returned (.agg (IF t))/\zc F J):=by
  rcases V.o with ⟨h,rfl,e⟩|⟨h,rfl,e⟩
  ·exact⟨0,.inl ⟨h,rfl,e⟩,O0 d F (P.o.below G.o.1)⟩
  ·exact⟨2,.inr ⟨h,rfl,e⟩,Gw d F (P.o.below G.o.1) 1 2 (by decide)⟩
 obtain⟨t,ht,D⟩:=n.o;have HT:=ze ht;have HF:=ze D;clear ht D n V;go_wp2_with fail;refine HF.o.mono ?_;rintro r w4 ⟨rfl,j⟩;have M:Hid (KZ w w4):=G.o.next G.o.lt j;have m:=ze (yx O.o j);clear j;go_wp2_with (refine yw rfl 39 _ _ rfl w.heap.size (IF t) rfl rfl 39 _ M.o.2 (K6 t) rfl (TG t) ?_);exact zv (v:=.tuple #[z,.agg (IF t)]) (G8 results19 _ _ w.heap.size 39 _ (0,0) _ rfl (Av _ _ _ _ _ _ M.o.2) underlying39 rfl (K6 t) _ rfl) rfl ⟨z,Q,t,rfl,Ag M.o.1 (zk _) _,Pj (LB m.o k.o.1.size) k.o.lt m.o _,HT.o⟩
def zec (f:Nat)(Y:f<=1000000)(k:Nat->Addr)(v:Value)(c:za)(i:Int)(w:World)(z:vj w k)(R:c.length<=f)(J:∀l∈c,l.length<=maxLen)(h:JW w v c):
  Calls prog 68 #[v,.int .i64 i] w λr S=>∃x Q e,r=.returned (.tuple #[x,e])/\zc w S/\zar w S x Q/\Rng (1<=i/\i<=(c.length:Int)) (EI f i.toNat c true) Q e .nilIface (.iface 392 (.pointer (some (k 1)))):=by
 have X:=z.range
 by_cases g:1<=i/\i<=(c.length:Int)
 ·obtain⟨t,d⟩:=g;have j:=ze (And.intro t d);obtain⟨i,rfl⟩:=qc (show 0<=i by omega);have I:Hid (EI f ((i:Nat):Int).toNat c true=(AB 63 i 0 c.length true).map λs=>yy (CC c s)):=by
   show _=_;rw[zz,show EI f i c true=EI f (i-0) (CC c (0,c.length)) true by rw[zab];rfl,Pk c 63 f i 0 c.length true (by omega) R (by omega) (by omega) (by omega)]
  have D:Hid (∀s∈AB 63 i 0 c.length true,s.1+s.2<=c.length/\1<=s.2):=λs z=>by
   have:=LF 63 i 0 c.length true (by omega) (by omega) (by omega) (by omega) s z;omega
  have C:=ze (Ci 63 i 0 c.length true);have H:=ze h;have V:=ze J;have M:∀w,_:=λw=>WB 63 (by omega) i 0 c.length true w (by omega) (by omega) (by omega) (by omega) (by omega);rw[show(((0:Nat)):Int)=0 from rfl]at M;have W:=ze M;obtain⟨a,m,rfl,q,O⟩:=h;obtain⟨b,L,rfl,-⟩:=O.resolve_left (λe=>by simp[e]at d;omega);clear J z X M O;generalize AB 63 i 0 c.length true=N at *;go_enter func68,ntmps68;go_wp2_with fail;refine(W.out _).mono ?_;rintro r Z ⟨x,rfl,P,K⟩;have A:=ze P;have U:=ze K;obtain⟨xa,xc,rfl,-⟩:=Gq K;clear P K;go_wp2_with fail;refine(NI b L m c _ N Z q (by omega) V.o (by exact H.o.below A.o) (Gq U.o) (by have:=C.o;omega) D.o).mono ?_;rintro r T ⟨y,rfl,p,u⟩;have B:Hid (zc w T):=A.o.trans (p.mono A.o.size);have E:Hid (zar w T y (N.map λs=>yy (CC c s))):=E9 u A.o.size;clear p u;go_wp2_with fail;exact zv (Gy results68 _ _ _ _ rfl rfl) rfl ⟨y,_,_,rfl,B.o,E.o,.inl ⟨j.o,rfl,I.o.symm⟩⟩
 ·have G:=ze g;have F:Hid (∀n,zar w (w.drewN n) (.slice none 0 0) []):=λn=>⟨rfl,.inl ⟨rfl,rfl⟩⟩
  obtain⟨a,m,rfl,-,-⟩:=h;clear z J R
  by_cases t:i<1
  case' neg=>have d:(c.length:Int)<i:=by omega
  all_goals
   clear g;go_enter func68,ntmps68
   go_wp2
   go_quiet (fail)
   go_wp2_with fail;exact zv (Gy results68 _ _ _ _ rfl rfl) rfl ⟨_,_,_,rfl,DR (zu _ _) _,F.o _,.inr ⟨G.o,rfl,rfl⟩⟩
def zc8 (f:Nat)(A:f<=1000000)(d:Nat->Addr)(v:Value)(c:List ByteArray)(i:Int)(w:World)(I:vj w d)(Y:c.length<=f)(Z:∀s∈c,s.size<=maxLen)(h:CT w v c):
  Calls prog 20 #[v,.int .i64 i] w λr J=>∃x Q t,r=.returned (.tuple #[x,.agg (IF t)])/\zc w J/\J.ownsRow w.heap.size 9 1 x Q.length (Q.map AL)/\Rng (1<=i/\i<=(c.length:Int)) (EI f i.toNat (A0 c) true) Q t 0 2:=by
 have H:=ze h;have P:=ze I;have L:=ze (KZ.start w);have S:Hid (∀x w,vj w d->JW w x (A0 c)->_):=λx w a b=>zec f A d x (A0 c) i w a (by rw[jd];exact Y) (λl U=>by
  obtain⟨s,I,rfl⟩:=yi.1 U;simpa using Z s I) b
 simp only[jd]at S;have p:Hid (∀{Q}{t t0 t1:Value},Rng (1<=i/\i<=(c.length:Int)) (EI f i.toNat (A0 c) true) Q t t0 t1->(∀l∈Q,l.length=8)/\Q.length<=1000000):=λh=>by
  rcases h with ⟨-,-,rfl⟩|⟨-,-,rfl⟩
  ·have h1:=zdd f i.toNat (A0 c) true;have h2:=Kt f i.toNat (A0 c) true;exact⟨h1,by omega⟩
  ·simp
 obtain⟨a,aa,rfl,-,-⟩:=h;clear I Z;go_enter func20,ntmps20;go_wp2_with fail;refine(Ja _ c _ (zt Y A) (by exact H.o.below L.o.1)).mono ?_;rintro r E ⟨x,rfl,q,X⟩;have k:Hid (KZ w E):=L.o.next L.o.lt q;have HE:=ze X;clear q X;go_wp2_with fail;refine(S.out x E (by exact P.o.below k.o.1) HE.o.cg).mono ?_;rintro r K ⟨y,Q,er,rfl,g,B,T⟩;have V:=ze T;have W:=ze (p.o T);have H2:Hid (KZ w K):=k.o.next k.o.lt g;have N:Hid (K.ownsRow E.heap.size 91 8 y Q.length (IM Q)):=B;have R:Hid (E.heap.size<=K.heap.size):=g.size;clear g B T p S;go_wp2_with fail;refine(TC E.heap.size y Q K W.o.2 R.o W.o.1 N.o).mono ?_;rintro r F ⟨z,rfl,u,C⟩;have G:Hid (KZ w F):=H2.o.next k.o.lt u;have O:=ze C;clear u C;have n:Hid (∃t,Rng (1<=i/\i<=(c.length:Int)) (EI f i.toNat (A0 c) true) Q t 0 2/\Calls prog 67 #[er] F λe J=>e=.returned (.agg (IF t))/\zc F J):=by
  rcases V.o with ⟨h,rfl,e⟩|⟨h,rfl,e⟩
  ·exact⟨0,.inl ⟨h,rfl,e⟩,O0 d F (P.o.below G.o.1)⟩
  ·exact⟨2,.inr ⟨h,rfl,e⟩,Gw d F (P.o.below G.o.1) 1 2 (by decide)⟩
 obtain⟨t,ht,D⟩:=n.o;have HT:=ze ht;have HF:=ze D;clear ht D n V;go_wp2_with fail;refine HF.o.mono ?_;rintro r w4 ⟨rfl,j⟩;have M:Hid (KZ w w4):=G.o.next G.o.lt j;have m:=ze (yx O.o j);clear j;go_wp2_with (refine yw rfl 39 _ _ rfl w.heap.size (IF t) rfl rfl 39 _ M.o.2 (K6 t) rfl (TG t) ?_);exact zv (v:=.tuple #[z,.agg (IF t)]) (G8 results20 _ _ w.heap.size 39 _ (0,0) _ rfl (Av _ _ _ _ _ _ M.o.2) underlying39 rfl (K6 t) _ rfl) rfl ⟨z,Q,t,rfl,Ag M.o.1 (zk _) _,Pj (LB m.o k.o.1.size) k.o.lt m.o _,HT.o⟩
variable {R:zb}{RR:za}{wz:World}{x:Value}
def P7 (w b:World)(x:Value)(a:za):Prop:=b.ownsRow w.heap.size 9 1 x a.length (a.map AL)
def Rb (w b:World)(z:za)(a:z=[]):P7 w b (.slice none 0 0) z:=by
 subst a;exact⟨rfl,.inl ⟨rfl,rfl⟩⟩
def zco (w a:World)(p:zb)(b:w.heap.size<=a.heap.size):P7 w (a.alloc (.cells #[AL p] 9)) (.slice (some ⟨a.heap.size,0,none⟩) 1 1) [p]:=by
 refine⟨by simp,.inr ⟨a.heap.size,1,#[AL p],rfl,b,zf _ _,by simp,by unfold maxLen;simp,by simp,by simp⟩⟩
def Tf {P:za}(e:RR=P++[R])(h:wz.ownsRow w.heap.size 9 1 x (P.length+1) (P.map AL++[.string ⟨R.toArray⟩])):P7 w wz x RR:=by
 subst e;unfold P7;rw[yv,zw];exact h
def Tz (f:Nat)(ad:f<=1000000):∀(v:Value) (j:List ByteArray) (i:Int) (w:World),1<=j.length->j.length<=f->0<=i->i<j.length->(∀s∈j,s.size<maxLen)->CT w v j->Calls prog 21 #[v,.int .i64 i] w λr C=>∃x,r=.returned x/\zc w C/\P7 w C x (C1 f (A0 j) i.toNat):=by
 induction f with
 |zero=>intro v j i w h1 h2;omega
 |succ f E =>
  intro v j i w h1 hf Y hi D h;obtain⟨i,rfl⟩:=qc Y;rw[zz]
  by_cases h2:j.length=1
  ·have e:=Rb w w _ (Gj (f+1) (A0 j) i (by rw[jd];omega));have HO:=ze e;obtain⟨a,B,rfl,-,-⟩:=h;rw[h2];clear e E D hi hf;go_enter func21,ntmps21
   go_wp2
   go_ret;exact⟨_,rfl,zu _ _,HO.o⟩
  obtain⟨k1,k2,k3⟩:=Be j.length (by omega)
  replace E:=E (by omega)
  obtain⟨a,B,e,ab,hc⟩:=id h;obtain⟨b,ae,rfl,-⟩:=hc.resolve_left (λe=>by simp[e]at h1);subst e;clear hc;have I:=jd j;obtain⟨t,L,K⟩:=zx.1 Hf;have HI:=ze L;have hz:t.zero=some (.string ⟨#[]⟩)/\t.size=1/\t.bytes=16:=by simpa using K
  have W:=ze hz;clear L K hz;have M:yo j.length<=j.length:=by omega
  have ft:=h.take _ M;have fd:=h.drop _ M;have lt:(j.take (yo j.length)).length=yo j.length:=by simp;omega
  have ld:(j.drop (yo j.length)).length=j.length-yo j.length:=by simp
  have A:=λ(S:List ByteArray) (v:Value) (a:S.length<=f) (b:∀s∈S,s.size<maxLen) (c:CT w v S) (C:World) (d:zc w C)=>G7 f v S C a (by omega) b (c.below d);have n2:((j.length:Int)==1)=false:=yp.2 (by omega);obtain⟨RR,n⟩:∃R,R=C1 (f+1) (A0 j) i:=⟨_,rfl⟩;rw[<- n]
  by_cases hk:i<yo j.length
  case' pos =>
   rw[Gi f (A0 j) i (by omega) (by rw[I];exact hk),I]at n;have Q:=ze (E _ (j.take (yo j.length)) (i:Int) w (by omega) (by omega) (by omega) (by omega) (λl h=>D l (qa h)) ft);rw[zz,F3]at Q
   replace A:=ze (A (j.drop (yo j.length)) _ (by omega) (λl h=>D l (jz h)) fd)
   rw[Lj]at A;have k:=Jk f ((A0 j).take (yo j.length)) i;have c4:(i:Int)<(yo j.length:Int):=by omega
   generalize j7 f ((A0 j).drop (yo j.length))=R at *;generalize C1 f ((A0 j).take (yo j.length)) i=P at *
  case' neg =>
   rw[Ft f (A0 j) i (by omega) (by rw[I];exact hk),I]at n;have Q:=ze (E _ (j.drop (yo j.length)) ((i:Int)-(yo j.length:Int)) w (by omega) (by omega) (by omega) (by omega) (λl h=>D l (jz h)) fd);rw[show((i:Int)-(yo j.length:Int)).toNat=i-yo j.length by omega,Lj]at Q
   replace A:=ze (A (j.take (yo j.length)) _ (by omega) (λl h=>D l (qa h)) ft)
   rw[F3]at A;have k:=Jk f ((A0 j).drop (yo j.length)) (i-yo j.length);have c4:¬(i:Int)<(yo j.length:Int):=by omega
   have c6:IntKind.i64.wrap ((i:Int)-(yo j.length:Int))=(i:Int)-(yo j.length:Int):=by rw[Cw];omega
   generalize j7 f ((A0 j).take (yo j.length))=R at *;generalize C1 f ((A0 j).drop (yo j.length)) (i-yo j.length)=P at *
  all_goals
   have HC:=ze k;have G:Hid (∀wz x,wz.ownsRow w.heap.size 9 1 x (P.length+1) (P.map AL++[.string ⟨R.toArray⟩])->P7 w wz x RR):=λwz x h=>Tf n h;have c1:(yo j.length:Int)<=(B:Int):=by omega
   have c2:(yo j.length:Int)<=(j.length:Int):=by omega
   have c3:(0:Int)<=(yo j.length:Int):=by omega
   have c5:¬B=yo j.length:=by omega
   clear n k D h E I;go_enter func21,ntmps21;go_wp2_with fail;refine(Fk j.length _ (by omega) (by omega)).mono ?_;rintro e C ⟨rfl,hw⟩;rw[hw];clear hw C;go_wp2_with fail;refine Q.out.mono ?_;rintro e w1 ⟨y,rfl,J,O⟩;have z:=ze J;have H:Hid (w1.ownsRow w.heap.size 9 1 y P.length (P.map AL)):=O;clear J O;go_wp2_with fail;refine(A.out _ z.o).mono ?_;rintro e F ⟨rfl,q⟩;have p:=ze (z.o.trans (q.mono z.o.size));have U:Hid (∀o,(F.alloc o).ownsRow w.heap.size 9 1 y P.length (P.map AL)):=λo=>yx H.o (q.trans ((zi F o).mono q.size));have Z:Hid (w.heap.size<=F.heap.size):=p.o.size;clear q;unfold AL;go_wp2_with (at_builtin;refine jf _ rfl _ _ _ rfl w.heap.size 9 t (.string ⟨#[]⟩) 1 16 underlying22 HI.o W.o.1 W.o.2.1 W.o.2.2 rfl (by omega) y P.length _ rfl (U.o _) ⟨F.heap.size,0,none⟩ 1 1 [.string ⟨R.toArray⟩] rfl rfl (xm (zf _ _)) (by simp[Value.oneCell']) (by omega) (by have:=HC.o;unfold maxLen;omega) (by have:=HC.o;omega) (by have:=Z.out;simp;omega) (F.heap.size+1) (by simp) ?_;intro g aa w3 u m X N);have T:Hid (zc w w3):=((p.o.trans ((zi F _).mono p.o.size)).grown m (by have:=p.o.size;simp;omega) (vg H.o));have V:=ze u;clear m X N u
   go_wp2
   go_ret;exact⟨_,rfl,T.o,G.o _ _ V.o⟩
def Ty (f:Nat)(af:f<=1000000):∀(v:Value) (i:List ByteArray) (m:Int) (j:Bool) (w:World),1<=i.length->i.length<=f->0<=m->(1<=m/\m<=i.length)->(∀s∈i,s.size<maxLen)->CT w v i->Calls prog 23 #[.int .i64 m,v,.bool j] w λr F=>∃x,r=.returned x/\zc w F/\P7 w F x (EI f m.toNat (A0 i) j):=by
 induction f with
 |zero=>intro v i m j w h1 h2;omega
 |succ f G =>
  intro v i m j w h1 hf Q hm E h;obtain⟨m,rfl⟩:=qc Q;rw[zz]
  by_cases aa:m=i.length
  ·subst aa;have u:=ze (G7 (f+1) v i w hf (by omega) E h);have HW:=ze (Fe f (A0 i));have HN:=ze (I2 f (A0 i));rw[jd]at HW HN;obtain⟨a,D,rfl,-,-⟩:=h;generalize j7 (f+1) (A0 i)=R at *;clear G E hf hm Q;cases j
   ·rw[HN.o];go_enter func23,ntmps23;go_wp2_with fail;refine u.out.mono ?_;rintro e A ⟨rfl,hb⟩;have HB:=ze hb;have HO:=ze (zco w A R hb.size);clear hb;unfold AL at *
    go_wp2
    go_ret;exact⟨_,rfl,HB.o.trans ((zi A _).mono HB.o.size),HO.o⟩
   ·rw[HW.o];go_enter func23,ntmps23
    go_wp2
    go_ret;exact⟨_,rfl,zu _ _,Rb _ _ _ rfl⟩
  obtain⟨k1,k2,k3⟩:=Be i.length (by omega)
  replace G:=G (by omega)
  obtain⟨a,D,e,ae,hc⟩:=id h;obtain⟨b,ag,rfl,-⟩:=hc.resolve_left (λe=>by simp[e]at h1);subst e;clear hc;have J:=jd i;obtain⟨t,M,L⟩:=zx.1 Hf;have HI:=ze M;have hz:t.zero=some (.string ⟨#[]⟩)/\t.size=1/\t.bytes=16:=by simpa using L
  have Y:=ze hz;clear M L hz;have N:yo i.length<=i.length:=by omega
  have ft:=h.take _ N;have fd:=h.drop _ N;have lt:(i.take (yo i.length)).length=yo i.length:=by simp;omega
  have ld:(i.drop (yo i.length)).length=i.length-yo i.length:=by simp
  have u:=λ(U:List ByteArray) (v:Value) (a:U.length<=f) (b:∀s∈U,s.size<maxLen) (c:CT w v U) (F:World) (d:zc w F)=>G7 f v U F a (by omega) b (c.below d);have n2:((m:Int)==(i.length:Int))=false:=yp.2 (by omega);obtain⟨RR,p⟩:∃R,R=EI (f+1) m (A0 i) j:=⟨_,rfl⟩;rw[<- p]
  by_cases hk:m<=yo i.length
  case' pos =>
   rw[Ib f m (A0 i) j (by omega) (by rw[J];exact hk),J]at p;have T:=ze (G _ (i.take (yo i.length)) (m:Int) j w (by omega) (by omega) (by omega) (by omega) (λl h=>E l (qa h)) ft);rw[zz,F3]at T
   replace u:=ze (u (i.drop (yo i.length)) _ (by omega) (λl h=>E l (jz h)) fd)
   rw[Lj]at u;have k:=Kt f m ((A0 i).take (yo i.length)) j;have c4:(m:Int)<=(yo i.length:Int):=by omega
   generalize j7 f ((A0 i).drop (yo i.length))=R at *;generalize EI f m ((A0 i).take (yo i.length)) j=P at *
  case' neg =>
   rw[Gl f m (A0 i) j (by omega) (by rw[J];exact hk),J]at p;have T:=ze (G _ (i.drop (yo i.length)) ((m:Int)-(yo i.length:Int)) false w (by omega) (by omega) (by omega) (by omega) (λl h=>E l (jz h)) fd);rw[show((m:Int)-(yo i.length:Int)).toNat=m-yo i.length by omega,Lj]at T
   replace u:=ze (u (i.take (yo i.length)) _ (by omega) (λl h=>E l (qa h)) ft)
   rw[F3]at u;have k:=Kt f (m-yo i.length) ((A0 i).drop (yo i.length)) false;have c4:¬(m:Int)<=(yo i.length:Int):=by omega
   have c6:IntKind.i64.wrap ((m:Int)-(yo i.length:Int))=(m:Int)-(yo i.length:Int):=by rw[Cw];omega
   generalize j7 f ((A0 i).take (yo i.length))=R at *;generalize EI f (m-yo i.length) ((A0 i).drop (yo i.length)) false=P at *
  all_goals
   have HC:=ze k;have H:Hid (∀wz x,wz.ownsRow w.heap.size 9 1 x (P.length+1) (P.map AL++[.string ⟨R.toArray⟩])->P7 w wz x RR):=λwz x h=>Tf p h;have c1:(yo i.length:Int)<=(D:Int):=by omega
   have c2:(yo i.length:Int)<=(i.length:Int):=by omega
   have c3:(0:Int)<=(yo i.length:Int):=by omega
   have c5:¬D=yo i.length:=by omega
   clear p k E h G J;go_enter func23,ntmps23;go_wp2_with fail;refine(Fk i.length _ (by omega) (by omega)).mono ?_;rintro e F ⟨rfl,hw⟩;rw[hw];clear hw F;go_wp2_with fail;refine T.out.mono ?_;rintro e w1 ⟨y,rfl,K,S⟩;have C:=ze K;have I:Hid (w1.ownsRow w.heap.size 9 1 y P.length (P.map AL)):=S;clear K S;go_wp2_with fail;refine(u.out _ C.o).mono ?_;rintro e A ⟨rfl,z⟩;have q:=ze (C.o.trans (z.mono C.o.size));have W:Hid (∀o,(A.alloc o).ownsRow w.heap.size 9 1 y P.length (P.map AL)):=λo=>yx I.o (z.trans ((zi A o).mono z.size));have ab:Hid (w.heap.size<=A.heap.size):=q.o.size;clear z;unfold AL;go_wp2_with (at_builtin;refine jf _ rfl _ _ _ rfl w.heap.size 9 t (.string ⟨#[]⟩) 1 16 underlying22 HI.o Y.o.1 Y.o.2.1 Y.o.2.2 rfl (by omega) y P.length _ rfl (W.o _) ⟨A.heap.size,0,none⟩ 1 1 [.string ⟨R.toArray⟩] rfl rfl (xm (zf _ _)) (by simp[Value.oneCell']) (by omega) (by have:=HC.o;unfold maxLen;omega) (by have:=HC.o;omega) (by have:=ab.out;simp;omega) (A.heap.size+1) (by simp) ?_;intro g ad w3 B n Z O);have V:Hid (zc w w3):=((q.o.trans ((zi A _).mono q.o.size)).grown n (by have:=q.o.size;simp;omega) (vg I.o));have X:=ze B;clear n Z O B
   go_wp2
   go_ret;exact⟨_,rfl,V.o,H.o _ _ X.o⟩
def VD (w:World)(n:Nat):zc w (w.drewN n):=⟨rfl,rfl,rfl,zk _,λ_ _=>rfl⟩
def Gp (x y:Value)(d:List ByteArray)(w:World)(E:d.length<=1000000)(h:CT w x d)(j:CT w y d):
  Calls prog 22 #[x,y] w λr v=>r=.returned (.bool true)/\zc w v:=by
 obtain⟨a,u,rfl,m,h⟩:=h;obtain⟨b,l,rfl,g,j⟩:=j;have s:=ze h;have t:=ze j;go_enter func22,ntmps22
 go_wp2
 go_loopw [5] (λi wr=>∃k n:Nat,k<=d.length/\i=.int .i64 k/\wr=w.drewN n) (λi _=>d.length-(intOf i).toNat)
 case atStart=>exact⟨0,0,yk _,rfl,rfl⟩
 case round =>
  obtain⟨k,n,D,rfl,rfl⟩:=hrel
  by_cases c:k<d.length
  ·rcases s.o with h0|⟨z,p,rfl,e⟩
   ·simp[h0]at c
   rcases t.o with h0|⟨A,q,rfl,f⟩
   ·simp[h0]at c
   have B:=e k c;have C:=f k c
   go_wp2
   go_quiet (fail)
   go_wp2
   go_roundw
   case rel=>exact⟨k+1,_,by omega,by go_num,rfl⟩
   case measure=>simp[intOf];omega
  ·go_wp2
   go_ret;exact⟨rfl,VD w _⟩
variable {ps:za}{w':World}
def tx (p:zb):ByteArray:=⟨p.toArray⟩
def CT.bl (h:w.ownsRow B 9 1 v ps.length (ps.map AL)):CT w v (ps.map tx):=by
 refine CT.aI (B:=B) ?_;have e:(ps.map tx).map Value.string=ps.map AL:=by simp[tx,AL]
 rw[e,yg];exact h
def FX {a:Addr}(h:w.cell? a=some v)(b:zc w w'):w'.cell? a=some v:=by
 rw[b.cell (p:=a) (yf h)];exact h
def TH (w:World)(n:Int):(w.alloc (.cells #[.int .i64 n,.string ⟨#[]⟩] 39)).cell? ⟨w.heap.size,0,none⟩=some (.int .i64 n):=by
 rw[World.cell?_alloc_at _ _ _ _ rfl];rfl
def zcx (l:Nat->Addr)(v:Value)(b:List ByteArray)(i m:Int)(w:World)(Y:vj w l)(hn:b.length<=maxLen)(hl:∀s∈b,s.size<=maxLen)(h:CT w v b):
  Calls prog 5 #[v,.int .i64 i,.int .i64 m] w λr w'=>r=.returned (.bool true)/\zc w w':=by
 have HF:=ze (GX v b w hn hl h);have H:=ze h;have HS:=ze Y;have HL:=ze hl;obtain⟨a,ag,rfl,R,-⟩:=h;clear R hn Y hl;go_enter func5,ntmps5;go_wp2_with fail;refine HF.o.mono ?_;rintro r w' ⟨rfl,hw⟩;rw[hw];clear hw w' HF;cases hf:Mn b with
 |false =>
  go_wp2
  go_ret;exact⟨rfl,zu _ _⟩
 |true =>
 obtain⟨f1,f2⟩:=JB hf;have J:Hid (∀s∈b,s.size<maxLen):=λs Y=>qw (f2 s Y) (by unfold maxLen;decide);clear f2 hf;go_wp2_with fail;refine(zc9 4096 (by decide) l _ b i w HS.o f1 HL.o H.o).mono ?_;rintro r V ⟨x,P,t,rfl,n,S,N⟩;have G:=ze N;have I:=ze (TH V t);have d:=ze (n.trans ((zi V (.cells #[.int .i64 t,.string ⟨#[]⟩] 39)).mono n.size));have K:=ze ((CT.bl S).below (zi V (.cells #[.int .i64 t,.string ⟨#[]⟩] 39)));clear n S N;unfold IF;go_wp2_with fail;generalize V.alloc (.cells #[.int .i64 t,.string ⟨#[]⟩] 39)=ah at *;refine(zc8 4096 (by decide) l _ b m _ (by exact HS.o.below d.o) f1 HL.o (by exact H.o.below d.o)).mono ?_;rintro r w2 ⟨y,Q,u,rfl,p,T,O⟩;have ab:=ze O;have X:=p.trans ((zi w2 (.cells #[.int .i64 u,.string ⟨#[]⟩] 39)).mono p.size);have g:=ze (d.o.trans (X.mono d.o.size));have C:=TH w2 u;have Z:=FX I.o X;have L:=ze (K.o.below X);have k:=ze ((CT.bl T).below (zi w2 (.cells #[.int .i64 u,.string ⟨#[]⟩] 39)));clear X p T O I K d;unfold IF;generalize V.heap.size=t1 at *;rcases G.o with ⟨⟨D,i1⟩,rfl,hP⟩|⟨ho,rfl,rfl⟩
 case' inl =>
  have hp:=Jk 4096 (A0 b) i.toNat;have h0:¬i<0:=by omega
  have h1:¬(b.length:Int)<=i:=by omega
  have HI:=ze (And.intro D i1);go_wp2_with fail;refine(Tz 4096 (by decide) _ b i _ (by have:=HI.o;omega) f1 HI.o.1 HI.o.2 J.o (by exact H.o.below g.o)).mono ?_;rintro r w4 ⟨z,rfl,c,A⟩;rw[<- hP]at A hp;have HZ:=ze (CT.bl A);have ad:=ze (L.o.below c);have E:=ze (g.o.trans (c.mono g.o.size));have ae:=ze (k.o.below c);have g1:=FX Z c;have W:=FX C c;clear c A Z C hP D i1;go_wp2_with fail;refine(Gp _ _ _ w4 (by rw[yg];omega) ad.o HZ.o).mono ?_;rintro r w5 ⟨rfl,f⟩;have e:=ze (E.o.trans (f.mono E.o.size));have M:=ze (ae.o.below f);have Z:=FX g1 f;have C:=FX W f;clear f g1 W
 case' inr =>
  obtain⟨xa,xc,rfl,-⟩:=id L.o;rw[DQ,jq];have e:=g;have M:=k;have D:i<0\/¬i<0/\(b.length:Int)<=i:=by omega
  clear ho;rcases D with D|⟨D,i1⟩
 all_goals
  clear G;rcases ab.o with ⟨⟨U,m1⟩,rfl,hQ⟩|⟨ho,rfl,rfl⟩
  ·have HM:=ze (And.intro U m1);have hq:=Kt 4096 m.toNat (A0 b) true;have h0:¬m<1:=by omega
   have h1:¬(b.length:Int)<m:=by omega
   have HQ:=ze hQ;clear hQ;go_wp2_with fail;refine(Ty 4096 (by decide) _ b m true _ (by have:=HM.o;omega) f1 (by have:=HM.o;omega) HM.o J.o (by exact H.o.below e.o)).mono ?_;rintro r w6 ⟨z,rfl,j,B⟩;rw[<- HQ.o]at B hq;have HZ:=ze (CT.bl B);have af:=ze (M.o.below j);have F:=ze (e.o.trans (j.mono e.o.size));have W:=FX C j;clear j B C;go_wp2_with fail;refine(Gp _ _ _ w6 (by rw[yg];omega) af.o HZ.o).mono ?_;rintro r w7 ⟨rfl,q⟩;have aa:=ze (F.o.trans (q.mono F.o.size));have C:=FX W q;clear q
   go_wp2
   go_ret;exact⟨rfl,aa.o⟩
  ·obtain⟨ya,yc,rfl,-⟩:=id k.o;rw[DQ,jq];have U:m<1\/¬m<1/\(b.length:Int)<m:=by omega
   clear ho;rcases U with U|⟨U,m1⟩
   all_goals
    go_wp2
    go_ret;exact⟨rfl,e.o⟩
variable {cap off:Nat}{ts:List ByteArray}
def CT.last {b m:Nat}(h:CT w (.slice (some ⟨b,off,none⟩) (m+1) cap) ts)(j:ts.length=m+1):w.cell? ⟨b,off+m,none⟩=some (.string ts[m]):=by
 obtain⟨a,c,e,f,h⟩:=h;rcases h with h|⟨k,g,d,i⟩
 ·simp[h]at j
 ·simp only[jk]at e;obtain⟨rfl,-,-⟩:=e;simp only[zn,Ce]at d;obtain⟨rfl,rfl,-⟩:=d;exact i m (by omega)
abbrev ze1 (a:Array Value)(R:zb×Bool)(w:World):Prop:=
 Calls prog 72 a w λr b=>r=.returned (.tuple #[AL R.1,.bool R.2])/\zc w b
def YP (d:zb)(E:d.length<=8)(f:Nat):∀(i n:Int) (v:Value) (g:List ByteArray) (w:World),0<=i->i<n->n<=9223372036854775807->g.length<f->g.length<=1000000->(∀p∈A0 g,p.length<=8)->CT w v g ->
  ze1 #[AL d,.int .i64 i,.int .i64 n,v] (BF [] f d i.toNat n.toNat (A0 g)) w:=by
 induction f with
 |zero=>exact λi n v g w _ _ _ h=>absurd h (Am _)
 |succ f H =>
 intro i n v g w h0 X hn O t A h;obtain⟨i,rfl⟩:=qc h0;obtain⟨n,rfl⟩:=qc (show 0<=n by omega);rw[zz,zz];unfold ze1
 by_cases K:n=1
 ·subst K;rw[I5,jd];obtain⟨a,j,rfl,-,-⟩:=h;have V:Hid (((g.length:Int)==0)=decide (g.length=0)):=by show _=_;rw[CV];simp
  clear H A O t E;unfold AL;go_enter func72,ntmps72
  go_wp2
  go_ret2
  exact⟨by rw[<- V.o];rfl,zu _ _⟩
 have n1:((n:Int)==1)=false:=yp.2 (by omega)
 by_cases G:g.length=0
 ·rw[Ic _ _ _ _ _ _ K (by rw[jd];exact G)];obtain⟨a,j,rfl,-,-⟩:=h;rw[G];clear H A O t E;unfold AL;go_enter func72,ntmps72
  go_wp2
  go_ret2
  exact⟨rfl,zu _ _⟩
 obtain⟨m,F⟩:∃m,g.length=m+1:=⟨g.length-1,by omega⟩;obtain⟨a,j,e,T,U⟩:=id h;obtain⟨b,D,rfl,-⟩:=U.resolve_left (λe=>G (by simp[e]));subst e;clear U;have s:=Gc (A0 g) m (by rw[jd];exact F) [];have r:(A0 g)[m]'(by rw[jd];omega)=(g[m]).data.toList:=by simp[A0]
 have q:Hid (BF [] (f+1) d i n (A0 g)=if i<yo n then (vf (BF [] f d i (yo n) (A0 (g.take m))).1 (g[m]).data.toList,(BF [] f d i (yo n) (A0 (g.take m))).2) else (vf (g[m]).data.toList (BF [] f d (i-yo n) (n-yo n) (A0 (g.take m))).1,(BF [] f d (i-yo n) (n-yo n) (A0 (g.take m))).2)):=by
  show _=_;rw[BF,if_neg K,if_neg (by rw[jd];exact G),s.1,s.2,<- F3,r]
 have x:Hid ((g[m]).data.toList.length<=8):=r▸A _ (ye (l:=A0 g) (n:=m) (by rw[jd];omega));rw[F]at h;have hx:=h.last F;rw[show Value.string g[m]=AL (g[m]).data.toList by simp[AL]]at hx;have Z:(g.take m).length=m:=by simp;omega
 have J:=ze (λi n w (a:0<=i) (W:i<n) (c:n<=9223372036854775807)=>H i n (.slice (some ⟨b,D,none⟩) m j) (g.take m) w a W c (by omega) (by omega) (λp t=>A p (by rw[F3]at t;exact qa t)));have Q:Hid (CT w (.slice (some ⟨b,D,none⟩) m j) (g.take m)):=h.take m (by omega);obtain⟨k1,k2,k3⟩:=Be n (by omega);have m1:(((m:Int)+1)==0)=false:=yp.2 (by omega);have c1:(m:Int)<=(j:Int):=by omega
 have c2:(m:Int)<(m:Int)+1:=by omega
 have y:=ze E;have Y:m<=1000000:=by omega
 generalize BF [] (f+1) d i n (A0 g)=RR at *;rw[F];clear H h A s r O t E;generalize (g[m]).data.toList=L at *;go_enter func72,ntmps72;go_wp2_with fail;refine(Fk n _ (by omega) (by omega)).mono ?_;rintro e w2 ⟨rfl,P⟩;subst P
 by_cases B:i<yo n
 case' pos =>
  rw[if_pos B]at q;have C:(i:Int)<(yo n:Int):=by omega
  have k:=ze (J.out i (yo n) _ (by omega) (by omega) (by omega) Q.o);have r:=WU [] d (by simp) y.o f i (yo n) (A0 (g.take m));rw[zz,zz]at k;generalize BF [] f d i (yo n) (A0 (g.take m))=R at *
 case' neg =>
  rw[if_neg B]at q;have C:¬(i:Int)<(yo n:Int):=by omega
  have k:=ze (J.out ((i:Int)-(yo n:Int)) ((n:Int)-(yo n:Int)) _ (by omega) (by omega) (by omega) Q.o);have r:=WU [] d (by simp) y.o f (i-yo n) (n-yo n) (A0 (g.take m));rw[show((i:Int)-(yo n:Int)).toNat=i-yo n by omega,show((n:Int)-(yo n:Int)).toNat=n-yo n by omega]at k;generalize BF [] f d (i-yo n) (n-yo n) (A0 (g.take m))=R at *
 all_goals
  clear J;obtain⟨S,R2⟩:=R;have z:=ze r;clear r;go_wp2_with fail;refine k.out.mono ?_;rintro e w3 ⟨rfl,M⟩;have u:=ze M;go_wp2_with fail
  first|refine(E4 S L _ z.o x.o).mono ?_|refine(E4 L S _ x.o z.o).mono ?_
  rintro e w4 ⟨rfl,N⟩;have I:=ze (u.o.trans (N.mono u.o.size))
  go_wp2
  go_ret2
  exact⟨by rw[q.o];rfl,I.o⟩
def Tk (a:zb)(i:Nat)(h:i<a.length)(w:World):(part 5 (hv a) (i*prog.cellsOf 5)).run prog w=.ok (bv a[i]) w:=by
 have b:prog.cellsOf 5=1:=by kernel_rfl
 rw[b,Ba];exact run_part_plain w (by kernel_rfl) (by simp[hv,h])
def zkd (d:Nat)(x y:UInt8)(w:World):(Op.equalIn (d+1) 5 (bv x) (bv y)).run prog w=.ok (decide (x=y)) w:=by
 have e:((x.toNat:Int)==(y.toNat:Int))=decide (x=y):=by
  rw[CV,CY,ja];constructor
  ·intro h;exact UInt8.toNat_inj.1 (by omega)
  ·rintro rfl;rfl
 rw[<- e];unfold bv;simp[Op.equalIn,Cj jc]
def Mx (d:Nat)(a b:zb)(w:World):∀l:List Nat,(∀i∈l,i<a.length/\i<b.length) ->
  (Op.eqItems (d+1) 5 (prog.cellsOf 5) (hv a) (hv b) l).run prog w=.ok (l.all λi=>decide (a[i]?=b[i]?)) w
 |[],_=>by simp[Op.eqItems]
 |i::l,h=>by
  obtain⟨c,f⟩:=h i (by simp);have k:=Mx d a b w l (λj g=>h j (by simp[g]));simp only[Op.eqItems,NW,Tk a i c,Tk b i f,zkd,Vd];have e:decide (a[i]?=b[i]?)=decide (a[i]=b[i]):=by
   rw[zo c,zo f];simp
  rw[List.all_cons,e];cases m:decide (a[i]=b[i])
  ·simp
  ·simp[k]
def zmx (a b:zb)(d:a.length=8)(e:b.length=8):((List.range 8).all λi=>decide (a[i]?=b[i]?))=decide (a=b):=by
 rw[CV];simp only[AW,CH,ja];constructor
 ·intro h;apply List.ext_getElem?;intro i
  by_cases c:i<8
  ·exact h i c
  ·rw[Bc (by omega),Bc (by omega)]
 ·rintro rfl i _;rfl
def Kh (a b:zb):Bool:=decide (a=b)
def Ln (a b:zb)(e:a.length=8)(f:b.length=8)(w:World):
  (binOp .eql 91 (.agg (hv a)) (.agg (hv b))).run prog w=.ok (.bool (Kh a b)) w:=by
 unfold Kh;have h:∃i,prog.info? 5=some i:=by
  have:(prog.info? 5).map (·.size)=some 1:=by kernel_rfl
  obtain⟨i,c,_⟩:=zx.1 this;exact⟨i,c⟩
 obtain⟨i,c⟩:=h;simp only[binOp];have d:=run_equalIn_array (P:=prog) w 9999 (hv a) (hv b) underlying91 c;rw[Mx 9998 a b w _ (λj g=>by simp at g;omega),zmx a b e f]at d;simp[Op.equal,Op.maxDepth,d]
end Go.Proofs.YtfdbeldiomkdiaaGreatDoor
