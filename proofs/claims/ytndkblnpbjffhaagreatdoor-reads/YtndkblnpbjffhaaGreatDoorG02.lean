import Derived.Test.YtndkblnpbjffhaaGreatDoorG01
set_option maxHeartbeats 1000000
set_option maxRecDepth 100000
open Go.RowKit
namespace Go.Proofs.YtndkblnpbjffhaaGreatDoor
structure Dk where
 fs:Fs
 calls:Int
 failAt:Int
 dead:Bool
 once:Bool
 half:Bool
 hit:Bool
 turned:Bool
def zoy (d:Dk):Int:=wrap64 (d.calls+1)
def xp (d:Dk):Int:=if d.dead then 2 else if 0 < d.failAt∧zoy d=d.failAt then (if d.half then 1 else 2) else 0
def yg (d:Dk):Dk:=if d.dead then { d with calls:=zoy d } else if 0 < d.failAt∧zoy d=d.failAt then { d with calls:=zoy d,dead:=!d.once,hit:=true } else { d with calls:=zoy d }
def zh9 (d:Dk)(p x:List UInt8):Bool:=match yp d.fs p with
 | some y=>if y=x then decide (0 < xp d) else true
 | none=>decide (0 < xp d)
def za8 (d:Dk)(p x:List UInt8):Dk:=match yp d.fs p with
 | some y=>if y=x then (if xp d < 2 then { yg d with fs:=zan d.fs p x } else yg d) else { yg d with turned:=true }
 | none=>if xp d < 2 then { yg d with fs:=zan d.fs p x } else yg d
def zdl (d:Dk)(p x:List UInt8):Dk:=if xp d < 2 then { yg d with fs:=zan d.fs p x } else yg d
def bad (d:Dk):Bool:=decide (0 < xp d)
def zia (d:Dk):Prop:=d.dead=false∧d.hit=false
theorem yi (d:Dk):(yg d).fs=d.fs:=by unfold yg;split<;>(try split)<;>rfl
theorem zap (d:Dk):(yg d).turned=d.turned:=by unfold yg;split<;>(try split)<;>rfl
def tk (d:Dk):Bool×Int×Bool×Bool:=(d.turned,d.failAt,decide (d.failAt=0)&&d.dead,decide (d.failAt=0)&&d.hit)
theorem zh7 (d:Dk):tk (yg d)=tk d:=by
 unfold yg tk
 split
 ·rfl
 ·split
  ·rename_i h;have:¬ d.failAt=0:=by omega
   simp [this]
  ·rfl
theorem zo1 {d e:Dk}(h:tk d=tk e):d.turned=e.turned:=congrArg Prod.fst h
theorem zhv (d:Dk):0≤xp d∧xp d≤2:=by
 unfold xp
 split
 ·omega
 ·split
  ·split<;>omega
  ·omega
theorem zf0 {d:Dk}(h:zia d):(xp d=0∧zia (yg d))∨(0 < xp d∧(yg d).hit=true):=by
 unfold xp yg zia at *
 rw [h.1];simp only [Bool.false_eq_true,if_false]
 split
 ·refine .inr ⟨?_,rfl⟩
  split<;>omega
 ·exact .inl ⟨rfl,rfl,h.2⟩
def cpF:List UInt8:=[99,104,101,99,107,112,111,105,110,116]
def zd6 (xd:Fs)(c:List UInt8)(fs h:Fs):Prop :=
 ∀ q,yp h q=yp fs q∨(yp fs q=none∧∃ x,(q,x)∈xd∧yp h q=some x)∨(q=cpF∧yp h q=some c)
theorem zd6.refl (xd:Fs)(c:List UInt8)(fs:Fs):zd6 xd c fs fs:=fun _=> .inl rfl
theorem zd6.trans {xd:Fs}{c:List UInt8}{f g h:Fs}(a:zd6 xd c f g)(b:zd6 xd c g h):zd6 xd c f h:=by
 intro q;rcases a q with a | ⟨D,x,E,a⟩ | ⟨rfl,a⟩
 ·rcases b q with b | ⟨r,y,A,b⟩ | b
  ·exact .inl (b.trans a)
  ·exact .inr (.inl ⟨a▸r,y,A,b⟩)
  ·exact .inr (.inr b)
 ·rcases b q with b | ⟨r,y,A,b⟩ | b
  ·exact .inr (.inl ⟨D,x,E,b.trans a⟩)
  ·rw [a] at r;simp at r
  ·exact .inr (.inr b)
 ·rcases b cpF with b | ⟨r,y,A,b⟩ | b
  ·exact .inr (.inr ⟨rfl,b.trans a⟩)
  ·rw [a] at r;simp at r
  ·exact .inr (.inr b)
def za9 (fs xd:Fs):Prop:=∀ q x,(q,x)∈xd→yp fs q=none∨yp fs q=some x
def zzv (xd:Fs):Prop:=(∀ q x y,(q,x)∈xd→(q,y)∈xd→x=y)∧∀ x,(cpF,x)∉xd
theorem za9.went {xd:Fs}{c:List UInt8}{fs r:Fs}(D:zzv xd)(h:za9 fs xd)(w:zd6 xd c fs r):za9 r xd:=by
 intro q x A;rcases w q with e | ⟨_,y,E,e⟩ | ⟨rfl,_⟩
 ·rw [e];exact h q x A
 ·rw [e,D.1 q x y A E];exact .inr rfl
 ·exact absurd A (D.2 x)
theorem zrs {xd:Fs}{c:List UInt8}{fs:Fs}{p x:List UInt8}(h:za9 fs xd)(r:(p,x)∈xd):zd6 xd c fs (zan fs p x):=by
 intro q;rw [ztd]
 split
 ·rename_i e;subst e;rcases h q x r with h | h
  ·exact .inr (.inl ⟨h,x,r,rfl⟩)
  ·exact .inl h.symm
 ·exact .inl rfl
theorem zpd (xd:Fs)(c:List UInt8)(fs:Fs):zd6 xd c fs (zan fs cpF c):=by
 intro q;rw [ztd]
 split
 ·rename_i e;exact .inr (.inr ⟨e,rfl⟩)
 ·exact .inl rfl
theorem zd6.stays {xd:Fs}{c:List UInt8}{fs r:Fs}(w:zd6 xd c fs r){q x:List UInt8}(h:yp fs q=some x)(A:q≠cpF):yp r q=some x:=by
 rcases w q with e | ⟨h0,_⟩ | ⟨e,_⟩
 ·rw [e];exact h
 ·rw [h] at h0;simp at h0
 ·exact absurd e A
def qy:Fs→Dk→Option (List UInt8) ×Dk
 | [],d=>(none,d)
 | f::r,d=>if zh9 d f.1 f.2 then (some f.1,za8 d f.1 f.2) else qy r (za8 d f.1 f.2)
def vj (xr:Fs)(c:List UInt8)(d:Dk):Option (List UInt8)×Dk:=match qy xr d with
 | (some p,d1)=>(some p,d1)
 | (none,d1)=>if bad d1 then (some cpF,zdl d1 cpF c) else (none,zdl d1 cpF c)
theorem zfu (a b:Fs)(d:Dk):qy (a++b) d=match qy a d with
  | (some p,d1)=>(some p,d1)
  | (none,d1)=>qy b d1:=by
 induction a generalizing d with
 | nil=>rfl
 | cons f r ih =>
  simp only [List.cons_append,qy]
  split
  ·rfl
  ·exact ih _
theorem z7f {xd:Fs}{c:List UInt8}{d:Dk}{p x:List UInt8}(I:zia d)(A:za1 d.fs)(D:d.turned=false)(h:za9 d.fs xd)(r:(p,x)∈xd):
  za1 (za8 d p x).fs∧(za8 d p x).turned=false∧zd6 xd c d.fs (za8 d p x).fs∧((zh9 d p x=false∧zia (za8 d p x)∧yp (za8 d p x).fs p=some x)∨(zh9 d p x=true∧(za8 d p x).hit=true)):=by
 have H:zh9 d p x=decide (0 < xp d):=by
  unfold zh9;rcases h p x r with e | e<;>rw [e];simp
 have E:za8 d p x=if xp d < 2 then { yg d with fs:=zan d.fs p x } else yg d:=by
  unfold za8;rcases h p x r with e | e<;>rw [e];simp
 rw [H,E];rcases zf0 I with ⟨h0,h1⟩ | ⟨h0,h1⟩
 ·rw [if_pos (by omega),h0];exact⟨A.set p x,by simpa [zap] using D,zrs h r,.inl ⟨rfl,h1,ze5 _ _ _⟩⟩
 ·have J:decide (0 < xp d)=true:=by simpa using h0
  rw [J]
  split
  ·exact⟨A.set p x,by simpa [zap] using D,zrs h r,.inr ⟨rfl,h1⟩⟩
  ·exact⟨by rw [yi];exact A,by rw [zap];exact D,by rw [yi];exact zd6.refl _ _ _,.inr ⟨rfl,h1⟩⟩
theorem zo8 {xd:Fs}{c:List UInt8}(D:zzv xd):∀(xr:Fs) (d:Dk),zia d→za1 d.fs→d.turned=false→za9 d.fs xd→(∀ f∈xr,f∈xd) →
  za1 (qy xr d).2.fs∧(qy xr d).2.turned=false∧zd6 xd c d.fs (qy xr d).2.fs ∧
   (((qy xr d).1=none∧zia (qy xr d).2∧∀ f∈xr,yp (qy xr d).2.fs f.1=some f.2)∨(∃ p x,(qy xr d).1=some p∧(p,x)∈xd∧(qy xr d).2.hit=true))
 | [],d,hc,ha,ht,_,_=>⟨ha,ht,zd6.refl _ _ _,.inl ⟨rfl,hc,fun f h=>by simp at h⟩⟩
 | f::r,d,hc,ha,ht,hn,hs=>by
  have E:(f.1,f.2)∈xd:=hs f (by simp);obtain⟨I,J,H,h1⟩:=z7f (c:=c) hc ha ht hn E;unfold qy;rcases h1 with ⟨e,Q,U⟩ | ⟨e,h1⟩
  ·rw [if_neg (by rw [e];simp)];obtain⟨L,W,K,h2⟩:=zo8 D r (za8 d f.1 f.2) Q I J (hn.went D H) (fun g A=>hs g (by simp [A]));refine⟨L,W,H.trans K,?_⟩;rcases h2 with ⟨S,R,V⟩ | h2
   ·refine .inl ⟨S,R,fun g A=>?_⟩;rcases List.mem_cons.1 A with rfl | A
    ·exact K.stays U (fun e=>D.2 g.2 (by rw [← e];exact E))
    ·exact V g A
   ·exact .inr h2
  ·rw [if_pos e];exact⟨I,J,H,.inr ⟨f.1,f.2,rfl,E,h1⟩⟩
theorem zym {xd xr:Fs}{c:List UInt8}{d:Dk}(I:zzv xd)(S:zia d)(R:za1 d.fs)(V:d.turned=false)(U:za9 d.fs xd)(J:∀ f∈xr,f∈xd):
  za1 (vj xr c d).2.fs∧(vj xr c d).2.turned=false∧zd6 xd c d.fs (vj xr c d).2.fs ∧
   (((vj xr c d).1=none∧zia (vj xr c d).2∧yp (vj xr c d).2.fs cpF=some c∧∀ f∈xr,yp (vj xr c d).2.fs f.1=some f.2) ∨
    ((∃ p,(vj xr c d).1=some p∧(p=cpF∨∃ x,(p,x)∈xd))∧(vj xr c d).2.hit=true)):=by
 obtain⟨A,E,H,h1⟩:=zo8 (c:=c) I xr d S R V U J;unfold vj;generalize qy xr d=r at *
 obtain⟨o,h⟩:=r;simp only at A E H h1;rcases h1 with ⟨rfl,K,X⟩ | ⟨p,x,rfl,W,h1⟩
 ·simp only;have Q:zdl h cpF c=if xp h < 2 then { yg h with fs:=zan h.fs cpF c } else yg h:=rfl
  have L:bad h=decide (0 < xp h):=rfl;rw [L,Q];rcases zf0 K with ⟨h0,h2⟩ | ⟨h0,h2⟩
  ·rw [if_neg (by simp [h0]),if_pos (by omega)];refine⟨A.set _ _,by simpa [zap] using E,H.trans (zpd _ _ _),.inl ⟨rfl,h2,ze5 _ _ _,fun f D=>?_⟩⟩;simp only;rw [zg5]
   ·exact X f D
   ·exact fun e=>I.2 f.2 (by rw [← e];exact J f D)
  ·rw [if_pos (by simpa using h0)];simp only
   split
   ·exact⟨A.set _ _,by simpa [zap] using E,H.trans (zpd _ _ _),.inr ⟨⟨_,rfl,.inl rfl⟩,h2⟩⟩
   ·exact⟨by rw [yi];exact A,by rw [zap];exact E,by rw [yi];exact H,.inr ⟨⟨_,rfl,.inl rfl⟩,h2⟩⟩
 ·exact⟨A,E,H,.inr ⟨⟨p,rfl,.inr ⟨x,W⟩⟩,h1⟩⟩
def zat (h xd:Fs):Bool:=xd.any fun f=>match yp h f.1 with
 | some y=>decide (y≠f.2)
 | none=>false
def zic (h after xd:Fs)(c:List UInt8):Bool :=
 (h.all fun f=>match yp after f.1 with
  | some y=>decide (y=f.2)||(decide (f.1=cpF)&&decide (y=c))
  | none=>false) &&
 (after.all fun f=>match yp h f.1 with
  | some _=>true
  | none=>(match yp xd f.1 with | some y=>decide (f.2=y) | none=>false)||(decide (f.1=cpF)&&decide (f.2=c)))
def zcr (after xd:Fs):Bool:=xd.all fun f=>match yp after f.1 with
 | some y=>decide (y=f.2)
 | none=>false
theorem zqb {r xd:Fs}(h:zat r xd=false):za9 r xd:=by
 intro q x A;unfold zat at h;rw [List.any_eq_false] at h;have:=h (q,x) A;simp only at this;cases e:yp r q with
 | none=>exact .inl rfl
 | some y=>rw [e] at this;simp at this;rw [this];exact .inr rfl
theorem zxf {b a fs r xd:Fs}{c:List UInt8}(I:b.Perm fs)(H:a.Perm r)(h1:za1 fs)(h2:za1 r)(K:zzv xd)(w:zd6 xd c fs r):zic b a xd c=true:=by
 have lb:=zc2 h1 I;have L:=zc2 h2 H;unfold zic;rw [Bool.and_eq_true,List.all_eq_true,List.all_eq_true];refine⟨fun f A=>?_,fun f A=>?_⟩
 ·have e:yp fs f.1=some f.2:=zhd h1 (I.mem_iff.1 A);rw [L];rcases w f.1 with h | ⟨h0,_⟩ | ⟨E,h⟩
  ·rw [h,e];simp
  ·rw [e] at h0;simp at h0
  ·rw [h];simp [E]
 ·have e:yp r f.1=some f.2:=zhd h2 (H.mem_iff.1 A);rw [lb];rcases w f.1 with h | ⟨h0,x,J,h⟩ | ⟨E,h⟩
  ·rw [← h,e]
  ·rw [h0];rw [e] at h;obtain D:f.2=x:=by simpa using h
   have:yp xd f.1=some x:=by
    cases e2:yp xd f.1 with
    | none=>exact absurd rfl (zo6.1 e2 (f.1,x) J)
    | some y=>rw [K.1 f.1 y x (zjb e2) J]
   simp [this,D]
  ·rw [e] at h;obtain D:f.2=c:=by simpa using h
   cases yp fs f.1<;>simp [E,D]
theorem zr6 {a r xd:Fs}(A:a.Perm r)(h2:za1 r)(h:∀ f∈xd,yp r f.1=some f.2):zcr a xd=true:=by
 unfold zcr;rw [List.all_eq_true];intro f D;rw [zc2 h2 A,h f D];simp
def txv (l:List UInt8):Value:= .string ⟨l.toArray⟩
def yw (fs:Fs):List Value:=fs.flatMap fun f=>[txv f.1,txv f.2]
def zcv (h:Value)(d:Dk):Array Value:=#[h,.int .i64 d.calls,.int .i64 d.failAt,.bool d.dead,.bool d.once,.bool d.half,.bool d.hit,.bool d.turned]
def zq (w:World)(O:Nat→Prop)(b:Nat)(d:Dk):Prop :=
 ∃ h,O b∧w.heap[b]?=some (.cells (zcv h d) 64 (0,0))∧w.ownsRow 0 51 2 h d.fs.length (yw d.fs)∧∀ g,h.ownBlock=some g→O g
def vr (b:Nat):Value:= .pointer (some ⟨b,0,none⟩)
abbrev dT1:List Nat:=[64]
abbrev dT:List Nat:=[64,51]
theorem zf {w:World}{b:Nat}{t:TypeId}{cs:Array Value}(h:w.heap[b]?=some (.cells cs t (0,0))):∀ i v,cs[i]?=some v→w.cell? ⟨b,i,none⟩=some v∧w.frozen? ⟨b,i,none⟩=false:=by
 intro i v hv;refine⟨by rw [cell_of_row _ _ _ _ _ _ h];exact hv,by simp [World.frozen?,h]⟩
theorem qo {w:World}{b:Nat}{t:TypeId}{cs:Array Value}(h:w.heap[b]?=some (.cells cs t (0,0)))(i:Nat)(v:Value):(w.setCell ⟨b,i,none⟩ v).heap[b]?=some (.cells (cs.setIfInBounds i v) t (0,0)):=heap_setCell_same w b i cs t v h
theorem zep {w:World}{b:Nat}{r:Value}{d:Dk}(h:w.heap[b]?=some (.cells (zcv r d) 64 (0,0))):(w.cell? ⟨b,0,none⟩=some r∧w.frozen? ⟨b,0,none⟩=false)∧(w.cell? ⟨b,1,none⟩=some (.int .i64 d.calls)∧w.frozen? ⟨b,1,none⟩=false)∧(w.cell? ⟨b,2,none⟩=some (.int .i64 d.failAt)∧w.frozen? ⟨b,2,none⟩=false)∧(w.cell? ⟨b,3,none⟩=some (.bool d.dead)∧w.frozen? ⟨b,3,none⟩=false)∧(w.cell? ⟨b,4,none⟩=some (.bool d.once)∧w.frozen? ⟨b,4,none⟩=false)∧(w.cell? ⟨b,5,none⟩=some (.bool d.half)∧w.frozen? ⟨b,5,none⟩=false)∧(w.cell? ⟨b,6,none⟩=some (.bool d.hit)∧w.frozen? ⟨b,6,none⟩=false)∧(w.cell? ⟨b,7,none⟩=some (.bool d.turned)∧w.frozen? ⟨b,7,none⟩=false) :=
 ⟨zf h 0 _ rfl,zf h 1 _ rfl,zf h 2 _ rfl,zf h 3 _ rfl,zf h 4 _ rfl,zf h 5 _ rfl,zf h 6 _ rfl,zf h 7 _ rfl⟩
theorem zq.turn {w w':World}{O O':Nat→Prop}{b:Nat}{d A:Dk}{r:Value}(E:∀ k,O k→O' k)(h:O b)(J:w.ownsRow 0 51 2 r d.fs.length (yw d.fs))(K:∀ g,r.ownBlock=some g→O g)
  (L:zg O dT1 w w') (H:w'.heap[b]?=some (.cells (zcv r A) 64 (0,0))) (I:A.fs=d.fs):zq w' O' b A :=
 ⟨r,E b h,H,by rw [I];exact zi J L (by decide),fun g D=>E g (K g D)⟩
theorem zq.stay {w w':World}{O O1:Nat→Prop}{T:List Nat}{b:Nat}{d:Dk}(h:zq w O b d)(r:zg O1 T w w')(h1:64∉T)(h2:51∉T):zq w' O b d:=by
 obtain⟨A,a,D,E,H⟩:=h;exact⟨A,a,r.keep D h1,zi E r h2,H⟩
theorem zq.mono {w:World}{O O':Nat→Prop}{b:Nat}{d:Dk}(h:zq w O b d)(r:∀ k,O k→O' k):zq w O' b d:=by
 obtain⟨A,a,D,E,H⟩:=h;exact⟨A,r b a,D,E,fun g e=>r g (H g e)⟩
theorem z3j (O:Nat→Prop)(b:Nat)(d:Dk)(w:World)(h:zq w O b d):
  Calls Tryz.prog 16 #[vr b] w fun r w'=>r= .returned (.tuple #[])∧zg O dT1 w w'∧zq w' O b { d with failAt:=0,dead:=false,hit:=false }:=by
 obtain⟨fv,A,D,H,I⟩:=h;obtain⟨⟨U,f0⟩,⟨V,f1⟩,⟨W,f2⟩,⟨X,f3⟩,⟨Y,f4⟩,⟨Z,f5⟩,⟨c6,f6⟩,⟨c7,f7⟩⟩:=zep D;have E:=za D;have K:=za H;have L:=za I;clear D H I;unfold vr;go_enter Tryz.func16,Tryz.ntmps16;go_wp2_with fail;go_end0;have R:=(zg.refl O dT1 w).set (o:=2) (.inl A) E.o (by decide) (.int .i64 0);have h1:=qo E.o 2 (.int .i64 0);have S:=R.set (o:=3) (.inl A) h1 (by decide) (.bool false);have h2:=qo h1 3 (.bool false);have J:=S.set (o:=6) (.inl A) h2 (by decide) (.bool false);have Q:=qo h2 6 (.bool false);exact⟨rfl,J,zq.turn (d:=d) (fun _ h=>h) A K.o L.o J Q rfl⟩
theorem z7n (O:Nat→Prop)(b:Nat)(d:Dk)(w:World)(h:zq w O b d):
  Calls Tryz.prog 55 #[vr b] w fun r w'=>r= .returned (.bool d.hit)∧w'=w:=by
 obtain⟨fv,hO,A,D,E⟩:=h;obtain⟨⟨H,U⟩,⟨I,V⟩,⟨J,W⟩,⟨K,X⟩,⟨L,Y⟩,⟨Q,Z⟩,⟨R,f6⟩,⟨S,f7⟩⟩:=zep A;clear A D E;unfold vr;go_enter Tryz.func55,Tryz.ntmps55;go_wp2_with fail;go_ret;exact⟨rfl,rfl⟩
theorem zkh (O:Nat→Prop)(b:Nat)(d:Dk)(w:World)(h:zq w O b d):
  Calls Tryz.prog 263 #[vr b] w fun r w'=>r= .returned (.int .i64 (xp d))∧zg O dT1 w w'∧zq w' O b (yg d):=by
 obtain⟨fv,E,R,hf,hg⟩:=h;obtain⟨⟨c0,f0⟩,⟨c1,f1⟩,⟨c2,f2⟩,⟨Y,f3⟩,⟨c4,f4⟩,⟨Z,f5⟩,⟨c6,f6⟩,⟨c7,f7⟩⟩:=zep R;have K:=za hf;have L:=za hg;unfold vr;obtain⟨c,hc⟩:∃ c,wrap64 (d.calls+1)=c:=⟨_,rfl⟩
 have U:Hid (zoy d=c):=hc;have H:=za ((zg.refl O dT1 w).set (o:=1) (.inl E) R (by decide) (.int .i64 c));have h1:=za (qo R 1 (.int .i64 c));clear R hf hg;cases hd:d.dead with
 | true =>
  rw [hd] at Y;have A:Hid (xp d=2∧yg d={ d with calls:=c }):=by unfold xp yg;rw [hd,U.o];exact⟨rfl,rfl⟩
  clear hd;go_enter Tryz.func263,Tryz.ntmps263;go_wp2_with fail;go_ret;refine⟨by rw [A.o.1];rfl,H.out,?_⟩;rw [A.o.2];exact zq.turn (d:=d) (fun _ h=>h) E K.o L.o H.out h1.out rfl
 | false =>
  rw [hd] at Y;have I:∀ n,Hid (((w.setCell ⟨b,1,none⟩ (.int .i64 c)).drewN n).heap[b]?=some (.cells ((zcv fv d).setIfInBounds 1 (.int .i64 c)) 64 (0,0))):=fun _=>h1.out;by_cases D:0 < d.failAt∧c=d.failAt
  ·have A:Hid (xp d=(if d.half then 1 else 2)∧yg d={ d with calls:=c,dead:=!d.once,hit:=true }):=by
    unfold xp yg;rw [hd,U.o];simp only [Bool.false_eq_true,if_false,if_pos D];exact⟨trivial,trivial⟩
   obtain⟨W,p1⟩:=D;have q1:(c==d.failAt)=true:=by simp [p1]
   clear hd p1;cases hh:d.half with
   | true =>
    rw [hh] at Z A;have S:=za hh;clear hh;go_enter Tryz.func263,Tryz.ntmps263;go_wp2_with fail;go_quiet (fail);go_wp2_with fail;go_ret;have X:=(H.out.drewN nq).set (o:=3) (.inl E) (I nq).out (by decide) (.bool !d.once);have h2:=qo (I nq).out 3 (.bool !d.once);have Q:=X.set (o:=6) (.inl E) h2 (by decide) (.bool true);have V:=qo h2 6 (.bool true);refine⟨by rw [A.o.1];rfl,Q,?_⟩;rw [A.o.2];refine zq.turn (d:=d) (fun _ h=>h) E K.o L.o Q ?_ rfl;rw [V];simp only [zcv,S.o];rfl
   | false =>
    rw [hh] at Z A;have S:=za hh;clear hh;go_enter Tryz.func263,Tryz.ntmps263;go_wp2_with fail;go_quiet (fail);go_wp2_with fail;go_ret;have X:=(H.out.drewN nq).set (o:=3) (.inl E) (I nq).out (by decide) (.bool !d.once);have h2:=qo (I nq).out 3 (.bool !d.once);have Q:=X.set (o:=6) (.inl E) h2 (by decide) (.bool true);have V:=qo h2 6 (.bool true);refine⟨by rw [A.o.1];rfl,Q,?_⟩;rw [A.o.2];refine zq.turn (d:=d) (fun _ h=>h) E K.o L.o Q ?_ rfl;rw [V];simp only [zcv,S.o];rfl
  ·have A:Hid (xp d=0∧yg d={ d with calls:=c }):=by
    unfold xp yg;rw [hd,U.o];simp only [Bool.false_eq_true,if_false,if_neg D];exact⟨trivial,trivial⟩
   have J:=za hd;clear hd;by_cases W:0 < d.failAt
   ·have q1:(c==d.failAt)=false:=by
     rw [beq_eq_false_iff_ne];exact fun e=>D ⟨W,e⟩
    clear D;go_enter Tryz.func263,Tryz.ntmps263;go_wp2_with fail;go_quiet (fail);go_wp2_with fail;go_ret;refine⟨by rw [A.o.1];rfl,H.out.drewN nq,?_⟩;rw [A.o.2];refine zq.turn (d:=d) (fun _ h=>h) E K.o L.o (H.out.drewN nq) ?_ rfl;rw [(I nq).out];simp only [zcv,J.o];rfl
   ·have q0:decide (0 < d.failAt)=false:=by simp;omega
    clear D W;go_enter Tryz.func263,Tryz.ntmps263;go_wp2_with fail;go_quiet (fail);go_wp2_with fail;go_ret;refine⟨by rw [A.o.1];rfl,H.out.drewN nq,?_⟩;rw [A.o.2];refine zq.turn (d:=d) (fun _ h=>h) E K.o L.o (H.out.drewN nq) ?_ rfl;rw [(I nq).out];simp only [zcv,J.o];rfl
theorem z7z {k:IntKind}{a b:Int}(h:a=b):Ending.returned (.int k a)= .returned (.int k b):=by rw [h]
theorem ztr (n:Int)(l:List UInt8)(k:Nat)(h:k < l.length):fnv n (l.take (k+1))=st (fnv n (l.take k)) l[k].toNat:=by
 rw [List.take_succ_eq_append_getElem h,z2z]
theorem z5d (n:Int)(v:Value)(l:List UInt8)(w:World)(H:l.length≤maxLen)(h0:0≤n)(h1:n≤18446744073709551615)(hv:Bs w v l):
  Calls Tryz.prog 111 #[.int .u64 n,v] w fun e w'=>e= .returned (.int .u64 (fnv n l))∧w'=w:=by
 unfold maxLen at H;obtain⟨a,K,rfl,hv⟩:=hv;have D:l.length=0∨∃ b r,a=some ⟨b,r,none⟩∧∀ i (h:i < l.length),w.cell? ⟨b,r+i,none⟩=some (bv l[i]):=by
  rcases hv with h | h
  ·exact .inl (by simp [h])
  ·exact .inr h
 clear hv;have E:=za D;clear D;go_enter Tryz.func111,Tryz.ntmps111;go_wp2
 go_loop [0,9] (fun t i=>∃ k:Nat,k≤l.length∧i= .int .i64 k∧t= .int .u64 (fnv n (l.take k))) (fun _ i=>l.length - (intOf i).toNat)
 case atStart=>exact⟨0,Nat.zero_le _,rfl,rfl⟩
 case round =>
  obtain⟨k,Q,rfl,rfl⟩:=hrel;obtain⟨S,U⟩:=zkv n (l.take k) h0 h1;by_cases A:k < l.length
  ·rcases E.o with h | ⟨b,r,rfl,I⟩
   ·omega
   ·have R:w.cell? ⟨b,r+k,none⟩=some (.int .u8 (l[k].toNat)):=I k A;have L:(l[k].toNat:Int)≤255:=by have:=l[k].toNat_lt;omega
    have J:=za (ztr n l k A);clear I E;generalize l[k].toNat=z at *
    generalize fnv n (l.take k)=m at *
    go_wp2;go_round
    case rel=>exact⟨k+1,by omega,by go_num,by rw [J.o];rfl⟩
    case measure=>simp [intOf];omega
  ·clear E;go_wp2;go_ret;exact⟨z7z (by rw [List.take_of_length_le (by omega)]),rfl⟩
theorem z28 (n:Int)(w:World)(h0:0≤n)(h1:n≤18446744073709551615):
  Calls Tryz.prog 92 #[.int .u64 n] w fun e w'=>e= .returned (.agg (hv (zj8 n)))∧Below w.heap.size w w':=by
 have h:=za (zx7 n h0 h1);go_enter Tryz.func92,Tryz.ntmps92;go_wp2;refine wp_loop_rounds 9 ?_;rw [rounds_succ];go_wp2;rw [rounds_succ];go_wp2;rw [rounds_succ];go_wp2;rw [rounds_succ];go_wp2;rw [rounds_succ];go_wp2;rw [rounds_succ];go_wp2;rw [rounds_succ];go_wp2;rw [rounds_succ];go_wp2;rw [rounds_succ];go_wp2;refine bodyPost_ret (v:= .agg #[.int .u8 (n / 72057594037927936),.int .u8 (n / 281474976710656 % 256),.int .u8 (n / 1099511627776 % 256),.int .u8 (n / 4294967296 % 256),.int .u8 (n / 16777216 % 256),.int .u8 (n / 65536 % 256),.int .u8 (n / 256 % 256),.int .u8 (n % 256)]) (by simp [results,Tryz.results92,go_sem]) rfl ⟨by rw [h.o],((Below.refl _ _).alloc (Nat.le_refl _) _).alloc (by simp) _⟩
theorem z55 (n:Int)(r:List (List UInt8))(k:Nat)(h:k < r.length):fnv n (r.take (k+1)).flatten=fnv (fnv n (r.take k).flatten) r[k]:=by
 rw [List.take_succ_eq_append_getElem h,List.flatten_append,zmw];simp
theorem zgd (v:Value)(r:List (List UInt8))(w:World)(R:r.length≤maxLen)(Z:∀ l∈r,l.length≤maxLen)(I:Bss w v r):
  Calls Tryz.prog 68 #[v] w fun e w'=>e= .returned (.agg (hv (hash r.flatten)))∧Below w.heap.size w w':=by
 unfold maxLen at R;have Hb:=za I;have Hl:=za Z;clear Z;obtain⟨a,aa,rfl,ac,J⟩:=I;have K:r.length=0∨∃ b A,a=some ⟨b,A,none⟩∧∀ i (h:i < r.length),∃ x,w.cell? ⟨b,A+i,none⟩=some x∧Bs w x r[i]:=by
  rcases J with h | h
  ·exact .inl (by simp [h])
  ·exact .inr h
 have V:=za K;clear J K;go_enter Tryz.func68,Tryz.ntmps68;go_wp2
 go_loop [3,8] (fun t i=>∃ k:Nat,k≤r.length∧i= .int .i64 k∧t= .int .u64 (fnv j6 (r.take k).flatten)) (fun _ i=>r.length - (intOf i).toNat)
 case atStart=>exact⟨0,Nat.zero_le _,rfl,rfl⟩
 case round =>
  obtain⟨k,hk,rfl,rfl⟩:=hrel;obtain⟨r0,r1⟩:=zkv j6 (r.take k).flatten zb6.1 zb6.2;by_cases D:k < r.length
  ·rcases V.o with h | ⟨b,A,rfl,X⟩
   ·omega
   ·obtain⟨x,S,E⟩:=X k D;have hz:∀ o,(w.alloc o).cell? ⟨b,A+k,none⟩=some x:=fun o=>by rw [((Below.refl _ _).alloc (Nat.le_refl _) o:Below w.heap.size w (w.alloc o)).cell (zk (p:=⟨b,A+k,none⟩) S)];exact S
    have Q:Hid (∀ o,Bs (w.alloc o) x r[k]):=fun o=>E.below ((Below.refl _ _).alloc (Nat.le_refl _) o);have HS:=za (z55 j6 r k D);have L:=za (Hl.o r[k] (List.getElem_mem D));clear X V E S;generalize r[k]=lk at *
    generalize fnv j6 (r.take k).flatten=m at *
    go_wp2_with fail;refine(z5d m x lk _ L.o r0 r1 (Q.out _)).mono ?_;rintro e w' ⟨rfl,rfl⟩;go_wp2_with fail;go_round
    case rel=>exact⟨k+1,by omega,by go_num,by rw [HS.o]⟩
    case measure=>simp [intOf];omega
  ·have H:r.take k=r:=List.take_of_length_le (by omega);have Hk:=za H;clear H;go_wp2_with fail;refine(z28 _ _ r0 r1).mono ?_;rintro e w' ⟨rfl,W⟩;have Y:w'.heap[w.heap.size]?=some (.cells #[Value.int IntKind.u8 0,Value.int IntKind.u8 0,Value.int IntKind.u8 0,Value.int IntKind.u8 0,Value.int IntKind.u8 0,Value.int IntKind.u8 0,Value.int IntKind.u8 0,Value.int IntKind.u8 0] 92 (0,0)):=by
    rw [W.block _ (by simp)];exact heap_alloc_last _ _
   have U:=za Y;clear Y;go_wp2_with (refine wpList_store_row rfl 92 _ _ rfl w.heap.size (hv (zj8 (fnv j6 (List.take k r).flatten))) rfl rfl 92 _ U.o (by kernel_rfl) rfl (jy _) ?_);refine bodyPost_ret (v:= .agg (hv (zj8 (fnv j6 (List.take k r).flatten)))) (results_cell_row Tryz.results68 _ _ w.heap.size 92 _ (0,0) _ rfl (setRow_heap _ _ _ _ _ _ U.o) Tryz.underlying92 rfl (by kernel_rfl)) rfl ⟨?_,?_⟩
   ·rw [Hk.o];rfl
   ·exact below_setRow (((Below.refl _ _).alloc (Nat.le_refl _) _).trans (W.mono (by simp))) (Nat.le_refl _) _
theorem zce (w:World)(c:Array Value)(t:TypeId)(i n:Nat)(h:n=w.heap.size):(w.alloc (.cells c t)).cell? ⟨n,i,none⟩=c[i]?:=by
 subst h;rw [cell_of_row _ _ _ c t (0,0) (heap_alloc_last _ _)]
theorem zl (w:World)(o:Obj)(p:Addr)(h:p.block < w.heap.size):(w.alloc o).cell? p=w.cell? p :=
 ((Below.refl _ _).alloc (Nat.le_refl _) o:Below w.heap.size w (w.alloc o)).cell h
theorem zmm (w:World)(o:Obj):(w.alloc o).heap.size=w.heap.size+1:=by simp
theorem ze (w:World)(o:Obj):Below w.heap.size w (w.alloc o):=(Below.refl _ _).alloc (Nat.le_refl _) o
theorem zz (w:World)(o p:Obj):Below w.heap.size w ((w.alloc o).alloc p):=(ze w o).trans ((ze _ p).mono (by simp))
theorem jn (w:World)(o p q:Obj):Below w.heap.size w (((w.alloc o).alloc p).alloc q):=(zz w o p).trans ((ze _ q).mono (by simp;omega))
theorem Bs.fresh (w:World)(l:List UInt8)(t:TypeId)(n:Nat)(A:n=w.heap.size)(r:Nat):Bs (w.alloc (.cells (hv l) t)) (.slice (some ⟨n,0,none⟩) l.length r) l :=
 ⟨_,_,rfl,.inr ⟨_,_,rfl,fun i h=>by rw [zce _ _ _ _ _ A];simp [hv,h]⟩⟩
theorem zww (w:World)(o:Obj)(v:Value)(e:List UInt8)(h:Bs w v e):
  Bss (((w.alloc o).alloc (.cells #[.int .u8 0] 5)).alloc (.cells #[.slice (some ⟨w.heap.size+1,0,none⟩) 1 1,v] 100)) (.slice (some ⟨w.heap.size+1+1,0,none⟩) 2 2) [[0],e]:=by
 refine⟨_,_,rfl,Nat.le_refl _,.inr ⟨_,_,rfl,fun i r=>?_⟩⟩
 match i,r with
 | 0,_ =>
  refine⟨.slice (some ⟨w.heap.size+1,0,none⟩) 1 1,by rw [zce _ _ _ _ _ (by simp)];rfl,?_⟩;exact(Bs.fresh (w.alloc o) [0] _ _ (by simp) 1).below (ze _ _)
 | 1,_ =>
  refine⟨v,by rw [zce _ _ _ _ _ (by simp)];rfl,?_⟩;exact h.below (jn _ _ _ _)
theorem zui (v:Value)(e:List UInt8)(w:World)(A:e.length≤maxLen)(h:Bs w v e):
  Calls Tryz.prog 69 #[v] w fun r w'=>r= .returned (.agg (hv (jc e)))∧Below w.heap.size w w':=by
 have H:=za h;have D:=za A;clear A;obtain⟨a,L,rfl,Q⟩:=h;clear Q;go_enter Tryz.func69,Tryz.ntmps69;go_wp2_with fail;refine(zgd _ [[0],e] _ (by unfold maxLen;simp) (fun l K=>by simp at K;rcases K with rfl | rfl;(simp [maxLen]);exact D.o) (zww w _ _ e H.o)).mono ?_;rintro r w' ⟨hr,I⟩;rw [show hash [[0],e].flatten=jc e by simp [jc]] at hr;subst hr;have J:w'.heap[w.heap.size]?=some (.cells #[Value.int IntKind.u8 0,Value.int IntKind.u8 0,Value.int IntKind.u8 0,Value.int IntKind.u8 0,Value.int IntKind.u8 0,Value.int IntKind.u8 0,Value.int IntKind.u8 0,Value.int IntKind.u8 0] 92 (0,0)):=by
  rw [I.block _ (by simp;omega)];exact zc (zc (heap_alloc_last _ _))
 have E:=za J;clear J;go_wp2_with (refine wpList_store_row rfl 92 _ _ rfl w.heap.size (hv (jc e)) rfl rfl 92 _ E.o (by kernel_rfl) rfl (jy _) ?_);refine bodyPost_ret (v:= .agg (hv (jc e))) (results_cell_row Tryz.results69 _ _ w.heap.size 92 _ (0,0) _ rfl (setRow_heap _ _ _ _ _ _ E.o) Tryz.underlying92 rfl (by kernel_rfl)) rfl ⟨?_,?_⟩
 ·rfl
 ·exact below_setRow ((jn _ _ _ _).trans (I.mono (by simp;omega))) (Nat.le_refl _) _
end Go.Proofs.YtndkblnpbjffhaaGreatDoor
