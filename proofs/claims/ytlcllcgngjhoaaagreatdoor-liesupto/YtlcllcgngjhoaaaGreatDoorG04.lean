import Derived.Test.YtlcllcgngjhoaaaGreatDoorG03
import Derived.Lib.BufferWrite
import Derived.Lib.SlBuf
set_option maxHeartbeats 8000000
set_option maxRecDepth 100000
set_option linter.all false
namespace Go.Proofs.YtlcllcgngjhoaaaGreatDoor
open Go.RowKit Go.Proofs.Tryz
def ye:=@Prod.mk.injEq
def yy:=@List.map_append
def xy:=@List.getElem?_eq_some_iff
def qd:=@List.getElem?_append_left
def qi:=@List.getElem?_append_right
def j5:=@List.length_eq_zero_iff
def vj:=@decide_eq_true_eq
def zb9:=@leaves_cons
def zcm:=@run_bytes_of_string
def zcu:=@run_underlying
def zfh:=@List.flatten_cons
def zfj:=@Nat.mul_one
def zgs:=@grownCap_ge
def zik:=@Array.length_toList
def zqa:=@List.all_eq_false
def ztq:=@List.all_append
variable {B b cap:Nat}{O:Nat→Prop}{d:Dk}{l:zc}{w w':World}
def zhw (g:Nat):Value:= .iface 176 (.pointer (some ⟨g,0,none⟩))
def zu6 (w:World)(g:Nat):Prop:=∃ c,w.heap[g]?=some (.cells #[.int .i64 c] 395 (0,0))
def zio (e:Bool)(B:Nat)(r:Value)(w:World):Prop:=(e=false∧r= .nilIface)∨(e=true∧∃ g,r=zhw g∧B≤g∧zu6 w g)
theorem zm0 (w:World)(n:Nat):Below w.heap.size w (w.drewN n):=⟨rfl,rfl,rfl,zm _,fun _ _=>rfl⟩
theorem zm3 (h:yw w' (jz O w w') b d)(o:Obj):yw (w'.alloc o) (jz O w (w'.alloc o)) b d :=
 (h.stay (T:=[]) (O1:=fun _=>False) (.of_below (zk w' o)) (by simp) (by simp)).mono (jz.more (by simp))
theorem Bq.of_eb {n:Nat}{a:Addr}(h:EB w B (.slice (some a) n cap) l)(j:l.length≤cap):Bq w (.slice (some a) n cap) l:=by
 obtain⟨g,b,C,c,e,-,d,f,-⟩:=h;have i:cap=b:=by simp at e;exact e.2.2
 exact⟨g,b,C,c,e,by omega,d,f⟩
theorem zjb (w:World)(y:zc)(a:Nat)(b:y.length≤a):Bq (w.alloc (.cells (bytesRow ⟨y.toArray⟩ a) 5 ((bytesRow ⟨y.toArray⟩ a).size,(bytesRow ⟨y.toArray⟩ a).size+1))) (.slice (some ⟨w.heap.size,0,none⟩) y.length a) y:=by
 have h:=EB.conv w ⟨y.toArray⟩ 0 a (yv _);simp only at h;exact Bq.of_eb h b
theorem zq.dT_of1 (h:zq O dT1 w w'):zq O dT w w':=h.mono (fun _ h=>h) (fun t a=>by simp at a;simp [a])
theorem yly (O:Nat→Prop)(b:Nat)(d:Dk)(p x:zc)(v:Value)(w:World)(U:d.fs.length≤1000000000)(h:yw w O b d)(hv:Bq w v x):
  Calls prog 273 #[zdp b,qo p,v] w fun r X=>∃ e,r= .returned e∧zio (zp8 d p x) w.heap.size e X∧zq O dT w X∧yw X (jz O w X) b (zgg d p x):=by
 have HV:=zf hv;have HD:=zf h;clear h hv;unfold zdp;have V:∀ q,qo q= .string ⟨q.toArray⟩:=fun _=>rfl;rw [V];go_enter func273,ntmps273;go_wp2_with fail;refine(zsx O b d w HD.o).mono ?_;rintro e w1 ⟨rfl,t1,d1⟩;have K:=jf d;go_wp2_with fail;refine(zos O b (jb d) p w1 (by rw [K];exact U) d1).mono ?_;rintro e m ⟨rfl,E⟩;rw [K];have N:Hid (zq O dT1 w m):=t1.then_below E;have A:=zf (d1.stay (O1:=fun _=>False) (T:=[]) (.of_below E) (by simp) (by simp));have B:=zf ((HV.o.turn t1 (by decide)).below E);have Q:∀ n,(convert 114 9 v).run prog (m.drewN n)= .ok (.string ⟨x.toArray⟩) (m.drewN n):=fun n=>Bq.conv (w:=m.drewN n) B.o;have HK:=zf (zpn d);clear t1 d1 E HV HD V K;cases e:ixF d.fs p with
 | some k =>
  have R:ixI d.fs p=k:=by unfold ixI;rw [e]
  rw [R];obtain⟨F,ab,G,-⟩:=zb8 e;obtain⟨fv,Y,Z,hf,hg⟩:=A.o;obtain⟨⟨c0,f0⟩,⟨c1,f1⟩,-,-,-,-,-,⟨c7,f7⟩⟩:=zlg Z;rcases zk1 hf with ⟨a,ad,rfl,h0 | ⟨g,rfl,ae,S,P,aa,hx⟩⟩
  ·rw [jf] at h0;omega
  rw [jf] at c0 P;have y1:m.cell? ⟨g,k*2+1,none⟩=some (.string ⟨d.fs[k].2.toArray⟩):=by
   rw [yq _ _ _ _ _ _ S];have:=(hx k (by rw [jf];exact F)).2;simp only [jf] at this;exact this
  have W:=zf Z;have HF:=zf hf;have HG:=zf hg;clear hx S Z hf hg e R ab aa
  by_cases z:d.fs[k].2=x
  ·have t:Hid (zp8 d p x=decide (0 < zag d)∧zgg d p x=if zag d < 2 then { jb d with fs:=zfn d.fs p x } else jb d):=by
    unfold zp8 zgg;rw [G];simp only [if_pos z];exact⟨trivial,trivial⟩
   have q1:(d.fs[k].2==x)=true:=by simp [z]
   clear z G W HF HG;generalize d.fs[k].2=y at *;go_wp2_with fail
   go_quiet (fail)
   have u:Hid (yw (m.drewN nq) O b (jb d)):=A.o.stay (O1:=fun _=>False) (T:=[]) (.of_below (zm0 _ _)) (by simp) (by simp);have C:Hid (Bq (m.drewN nq) v x):=B.o.below (zm0 _ _);have i:Hid (zq O dT w (m.drewN nq)):=(N.o.drewN nq).dT_of1;clear A B N Q c0 f0 c1 f1 c7 f7 y1;have D:zag d=0∨zag d=1∨zag d=2:=by have:=HK.o;omega
   generalize m.drewN nq=H at *;rcases D with j | j | j
   ·rw [j];have f:=zf j;clear j;go_wp2_with fail;refine(zp0 O b (jb d) p x v H (by rw [jf];exact U) u.o C.o).mono ?_;rintro e L ⟨rfl,t4,d4⟩;have s:=zf (i.o.trans (t4.mono (fun _ h=> .inl h) (fun _ h=>h)));have c:=zf (d4.mono (O':=jz O w L) (fun k F=>by rcases F with h | h;exact .inl h;exact .inr ⟨by have:=i.o.size;omega,h.2⟩));clear t4 d4;go_wp2_with fail;go_ret;refine⟨_,rfl,.inl ⟨by rw [t.out.1,f.o];rfl,rfl⟩,s.o,?_⟩;rw [t.out.2,f.o,if_pos (by omega)];rw [jf] at c;exact c.o
   ·rw [j];have f:=zf j;clear j;go_wp2_with fail;refine(zp0 O b (jb d) p x v H (by rw [jf];exact U) u.o C.o).mono ?_;rintro e L ⟨rfl,t4,d4⟩;have s:=zf (i.o.trans (t4.mono (fun _ h=> .inl h) (fun _ h=>h)));have c:=zf (d4.mono (O':=jz O w L) (fun k F=>by rcases F with h | h;exact .inl h;exact .inr ⟨by have:=i.o.size;omega,h.2⟩));clear t4 d4;obtain⟨I,J,l,-,-⟩:=c.o;obtain⟨-,⟨z1,M⟩,-⟩:=zlg l;clear l;go_wp2_with fail;go_ret;refine⟨_,rfl,.inr ⟨by rw [t.out.1,f.o];rfl,_,rfl,s.o.size,_,zg _ _⟩,s.o.alloc _,?_⟩;rw [t.out.2,f.o,if_pos (by omega)];rw [jf] at c;exact zm3 c.o _
   ·rw [j];have f:=zf j;clear j;have c:Hid (yw H (jz O w H) b (jb d)):=u.o.mono (fun _ h=> .inl h);obtain⟨I,J,l,-,-⟩:=c.o;obtain⟨-,⟨z1,M⟩,-⟩:=zlg l;clear l;go_wp2_with fail;go_ret;refine⟨_,rfl,.inr ⟨by rw [t.out.1,f.o];rfl,_,rfl,i.o.size,_,zg _ _⟩,i.o.alloc _,?_⟩;rw [t.out.2,f.o,if_neg (by omega)];exact zm3 c.o _
  ·have t:Hid (zp8 d p x=true∧zgg d p x={ jb d with turned:=true }):=by
    unfold zp8 zgg;rw [G];simp only [if_neg z];exact⟨trivial,trivial⟩
   have q1:(d.fs[k].2==x)=false:=by simp [z]
   clear z G;generalize d.fs[k].2=y at *;go_wp2_with fail
   go_quiet (fail)
   go_wp2_with fail;go_ret;have t2:=((N.o.drewN nq).set (o:=7) (.inl Y) (show(m.drewN nq).heap[b]?=_ from W.o) (by decide) (.bool true));have h2:=zav (show(m.drewN nq).heap[b]?=_ from W.o) 7 (.bool true);have d2:yw ((m.drewN nq).setCell ⟨b,7,none⟩ (.bool true)) (jz O w ((m.drewN nq).setCell ⟨b,7,none⟩ (.bool true))) b { jb d with turned:=true } :=
    yw.turn (w:=m) (d:=jb d) (fun _ h=> .inl h) Y HF.o HG.o ((zq.refl O dT1 m).drewN nq |>.set (.inl Y) (show(m.drewN nq).heap[b]?=_ from W.o) (by decide) _) h2 rfl
   refine⟨_,rfl,?_,(t2.alloc _).dT_of1,?_⟩
   ·rw [t.out.1];refine .inr ⟨rfl,_,rfl,N.o.size,(jb d).calls,?_⟩;rw [show m.heap.size=((m.drewN nq).setCell ⟨b,7,none⟩ (.bool true)).heap.size by simp [World.setCell,World.drewN]];exact zg _ _
   ·rw [t.out.2];exact zm3 d2 _
 | none =>
  have R:ixI d.fs p=-1:=by unfold ixI;rw [e]
  rw [R];have t:Hid (zp8 d p x=decide (0 < zag d)∧zgg d p x=if zag d < 2 then { jb d with fs:=zfn d.fs p x } else jb d):=by
   unfold zp8 zgg;rw [(zci e).1];exact⟨rfl,rfl⟩
  clear e R;go_wp2_with fail
  go_quiet (fail)
  have u:Hid (yw (m.drewN nq) O b (jb d)):=A.o.stay (O1:=fun _=>False) (T:=[]) (.of_below (zm0 _ _)) (by simp) (by simp);have C:Hid (Bq (m.drewN nq) v x):=B.o.below (zm0 _ _);have i:Hid (zq O dT w (m.drewN nq)):=(N.o.drewN nq).dT_of1;clear A B N Q;have D:zag d=0∨zag d=1∨zag d=2:=by have:=HK.o;omega
  generalize m.drewN nq=H at *;rcases D with j | j | j
  ·rw [j];have f:=zf j;clear j;go_wp2_with fail;refine(zp0 O b (jb d) p x v H (by rw [jf];exact U) u.o C.o).mono ?_;rintro e L ⟨rfl,t4,d4⟩;have s:=zf (i.o.trans (t4.mono (fun _ h=> .inl h) (fun _ h=>h)));have c:=zf (d4.mono (O':=jz O w L) (fun k F=>by rcases F with h | h;exact .inl h;exact .inr ⟨by have:=i.o.size;omega,h.2⟩));clear t4 d4;go_wp2_with fail;go_ret;refine⟨_,rfl,.inl ⟨by rw [t.out.1,f.o];rfl,rfl⟩,s.o,?_⟩;rw [t.out.2,f.o,if_pos (by omega)];rw [jf] at c;exact c.o
  ·rw [j];have f:=zf j;clear j;go_wp2_with fail;refine(zp0 O b (jb d) p x v H (by rw [jf];exact U) u.o C.o).mono ?_;rintro e L ⟨rfl,t4,d4⟩;have s:=zf (i.o.trans (t4.mono (fun _ h=> .inl h) (fun _ h=>h)));have c:=zf (d4.mono (O':=jz O w L) (fun k F=>by rcases F with h | h;exact .inl h;exact .inr ⟨by have:=i.o.size;omega,h.2⟩));clear t4 d4;obtain⟨I,J,l,-,-⟩:=c.o;obtain⟨-,⟨z1,M⟩,-⟩:=zlg l;clear l;go_wp2_with fail;go_ret;refine⟨_,rfl,.inr ⟨by rw [t.out.1,f.o];rfl,_,rfl,s.o.size,_,zg _ _⟩,s.o.alloc _,?_⟩;rw [t.out.2,f.o,if_pos (by omega)];rw [jf] at c;exact zm3 c.o _
  ·rw [j];have f:=zf j;clear j;have c:Hid (yw H (jz O w H) b (jb d)):=u.o.mono (fun _ h=> .inl h);obtain⟨I,J,l,-,-⟩:=c.o;obtain⟨-,⟨z1,M⟩,-⟩:=zlg l;clear l;go_wp2_with fail;go_ret;refine⟨_,rfl,.inr ⟨by rw [t.out.1,f.o];rfl,_,rfl,i.o.size,_,zg _ _⟩,i.o.alloc _,?_⟩;rw [t.out.2,f.o,if_neg (by omega)];exact zm3 c.o _
theorem yjt (O:Nat→Prop)(b:Nat)(d:Dk)(p x:zc)(v:Value)(w:World)(G:d.fs.length≤1000000000)(h:yw w O b d)(hv:Bq w v x):
  Calls prog 274 #[zdp b,qo p,v] w fun r y=>∃ e,r= .returned e∧zio (bad d) w.heap.size e y∧zq O dT w y∧yw y (jz O w y) b (zj4 d p x):=by
 have F:=zf hv;have E:=zf h;clear h hv;unfold zdp;have t:∀ q,qo q= .string ⟨q.toArray⟩:=fun _=>rfl;rw [t];go_enter func274,ntmps274;go_wp2_with fail;refine(zsx O b d w E.o).mono ?_;rintro e u ⟨rfl,t1,d1⟩;have f:Hid (zq O dT w u):=t1.dT_of1;have l:=zf d1;have n:=zf (F.o.turn t1 (by decide));have H:=zf (zpn d);have m:Hid (bad d=decide (0 < zag d)∧zj4 d p x=if zag d < 2 then { jb d with fs:=zfn d.fs p x } else jb d):=⟨rfl,rfl⟩;clear t1 d1 F E t;have s:zag d=0∨zag d=1∨zag d=2:=by have:=H.o;omega
 rcases s with g | g | g
 ·rw [g];have c:=zf g;clear g;go_wp2_with fail;refine(zp0 O b (jb d) p x v u (by rw [jf];exact G) l.o n.o).mono ?_;rintro e C ⟨rfl,t4,d4⟩;have j:=zf (f.o.trans (t4.mono (fun _ h=> .inl h) (fun _ h=>h)));have a:=zf (d4.mono (O':=jz O w C) (fun k B=>by rcases B with h | h;exact .inl h;exact .inr ⟨by have:=f.o.size;omega,h.2⟩));clear t4 d4;go_wp2_with fail;go_ret;refine⟨_,rfl,.inl ⟨by rw [m.out.1,c.o];rfl,rfl⟩,j.o,?_⟩;rw [m.out.2,c.o,if_pos (by omega)];rw [jf] at a;exact a.o
 ·rw [g];have c:=zf g;clear g;go_wp2_with fail;refine(zp0 O b (jb d) p x v u (by rw [jf];exact G) l.o n.o).mono ?_;rintro e C ⟨rfl,t4,d4⟩;have j:=zf (f.o.trans (t4.mono (fun _ h=> .inl h) (fun _ h=>h)));have a:=zf (d4.mono (O':=jz O w C) (fun k B=>by rcases B with h | h;exact .inl h;exact .inr ⟨by have:=f.o.size;omega,h.2⟩));clear t4 d4;obtain⟨z,A,i,-,-⟩:=a.o;obtain⟨-,⟨I,D⟩,-⟩:=zlg i;clear i;go_wp2_with fail;go_ret;refine⟨_,rfl,.inr ⟨by rw [m.out.1,c.o];rfl,_,rfl,j.o.size,_,zg _ _⟩,j.o.alloc _,?_⟩;rw [m.out.2,c.o,if_pos (by omega)];rw [jf] at a;exact zm3 a.o _
 ·rw [g];have c:=zf g;clear g;have a:Hid (yw u (jz O w u) b (jb d)):=l.o.mono (fun _ h=> .inl h);obtain⟨z,A,i,-,-⟩:=a.o;obtain⟨-,⟨I,D⟩,-⟩:=zlg i;clear i;go_wp2_with fail;go_ret;refine⟨_,rfl,.inr ⟨by rw [m.out.1,c.o];rfl,_,rfl,f.o.size,_,zg _ _⟩,f.o.alloc _,?_⟩;rw [m.out.2,c.o,if_neg (by omega)];exact zm3 a.o _
theorem yk8 (O:Nat→Prop)(b:Nat)(d:Dk)(p:zc)(w:World)(hn:d.fs.length≤1000000000)(N:∀ f∈d.fs,f.2.length≤1000000000)(h:yw w O b d):
  Calls prog 272 #[zdp b,qo p] w fun r F=>∃ v e,r= .returned (.tuple #[v,e])∧zio (bad d) w.heap.size e F∧zq O dT1 w F∧yw F O b (jb d) ∧
   ((bad d=false∧∃ x,je d.fs p=some x∧Bq F v x)∨((bad d=true∨je d.fs p=none)∧v= .slice none 0 0)):=by
 have I:=zf h;have S:=zf N;clear h N;unfold zdp;have C:∀ q,qo q= .string ⟨q.toArray⟩:=fun _=>rfl;rw [C];go_enter func272,ntmps272;go_wp2_with fail;refine(zsx O b d w I.o).mono ?_;rintro e R ⟨rfl,t1,d1⟩;have E:=zf t1;have c:=zf d1;have Y:=zpn d;clear t1 d1 I C
 by_cases J:0 < zag d
 ·have m:Hid (bad d=true):=by show decide _=true;simpa using J
  obtain⟨X,Z,s,-,-⟩:=c.o;obtain⟨-,⟨z1,ad⟩,-⟩:=zlg s;clear s;go_wp2_with fail
  go_region
  all_goals go_wp2
  all_goals go_ret2
  all_goals refine⟨_,_,rfl,.inr ⟨m.o,_,rfl,E.o.size,_,zg _ _⟩,(E.o.alloc _).drew,c.o.stay (O1:=fun _=>False) (T:=[]) ((zq.refl _ _ R).alloc _).drew (by simp) (by simp),.inr ⟨.inl m.o,rfl⟩⟩
 ·have m:Hid (bad d=false):=by show decide _=false;simpa using J
  have z:=jf d;go_wp2_with fail;refine(zos O b (jb d) p R (by rw [z];exact hn) c.o).mono ?_;rintro e D ⟨rfl,l⟩;rw [z];have n:Hid (zq O dT1 w D):=E.o.then_below l;have i:=zf (c.o.stay (O1:=fun _=>False) (T:=[]) (.of_below l) (by simp) (by simp));clear l c E;cases e:ixF d.fs p with
  | some k =>
   have u:ixI d.fs p=k:=by unfold ixI;rw [e]
   rw [u];obtain⟨M,H,B,-⟩:=zb8 e;obtain⟨fv,hO,K,L,hg⟩:=i.o;obtain⟨⟨U,f0⟩,-⟩:=zlg K;rcases zk1 L with ⟨a,V,rfl,h0 | ⟨g,rfl,W,A,t,G,Q⟩⟩
   ·rw [jf] at h0;omega
   rw [jf] at U t;have y1:D.cell? ⟨g,k*2+1,none⟩=some (.string ⟨d.fs[k].2.toArray⟩):=by
    rw [yq _ _ _ _ _ _ A];have:=(Q k (by rw [jf];exact M)).2;simp only [jf] at this;exact this
   have ab:=S.o _ (yd M);have j:=zf B;clear Q A K L hg e u H G B;generalize d.fs[k].2=y at *;have aa:=fun w0=>zcm (P:=prog) w0 9 114 5 ⟨y.toArray⟩ qw underlying114 jt;go_wp2_with fail
   go_ret2
   have hq:=zjb D y (grownCap D y.length 0 5) (zgs _ _ _ _);exact⟨_,_,rfl,.inl ⟨m.o,rfl⟩,(n.o.alloc _).drew,i.o.stay (O1:=fun _=>False) (T:=[]) ((zq.refl _ _ D).alloc _).drew (by simp) (by simp),.inl ⟨m.o,y,j.o,hq⟩⟩
  | none =>
   have u:ixI d.fs p=-1:=by unfold ixI;rw [e]
   rw [u];have j:=zf (zci e).1;clear e u;go_wp2_with fail
   go_ret2
   exact⟨_,_,rfl,.inl ⟨m.o,rfl⟩,n.o,i.o,.inr ⟨.inr j.o,rfl⟩⟩
theorem zvm (p:Addr)(w:World):
  CallsD prog 224 #[.pointer (some p)] .returning w fun e b c=>e= .returned (.tuple #[])∧b= .returning∧c=w:=by
 refine callsD_of_wpS func224 rfl fun c₀ d a=>?_;apply wpS_seq;apply wpS_region;simp [wpOpsS,go_sem,recoverD,a,ntmps224,Exit.thenS];refine wpS_cond (t:=false) (by simp [Act.eval,Array.replicate]) ?_;simp only [zas,zd3];refine wpS_of_wp (wp_skip ?_);cases c₀
 simp_all [bodyPostS,results,results224]
def za7 (g:Nat):Value:= .iface 177 (.pointer (some ⟨g,0,none⟩))
theorem z0n (d:zc)(g:Nat)(t:Array Value)(w:World)(Q:Value→World→Prop)(C:∀ c w,(callFunc g c).run prog w= .ok (.enter g c) w)
 (a:Calls prog g t (w.alloc (.cells #[.nilIface] 102)) fun r b=>∃ e,r= .returned e∧Q e b)
 (s:∀ e b,Q e b→(e= .nilIface∨∃ g,e=zhw g)∧b.heap[w.heap.size]?=some (.cells #[.nilIface] 102 (0,0))) :
  Calls prog 185 #[qo d,.func (.func g) #[] t] w fun r u=>∃ e b,Q e b ∧
   ((e= .nilIface∧r= .returned .nilIface∧u=b.setCell ⟨w.heap.size,0,none⟩ .nilIface) ∨
    ((∃ g,e=zhw g)∧r= .returned (za7 b.heap.size)∧u=(b.alloc (.cells #[qo d,e] 179)).setCell ⟨w.heap.size,0,none⟩ (za7 b.heap.size))):=by
 have A:∀(p:Fn) (first i:Array Value) (w:World),(Instr.makeFunc p first i).run prog w= .ok (.func p first i) w:=fun _ _ _ _=>rfl;have x:=zf s;have v:=zf a;clear s a;unfold qo za7
 go_enter_defers func185,ntmps185
 go_wp2_with fail;refine v.o.mono ?_;rintro r k ⟨e,rfl,l⟩;obtain⟨z,j⟩:=x.o _ _ l;obtain⟨D,F⟩:=zw j 0 _ rfl;have E:∀ o,(k.alloc o).cell? ⟨w.heap.size,0,none⟩=some .nilIface:=fun o=>(zw (zj (o:=o) j) 0 _ rfl).1;have G:∀ o,(k.alloc o).frozen? ⟨w.heap.size,0,none⟩=false:=fun o=>(zw (zj (o:=o) j) 0 .nilIface rfl).2;have h:=zf j;have n:=zf l;clear j l;rcases z with rfl | ⟨q,rfl⟩
 ·go_wp2_with fail;refine zb9 (f:=224) (args:=#[.pointer (some ⟨w.heap.size,0,none⟩)]) (by simp) (by simp [go_sem]) ?_;refine(zvm ⟨w.heap.size,0,none⟩ _).mono ?_;rintro e B m ⟨rfl,rfl,rfl⟩;simp [Leaves,settle,results,results185,go_sem];have y:(k.setCell ⟨w.heap.size,0,none⟩ .nilIface).cell? ⟨w.heap.size,0,none⟩=some .nilIface:=(zw (zav h.o 0 .nilIface) 0 _ rfl).1;rw [y];exact⟨_,rfl,.nilIface,k,n.o,.inl ⟨rfl,rfl,rfl⟩⟩
 ·unfold zhw;go_wp2_with fail;refine zb9 (f:=224) (args:=#[.pointer (some ⟨w.heap.size,0,none⟩)]) (by simp) (by simp [go_sem]) ?_;refine(zvm ⟨w.heap.size,0,none⟩ _).mono ?_;rintro e B m ⟨rfl,rfl,rfl⟩;simp [Leaves,settle,results,results185,go_sem];rw [(zw (zav (zj h.o) 0 _) 0 _ rfl).1];exact⟨_,rfl,zhw q,k,n.o,.inr ⟨⟨q,rfl⟩,rfl,rfl⟩⟩
variable {acc:za}{r:zc}
def zss (l:zc):zc:=UInt8.ofNat l.length::l
def zf6 (a:za):zc:=(a.map zss).flatten
def okB (a:za):Bool:=decide (1≤a.length)&&(decide (a.length≤4)&&a.all fun l=>decide (l.length≤20))
def zyh:Nat→zc→Option (za)
 | _,[]=>some []
 | 0,_::_=>none
 | f+1,c::r=>if c.toNat≤r.length then (zyh f (r.drop c.toNat)).map (r.take c.toNat::·) else none
def unb (d:zc):Option (za):=zyh d.length d
theorem z5x:∀(n f g:Nat) (d:zc),d.length≤n→d.length≤f→d.length≤g→zyh f d=zyh g d:=by
 intro n
 induction n with
 | zero =>
  intro f g d a _ _;obtain rfl:d=[]:=j5.1 (by omega);cases f<;>cases g<;>rfl
 | succ n h =>
  intro f g d a b e;cases d with
  | nil=>cases f<;>cases g<;>rfl
  | cons c r =>
   simp only [y9] at a b e;obtain⟨f,rfl⟩:∃ k,f=k+1:=⟨f - 1,by omega⟩;obtain⟨g,rfl⟩:∃ k,g=k+1:=⟨g - 1,by omega⟩;have i:(r.drop c.toNat).length≤r.length:=by simp
   rw [zyh,zyh,h f g (r.drop c.toNat) (by omega) (by omega) (by omega)]
theorem z1v:unb []=some []:=rfl
theorem z1u (c:UInt8)(r:zc)(h:c.toNat≤r.length):unb (c::r)=(unb (r.drop c.toNat)).map (r.take c.toNat::·):=by
 have a:(r.drop c.toNat).length≤r.length:=by simp
 show zyh (r.length+1) (c::r)=_;rw [zyh,if_pos h,z5x r.length r.length (r.drop c.toNat).length (r.drop c.toNat) a a (zm _)]
 rfl
theorem ya3 (c:UInt8)(r:zc)(h:¬ c.toNat≤r.length):unb (c::r)=none:=by
 show zyh (r.length+1) (c::r)=_;rw [zyh,if_neg h]
def zd6 (d:zc):Option (za):=match unb d with
 | some a=>if okB a then some a else none
 | none=>none
theorem zjj (a b:za):zf6 (a++b)=zf6 a++zf6 b:=by simp [zf6]
theorem zok (l:zc):zf6 [l]=zss l:=by simp [zf6]
theorem z2p (b:za)(h:∀ l∈b,l.length≤20):(zf6 b).length≤21*b.length:=by
 induction b with
 | nil=>simp [zf6]
 | cons a t d =>
  rw [show a::t=[a]++t from rfl,zjj,zok];have e:=h a (by simp);have f:=d (fun l c=>h l (by simp [c]));simp [zss];omega
theorem ye3:∀(n:Nat) (d:zc)(a:za) ,d.length≤n→unb d=some a→zf6 a=d:=by
 intro n
 induction n with
 | zero =>
  intro d a f h;obtain rfl:d=[]:=j5.1 (by omega);rw [z1v] at h;obtain rfl:[]=a:=by simpa using h
  rfl
 | succ n i =>
  intro d a f h;cases d with
  | nil =>
   rw [z1v] at h;obtain rfl:[]=a:=by simpa using h
   rfl
  | cons c r =>
   by_cases b:c.toNat≤r.length
   ·rw [z1u c r b] at h;obtain⟨t,g,rfl⟩:=zz.1 h;have:=i (r.drop c.toNat) t (by simp at f ⊢;omega) g;rw [show r.take c.toNat::t=[r.take c.toNat]++t from rfl,zjj,zok,this,zss];have e:(r.take c.toNat).length=c.toNat:=by simp;omega
    rw [e];simp
   ·rw [ya3 c r b] at h;simp at h
def Un (d:zc)(a:za)(r:zc):Prop:=unb d=(unb r).map (a++·)∧a.length+r.length≤d.length
theorem Un.start (d:zc):Un d [] d:=⟨by cases h:unb d<;>simp,by simp⟩
theorem Un.step {d:zc}{c:UInt8}(h:Un d acc (c::r))(a:c.toNat≤r.length):Un d (acc++[r.take c.toNat]) (r.drop c.toNat):=by
 refine⟨?_,?_⟩
 ·rw [h.1,z1u c r a];cases unb (r.drop c.toNat)<;>simp
 ·have:=h.2;simp at this ⊢;omega
theorem Un.fail {d:zc}{c:UInt8}(h:Un d acc (c::r))(a:¬ c.toNat≤r.length):zd6 d=none:=by
 unfold zd6;rw [h.1,ya3 c r a]
 rfl
theorem Un.done {d:zc}(h:Un d acc []):unb d=some acc:=by
 rw [h.1,z1v];simp
theorem Un.many {d:zc}{c:UInt8}(h:Un d acc (c::r))(b:4≤acc.length):zd6 d=none:=by
 by_cases a:c.toNat≤r.length
 ·have:=(h.step a).1;unfold zd6;rw [this];cases unb (r.drop c.toNat) with
  | none=>rfl
  | some t =>
   have:okB (acc++[r.take c.toNat]++t)=false:=by
    unfold okB;rw [show decide ((acc++[r.take c.toNat]++t).length≤4)=false by simp;omega];simp
   simp only [yba];rw [this]
   rfl
 ·exact h.fail a
theorem Un.long {d:zc}{c:UInt8}(h:Un d acc (c::r))(b:20 < c.toNat):zd6 d=none:=by
 by_cases a:c.toNat≤r.length
 ·have:=(h.step a).1;unfold zd6;rw [this];cases unb (r.drop c.toNat) with
  | none=>rfl
  | some t =>
   have:okB (acc++[r.take c.toNat]++t)=false:=by
    unfold okB;have:(acc++[r.take c.toNat]++t).all (fun l=>decide (l.length≤20))=false:=by
     rw [ztq,ztq];have:([r.take c.toNat]).all (fun l=>decide (l.length≤20))=false:=by simp;omega
     rw [this];simp
    rw [this];simp
   simp only [yba];rw [this]
   rfl
 ·exact h.fail a
theorem Un.end_ok {d:zc}(h:Un d acc [])(a:okB acc=true):zd6 d=some acc∧zf6 acc=d:=by
 refine⟨?_,ye3 d.length d acc (zm _) h.done⟩;unfold zd6;rw [h.done];simp [a]
theorem Un.end_not {d:zc}(h:Un d acc [])(a:okB acc=false):zd6 d=none:=by
 unfold zd6;rw [h.done];simp [a]
def e8 (l:zc):zc:=l.take 8++List.replicate (8 - l.length) 0
def ql:zc:=[0,0,0,0,0,0,0,0]
variable {o:Nat}{ps:za}{ts:List ByteArray}{v:Value}
def c8 (s:ByteArray):ByteArray:=⟨(e8 s.data.toList).toArray⟩
theorem zps:(prog.info? 9).map (fun i=>(i.zero,i.size,i.bytes))=some (some (.string ⟨#[]⟩),1,16):=by kernel_rfl
theorem yhb:(prog.info? 110).map (fun i=>(i.zero,i.size,i.bytes))=some (some (.agg (hv ql)),8,8):=by kernel_rfl
theorem Sss.of_owns (h:w.ownsRow B 9 1 v ts.length (ts.map Value.string)):Sss w v ts:=by
 rcases h.2 with ⟨rfl,h0⟩ | ⟨g,c,a,rfl,k,d,f,l,m,j⟩
 ·exact⟨none,0,by rw [h0],by rw [h0];exact zm _,.inl (j5.1 h0)⟩
 ·refine⟨_,_,rfl,f,.inr ⟨g,0,rfl,fun i b=>?_⟩⟩;rw [xk,yq _ _ _ _ _ _ d];have e:(a.toList.take (ts.length*1))[i]?=some (.string ts[i]):=by rw [j];simp [b]
  rw [zfj,qj,if_pos b] at e;simpa using e
def Hss (w:World)(v:Value)(ps:za):Prop :=
 ∃ a c,v= .slice a ps.length c∧ps.length≤c∧(∀ p∈ps,p.length=8)∧(ps=[]∨∃ b d,a=some ⟨b,d,none⟩∧∀ i (h:i < ps.length),w.rangeAt b (d+i*8) (hv ps[i]).toList)
theorem zeo {a:List Value}(h:w.rangeAt b o a)(c:Below w.heap.size w w'):w'.rangeAt b o a:=fun j v hv=>by
 have:=h j v hv;rw [c.cell (yg (p:=⟨b,o+j,none⟩) this)];exact this
theorem Hss.below (h:Hss w v ps)(g:Below w.heap.size w w'):Hss w' v ps:=by
 obtain⟨a,d,rfl,c,f,h⟩:=h;refine⟨a,d,rfl,c,f,?_⟩;rcases h with h | ⟨b,e,rfl,j⟩
 ·exact .inl h
 ·exact .inr ⟨b,e,rfl,fun i k=>zeo (j i k) g⟩
def zug (ps:za):List Value:=(ps.map fun p=>(hv p).toList).flatten
theorem yac (ps:za)(h:∀ p∈ps,p.length=8)(i j:Nat)(c:i < ps.length)(g:j < 8):(zug ps)[i*8+j]?=(hv ps[i]).toList[j]?:=by
 induction ps generalizing i with
 | nil=>simp at c
 | cons p ps f =>
  have d:=h p (by simp);have a:(hv p).toList.length=8:=by rw [zik,zay,d]
  cases i with
  | zero =>
   simp only [zug,ve,zfh];rw [qd (by rw [a];omega)];simp
  | succ i =>
   have b:=f (fun q e=>h q (by simp [e])) i (by simpa using c);simp only [zug,ve,zfh] at b ⊢;rw [qi (by rw [a];omega),a,show(i+1)*8+j - 8=i*8+j by omega,b];simp
theorem Hss.of_owns (a:∀ p∈ps,p.length=8)(h:w.ownsRow B 110 8 v ps.length (zug ps)):Hss w v ps:=by
 rcases h.2 with ⟨rfl,h0⟩ | ⟨g,c,d,rfl,n,f,l,o,q,m⟩
 ·exact⟨none,0,by rw [h0],by rw [h0];exact zm _,a,.inl (j5.1 h0)⟩
 ·refine⟨_,_,rfl,l,a,.inr ⟨g,0,rfl,fun i b=>?_⟩⟩;intro j v hv;have k:j < 8:=by
   have:=(xy.1 hv).1;rw [zik,zay,a _ (yd b)] at this;exact this
  rw [xk,yq _ _ _ _ _ _ f];have e:=yac ps a i j b k;rw [hv,← m,qj,if_pos (by omega)] at e;simpa using e
variable {C:Array Value}{g:Nat}{t:TypeId}
theorem zd5 (b:Nat):∀(a:List Value) (o:Nat) (w:World) (k:Nat),k≠b→(w.setCells b o a).heap[k]?=w.heap[k]?
 | [],_,_,_,_=>rfl
 | v::r,o,w,k,h=>by rw [World.setCells,zd5 b r (o+1) _ k h,Below.heap_setCell _ _ _ _ h]
theorem zg8 (b:Nat):∀(e:List Value) (o:Nat) (w:World),(w.setCells b o e).os=w.os∧(w.setCells b o e).tape=w.tape∧(w.setCells b o e).output=w.output∧(w.setCells b o e).heap.size=w.heap.size
 | [],_,_=>⟨rfl,rfl,rfl,rfl⟩
 | v::r,o,w=>by
  obtain⟨a,f,c,d⟩:=zg8 b r (o+1) (w.setCell ⟨b,o,none⟩ v);exact⟨a,f,c,by rw [World.setCells,d];simp [World.setCell]⟩
theorem z2u {P:Program}(w:World)(t e f:TypeId)(z:Value)(d:P.underlying t=some (.slice e))(hv:∀ w,(zeroValue e).run P w= .ok z w)(i:z.cells=#[z])(h:z.oneCell'=true)(g n c:Nat)(a:w.there g 0 n):
  (Builtin.clear_ #[t] f #[.slice (some ⟨g,0,none⟩) n c]).run P w= .ok (.tuple #[]) (w.setCells g 0 (List.replicate n z)):=by
 by_cases h0:n=0
 ·subst h0;simp [Builtin.clear_,zcu d,World.setCells]
 ·exact Lib.run_clear_slice w t e f z d hv i h g 0 n c (by omega) (fun j b=>(a j b).1) (fun j b=>(a j b).2)
theorem z60 {P:Program}(w:World)(t e d:TypeId)(b:P.underlying t=some (.slice e))(a:Option Addr)(c:Nat):
  (Builtin.clear_ #[t] d #[.slice a 0 c]).run P w= .ok (.tuple #[]) w:=by
 cases a<;>simp [Builtin.clear_,zcu b]
theorem z1q {n:Nat}{b:Nat×Nat}(c:w.heap[g]?=some (.cells C t b))(f:n≤C.size)(a:n≤b.1∨b=(0,0)):w.there g 0 n:=fun j e=>by
 refine⟨by rw [xk,yq _ _ _ _ _ _ c,zid (by omega)];rfl,?_⟩;obtain⟨h,d⟩:=b;unfold World.frozen?;simp only [c,xk];rcases a with a | a
 ·simp at a ⊢;omega
 ·simp only [ye] at a;simp [a.1,a.2]
theorem z6b (w:World):(zeroValue 5).run prog w= .ok (.int .u8 0) w:=by kernel_rfl
variable {ss:List ByteArray}
def z26 (a:List ByteArray):Bool:=decide (a.length≤4096)&&a.all fun s=>decide (s.size≤1048576)
theorem yk3 (h:ss.length≤4096)(b:∀ j (a:j < ss.length),ss[j].size≤1048576):z26 ss=true:=by
 simp only [z26,zbr,vj,zcd];refine⟨h,fun s c=>?_⟩;obtain⟨j,a,rfl⟩:=vo c;exact b j a
theorem ygo (h:4096 < ss.length):z26 ss=false:=by
 simp [z26];omega
theorem yb6 (k:Nat)(a:k < ss.length)(h:1048576 < ss[k].size):z26 ss=false:=by
 simp only [z26,Bool.and_eq_false_iff]
 right
 rw [zqa];exact⟨ss[k],yd a,by simp;omega⟩
theorem yk4 (v:Value)(c:List ByteArray)(w:World)(D:c.length≤maxLen)(u:∀ s∈c,s.size≤maxLen)(h:Sss w v c):
  Calls prog 4 #[v] w fun r F=>r= .returned (.bool (z26 c))∧F=w:=by
 unfold maxLen at D;obtain⟨a,A,rfl,m,t⟩:=h;have y:Hid (c.length=0∨∃ b g,a=some ⟨b,g,none⟩∧∀ i (h:i < c.length),w.cell? ⟨b,g+i,none⟩=some (.string c[i])):=by
  rcases t with h | h
  ·exact .inl (by simp [h])
  ·exact .inr h
 have z:=zf u;clear t u m
 by_cases l:4096 < c.length
 ·rw [ygo l];go_enter func4,ntmps4
  go_wp2
  go_ret;exact⟨rfl,rfl⟩
 ·go_enter func4,ntmps4;go_wp2_with fail
  go_loop [3] (fun i=>∃ k:Nat,k≤c.length∧i= .int .i64 k∧∀ j (e:j < c.length),j < k→c[j].size≤1048576) (fun i=>c.length - (intOf i).toNat)
  case atStart=>exact⟨0,yv _,rfl,fun j _ e=>by omega⟩
  case round =>
   obtain⟨k,G,rfl,e⟩:=hrel;have q:=zf e;clear e
   by_cases f:k < c.length
   ·rcases y.o with h0 | ⟨b,g,rfl,d⟩
    ·omega
    have H:=d k f;clear d;have C:=z.o c[k] (yd f);unfold maxLen at C
    by_cases E:1048576 < c[k].size
    ·have n:=zf (yb6 k f E);generalize c[k]=s at *
     go_wp2
     go_ret;exact⟨by rw [n.o];rfl,rfl⟩
    ·have x:Hid (∀ j (e:j < c.length),j < k+1→c[j].size≤1048576):=fun j p B=>by
      rcases qu j k with h | h
      ·exact q.o j p h
      ·obtain rfl:j=k:=by omega
       omega
     generalize c[k]=s at *
     go_wp2
     go_round
     case rel=>exact⟨k+1,by omega,by go_num,x.o⟩
     case measure=>simp [intOf];omega
   ·have n:=zf (yk3 (ss:=c) (by omega) (fun j e=>q.o j e (by omega)))
    go_wp2
    go_ret;exact⟨by rw [n.o];rfl,rfl⟩
variable {ls:za}{w2:World}{x:Value}
theorem zv6:(prog.info? 5).map (fun i=>(i.zero,i.size,i.bytes))=some (some (.int .u8 0),1,1):=by kernel_rfl
def OB (w:World)(B:Nat)(x:Value)(l:zc):Prop:=w.ownsRow B 5 1 x l.length (l.map bv)∧x≠ .slice none 0 0
theorem OB.form (h:OB w B x l):∃ g a,x= .slice (some ⟨g,0,none⟩) l.length a∧B≤g∧g < w.heap.size∧∀ i (c:i < l.length),w.cell? ⟨g,i,none⟩=some (bv l[i]):=by
 rcases h.1.2 with h0 | ⟨g,a,d,rfl,f,b,m,k,n,j⟩
 ·exact absurd h0.1 h.2
 ·refine⟨g,a,rfl,f,ju b,fun i c=>?_⟩;rw [yq _ _ _ _ _ _ b];have e:(l.map bv)[i]?=some (bv l[i]):=by simp [c]
  rw [← j,qj,if_pos (by omega)] at e;simpa using e
theorem OB.conv (h:OB w B x l):(convert 114 9 x).run prog w= .ok (txt l) w:=by
 obtain⟨g,a,rfl,-,-,b⟩:=h.form;refine zde w _ _ 5 ⟨g,0,none⟩ a l underlying114 jt qw (fun j c=>?_);rw [zcc,xk];exact b j c
theorem OB.below (h:OB w B x l)(a:Below w.heap.size w w'):OB w' B x l:=⟨ym h.1 a,h.2⟩
theorem EB.cells (h:EB w B x l):∃ g a,x= .slice (some ⟨g,0,none⟩) l.length a∧∀ i (b:i < l.length),w.cell? ⟨g,i,none⟩=some (bv l[i]):=by
 obtain⟨g,a,C,e,rfl,f,d,c,j⟩:=h;exact⟨g,a,rfl,fun i b=>by rw [yq _ _ _ _ _ _ d];exact c i b⟩
theorem yar (h:4 < ls.length):okB ls=false:=by
 unfold okB;rw [show decide (ls.length≤4)=false by simp;omega];simp
theorem zwq (h:ls.length=0):okB ls=false:=by
 unfold okB;rw [h];rfl
theorem z4e (k:Nat)(a:k < ls.length)(h:20 < ls[k].length):okB ls=false:=by
 have:ls.all (fun l=>decide (l.length≤20))=false:=by
  rw [zqa];exact⟨ls[k],yd a,by simp;omega⟩
 unfold okB;rw [this];simp
theorem z1a (b:1≤ls.length)(c:ls.length≤4)(h:∀ j (a:j < ls.length),ls[j].length≤20):okB ls=true:=by
 simp only [okB,zbr,vj,zcd];refine⟨b,c,fun s d=>?_⟩;obtain⟨j,a,rfl⟩:=vo d;exact h j a
theorem yf0 (a:za)(k:Nat)(b:k < a.length)(h:a[k].length≤20):
  (zf6 (a.take (k+1))).length=(zf6 (a.take k)).length+1+a[k].length∧(zf6 (a.take (k+1))).map bv=(zf6 (a.take k)).map bv++[.int .u8 (a[k].length:Int)]++a[k].map bv:=by
 rw [qf b,zjj,zok,zss];refine⟨by simp;omega,?_⟩;have e:bv (UInt8.ofNat a[k].length)= .int .u8 (a[k].length:Int):=by
  unfold bv;congr 1;rw [zjy];omega
 rw [yy,ve,e];simp
theorem yen (e:∀ i (f:i < l.length),w.cell? ⟨g,i,none⟩=some (bv l[i]))(d:0 < l.length→g < w.heap.size)(c:Below w.heap.size w w2)(j:Nat)(u:Value)(b:(l.map bv)[j]?=some u):w2.cell? ((⟨g,0,none⟩:Addr).add j)=some u:=by
 have a:j < l.length:=by simpa using (xy.1 b).1
 rw [zcc,xk,c.cell (p:=⟨g,j,none⟩) (d (by omega)),e j a];simpa [a] using b
theorem yf1 (l:zc):∀ u∈l.map bv,u.oneCell'=true:=by
 intro u a;obtain⟨t,_,rfl⟩:=yl.1 a
 rfl
end Go.Proofs.YtlcllcgngjhoaaaGreatDoor
