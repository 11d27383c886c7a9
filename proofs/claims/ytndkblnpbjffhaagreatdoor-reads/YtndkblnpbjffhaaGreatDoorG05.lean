import Derived.Test.YtndkblnpbjffhaaGreatDoorG04
import Derived.Lib.BufferWrite
import Derived.Lib.SlBuf
set_option maxHeartbeats 2000000
set_option maxRecDepth 100000
open Go.RowKit
namespace Go.Proofs.YtndkblnpbjffhaaGreatDoor
def zb5 (g:Nat):Value:= .iface 138 (.pointer (some ⟨g,0,none⟩))
def znh (w:World)(g:Nat):Prop:=∃ c,w.heap[g]?=some (.cells #[.int .i64 c] 380 (0,0))
def zcn (e:Bool)(B:Nat)(r:Value)(w:World):Prop:=(e=false∧r= .nilIface)∨(e=true∧∃ g,r=zb5 g∧B≤g∧znh w g)
theorem zfy (w:World)(n:Nat):Below w.heap.size w (w.drewN n):=⟨rfl,rfl,rfl,Nat.le_refl _,fun _ _=>rfl⟩
theorem zf5 {w w':World}{O:Nat→Prop}{b:Nat}{d:Dk}(h:zq w' (Ext O w w') b d)(o:Obj):zq (w'.alloc o) (Ext O w (w'.alloc o)) b d :=
 (h.stay (T:=[]) (O1:=fun _=>False) (.of_below (ze w' o)) (by simp) (by simp)).mono (Ext.more (by simp))
theorem Bq.of_eb {w:World}{B n r:Nat}{a:Addr}{l:List UInt8}(h:EB w B (.slice (some a) n r) l)(J:l.length≤r):Bq w (.slice (some a) n r) l:=by
 obtain⟨g,A,C,D,e,-,E,H,-⟩:=h;have I:r=A:=by simp at e;exact e.2.2
 exact⟨g,A,C,D,e,by omega,E,H⟩
theorem zlu (w:World)(y:List UInt8)(r:Nat)(A:y.length≤r):Bq (w.alloc (.cells (bytesRow ⟨y.toArray⟩ r) 5 ((bytesRow ⟨y.toArray⟩ r).size,(bytesRow ⟨y.toArray⟩ r).size+1))) (.slice (some ⟨w.heap.size,0,none⟩) y.length r) y:=by
 have h:=EB.conv w ⟨y.toArray⟩ 0 r (Nat.zero_le _);simp only at h;exact Bq.of_eb h A
theorem zg.dT_of1 {O:Nat→Prop}{w w':World}(h:zg O dT1 w w'):zg O dT w w':=h.mono (fun _ h=>h) (fun t r=>by simp at r;simp [r])
theorem z8a (O:Nat→Prop)(b:Nat)(d:Dk)(p x:List UInt8)(v:Value)(w:World)(hn:d.fs.length≤1000000000)(h:zq w O b d)(hv:Bq w v x):
  Calls Tryz.prog 261 #[vr b,txv p,v] w fun r w'=>∃ e,r= .returned e∧zcn (zh9 d p x) w.heap.size e w'∧zg O dT w w'∧zq w' (Ext O w w') b (za8 d p x):=by
 have HV:=za hv;have HD:=za h;clear h hv;unfold vr;have aj:∀ q,txv q= .string ⟨q.toArray⟩:=fun _=>rfl;rw [aj];go_enter Tryz.func261,Tryz.ntmps261;go_wp2_with fail;refine(zkh O b d w HD.o).mono ?_;rintro e w1 ⟨rfl,t1,d1⟩;have af:=yi d;go_wp2_with fail;refine(zhc O b (yg d) p w1 (by rw [af];exact hn) d1).mono ?_;rintro e J ⟨rfl,Y⟩;rw [af];have HT:Hid (zg O dT1 w J):=t1.then_below Y;have S:=za (d1.stay (O1:=fun _=>False) (T:=[]) (.of_below Y) (by simp) (by simp));have U:=za ((HV.o.turn t1 (by decide)).below Y);have ah:∀ n,(convert 100 9 v).run Tryz.prog (J.drewN n)= .ok (.string ⟨x.toArray⟩) (J.drewN n):=fun n=>Bq.conv (w:=J.drewN n) U.o;have HK:=za (zhv d);clear t1 d1 Y HV HD aj af;cases e:ixF d.fs p with
 | some k =>
  have he:ixI d.fs p=k:=by unfold ixI;rw [e]
  rw [he];obtain⟨Z,am,aa,-⟩:=j7 e;obtain⟨fv,hO,hb,hf,hg⟩:=S.o;obtain⟨⟨c0,f0⟩,⟨c1,f1⟩,-,-,-,-,-,⟨c7,f7⟩⟩:=zep hb;rcases zec hf with ⟨a,an,rfl,h0 | ⟨g,rfl,ao,ai,ak,al,hx⟩⟩
  ·rw [yi] at h0;omega
  rw [yi] at c0 ak;have y1:J.cell? ⟨g,k*2+1,none⟩=some (.string ⟨d.fs[k].2.toArray⟩):=by
   rw [cell_of_row _ _ _ _ _ _ ai];have:=(hx k (by rw [yi];exact Z)).2;simp only [yi] at this;exact this
  have HB:=za hb;have HF:=za hf;have HG:=za hg;clear hx ai hb hf hg e he am al;by_cases R:d.fs[k].2=x
  ·have L:Hid (zh9 d p x=decide (0 < xp d)∧za8 d p x=if xp d < 2 then { yg d with fs:=zan d.fs p x } else yg d):=by
    unfold zh9 za8;rw [aa];simp only [if_pos R];exact⟨trivial,trivial⟩
   have q1:(d.fs[k].2==x)=true:=by simp [R]
   clear R aa HB HF HG;generalize d.fs[k].2=y at *
   go_wp2_with fail;go_quiet (fail);have Q:Hid (zq (J.drewN nq) O b (yg d)):=S.o.stay (O1:=fun _=>False) (T:=[]) (.of_below (zfy _ _)) (by simp) (by simp);have V:Hid (Bq (J.drewN nq) v x):=U.o.below (zfy _ _);have E:Hid (zg O dT w (J.drewN nq)):=(HT.o.drewN nq).dT_of1;clear S U HT ah c0 f0 c1 f1 c7 f7 y1;have ad:xp d=0∨xp d=1∨xp d=2:=by have:=HK.o;omega
   generalize J.drewN nq=w3 at *
   rcases ad with H | H | H
   ·rw [H];have D:=za H;clear H;go_wp2_with fail;refine(zh0 O b (yg d) p x v w3 (by rw [yi];exact hn) Q.o V.o).mono ?_;rintro e w4 ⟨rfl,X,W⟩;have K:=za (E.o.trans (X.mono (fun _ h=> .inl h) (fun _ h=>h)));have A:=za (W.mono (O':=Ext O w w4) (fun k Z=>by rcases Z with h | h;exact .inl h;exact .inr ⟨by have:=E.o.size;omega,h.2⟩));clear X W;go_wp2_with fail;go_ret;refine⟨_,rfl,.inl ⟨by rw [L.out.1,D.o];rfl,rfl⟩,K.o,?_⟩;rw [L.out.2,D.o,if_pos (by omega)];rw [yi] at A;exact A.o
   ·rw [H];have D:=za H;clear H;go_wp2_with fail;refine(zh0 O b (yg d) p x v w3 (by rw [yi];exact hn) Q.o V.o).mono ?_;rintro e w4 ⟨rfl,X,W⟩;have K:=za (E.o.trans (X.mono (fun _ h=> .inl h) (fun _ h=>h)));have A:=za (W.mono (O':=Ext O w w4) (fun k Z=>by rcases Z with h | h;exact .inl h;exact .inr ⟨by have:=E.o.size;omega,h.2⟩));clear X W;obtain⟨ac,ae,I,-,-⟩:=A.o;obtain⟨-,⟨z1,ag⟩,-⟩:=zep I;clear I;go_wp2_with fail;go_ret;refine⟨_,rfl,.inr ⟨by rw [L.out.1,D.o];rfl,_,rfl,K.o.size,_,heap_alloc_last _ _⟩,K.o.alloc _,?_⟩;rw [L.out.2,D.o,if_pos (by omega)];rw [yi] at A;exact zf5 A.o _
   ·rw [H];have D:=za H;clear H;have A:Hid (zq w3 (Ext O w w3) b (yg d)):=Q.o.mono (fun _ h=> .inl h);obtain⟨ac,ae,I,-,-⟩:=A.o;obtain⟨-,⟨z1,ag⟩,-⟩:=zep I;clear I;go_wp2_with fail;go_ret;refine⟨_,rfl,.inr ⟨by rw [L.out.1,D.o];rfl,_,rfl,E.o.size,_,heap_alloc_last _ _⟩,E.o.alloc _,?_⟩;rw [L.out.2,D.o,if_neg (by omega)];exact zf5 A.o _
  ·have L:Hid (zh9 d p x=true∧za8 d p x={ yg d with turned:=true }):=by
    unfold zh9 za8;rw [aa];simp only [if_neg R];exact⟨trivial,trivial⟩
   have q1:(d.fs[k].2==x)=false:=by simp [R]
   clear R aa;generalize d.fs[k].2=y at *
   go_wp2_with fail;go_quiet (fail);go_wp2_with fail;go_ret;have t2:=((HT.o.drewN nq).set (o:=7) (.inl hO) (show(J.drewN nq).heap[b]?=_ from HB.o) (by decide) (.bool true))
   have h2:=qo (show(J.drewN nq).heap[b]?=_ from HB.o) 7 (.bool true);have d2:zq ((J.drewN nq).setCell ⟨b,7,none⟩ (.bool true)) (Ext O w ((J.drewN nq).setCell ⟨b,7,none⟩ (.bool true))) b { yg d with turned:=true } :=
    zq.turn (w:=J) (d:=yg d) (fun _ h=> .inl h) hO HF.o HG.o ((zg.refl O dT1 J).drewN nq |>.set (.inl hO) (show(J.drewN nq).heap[b]?=_ from HB.o) (by decide) _) h2 rfl
   refine⟨_,rfl,?_,(t2.alloc _).dT_of1,?_⟩
   ·rw [L.out.1];refine .inr ⟨rfl,_,rfl,HT.o.size,(yg d).calls,?_⟩;rw [show J.heap.size=((J.drewN nq).setCell ⟨b,7,none⟩ (.bool true)).heap.size by simp [World.setCell,World.drewN]];exact heap_alloc_last _ _
   ·rw [L.out.2];exact zf5 d2 _
 | none =>
  have he:ixI d.fs p=-1:=by unfold ixI;rw [e]
  rw [he];have L:Hid (zh9 d p x=decide (0 < xp d)∧za8 d p x=if xp d < 2 then { yg d with fs:=zan d.fs p x } else yg d):=by
   unfold zh9 za8;rw [(vd e).1];exact⟨rfl,rfl⟩
  clear e he;go_wp2_with fail;go_quiet (fail);have Q:Hid (zq (J.drewN nq) O b (yg d)):=S.o.stay (O1:=fun _=>False) (T:=[]) (.of_below (zfy _ _)) (by simp) (by simp);have V:Hid (Bq (J.drewN nq) v x):=U.o.below (zfy _ _);have E:Hid (zg O dT w (J.drewN nq)):=(HT.o.drewN nq).dT_of1;clear S U HT ah;have ad:xp d=0∨xp d=1∨xp d=2:=by have:=HK.o;omega
  generalize J.drewN nq=w3 at *
  rcases ad with H | H | H
  ·rw [H];have D:=za H;clear H;go_wp2_with fail;refine(zh0 O b (yg d) p x v w3 (by rw [yi];exact hn) Q.o V.o).mono ?_;rintro e w4 ⟨rfl,X,W⟩;have K:=za (E.o.trans (X.mono (fun _ h=> .inl h) (fun _ h=>h)));have A:=za (W.mono (O':=Ext O w w4) (fun k Z=>by rcases Z with h | h;exact .inl h;exact .inr ⟨by have:=E.o.size;omega,h.2⟩));clear X W;go_wp2_with fail;go_ret;refine⟨_,rfl,.inl ⟨by rw [L.out.1,D.o];rfl,rfl⟩,K.o,?_⟩;rw [L.out.2,D.o,if_pos (by omega)];rw [yi] at A;exact A.o
  ·rw [H];have D:=za H;clear H;go_wp2_with fail;refine(zh0 O b (yg d) p x v w3 (by rw [yi];exact hn) Q.o V.o).mono ?_;rintro e w4 ⟨rfl,X,W⟩;have K:=za (E.o.trans (X.mono (fun _ h=> .inl h) (fun _ h=>h)));have A:=za (W.mono (O':=Ext O w w4) (fun k Z=>by rcases Z with h | h;exact .inl h;exact .inr ⟨by have:=E.o.size;omega,h.2⟩));clear X W;obtain⟨ac,ae,I,-,-⟩:=A.o;obtain⟨-,⟨z1,ag⟩,-⟩:=zep I;clear I;go_wp2_with fail;go_ret;refine⟨_,rfl,.inr ⟨by rw [L.out.1,D.o];rfl,_,rfl,K.o.size,_,heap_alloc_last _ _⟩,K.o.alloc _,?_⟩;rw [L.out.2,D.o,if_pos (by omega)];rw [yi] at A;exact zf5 A.o _
  ·rw [H];have D:=za H;clear H;have A:Hid (zq w3 (Ext O w w3) b (yg d)):=Q.o.mono (fun _ h=> .inl h);obtain⟨ac,ae,I,-,-⟩:=A.o;obtain⟨-,⟨z1,ag⟩,-⟩:=zep I;clear I;go_wp2_with fail;go_ret;refine⟨_,rfl,.inr ⟨by rw [L.out.1,D.o];rfl,_,rfl,E.o.size,_,heap_alloc_last _ _⟩,E.o.alloc _,?_⟩;rw [L.out.2,D.o,if_neg (by omega)];exact zf5 A.o _
theorem z39 (O:Nat→Prop)(b:Nat)(d:Dk)(p x:List UInt8)(v:Value)(w:World)(hn:d.fs.length≤1000000000)(h:zq w O b d)(hv:Bq w v x):
  Calls Tryz.prog 262 #[vr b,txv p,v] w fun r w'=>∃ e,r= .returned e∧zcn (bad d) w.heap.size e w'∧zg O dT w w'∧zq w' (Ext O w w') b (zdl d p x):=by
 have HV:=za hv;have HD:=za h;clear h hv;unfold vr;have S:∀ q,txv q= .string ⟨q.toArray⟩:=fun _=>rfl;rw [S];go_enter Tryz.func262,Tryz.ntmps262;go_wp2_with fail;refine(zkh O b d w HD.o).mono ?_;rintro e V ⟨rfl,t1,d1⟩;have E:Hid (zg O dT w V):=t1.dT_of1;have K:=za d1;have Q:=za (HV.o.turn t1 (by decide));have HK:=za (zhv d);have L:Hid (bad d=decide (0 < xp d)∧zdl d p x=if xp d < 2 then { yg d with fs:=zan d.fs p x } else yg d):=⟨rfl,rfl⟩
 clear t1 d1 HV HD S;have X:xp d=0∨xp d=1∨xp d=2:=by have:=HK.o;omega
 rcases X with H | H | H
 ·rw [H];have D:=za H;clear H;go_wp2_with fail;refine(zh0 O b (yg d) p x v V (by rw [yi];exact hn) K.o Q.o).mono ?_;rintro e w4 ⟨rfl,U,R⟩;have J:=za (E.o.trans (U.mono (fun _ h=> .inl h) (fun _ h=>h)));have A:=za (R.mono (O':=Ext O w w4) (fun k Z=>by rcases Z with h | h;exact .inl h;exact .inr ⟨by have:=E.o.size;omega,h.2⟩));clear U R;go_wp2_with fail;go_ret;refine⟨_,rfl,.inl ⟨by rw [L.out.1,D.o];rfl,rfl⟩,J.o,?_⟩;rw [L.out.2,D.o,if_pos (by omega)];rw [yi] at A;exact A.o
 ·rw [H];have D:=za H;clear H;go_wp2_with fail;refine(zh0 O b (yg d) p x v V (by rw [yi];exact hn) K.o Q.o).mono ?_;rintro e w4 ⟨rfl,U,R⟩;have J:=za (E.o.trans (U.mono (fun _ h=> .inl h) (fun _ h=>h)));have A:=za (R.mono (O':=Ext O w w4) (fun k Z=>by rcases Z with h | h;exact .inl h;exact .inr ⟨by have:=E.o.size;omega,h.2⟩));clear U R;obtain⟨W,Y,I,-,-⟩:=A.o;obtain⟨-,⟨z1,aa⟩,-⟩:=zep I;clear I;go_wp2_with fail;go_ret;refine⟨_,rfl,.inr ⟨by rw [L.out.1,D.o];rfl,_,rfl,J.o.size,_,heap_alloc_last _ _⟩,J.o.alloc _,?_⟩;rw [L.out.2,D.o,if_pos (by omega)];rw [yi] at A;exact zf5 A.o _
 ·rw [H];have D:=za H;clear H;have A:Hid (zq V (Ext O w V) b (yg d)):=K.o.mono (fun _ h=> .inl h);obtain⟨W,Y,I,-,-⟩:=A.o;obtain⟨-,⟨z1,aa⟩,-⟩:=zep I;clear I;go_wp2_with fail;go_ret;refine⟨_,rfl,.inr ⟨by rw [L.out.1,D.o];rfl,_,rfl,E.o.size,_,heap_alloc_last _ _⟩,E.o.alloc _,?_⟩;rw [L.out.2,D.o,if_neg (by omega)];exact zf5 A.o _
theorem z8n (O:Nat→Prop)(b:Nat)(d:Dk)(p:List UInt8)(w:World)(hn:d.fs.length≤1000000000)(hl:∀ f∈d.fs,f.2.length≤1000000000)(h:zq w O b d):
  Calls Tryz.prog 260 #[vr b,txv p] w fun r w'=>∃ v e,r= .returned (.tuple #[v,e])∧zcn (bad d) w.heap.size e w'∧zg O dT1 w w'∧zq w' O b (yg d) ∧
   ((bad d=false∧∃ x,yp d.fs p=some x∧Bq w' v x)∨((bad d=true∨yp d.fs p=none)∧v= .slice none 0 0)):=by
 have HD:=za h;have HL:=za hl;clear h hl;unfold vr;have U:∀ q,txv q= .string ⟨q.toArray⟩:=fun _=>rfl;rw [U];go_enter Tryz.func260,Tryz.ntmps260;go_wp2_with fail;refine(zkh O b d w HD.o).mono ?_;rintro e w1 ⟨rfl,t1,d1⟩;have W:=za t1;have A:=za d1;have ae:=zhv d;clear t1 d1 HD U;by_cases hK:0 < xp d
 ·have I:Hid (bad d=true):=by show decide _=true;simpa using hK
  obtain⟨ad,af,K,-,-⟩:=A.o;obtain⟨-,⟨z1,ai⟩,-⟩:=zep K;clear K;go_wp2_with fail;go_region;all_goals go_wp2
  all_goals go_ret2
  all_goals refine⟨_,_,rfl,.inr ⟨I.o,_,rfl,W.o.size,_,heap_alloc_last _ _⟩,(W.o.alloc _).drew,A.o.stay (O1:=fun _=>False) (T:=[]) ((zg.refl _ _ w1).alloc _).drew (by simp) (by simp),.inr ⟨.inl I.o,rfl⟩⟩
 ·have I:Hid (bad d=false):=by show decide _=false;simpa using hK
  have Q:=yi d;go_wp2_with fail;refine(zhc O b (yg d) p w1 (by rw [Q];exact hn) A.o).mono ?_;rintro e V ⟨rfl,H⟩;rw [Q];have J:Hid (zg O dT1 w V):=W.o.then_below H;have D:=za (A.o.stay (O1:=fun _=>False) (T:=[]) (.of_below H) (by simp) (by simp));clear H A W;cases e:ixF d.fs p with
  | some k =>
   have L:ixI d.fs p=k:=by unfold ixI;rw [e]
   rw [L];obtain⟨hk,Z,S,-⟩:=j7 e;obtain⟨fv,hO,hb,hf,hg⟩:=D.o;obtain⟨⟨c0,f0⟩,-⟩:=zep hb;rcases zec hf with ⟨a,aa,rfl,h0 | ⟨g,rfl,ac,R,X,Y,hx⟩⟩
   ·rw [yi] at h0;omega
   rw [yi] at c0 X;have y1:V.cell? ⟨g,k*2+1,none⟩=some (.string ⟨d.fs[k].2.toArray⟩):=by
    rw [cell_of_row _ _ _ _ _ _ R];have:=(hx k (by rw [yi];exact hk)).2;simp only [yi] at this;exact this
   have ah:=HL.o _ (List.getElem_mem hk);have E:=za S;clear hx R hb hf hg e L Z Y S;generalize d.fs[k].2=y at *
   have ag:=fun w0=>run_bytes_of_string (P:=Tryz.prog) w0 9 100 5 ⟨y.toArray⟩ Tryz.underlying9 Tryz.underlying100 Tryz.underlying5;go_wp2_with fail;go_ret2;have hq:=zlu V y (grownCap V y.length 0 5) (grownCap_ge _ _ _ _);exact⟨_,_,rfl,.inl ⟨I.o,rfl⟩,(J.o.alloc _).drew,D.o.stay (O1:=fun _=>False) (T:=[]) ((zg.refl _ _ V).alloc _).drew (by simp) (by simp),.inl ⟨I.o,y,E.o,hq⟩⟩
  | none =>
   have L:ixI d.fs p=-1:=by unfold ixI;rw [e]
   rw [L];have E:=za (vd e).1;clear e L;go_wp2_with fail;go_ret2;exact⟨_,_,rfl,.inl ⟨I.o,rfl⟩,J.o,D.o,.inr ⟨.inr E.o,rfl⟩⟩
theorem zm1 (p:Addr)(w:World):
  CallsD Tryz.prog 206 #[.pointer (some p)] .returning w fun e h w'=>e= .returned (.tuple #[])∧h= .returning∧w'=w:=by
 refine callsD_of_wpS Tryz.func206 rfl fun c₀ cs hu=>?_;apply wpS_seq;apply wpS_region;simp [wpOpsS,go_sem,recoverD,hu,Tryz.ntmps206,Exit.thenS];refine wpS_cond (t:=false) (by simp [Act.eval,Array.replicate]) ?_;simp only [Bool.false_eq_true,if_false];refine wpS_of_wp (wp_skip ?_);cases c₀
 simp_all [bodyPostS,results,Tryz.results206]
def qq (g:Nat):Value:= .iface 139 (.pointer (some ⟨g,0,none⟩))
theorem zqu (path:List UInt8)(g:Nat)(lb:Array Value)(w:World)(Q:Value→World→Prop)(eg:∀ args w,(callFunc g args).run Tryz.prog w= .ok (.enter g args) w)
  (E:Calls Tryz.prog g lb (w.alloc (.cells #[.nilIface] 68)) fun r w'=>∃ e,r= .returned e∧Q e w')
  (S:∀ e w',Q e w'→(e= .nilIface∨∃ g,e=zb5 g)∧w'.heap[w.heap.size]?=some (.cells #[.nilIface] 68 (0,0))) :
  Calls Tryz.prog 165 #[txv path,.func (.func g) #[] lb] w fun r U=>∃ e w',Q e w' ∧
   ((e= .nilIface∧r= .returned .nilIface∧U=w'.setCell ⟨w.heap.size,0,none⟩ .nilIface) ∨
    ((∃ g,e=zb5 g)∧r= .returned (qq w'.heap.size)∧U=(w'.alloc (.cells #[txv path,e] 141)).setCell ⟨w.heap.size,0,none⟩ (qq w'.heap.size))):=by
 have Z:∀(L:Fn) (first A:Array Value) (w:World),(Instr.makeFunc L first A).run Tryz.prog w= .ok (.func L first A) w:=fun _ _ _ _=>rfl;have W:=za S;have V:=za E;clear S E;unfold txv qq;go_enter_defers Tryz.func165,Tryz.ntmps165;go_wp2_with fail;refine V.o.mono ?_;rintro r H ⟨e,rfl,I⟩;obtain⟨Y,D⟩:=W.o _ _ I;obtain⟨k0,z0⟩:=zf D 0 _ rfl;have k1:∀ o,(H.alloc o).cell? ⟨w.heap.size,0,none⟩=some .nilIface:=fun o=>(zf (zc (o:=o) D) 0 _ rfl).1;have z1:∀ o,(H.alloc o).frozen? ⟨w.heap.size,0,none⟩=false:=fun o=>(zf (zc (o:=o) D) 0 .nilIface rfl).2;have h:=za D;have K:=za I;clear D I;rcases Y with rfl | ⟨R,rfl⟩
 ·go_wp2_with fail;refine leaves_cons (f:=206) (args:=#[.pointer (some ⟨w.heap.size,0,none⟩)]) (by simp) (by simp [go_sem]) ?_;refine(zm1 ⟨w.heap.size,0,none⟩ _).mono ?_;rintro e u' J ⟨rfl,rfl,rfl⟩;simp [Leaves,settle,results,Tryz.results165,go_sem];have X:(H.setCell ⟨w.heap.size,0,none⟩ .nilIface).cell? ⟨w.heap.size,0,none⟩=some .nilIface:=(zf (qo h.o 0 .nilIface) 0 _ rfl).1;rw [X];exact⟨_,rfl,.nilIface,H,K.o,.inl ⟨rfl,rfl,rfl⟩⟩
 ·unfold zb5;go_wp2_with fail;refine leaves_cons (f:=206) (args:=#[.pointer (some ⟨w.heap.size,0,none⟩)]) (by simp) (by simp [go_sem]) ?_;refine(zm1 ⟨w.heap.size,0,none⟩ _).mono ?_;rintro e u' J ⟨rfl,rfl,rfl⟩;simp [Leaves,settle,results,Tryz.results165,go_sem];rw [(zf (qo (zc h.o) 0 _) 0 _ rfl).1];exact⟨_,rfl,zb5 R,H,K.o,.inr ⟨⟨R,rfl⟩,rfl,rfl⟩⟩
def zj4 (l:List UInt8):List UInt8:=UInt8.ofNat l.length::l
def za3 (h:List (List UInt8)):List UInt8:=(h.map zj4).flatten
def okB (h:List (List UInt8)):Bool:=decide (1≤h.length)&&(decide (h.length≤4)&&h.all fun l=>decide (l.length≤20))
def zoe:Nat→List UInt8→Option (List (List UInt8))
 | _,[]=>some []
 | 0,_::_=>none
 | f+1,c::r=>if c.toNat≤r.length then (zoe f (r.drop c.toNat)).map (r.take c.toNat::·) else none
def unb (d:List UInt8):Option (List (List UInt8)):=zoe d.length d
theorem zuf:∀(n f g:Nat) (d:List UInt8),d.length≤n→d.length≤f→d.length≤g→zoe f d=zoe g d:=by
 intro n
 induction n with
 | zero =>
  intro f g d h _ _;obtain rfl:d=[]:=List.length_eq_zero_iff.1 (by omega);cases f<;>cases g<;>rfl
 | succ n ih =>
  intro f g d h A D;cases d with
  | nil=>cases f<;>cases g<;>rfl
  | cons c r =>
   simp only [List.length_cons] at h A D;obtain⟨f,rfl⟩:∃ k,f=k+1:=⟨f - 1,by omega⟩
   obtain⟨g,rfl⟩:∃ k,g=k+1:=⟨g - 1,by omega⟩
   have E:(r.drop c.toNat).length≤r.length:=by simp
   rw [zoe,zoe,ih f g (r.drop c.toNat) (by omega) (by omega) (by omega)]
theorem zrj:unb []=some []:=rfl
theorem zrn (c:UInt8)(r:List UInt8)(h:c.toNat≤r.length):unb (c::r)=(unb (r.drop c.toNat)).map (r.take c.toNat::·):=by
 have A:(r.drop c.toNat).length≤r.length:=by simp
 show zoe (r.length+1) (c::r)=_;rw [zoe,if_pos h,zuf r.length r.length (r.drop c.toNat).length (r.drop c.toNat) A A (Nat.le_refl _)];rfl
theorem zy7 (c:UInt8)(r:List UInt8)(h:¬ c.toNat≤r.length):unb (c::r)=none:=by
 show zoe (r.length+1) (c::r)=_;rw [zoe,if_neg h]
def zfb (d:List UInt8):Option (List (List UInt8)):=match unb d with
 | some ls=>if okB ls then some ls else none
 | none=>none
theorem zdb (a b:List (List UInt8)):za3 (a++b)=za3 a++za3 b:=by simp [za3]
theorem zho (l:List UInt8):za3 [l]=zj4 l:=by simp [za3]
theorem zs7 (r:List (List UInt8))(h:∀ l∈r,l.length≤20):(za3 r).length≤21*r.length:=by
 induction r with
 | nil=>simp [za3]
 | cons a t ih =>
  rw [show a::t=[a]++t from rfl,zdb,zho];have h1:=h a (by simp);have h2:=ih (fun l A=>h l (by simp [A]));simp [zj4];omega
theorem zzb:∀(n:Nat) (d:List UInt8)(A:List (List UInt8)) ,d.length≤n→unb d=some A→za3 A=d:=by
 intro n
 induction n with
 | zero =>
  intro d A E h;obtain rfl:d=[]:=List.length_eq_zero_iff.1 (by omega);rw [zrj] at h;obtain rfl:[]=A:=by simpa using h
  rfl
 | succ n ih =>
  intro d A E h;cases d with
  | nil =>
   rw [zrj] at h;obtain rfl:[]=A:=by simpa using h
   rfl
  | cons c r =>
   by_cases D:c.toNat≤r.length
   ·rw [zrn c r D] at h;obtain⟨t,H,rfl⟩:=Option.map_eq_some_iff.1 h;have:=ih (r.drop c.toNat) t (by simp at E ⊢;omega) H;rw [show r.take c.toNat::t=[r.take c.toNat]++t from rfl,zdb,zho,this,zj4];have e:(r.take c.toNat).length=c.toNat:=by simp;omega
    rw [e];simp
   ·rw [zy7 c r D] at h;simp at h
def Un (d:List UInt8)(h:List (List UInt8))(r:List UInt8):Prop:=unb d=(unb r).map (h++·)∧h.length+r.length≤d.length
theorem Un.start (d:List UInt8):Un d [] d:=⟨by cases h:unb d<;>simp,by simp⟩
theorem Un.step {d:List UInt8}{A:List (List UInt8)}{c:UInt8}{r:List UInt8}(h:Un d A (c::r))(D:c.toNat≤r.length):Un d (A++[r.take c.toNat]) (r.drop c.toNat):=by
 refine⟨?_,?_⟩
 ·rw [h.1,zrn c r D];cases unb (r.drop c.toNat)<;>simp
 ·have:=h.2;simp at this ⊢;omega
theorem Un.fail {d:List UInt8}{A:List (List UInt8)}{c:UInt8}{r:List UInt8}(h:Un d A (c::r))(D:¬ c.toNat≤r.length):zfb d=none:=by
 unfold zfb;rw [h.1,zy7 c r D];rfl
theorem Un.done {d:List UInt8}{r:List (List UInt8)}(h:Un d r []):unb d=some r:=by
 rw [h.1,zrj];simp
theorem Un.many {d:List UInt8}{A:List (List UInt8)}{c:UInt8}{r:List UInt8}(h:Un d A (c::r))(E:4≤A.length):zfb d=none:=by
 by_cases D:c.toNat≤r.length
 ·have:=(h.step D).1;unfold zfb;rw [this];cases unb (r.drop c.toNat) with
  | none=>rfl
  | some t =>
   have:okB (A++[r.take c.toNat]++t)=false:=by
    unfold okB;rw [show decide ((A++[r.take c.toNat]++t).length≤4)=false by simp;omega];simp
   simp only [Option.map_some];rw [this];rfl
 ·exact h.fail D
theorem Un.long {d:List UInt8}{A:List (List UInt8)}{c:UInt8}{r:List UInt8}(h:Un d A (c::r))(h20:20 < c.toNat):zfb d=none:=by
 by_cases D:c.toNat≤r.length
 ·have:=(h.step D).1;unfold zfb;rw [this];cases unb (r.drop c.toNat) with
  | none=>rfl
  | some t =>
   have:okB (A++[r.take c.toNat]++t)=false:=by
    unfold okB;have:(A++[r.take c.toNat]++t).all (fun l=>decide (l.length≤20))=false:=by
     rw [List.all_append,List.all_append];have:([r.take c.toNat]).all (fun l=>decide (l.length≤20))=false:=by simp;omega
     rw [this];simp
    rw [this];simp
   simp only [Option.map_some];rw [this];rfl
 ·exact h.fail D
theorem Un.end_ok {d:List UInt8}{r:List (List UInt8)}(h:Un d r [])(A:okB r=true):zfb d=some r∧za3 r=d:=by
 refine⟨?_,zzb d.length d r (Nat.le_refl _) h.done⟩;unfold zfb;rw [h.done];simp [A]
theorem Un.end_not {d:List UInt8}{r:List (List UInt8)}(h:Un d r [])(A:okB r=false):zfb d=none:=by
 unfold zfb;rw [h.done];simp [A]
def e8 (l:List UInt8):List UInt8:=l.take 8++List.replicate (8 - l.length) 0
def z8:List UInt8:=[0,0,0,0,0,0,0,0]
def c8 (s:ByteArray):ByteArray:=⟨(e8 s.data.toList).toArray⟩
theorem zf6:(Tryz.prog.info? 9).map (fun i=>(i.zero,i.size,i.bytes))=some (some (.string ⟨#[]⟩),1,16):=by kernel_rfl
theorem z5k:(Tryz.prog.info? 92).map (fun i=>(i.zero,i.size,i.bytes))=some (some (.agg (hv z8)),8,8):=by kernel_rfl
theorem Sss.of_owns {w:World}{B:Nat}{v:Value}{r:List ByteArray}(h:w.ownsRow B 9 1 v r.length (r.map Value.string)):Sss w v r:=by
 rcases h.2 with ⟨rfl,h0⟩ | ⟨g,E,A,rfl,K,H,I,hm,L,J⟩
 ·exact⟨none,0,by rw [h0],by rw [h0];exact Nat.le_refl _,.inl (List.length_eq_zero_iff.1 h0)⟩
 ·refine⟨_,_,rfl,I,.inr ⟨g,0,rfl,fun i D=>?_⟩⟩;rw [Nat.zero_add,cell_of_row _ _ _ _ _ _ H];have e:(A.toList.take (r.length*1))[i]?=some (.string r[i]):=by rw [J];simp [D]
  rw [Nat.mul_one,List.getElem?_take,if_pos D] at e;simpa using e
def Hss (w:World)(v:Value)(r:List (List UInt8)):Prop :=
 ∃ a A,v= .slice a r.length A∧r.length≤A∧(∀ p∈r,p.length=8)∧(r=[]∨∃ b D,a=some ⟨b,D,none⟩∧∀ i (h:i < r.length),w.rangeAt b (D+i*8) (hv r[i]).toList)
theorem vy {w w':World}{b o:Nat}{cs:List Value}(h:w.rangeAt b o cs)(r:Below w.heap.size w w'):w'.rangeAt b o cs:=fun j v hv=>by
 have:=h j v hv;rw [r.cell (zk (p:=⟨b,o+j,none⟩) this)];exact this
theorem Hss.below {w w':World}{v:Value}{E:List (List UInt8)}(h:Hss w v E)(I:Below w.heap.size w w'):Hss w' v E:=by
 obtain⟨a,r,rfl,A,H,h⟩:=h;refine⟨a,r,rfl,A,H,?_⟩;rcases h with h | ⟨b,D,rfl,J⟩
 ·exact .inl h
 ·exact .inr ⟨b,D,rfl,fun i K=>vy (J i K) I⟩
def zlm (h:List (List UInt8)):List Value:=(h.map fun p=>(hv p).toList).flatten
theorem zy4 (r:List (List UInt8))(h:∀ p∈r,p.length=8)(i j:Nat)(D:i < r.length)(H:j < 8):(zlm r)[i*8+j]?=(hv r[i]).toList[j]?:=by
 induction r generalizing i with
 | nil=>simp at D
 | cons p r ih =>
  have h1:=h p (by simp);have A:(hv p).toList.length=8:=by rw [Array.length_toList,qm,h1]
  cases i with
  | zero =>
   simp only [zlm,List.map_cons,List.flatten_cons];rw [List.getElem?_append_left (by rw [A];omega)];simp
  | succ i =>
   have h2:=ih (fun q E=>h q (by simp [E])) i (by simpa using D);simp only [zlm,List.map_cons,List.flatten_cons] at h2 ⊢;rw [List.getElem?_append_right (by rw [A];omega),A,show(i+1)*8+j - 8=i*8+j by omega,h2];simp
theorem Hss.of_owns {w:World}{B:Nat}{v:Value}{r:List (List UInt8)}(A:∀ p∈r,p.length=8)(h:w.ownsRow B 92 8 v r.length (zlm r)):Hss w v r:=by
 rcases h.2 with ⟨rfl,h0⟩ | ⟨g,E,H,rfl,Q,I,K,hm,R,L⟩
 ·exact⟨none,0,by rw [h0],by rw [h0];exact Nat.le_refl _,A,.inl (List.length_eq_zero_iff.1 h0)⟩
 ·refine⟨_,_,rfl,K,A,.inr ⟨g,0,rfl,fun i D=>?_⟩⟩;intro j v hv;have J:j < 8:=by
   have:=(List.getElem?_eq_some_iff.1 hv).1;rw [Array.length_toList,qm,A _ (List.getElem_mem D)] at this;exact this
  rw [Nat.zero_add,cell_of_row _ _ _ _ _ _ I];have e:=zy4 r A i j D J;rw [hv,← L,List.getElem?_take,if_pos (by omega)] at e;simpa using e
theorem vk (b:Nat):∀(A:List Value) (o:Nat) (w:World) (k:Nat),k≠b→(w.setCells b o A).heap[k]?=w.heap[k]?
 | [],_,_,_,_=>rfl
 | v::r,o,w,k,h=>by rw [World.setCells,vk b r (o+1) _ k h,Below.heap_setCell _ _ _ _ h]
theorem zbk (b:Nat):∀(h:List Value) (o:Nat) (w:World),(w.setCells b o h).os=w.os∧(w.setCells b o h).tape=w.tape∧(w.setCells b o h).output=w.output∧(w.setCells b o h).heap.size=w.heap.size
 | [],_,_=>⟨rfl,rfl,rfl,rfl⟩
 | v::r,o,w=>by
  obtain⟨a,A,c,d⟩:=zbk b r (o+1) (w.setCell ⟨b,o,none⟩ v);exact⟨a,A,c,by rw [World.setCells,d];simp [World.setCell]⟩
theorem zuz {P:Program}(w:World)(t e D:TypeId)(z:Value)(A:P.underlying t=some (.slice e))(hv:∀ w,(zeroValue e).run P w= .ok z w)(E:z.cells=#[z])(h1:z.oneCell'=true)(g n c:Nat)(h:w.there g 0 n):
  (Builtin.clear_ #[t] D #[.slice (some ⟨g,0,none⟩) n c]).run P w= .ok (.tuple #[]) (w.setCells g 0 (List.replicate n z)):=by
 by_cases h0:n=0
 ·subst h0;simp [Builtin.clear_,run_underlying A,World.setCells]
 ·exact Lib.run_clear_slice w t e D z A hv E h1 g 0 n c (by omega) (fun j r=>(h j r).1) (fun j r=>(h j r).2)
theorem zvm {P:Program}(w:World)(t e r:TypeId)(h:P.underlying t=some (.slice e))(a:Option Addr)(c:Nat):
  (Builtin.clear_ #[t] r #[.slice a 0 c]).run P w= .ok (.tuple #[]) w:=by
 cases a<;>simp [Builtin.clear_,run_underlying h]
theorem zq2 {w:World}{g n:Nat}{C:Array Value}{t:TypeId}{r:Nat×Nat}(A:w.heap[g]?=some (.cells C t r))(H:n≤C.size)(h:n≤r.1∨r=(0,0)):w.there g 0 n:=fun j E=>by
 refine⟨by rw [Nat.zero_add,cell_of_row _ _ _ _ _ _ A,Array.getElem?_eq_getElem (by omega)];rfl,?_⟩;obtain⟨I,D⟩:=r;unfold World.frozen?;simp only [A,Nat.zero_add];rcases h with h | h
 ·simp at h ⊢;omega
 ·simp only [Prod.mk.injEq] at h;simp [h.1,h.2]
theorem zru (w:World):(zeroValue 5).run Tryz.prog w= .ok (.int .u8 0) w:=by kernel_rfl
end Go.Proofs.YtndkblnpbjffhaaGreatDoor
