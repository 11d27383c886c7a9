import Derived.Test.YtndkblnpbjffhaaGreatDoorG06
import Derived.Lib.ItoaMem
import Derived.Lib.AtoiAllCases
import Derived.Lib.IndexMore
set_option maxHeartbeats 1000000
set_option maxRecDepth 100000
open Go.RowKit
namespace Go.Proofs.YtndkblnpbjffhaaGreatDoor
structure Lg where
 key:List UInt8
 es:List (List UInt8)
 put:Nat
 live:Bool
def stV (h:Nat)(live:Bool):Value:=if live then .iface 36 (vr h) else .nilIface
def zd8 (h:Nat)(r:Value)(l:Lg):Array Value:=#[stV h l.live,txv l.key,r,.int .i64 l.put]
def qz (w:World)(O:Nat→Prop)(r b:Nat)(l:Lg):Prop :=
 ∃ h,O b∧w.heap[b]?=some (.cells (zd8 r h l) 189 (0,0))∧OBs w 0 h l.es∧∀ g,h.ownBlock=some g→O g
theorem zj9 {d:Dk}{p:List UInt8}{w:World}{v:Value}(h:(bad d=false∧∃ x,yp d.fs p=some x∧Bq w v x)∨((bad d=true∨yp d.fs p=none)∧v= .slice none 0 0)):∃ a n c,v= .slice a n c:=by
 rcases h with ⟨-,x,-,g,r,C,A,rfl,-⟩ | ⟨-,rfl⟩
 ·exact⟨_,_,_,rfl⟩
 ·exact⟨_,_,_,rfl⟩
theorem z33 (n:Nat)(v:Value)(w:World):(method (n+1) 36 v "Get").run Tryz.prog w= .ok (260,v) w:=by kernel_rfl
theorem z5i (n:Nat)(v:Value)(w:World):(method (n+1) 36 v "Put").run Tryz.prog w= .ok (261,v) w:=by kernel_rfl
theorem zz3 (n:Nat)(v:Value)(w:World):(method (n+1) 36 v "Swap").run Tryz.prog w= .ok (262,v) w:=by kernel_rfl
theorem z6e (O:Nat→Prop)(E lb K L D:Nat)(d:Dk)(p:List UInt8)(u:Value)(w:World)(hn:d.fs.length≤1000000000)(R:∀ f∈d.fs,f.2.length≤1000000000)(h:zq w O E d)
  (h1:w.cell? ⟨K,0,none⟩=some (.pointer (some ⟨lb,0,none⟩))) (h2:w.cell? ⟨L,0,none⟩=some (txv p)) (I:w.heap[D]?=some (.cells #[u] 100 (0,0))) (A:w.cell? ⟨lb,0,none⟩=some (stV E true)) :
  Calls Tryz.prog 166 #[.pointer (some ⟨K,0,none⟩),.pointer (some ⟨L,0,none⟩),.pointer (some ⟨D,0,none⟩)] w fun r w2=>∃ v e w',r= .returned e∧w2=w'.setCell ⟨D,0,none⟩ v∧zcn (bad d) w.heap.size e w'∧zg O dT1 w w'∧zq w' O E (yg d) ∧
   ((bad d=false∧∃ x,yp d.fs p=some x∧Bq w' v x)∨((bad d=true∨yp d.fs p=none)∧v= .slice none 0 0)):=by
 unfold stV vr at A;simp only [if_true] at A;unfold txv at h2;obtain⟨k3,z3⟩:=zf I 0 u rfl;have V:=za h;have U:=za I;have W:=za R;clear h I R;go_enter Tryz.func166,Tryz.ntmps166;go_wp2_with fail;have hm:=z33
 go_region_with (go_at_call 260;refine(z8n O E d p _ hn W.o (by exact V.o)).mono ?_;rintro r w1 ⟨v,e,rfl,S,J,Q,hv⟩;obtain⟨a,n,c,rfl⟩:=zj9 hv;have X:=za S;have Y:=za J;have H:=za Q;have Z:=za hv;obtain⟨k4,z4⟩:=zf (J.keep (k:=D) U.o (by decide)) 0 u rfl;clear S J Q hv)
 all_goals go_wp2
 all_goals go_ret
 all_goals exact⟨_,_,w1,rfl,rfl,X.o,Y.o.undrew,H.o,Z.o⟩
def z7t (w:World)(g:Nat)(p:List UInt8):Prop:=∃ h,w.heap[g]?=some (.cells #[txv p,zb5 h] 141 (0,0))∧znh w h
def zc1 (e:Bool)(p:List UInt8)(B:Nat)(r:Value)(w:World):Prop:=(e=false∧r= .nilIface)∨(e=true∧∃ g,r=qq g∧B≤g∧z7t w g p)
theorem znh.turn {w w':World}{O:Nat→Prop}{T:List Nat}{g:Nat}(h:znh w g)(A:zg O T w w')(r:380∉T):znh w' g:=by
 obtain⟨c,h⟩:=h;exact⟨c,A.keep h r⟩
theorem z7t.turn {w w':World}{O:Nat→Prop}{T:List Nat}{g:Nat}{p:List UInt8}(h:z7t w g p)(A:zg O T w w')(H:380∉T)(r:141∉T):z7t w' g p:=by
 obtain⟨D,h,E⟩:=h;exact⟨D,A.keep h r,E.turn A H⟩
theorem zj6 {e:Bool}{B:Nat}{r:Value}{w:World}(h:zcn e B r w):r= .nilIface∨∃ g,r=zb5 g:=by
 rcases h with ⟨-,rfl⟩ | ⟨-,g,rfl,-⟩
 ·exact .inl rfl
 ·exact .inr ⟨g,rfl⟩
abbrev cT:List Nat:=[100,68]
theorem zaa {w:World}{b:Nat}{cs:Array Value}{t:TypeId}(h:w.heap[b]?=some (.cells cs t (0,0)))(r:t∈cT)(u:Value):zg (fun _=>True) cT w (w.setCell ⟨b,0,none⟩ u):=(zg.refl _ _ w).set (.inl trivial) h r u
theorem zvp (w:World)(h r A:Obj):(((w.alloc h).alloc r).alloc A).heap.size=w.heap.size+3∧(((w.alloc h).alloc r).alloc A).heap[w.heap.size]?=some h∧(((w.alloc h).alloc r).alloc A).heap[w.heap.size+1]?=some r∧(((w.alloc h).alloc r).alloc A).heap[w.heap.size+1+1]?=some A∧Below w.heap.size w (((w.alloc h).alloc r).alloc A):=by
 have D:(w.alloc h).heap.size=w.heap.size+1:=by simp
 have E:((w.alloc h).alloc r).heap.size=w.heap.size+1+1:=by simp
 refine⟨by simp,zc (zc (heap_alloc_last _ _)),?_,?_,?_⟩
 ·rw [← D];exact zc (heap_alloc_last _ _)
 ·rw [← E];exact heap_alloc_last _ _
 ·exact((ze w h).trans ((ze _ r).mono (by simp))).trans ((ze _ A).mono (by simp;omega))
theorem zex {w:World}{b k:Nat}{u:Value}{o:Obj}(h:w.heap[k]?=some o)(r:k≠b):(w.setCell ⟨b,0,none⟩ u).heap[k]?=some o:=by rw [heap_setCell_other _ _ _ _ r];exact h
theorem zsn (O:Nat→Prop)(R lb:Nat)(d:Dk)(p:List UInt8)(w:World)(hn:d.fs.length≤1000000000)(hl:∀ f∈d.fs,f.2.length≤1000000000)(h:zq w O R d)(af:w.cell? ⟨lb,0,none⟩=some (stV R true)):
  Calls Tryz.prog 114 #[.pointer (some ⟨lb,0,none⟩),txv p] w fun r w'=>∃ v e,r= .returned (.tuple #[v,e])∧zc1 (bad d) p w.heap.size e w'∧zg O dT1 w w'∧zq w' O R (yg d) ∧
   ((bad d=false∧∃ x,yp d.fs p=some x∧Bq w' v x)∨((bad d=true∨yp d.fs p=none)∧v= .slice none 0 0)):=by
 have al:∀(fn:Fn) (first aa:Array Value) (w:World),(Instr.makeFunc fn first aa).run Tryz.prog w= .ok (.func fn first aa) w:=fun _ _ _ _=>rfl;have eg:∀ args w,(callFunc 166 args).run Tryz.prog w= .ok (.enter 166 args) w:=enters_of Tryz.func166 (by kernel_rfl) rfl;have HD:=za h;have HL:=za hl;have HS:=za af;clear h hl af;have ak:txv p= .string ⟨p.toArray⟩:=rfl;rw [ak];go_enter Tryz.func114,Tryz.ntmps114;go_wp2_with fail;obtain⟨s3,p1,p2,p3,E⟩:=zvp w (.cells #[.pointer (some ⟨lb,0,none⟩)] 127) (.cells #[.string ⟨p.toArray⟩] 9) (.cells #[.slice none 0 0] 100);generalize (((w.alloc (.cells #[.pointer (some ⟨lb,0,none⟩)] 127)).alloc (.cells #[.string ⟨p.toArray⟩] 9)).alloc (.cells #[.slice none 0 0] 100))=A at *
 have Z:=za E;have P3:=za p3;have S3:=za s3;have ac:=z6e O R lb w.heap.size (w.heap.size+1) (w.heap.size+1+1) d p (.slice none 0 0) (A.alloc (.cells #[.nilIface] 68)) hn HL.o
  (HD.o.stay (O1:=fun _=>False) (T:=[]) ((zg.of_below E).alloc _) (by simp) (by simp))
  (zf (zc p1) 0 _ rfl).1 (zf (zc p2) 0 _ rfl).1 (zc p3) (by rw [zl _ _ ⟨_,0,none⟩ (Nat.lt_of_lt_of_le (zk HS.o) E.size),E.cell (p:=⟨lb,0,none⟩) (zk HS.o)];exact HS.o)
 have H0:Hid ((A.alloc (.cells #[.nilIface] 68)).heap[A.heap.size]?=some (.cells #[.nilIface] 68 (0,0))):=heap_alloc_last _ _;have hW:Hid ((A.alloc (.cells #[.nilIface] 68)).heap.size=A.heap.size+1):=by show _=_;simp
 have S:Hid (Below w.heap.size w (A.alloc (.cells #[.nilIface] 68))):=E.alloc (by omega) _;have P4:Hid ((A.alloc (.cells #[.nilIface] 68)).heap[w.heap.size+1+1]?=some (.cells #[.slice none 0 0] 100 (0,0))):=zc p3;refine(zqu p 166 _ A (fun e w2=>∃ v w',w2=w'.setCell ⟨w.heap.size+1+1,0,none⟩ v∧zcn (bad d) (A.alloc (.cells #[.nilIface] 68)).heap.size e w'∧zg O dT1 (A.alloc (.cells #[.nilIface] 68)) w'∧zq w' O R (yg d)∧((bad d=false∧∃ x,yp d.fs p=some x∧Bq w' v x)∨((bad d=true∨yp d.fs p=none)∧v= .slice none 0 0))) eg
  (ac.mono (by rintro r w2 ⟨v,e,w',rfl,h⟩;exact⟨e,rfl,v,w',h⟩)) ?_).mono ?_
 ·rintro e w2 ⟨v,w',rfl,U,X,-⟩;exact⟨zj6 U,zex (X.keep H0.o (by decide)) (by have:=S3.out;omega)⟩
 clear ac p1 p2 p3 E s3;generalize A.alloc (.cells #[.nilIface] 68)=W4 at *
 rintro r w5 ⟨e,w2,⟨v,w',rfl,U,X,hd,hv⟩,h⟩;obtain⟨a,n,c,rfl⟩:=zj9 hv;have q3:=X.keep P4.out (by decide);have q0:=X.keep H0.o (by decide);have tw:zg O dT1 w w':=(zg.of_below S.out).trans (X.mono (fun _ h=> .inl h) (fun _ h=>h));have W:A.heap.size≠w.heap.size+1+1:=by have:=S3.out;omega
 have ag:w.heap.size≤A.heap.size:=by have:=S3.out;omega
 have r3:=qo q3 0 (.slice a n c);have r0:=zex (u:= .slice a n c) q0 W;have Y:zg (fun _=>True) cT w' (w'.setCell ⟨w.heap.size+1+1,0,none⟩ (.slice a n c)):=zaa q3 (by decide) _;rcases h with ⟨rfl,rfl,rfl⟩ | ⟨⟨H,rfl⟩,rfl,rfl⟩
 ·have I:bad d=false:=by
   rcases U with ⟨h,-⟩ | ⟨-,g,h,-⟩
   ·exact h
   ·simp [zb5] at h
  have J:=zaa r0 (by decide) .nilIface;have D:=zex (u:= .nilIface) r3 (Ne.symm W);have K:=zaa D (by decide) (.slice a n c);have rf:=qo D 0 (.slice a n c);have L:Hid (zc1 (bad d) p w.heap.size .nilIface (((w'.setCell ⟨w.heap.size+1+1,0,none⟩ (.slice a n c)).setCell ⟨A.heap.size,0,none⟩ .nilIface).setCell ⟨w.heap.size+1+1,0,none⟩ (.slice a n c))∧zg O dT1 w (((w'.setCell ⟨w.heap.size+1+1,0,none⟩ (.slice a n c)).setCell ⟨A.heap.size,0,none⟩ .nilIface).setCell ⟨w.heap.size+1+1,0,none⟩ (.slice a n c))∧zq (((w'.setCell ⟨w.heap.size+1+1,0,none⟩ (.slice a n c)).setCell ⟨A.heap.size,0,none⟩ .nilIface).setCell ⟨w.heap.size+1+1,0,none⟩ (.slice a n c)) O R (yg d) ∧
   ((bad d=false∧∃ x,yp d.fs p=some x∧Bq (((w'.setCell ⟨w.heap.size+1+1,0,none⟩ (.slice a n c)).setCell ⟨A.heap.size,0,none⟩ .nilIface).setCell ⟨w.heap.size+1+1,0,none⟩ (.slice a n c)) (.slice a n c) x)∨((bad d=true∨yp d.fs p=none)∧Value.slice a n c= .slice none 0 0))):=by
   refine⟨.inl ⟨I,rfl⟩,((tw.setNew (by omega) _ _).setNew ag _ _).setNew (by omega) _ _,((hd.stay Y (by decide) (by decide)).stay J (by decide) (by decide)).stay K (by decide) (by decide),?_⟩;rcases hv with ⟨h1,x,h2,h3⟩ | h
   ·exact .inl ⟨h1,x,h2,((h3.turn Y (by decide)).turn J (by decide)).turn K (by decide)⟩
   ·exact .inr h
  obtain⟨kc,kz⟩:=zf D 0 (.slice a n c) rfl;have Q:=za (zf rf 0 (.slice a n c) rfl).1;clear Y J K tw U X hd hv q3 q0 r3 r0 D rf S H0 P4 P3 Z HS HL HD;go_wp2_with fail;refine bodyPost_ret (v:= .tuple #[.slice a n c,.nilIface]) ?_ rfl ⟨_,_,rfl,L.o⟩;simp [results,Tryz.results114,go_sem,Q.o]
 ·have I:bad d=true:=by
   rcases U with ⟨-,h⟩ | ⟨h,-⟩
   ·simp [zb5] at h
   ·exact h
  have ad:znh w' H:=by
   rcases U with ⟨-,h⟩ | ⟨-,g,h,-,h'⟩
   ·simp [zb5] at h
   ·simp [zb5] at h;exact h▸h'
  have V:(w'.setCell ⟨w.heap.size+1+1,0,none⟩ (.slice a n c)).heap.size=w'.heap.size:=by simp [World.setCell]
  rw [V];have ae:((w'.setCell ⟨w.heap.size+1+1,0,none⟩ (.slice a n c)).alloc (.cells #[txv p,zb5 H] 141)).heap[w'.heap.size]?=some (.cells #[txv p,zb5 H] 141 (0,0)):=by rw [← V];exact heap_alloc_last _ _
  have tP:zg (fun _=>True) cT (w'.setCell ⟨w.heap.size+1+1,0,none⟩ (.slice a n c)) ((w'.setCell ⟨w.heap.size+1+1,0,none⟩ (.slice a n c)).alloc (.cells #[txv p,zb5 H] 141)):=(zg.refl _ _ _).alloc _;have ah:=zc (o:= .cells #[txv p,zb5 H] 141) r0;have ai:=zc (o:= .cells #[txv p,zb5 H] 141) r3;have J:=zaa ah (by decide) (qq w'.heap.size);have D:=zex (u:=qq w'.heap.size) ai (Ne.symm W);have K:=zaa D (by decide) (.slice a n c);have rf:=qo D 0 (.slice a n c);have aj:w.heap.size≤w'.heap.size:=tw.size;have L:Hid (zc1 (bad d) p w.heap.size (qq w'.heap.size) ((((w'.setCell ⟨w.heap.size+1+1,0,none⟩ (.slice a n c)).alloc (.cells #[txv p,zb5 H] 141)).setCell ⟨A.heap.size,0,none⟩ (qq w'.heap.size)).setCell ⟨w.heap.size+1+1,0,none⟩ (.slice a n c))∧zg O dT1 w ((((w'.setCell ⟨w.heap.size+1+1,0,none⟩ (.slice a n c)).alloc (.cells #[txv p,zb5 H] 141)).setCell ⟨A.heap.size,0,none⟩ (qq w'.heap.size)).setCell ⟨w.heap.size+1+1,0,none⟩ (.slice a n c))∧zq ((((w'.setCell ⟨w.heap.size+1+1,0,none⟩ (.slice a n c)).alloc (.cells #[txv p,zb5 H] 141)).setCell ⟨A.heap.size,0,none⟩ (qq w'.heap.size)).setCell ⟨w.heap.size+1+1,0,none⟩ (.slice a n c)) O R (yg d) ∧
   ((bad d=false∧∃ x,yp d.fs p=some x∧Bq ((((w'.setCell ⟨w.heap.size+1+1,0,none⟩ (.slice a n c)).alloc (.cells #[txv p,zb5 H] 141)).setCell ⟨A.heap.size,0,none⟩ (qq w'.heap.size)).setCell ⟨w.heap.size+1+1,0,none⟩ (.slice a n c)) (.slice a n c) x)∨((bad d=true∨yp d.fs p=none)∧Value.slice a n c= .slice none 0 0))):=by
   refine⟨.inr ⟨I,w'.heap.size,rfl,aj,H,?_,?_⟩,(((tw.setNew (by omega) _ _).alloc _).setNew ag _ _).setNew (by omega) _ _,(((hd.stay Y (by decide) (by decide)).stay tP (by decide) (by decide)).stay J (by decide) (by decide)).stay K (by decide) (by decide),?_⟩
   ·exact K.keep (J.keep ae (by decide)) (by decide)
   ·exact(((ad.turn Y (by decide)).turn tP (by decide)).turn J (by decide)).turn K (by decide)
   ·rcases hv with ⟨h1,x,h2,h3⟩ | h
    ·rw [I] at h1;simp at h1
    ·exact .inr h
  obtain⟨kc,kz⟩:=zf D 0 (.slice a n c) rfl;have Q:=za (zf rf 0 (.slice a n c) rfl).1;clear Y J K tP tw U X hd hv q3 q0 r3 r0 D ai ah rf S H0 P4 P3 Z HS HL HD ae ad V;unfold txv qq zb5 at *
  go_wp2_with fail;refine bodyPost_ret (v:= .tuple #[.slice a n c,.iface 139 (.pointer (some ⟨w'.heap.size,0,none⟩))]) ?_ rfl ⟨_,_,rfl,L.o⟩;simp [results,Tryz.results114,go_sem,Q.o]
def dec (n:Nat):List UInt8:=Lib.decDigits n
def zcl (c:UInt8):Prop:=48≤c.toNat∧c.toNat≤57
theorem zhz {n:Nat}(h:n < 10):dec n=[UInt8.ofNat (48+n)]:=by unfold dec;rw [Lib.decDigits,dif_pos h]
theorem zfj {n:Nat}(h:¬ n < 10):dec n=dec (n / 10)++[UInt8.ofNat (48+n % 10)]:=by unfold dec;rw [Lib.decDigits,dif_neg h]
theorem ze2 (d:Nat)(h:d < 10):(UInt8.ofNat (48+d)).toNat=48+d:=by rw [UInt8.toNat_ofNat'];omega
theorem ziv (n:Nat):∀ c∈dec n,zcl c:=by
 induction n using Nat.strongRecOn with
 | _ n ih =>
  intro c r;by_cases h:n < 10
  ·rw [zhz h] at r;obtain rfl:c=UInt8.ofNat (48+n):=by simpa using r
   unfold zcl;rw [ze2 n h];omega
  ·rw [zfj h] at r;rcases List.mem_append.1 r with A | A
   ·exact ih (n / 10) (by omega) c A
   ·obtain rfl:c=UInt8.ofNat (48+n % 10):=by simpa using A
    unfold zcl;rw [ze2 _ (by omega)];omega
theorem z57 (n:Nat):dec n≠[]:=by
 by_cases h:n < 10
 ·rw [zhz h];simp
 ·rw [zfj h];simp
theorem z08 (n:Nat)(h:n≤9223372036854775807)(r:List UInt8):Lib.parseUint10 0 (dec n++r)=Lib.parseUint10 n r:=by
 induction n using Nat.strongRecOn generalizing r with
 | _ n ih =>
  by_cases A:n < 10
  ·rw [zhz A,List.cons_append,List.nil_append,Lib.parseUint10,ze2 n A,if_pos (by omega),if_neg (by omega),if_neg (by omega)];congr 1;omega
  ·rw [zfj A,List.append_assoc,ih (n / 10) (by omega) (by omega),List.cons_append,List.nil_append,Lib.parseUint10,ze2 _ (by omega),if_pos (by omega),if_neg (by omega),if_neg (by omega)];congr 1;omega
theorem z29 (n:Nat)(h:n≤9223372036854775807):Lib.atoiAll (dec n)= .ok (n:Int):=by
 have D:=z08 n h [];rw [List.append_nil,Lib.parseUint10] at D;have E:=ziv n;have A:=z57 n;cases hdec:dec n with
 | nil=>exact absurd hdec A
 | cons c r =>
  rw [hdec] at D E;obtain⟨H,I⟩:=E c (by simp);have hm:Lib.parseMag (c::r)= .ok n:=by rw [Lib.parseMag,if_neg (by simp),D]
  simp only [Lib.atoiAll];rw [if_neg (by omega),hm];simp only [];rw [if_neg (by omega),if_neg (by omega),if_neg (by omega)]
def zfc (l:List UInt8):Int:=match Lib.atoiAll l with
 | .ok v=>v
 | _=>-1
theorem zg2 (n:Nat)(h:n≤9223372036854775807):zfc (dec n)=(n:Int):=by unfold zfc;rw [z29 n h]
theorem ztk (l:List UInt8):-9223372036854775808≤zfc l∧zfc l≤9223372036854775807:=by
 unfold zfc;cases h:Lib.atoiAll l
 ·exact Lib.atoiAll_bounds h
 ·simp
 ·simp
def zt2 (n:Nat):List UInt8→Option (Nat×List UInt8)
 | []=>some (n,[])
 | c::r=>if 48≤c.toNat∧c.toNat≤57 then (if (9223372036854775807 - (c.toNat - 48)) / 10 < n then none else zt2 (10*n+(c.toNat - 48)) r) else some (n,c::r)
theorem z24 (n:Nat)(h:n≤9223372036854775807)(r:List UInt8):zt2 0 (dec n++r)=zt2 n r:=by
 induction n using Nat.strongRecOn generalizing r with
 | _ n ih =>
  by_cases A:n < 10
  ·rw [zhz A,List.cons_append,List.nil_append,zt2,ze2 n A,if_pos (by omega),if_neg (by omega)];congr 1;omega
  ·rw [zfj A,List.append_assoc,ih (n / 10) (by omega) (by omega),List.cons_append,List.nil_append,zt2,ze2 _ (by omega),if_pos (by omega),if_neg (by omega)];congr 1;omega
def z8q (s:List UInt8):Nat×List UInt8×Bool:=match zt2 0 s with
 | none=>(0,s,false)
 | some (n,r)=>(n,r,decide (r.length < s.length))
def ztp:List UInt8→Prop
 | []=>True
 | c::_=>¬ zcl c
theorem zzf (n:Nat)(r:List UInt8)(h:ztp r):zt2 n r=some (n,r):=by
 cases r with
 | nil=>rfl
 | cons c r =>
  have A:¬(48≤c.toNat∧c.toNat≤57):=h;rw [zt2,if_neg A]
theorem zs0 (n:Nat)(h:n≤9223372036854775807)(r:List UInt8)(hr:ztp r):z8q (dec n++r)=(n,r,true):=by
 unfold z8q;rw [z24 n h,zzf n r hr];have:0 < (dec n).length:=List.length_pos_iff.2 (z57 n);simp only [List.length_append];rw [show decide (r.length < (dec n).length+r.length)=true by simp;omega]
theorem z52 (a t b:List UInt8)(c:UInt8)(h:∀ x∈a,x≠c):Lib.cut (a++(c::t)++b) (c::t)=(a,b,true):=by
 have E:Lib.index (a++(c::t)++b) (c::t)=a.length:=by
  refine Lib.index_first (by simp) ?_ (fun j r=>?_)
  ·unfold Lib.occAt;rw [List.append_assoc,List.drop_left];simp [List.isPrefixOf_iff_prefix]
  ·cases ho:Lib.occAt (a++(c::t)++b) (c::t) j with
   | false=>rfl
   | true =>
    have:=Lib.occAt_head rfl ho;rw [List.append_assoc,List.getElem?_append_left r,List.getElem?_eq_getElem r] at this;exact absurd (Option.some.inj this) (h _ (List.getElem_mem r))
 unfold Lib.cut;rw [E,if_pos (by omega),Int.toNat_natCast];have A:(a++(c::t)++b).take a.length=a:=by rw [List.append_assoc,List.take_left]
 have D:(a++(c::t)++b).drop (a.length+(c::t).length)=b:=by
  rw [← List.length_append,List.drop_left]
 rw [A,D]
theorem z6g (a t:List UInt8)(c:UInt8)(h:∀ x∈a,x≠c):Lib.cut a (c::t)=(a,[],false):=by
 have A:Lib.index a (c::t)=-1:=by
  refine Lib.index_none (fun j D=>?_);cases ho:Lib.occAt a (c::t) j with
  | false=>rfl
  | true =>
   have:=Lib.occAt_head rfl ho;obtain⟨r,e⟩:=List.getElem?_eq_some_iff.1 this;exact absurd e (h _ (List.getElem_mem r))
 unfold Lib.cut;rw [A,if_neg (by omega)]
theorem zq3 (p r:List UInt8):p.isPrefixOf (p++r)=true:=by rw [List.isPrefixOf_iff_prefix];exact List.prefix_append p r
def zjg:List UInt8:=[101,110,116,114,105,101,115,47]
def zdo:List UInt8:=[116,105,108,101,47]
def zc9:List UInt8:=[46,112,47]
def j8 (l i w:Int):Prop:=l < -1∨20 < l∨i < 0∨w < 1∨4 < w
def zjc (l:Int):List UInt8:=if l=-1 then zjg else zdo++dec l.toNat++[47]
def zao (w:Int):List UInt8:=if w < 4 then zc9++dec w.toNat else []
def qi (l i w:Int):List UInt8:=if l < -1∨20 < l∨i < 0∨w < 1∨4 < w then [] else zjc l++dec i.toNat++zao w
theorem zo0 {l i w:Int}(h:j8 l i w):qi l i w=[]:=by unfold j8 at h;unfold qi;rw [if_pos h]
theorem zcw {l i w:Int}(h:¬ j8 l i w):qi l i w=zjc l++dec i.toNat++zao w:=by unfold j8 at h;unfold qi;rw [if_neg h]
def zar (p:List UInt8):Int×List UInt8×Bool :=
 if Lib.hasPrefix p zjg then (-1,Lib.trimPrefix p zjg,true)
 else (zfc (Lib.cut (Lib.trimPrefix p zdo) [47]).1,(Lib.cut (Lib.trimPrefix p zdo) [47]).2.1,Lib.hasPrefix p zdo)
def zvz (c:List UInt8×List UInt8×Bool):Int:=if c.2.2 then zfc c.2.1 else 4
def z6c (p:List UInt8):Int×Int×Int×Bool :=
 if (zar p).2.2=true∧qi (zar p).1 (zfc (Lib.cut (zar p).2.1 zc9).1) (zvz (Lib.cut (zar p).2.1 zc9))=p
 then ((zar p).1,zfc (Lib.cut (zar p).2.1 zc9).1,zvz (Lib.cut (zar p).2.1 zc9),true) else (0,0,0,false)
theorem z98 (c x:UInt8)(h:zcl x)(r:¬ zcl c):x≠c:=fun e=>r (e▸h)
theorem zlw (n:Nat)(c:UInt8)(h:¬ zcl c):∀ x∈dec n,x≠c:=fun x r=>z98 c x (ziv n x r) h
theorem zfl:zjc (-1) =zjg:=by unfold zjc;rw [if_pos rfl]
theorem zfv (l:Int)(h:l≠-1):zjc l=zdo++dec l.toNat++[47]:=by unfold zjc;rw [if_neg h]
theorem zsm (w:Int):ztp (zao w):=by
 unfold zao
 split
 ·show ¬ zcl 46;unfold zcl;decide
 ·trivial
theorem zol (l:Int)(I:-1≤l)(D:l≤20)(r:List UInt8):zar (zjc l++r)=(l,r,true):=by
 by_cases h:l=-1
 ·subst h;rw [zfl];unfold zar Lib.trimPrefix Lib.hasPrefix;rw [if_pos (zq3 zjg r),if_pos (zq3 zjg r),List.drop_left]
 ·rw [zfv l h,List.append_assoc,List.append_assoc];have E:Lib.hasPrefix (zdo++(dec l.toNat++([47]++r))) zjg=false:=rfl;have A:Lib.hasPrefix (zdo++(dec l.toNat++([47]++r))) zdo=true:=zq3 _ _;have H:Lib.trimPrefix (zdo++(dec l.toNat++([47]++r))) zdo=dec l.toNat++[47]++r:=by
   unfold Lib.trimPrefix;rw [if_pos A,List.drop_left,List.append_assoc]
  unfold zar;rw [E,A,H,z52 (dec l.toNat) [] r 47 (zlw _ _ (by unfold zcl;decide)),zg2 _ (by omega)];simp only [Bool.false_eq_true,if_false];rw [show((l.toNat:Nat):Int)=l by omega]
theorem z6t (i:Nat)(w:Int)(r:i≤9223372036854775807)(D:1≤w)(A:w≤4):zfc (Lib.cut (dec i++zao w) zc9).1=i∧zvz (Lib.cut (dec i++zao w) zc9)=w:=by
 unfold zao;by_cases h:w < 4
 ·rw [if_pos h,← List.append_assoc,show zc9=46::[112,47] from rfl,z52 (dec i) [112,47] (dec w.toNat) 46 (zlw _ _ (by unfold zcl;decide))];refine⟨zg2 i r,?_⟩;show(if true=true then zfc (dec w.toNat) else 4)=w;rw [if_pos rfl,zg2 _ (by omega)];omega
 ·rw [if_neg h,List.append_nil,show zc9=46::[112,47] from rfl,z6g (dec i) [112,47] 46 (zlw _ _ (by unfold zcl;decide))];refine⟨zg2 i r,?_⟩;show(if false=true then zfc [] else 4)=w;rw [if_neg (by simp)];omega
theorem zk1 {l i w:Int}(h:¬ j8 l i w)(E:i≤9223372036854775807):z6c (qi l i w)=(l,i,w,true):=by
 have D:=h;unfold j8 at D;have e:qi l i w=zjc l++(dec i.toNat++zao w):=by rw [zcw h,List.append_assoc]
 have c:=zol l (by omega) (by omega) (dec i.toNat++zao w);obtain⟨r,A⟩:=z6t i.toNat w (by omega) (by omega) (by omega);unfold z6c;rw [e,c];simp only [];rw [r,A,show((i.toNat:Nat):Int)=i by omega,← e,if_pos (by simp)]
def vq (z:List UInt8):Nat→List UInt8→Nat→Nat→List (List UInt8)→List UInt8×Bool
 | 0,_,_,_,_=>(z,false)
 | f+1,leaf,i,n,ps =>
  if n=1 then (leaf,decide (ps.length=0))
  else if ps.length=0 then (z,false)
  else if i < kOf n then (yz (vq z f leaf i (kOf n) ps.dropLast).1 (ps.getLastD []),(vq z f leaf i (kOf n) ps.dropLast).2)
  else (yz (ps.getLastD []) (vq z f leaf (i - kOf n) (n - kOf n) ps.dropLast).1,(vq z f leaf (i - kOf n) (n - kOf n) ps.dropLast).2)
theorem znb (z h:List UInt8)(f i:Nat)(r:List (List UInt8)):vq z (f+1) h i 1 r=(h,decide (r.length=0)):=by
 rw [vq,if_pos rfl]
theorem zpq (z r:List UInt8)(f i n:Nat)(A:List (List UInt8))(h:n≠1)(h0:A.length=0):vq z (f+1) r i n A=(z,false):=by
 rw [vq,if_neg h,if_pos h0]
theorem zkm (z r:List UInt8)(f i n:Nat)(A:List (List UInt8))(h:n≠1)(h0:A.length≠0)(D:i < kOf n):vq z (f+1) r i n A=(yz (vq z f r i (kOf n) A.dropLast).1 (A.getLastD []),(vq z f r i (kOf n) A.dropLast).2):=by
 rw [vq,if_neg h,if_neg h0,if_pos D]
theorem zit (z r:List UInt8)(f i n:Nat)(A:List (List UInt8))(h:n≠1)(h0:A.length≠0)(D:¬ i < kOf n):vq z (f+1) r i n A=(yz (A.getLastD []) (vq z f r (i - kOf n) (n - kOf n) A.dropLast).1,(vq z f r (i - kOf n) (n - kOf n) A.dropLast).2):=by
 rw [vq,if_neg h,if_neg h0,if_neg D]
theorem zka (z h:List UInt8)(A:z.length=8)(E:h.length=8)(f i n:Nat)(D:List (List UInt8)):(vq z f h i n D).1.length=8:=by
 cases f with
 | zero=>exact A
 | succ f =>
  by_cases h1:n=1
  ·subst h1;rw [znb];exact E
  by_cases h0:D.length=0
  ·rw [zpq _ _ _ _ _ _ h1 h0];exact A
  by_cases r:i < kOf n
  ·rw [zkm _ _ _ _ _ _ h1 h0 r];exact ql _ _
  ·rw [zit _ _ _ _ _ _ h1 h0 r];exact ql _ _
theorem za6 {α:Type}(l:List α)(m:Nat)(h:l.length=m+1)(d:α):l.getLastD d=l[m]∧l.dropLast=l.take m:=by
 refine⟨?_,?_⟩
 ·rw [List.getLastD_eq_getLast?,List.getLast?_eq_getElem?,show l.length - 1=m by omega,List.getElem?_eq_getElem (by omega)];rfl
 ·rw [List.dropLast_eq_take,h,Nat.add_sub_cancel]
section
def je (z a:List UInt8):Nat→Nat→Nat→List (List UInt8)→Bool→List UInt8×List UInt8×Bool
 | 0,_,_,_,_=>(z,z,false)
 | f+1,m,n,ps,whole =>
  if m=n then (if whole=true then (a,a,decide (ps.length=0)) else if ps.length=1 then (ps.headD [],ps.headD [],true) else (z,z,false))
  else if ps.length=0 then (z,z,false)
  else if m≤kOf n then ((je z a f m (kOf n) ps.dropLast whole).1,yz (je z a f m (kOf n) ps.dropLast whole).2.1 (ps.getLastD []),(je z a f m (kOf n) ps.dropLast whole).2.2)
  else (yz (ps.getLastD []) (je z a f (m - kOf n) (n - kOf n) ps.dropLast false).1,yz (ps.getLastD []) (je z a f (m - kOf n) (n - kOf n) ps.dropLast false).2.1,(je z a f (m - kOf n) (n - kOf n) ps.dropLast false).2.2)
variable (z a : List UInt8) (f m n : Nat) (ps : List (List UInt8)) (whole : Bool)
theorem ziy:je z a (f+1) n n ps true=(a,a,decide (ps.length=0)):=by
 rw [je,if_pos rfl,if_pos rfl]
theorem zjz (h:ps.length=1):je z a (f+1) n n ps false=(ps.headD [],ps.headD [],true):=by
 rw [je,if_pos rfl,if_neg (by simp),if_pos h]
theorem zs1 (h:ps.length≠1):je z a (f+1) n n ps false=(z,z,false):=by
 rw [je,if_pos rfl,if_neg (by simp),if_neg h]
theorem zpm (hm:m≠n)(h:ps.length=0):je z a (f+1) m n ps whole=(z,z,false):=by
 rw [je,if_neg hm,if_pos h]
theorem zkx (hm:m≠n)(h:ps.length≠0)(r:m≤kOf n):je z a (f+1) m n ps whole=((je z a f m (kOf n) ps.dropLast whole).1,yz (je z a f m (kOf n) ps.dropLast whole).2.1 (ps.getLastD []),(je z a f m (kOf n) ps.dropLast whole).2.2):=by
 rw [je,if_neg hm,if_neg h,if_pos r]
theorem zip (hm:m≠n)(h:ps.length≠0)(r:¬ m≤kOf n):je z a (f+1) m n ps whole=(yz (ps.getLastD []) (je z a f (m - kOf n) (n - kOf n) ps.dropLast false).1,yz (ps.getLastD []) (je z a f (m - kOf n) (n - kOf n) ps.dropLast false).2.1,(je z a f (m - kOf n) (n - kOf n) ps.dropLast false).2.2):=by
 rw [je,if_neg hm,if_neg h,if_neg r]
theorem ztm (ps:List (List UInt8))(h:ps.length=1)(r:∀ p∈ps,p.length=8):(ps.headD []).length=8:=by
 match ps,h with
 | [p],_=>exact r p (by simp)
theorem zhx (z a:List UInt8)(r:z.length=8)(E:a.length=8)(f:Nat):∀(m n:Nat) (ps:List (List UInt8)) (whole:Bool),(∀ p∈ps,p.length=8)→(je z a f m n ps whole).1.length=8∧(je z a f m n ps whole).2.1.length=8:=by
 induction f with
 | zero=>exact fun m n ps whole _=>⟨r,r⟩
 | succ f ih =>
  intro m n ps whole A;have D:∀ p∈ps.dropLast,p.length=8:=fun p I=>A p (List.dropLast_subset _ I);by_cases h1:m=n
  ·subst h1;cases whole with
   | true=>rw [ziy];exact⟨E,E⟩
   | false =>
    by_cases h:ps.length=1
    ·rw [zjz _ _ _ _ _ h];exact⟨ztm ps h A,ztm ps h A⟩
    ·rw [zs1 _ _ _ _ _ h];exact⟨r,r⟩
  by_cases h0:ps.length=0
  ·rw [zpm _ _ _ _ _ _ _ h1 h0];exact⟨r,r⟩
  by_cases H:m≤kOf n
  ·rw [zkx _ _ _ _ _ _ _ h1 h0 H];exact⟨(ih m (kOf n) ps.dropLast whole D).1,ql _ _⟩
  ·rw [zip _ _ _ _ _ _ _ h1 h0 H];exact⟨ql _ _,ql _ _⟩
end
end Go.Proofs.YtndkblnpbjffhaaGreatDoor
