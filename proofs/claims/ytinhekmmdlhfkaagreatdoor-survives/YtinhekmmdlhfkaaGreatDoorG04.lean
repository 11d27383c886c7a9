import Derived.Test.YtinhekmmdlhfkaaGreatDoorG03
import Derived.Defers
import Derived.Recover
import Derived.Test.YtinhekmmdlhfkaaGreatDoorG01
import Derived.Test.YtinhekmmdlhfkaaGreatDoorG02
import Derived.Lib.BufferWrite
import Derived.Lib.SlBuf
namespace Go.Proofs.YtinhekmmdlhfkaaGreatDoor
section
set_option maxHeartbeats 2000000
open Go.RowKit
set_option maxRecDepth 100000
def zar (g:Nat):Value:= .iface 112 (.pointer (some ⟨g,0,none⟩))
def zng (w:World)(g:Nat):Prop:=∃ c,w.heap[g]?=some (.cells #[.int .i64 c] 353 (0,0))
def zcc (e:Bool)(B:Nat)(r:Value)(w:World):Prop:=(e=false∧r= .nilIface)∨(e=true∧∃ g,r=zar g∧B≤g∧zng w g)
theorem ze1 (w:World)(n:Nat):Below w.heap.size w (w.drewN n):=⟨rfl,rfl,rfl,Nat.le_refl _,fun _ _=>rfl⟩
theorem ze3 {w w':World}{O:Nat→Prop}{b:Nat}{d:Dk}(h:zm w' (Ext O w w') b d)(o:Obj):zm (w'.alloc o) (Ext O w (w'.alloc o)) b d :=
 (h.stay (T:=[]) (O1:=fun _=>False) (.of_below (ze w' o)) (by simp) (by simp)).mono (Ext.more (by simp))
theorem Bq.of_eb {w:World}{B n cap:Nat}{a:Addr}{l:List UInt8}(h:EB w B (.slice (some a) n cap) l)(hc:l.length≤cap):Bq w (.slice (some a) n cap) l:=by
 obtain⟨g,cap',C,fr,e,-,hg,hx,-⟩:=h
 have e':cap=cap':=by simp at e;exact e.2.2
 exact⟨g,cap',C,fr,e,by omega,hg,hx⟩
theorem zco (w:World)(y:List UInt8)(cap:Nat)(hcap:y.length≤cap):Bq (w.alloc (.cells (bytesRow ⟨y.toArray⟩ cap) 5 ((bytesRow ⟨y.toArray⟩ cap).size,(bytesRow ⟨y.toArray⟩ cap).size+1))) (.slice (some ⟨w.heap.size,0,none⟩) y.length cap) y:=by
 have h:=EB.conv w ⟨y.toArray⟩ 0 cap (Nat.zero_le _)
 simp only at h
 exact Bq.of_eb h hcap
theorem zf.dT_of1 {O:Nat→Prop}{w w':World}(h:zf O dT1 w w'):zf O dT w w':=h.mono (fun _ h=>h) (fun t ht=>by simp at ht;simp [ht])
theorem z7o (O:Nat→Prop)(b:Nat)(d:Dk)(p x:List UInt8)(v:Value)(w:World)(hn:d.fs.length≤1000000000)(h:zm w O b d)(hv:Bq w v x):
  Calls Tryz.prog 234 #[vv b,txv p,v] w fun r w'=>∃ e,r= .returned e∧zcc (zfv d p x) w.heap.size e w'∧zf O dT w w'∧zm w' (Ext O w w') b (zab d p x):=by
 have HV:=za hv
 have HD:=za h
 clear h hv
 unfold vv
 have htx:∀ q,txv q= .string ⟨q.toArray⟩:=fun _=>rfl
 rw [htx]
 go_enter Tryz.func234,Tryz.ntmps234
 go_wp2_with fail
 refine(zj3 O b d w HD.o).mono ?_
 rintro e w1 ⟨rfl,t1,d1⟩
 have hfs:=yg d
 go_wp2_with fail
 refine(zgn O b (ye d) p w1 (by rw [hfs];exact hn) d1).mono ?_
 rintro e w2 ⟨rfl,hb2⟩
 rw [hfs]
 have HT:Hid (zf O dT1 w w2):=t1.then_below hb2
 have HD2:=za (d1.stay (O1:=fun _=>False) (T:=[]) (.of_below hb2) (by simp) (by simp))
 have HV2:=za ((HV.o.turn t1 (by decide)).below hb2)
 have hcv:∀ n,(convert 76 9 v).run Tryz.prog (w2.drewN n)= .ok (.string ⟨x.toArray⟩) (w2.drewN n):=fun n=>Bq.conv (w:=w2.drewN n) HV2.o
 have HK:=za (zet d)
 clear t1 d1 hb2 HV HD htx hfs
 cases e:ixF d.fs p with
 | some k =>
  have he:ixI d.fs p=k:=by unfold ixI;rw [e]
  rw [he]
  obtain⟨hk,hkp,hlk,-⟩:=zbg e
  obtain⟨fv,hO,hb,hf,hg⟩:=HD2.o
  obtain⟨⟨c0,f0⟩,⟨c1,f1⟩,-,-,-,-,-,⟨c7,f7⟩⟩:=zd1 hb
  rcases zir hf with ⟨a,cap,rfl,h0 | ⟨g,rfl,cur,hgg,hcap,hcs,hx⟩⟩
  ·rw [yg] at h0;omega
  rw [yg] at c0 hcap
  have y1:w2.cell? ⟨g,k*2+1,none⟩=some (.string ⟨d.fs[k].2.toArray⟩):=by
   rw [cell_of_row _ _ _ _ _ _ hgg]
   have:=(hx k (by rw [yg];exact hk)).2
   simp only [yg] at this
   exact this
  have HB:=za hb
  have HF:=za hf
  have HG:=za hg
  clear hx hgg hb hf hg e he hkp hcs
  by_cases hxy:d.fs[k].2=x
  ·have hE:Hid (zfv d p x=decide (0 < xc d)∧zab d p x=if xc d < 2 then { ye d with fs:=zac d.fs p x } else ye d):=by
    unfold zfv zab
    rw [hlk]
    simp only [if_pos hxy]
    exact⟨trivial,trivial⟩
   have q1:(d.fs[k].2==x)=true:=by simp [hxy]
   clear hxy hlk HB HF HG
   generalize d.fs[k].2=y at *
   go_wp2_with fail
   go_quiet (fail)
   have HD3:Hid (zm (w2.drewN nq) O b (ye d)):=HD2.o.stay (O1:=fun _=>False) (T:=[]) (.of_below (ze1 _ _)) (by simp) (by simp)
   have HV3:Hid (Bq (w2.drewN nq) v x):=HV2.o.below (ze1 _ _)
   have HT3:Hid (zf O dT w (w2.drewN nq)):=(HT.o.drewN nq).dT_of1
   clear HD2 HV2 HT hcv c0 f0 c1 f1 c7 f7 y1
   have h012:xc d=0∨xc d=1∨xc d=2:=by have:=HK.o;omega
   generalize w2.drewN nq=w3 at *
   rcases h012 with hK | hK | hK
   ·rw [hK]
    have HKK:=za hK
    clear hK
    go_wp2_with fail
    refine(zhi O b (ye d) p x v w3 (by rw [yg];exact hn) HD3.o HV3.o).mono ?_
    rintro e w4 ⟨rfl,t4,d4⟩
    have HT4:=za (HT3.o.trans (t4.mono (fun _ h=> .inl h) (fun _ h=>h)))
    have HD4:=za (d4.mono (O':=Ext O w w4) (fun k hk=>by rcases hk with h | h;exact .inl h;exact .inr ⟨by have:=HT3.o.size;omega,h.2⟩))
    clear t4 d4
    go_wp2_with fail
    go_ret
    refine⟨_,rfl,.inl ⟨by rw [hE.out.1,HKK.o];rfl,rfl⟩,HT4.o,?_⟩
    rw [hE.out.2,HKK.o,if_pos (by omega)]
    rw [yg] at HD4
    exact HD4.o
   ·rw [hK]
    have HKK:=za hK
    clear hK
    go_wp2_with fail
    refine(zhi O b (ye d) p x v w3 (by rw [yg];exact hn) HD3.o HV3.o).mono ?_
    rintro e w4 ⟨rfl,t4,d4⟩
    have HT4:=za (HT3.o.trans (t4.mono (fun _ h=> .inl h) (fun _ h=>h)))
    have HD4:=za (d4.mono (O':=Ext O w w4) (fun k hk=>by rcases hk with h | h;exact .inl h;exact .inr ⟨by have:=HT3.o.size;omega,h.2⟩))
    clear t4 d4
    obtain⟨fv',hO',hb',-,-⟩:=HD4.o
    obtain⟨-,⟨z1,z1'⟩,-⟩:=zd1 hb'
    clear hb'
    go_wp2_with fail
    go_ret
    refine⟨_,rfl,.inr ⟨by rw [hE.out.1,HKK.o];rfl,_,rfl,HT4.o.size,_,heap_alloc_last _ _⟩,HT4.o.alloc _,?_⟩
    rw [hE.out.2,HKK.o,if_pos (by omega)]
    rw [yg] at HD4
    exact ze3 HD4.o _
   ·rw [hK]
    have HKK:=za hK
    clear hK
    have HD4:Hid (zm w3 (Ext O w w3) b (ye d)):=HD3.o.mono (fun _ h=> .inl h)
    obtain⟨fv',hO',hb',-,-⟩:=HD4.o
    obtain⟨-,⟨z1,z1'⟩,-⟩:=zd1 hb'
    clear hb'
    go_wp2_with fail
    go_ret
    refine⟨_,rfl,.inr ⟨by rw [hE.out.1,HKK.o];rfl,_,rfl,HT3.o.size,_,heap_alloc_last _ _⟩,HT3.o.alloc _,?_⟩
    rw [hE.out.2,HKK.o,if_neg (by omega)]
    exact ze3 HD4.o _
  ·have hE:Hid (zfv d p x=true∧zab d p x={ ye d with turned:=true }):=by
    unfold zfv zab
    rw [hlk]
    simp only [if_neg hxy]
    exact⟨trivial,trivial⟩
   have q1:(d.fs[k].2==x)=false:=by simp [hxy]
   clear hxy hlk
   generalize d.fs[k].2=y at *
   go_wp2_with fail
   go_quiet (fail)
   go_wp2_with fail
   go_ret
   have t2:=((HT.o.drewN nq).set (o:=7) (.inl hO) (show(w2.drewN nq).heap[b]?=_ from HB.o) (by decide) (.bool true))
   have h2:=qj (show(w2.drewN nq).heap[b]?=_ from HB.o) 7 (.bool true)
   have d2:zm ((w2.drewN nq).setCell ⟨b,7,none⟩ (.bool true)) (Ext O w ((w2.drewN nq).setCell ⟨b,7,none⟩ (.bool true))) b { ye d with turned:=true } :=
    zm.turn (w:=w2) (d:=ye d) (fun _ h=> .inl h) hO HF.o HG.o ((zf.refl O dT1 w2).drewN nq |>.set (.inl hO) (show(w2.drewN nq).heap[b]?=_ from HB.o) (by decide) _) h2 rfl
   refine⟨_,rfl,?_,(t2.alloc _).dT_of1,?_⟩
   ·rw [hE.out.1]
    refine .inr ⟨rfl,_,rfl,HT.o.size,(ye d).calls,?_⟩
    rw [show w2.heap.size=((w2.drewN nq).setCell ⟨b,7,none⟩ (.bool true)).heap.size by simp [World.setCell,World.drewN]]
    exact heap_alloc_last _ _
   ·rw [hE.out.2]
    exact ze3 d2 _
 | none =>
  have he:ixI d.fs p=-1:=by unfold ixI;rw [e]
  rw [he]
  have hE:Hid (zfv d p x=decide (0 < xc d)∧zab d p x=if xc d < 2 then { ye d with fs:=zac d.fs p x } else ye d):=by
   unfold zfv zab
   rw [(zb3 e).1]
   exact⟨rfl,rfl⟩
  clear e he
  go_wp2_with fail
  go_quiet (fail)
  have HD3:Hid (zm (w2.drewN nq) O b (ye d)):=HD2.o.stay (O1:=fun _=>False) (T:=[]) (.of_below (ze1 _ _)) (by simp) (by simp)
  have HV3:Hid (Bq (w2.drewN nq) v x):=HV2.o.below (ze1 _ _)
  have HT3:Hid (zf O dT w (w2.drewN nq)):=(HT.o.drewN nq).dT_of1
  clear HD2 HV2 HT hcv
  have h012:xc d=0∨xc d=1∨xc d=2:=by have:=HK.o;omega
  generalize w2.drewN nq=w3 at *
  rcases h012 with hK | hK | hK
  ·rw [hK]
   have HKK:=za hK
   clear hK
   go_wp2_with fail
   refine(zhi O b (ye d) p x v w3 (by rw [yg];exact hn) HD3.o HV3.o).mono ?_
   rintro e w4 ⟨rfl,t4,d4⟩
   have HT4:=za (HT3.o.trans (t4.mono (fun _ h=> .inl h) (fun _ h=>h)))
   have HD4:=za (d4.mono (O':=Ext O w w4) (fun k hk=>by rcases hk with h | h;exact .inl h;exact .inr ⟨by have:=HT3.o.size;omega,h.2⟩))
   clear t4 d4
   go_wp2_with fail
   go_ret
   refine⟨_,rfl,.inl ⟨by rw [hE.out.1,HKK.o];rfl,rfl⟩,HT4.o,?_⟩
   rw [hE.out.2,HKK.o,if_pos (by omega)]
   rw [yg] at HD4
   exact HD4.o
  ·rw [hK]
   have HKK:=za hK
   clear hK
   go_wp2_with fail
   refine(zhi O b (ye d) p x v w3 (by rw [yg];exact hn) HD3.o HV3.o).mono ?_
   rintro e w4 ⟨rfl,t4,d4⟩
   have HT4:=za (HT3.o.trans (t4.mono (fun _ h=> .inl h) (fun _ h=>h)))
   have HD4:=za (d4.mono (O':=Ext O w w4) (fun k hk=>by rcases hk with h | h;exact .inl h;exact .inr ⟨by have:=HT3.o.size;omega,h.2⟩))
   clear t4 d4
   obtain⟨fv',hO',hb',-,-⟩:=HD4.o
   obtain⟨-,⟨z1,z1'⟩,-⟩:=zd1 hb'
   clear hb'
   go_wp2_with fail
   go_ret
   refine⟨_,rfl,.inr ⟨by rw [hE.out.1,HKK.o];rfl,_,rfl,HT4.o.size,_,heap_alloc_last _ _⟩,HT4.o.alloc _,?_⟩
   rw [hE.out.2,HKK.o,if_pos (by omega)]
   rw [yg] at HD4
   exact ze3 HD4.o _
  ·rw [hK]
   have HKK:=za hK
   clear hK
   have HD4:Hid (zm w3 (Ext O w w3) b (ye d)):=HD3.o.mono (fun _ h=> .inl h)
   obtain⟨fv',hO',hb',-,-⟩:=HD4.o
   obtain⟨-,⟨z1,z1'⟩,-⟩:=zd1 hb'
   clear hb'
   go_wp2_with fail
   go_ret
   refine⟨_,rfl,.inr ⟨by rw [hE.out.1,HKK.o];rfl,_,rfl,HT3.o.size,_,heap_alloc_last _ _⟩,HT3.o.alloc _,?_⟩
   rw [hE.out.2,HKK.o,if_neg (by omega)]
   exact ze3 HD4.o _
theorem z4x (O:Nat→Prop)(b:Nat)(d:Dk)(p x:List UInt8)(v:Value)(w:World)(hn:d.fs.length≤1000000000)(h:zm w O b d)(hv:Bq w v x):
  Calls Tryz.prog 235 #[vv b,txv p,v] w fun r w'=>∃ e,r= .returned e∧zcc (bad d) w.heap.size e w'∧zf O dT w w'∧zm w' (Ext O w w') b (zbv d p x):=by
 have HV:=za hv
 have HD:=za h
 clear h hv
 unfold vv
 have htx:∀ q,txv q= .string ⟨q.toArray⟩:=fun _=>rfl
 rw [htx]
 go_enter Tryz.func235,Tryz.ntmps235
 go_wp2_with fail
 refine(zj3 O b d w HD.o).mono ?_
 rintro e w3 ⟨rfl,t1,d1⟩
 have HT3:Hid (zf O dT w w3):=t1.dT_of1
 have HD3:=za d1
 have HV3:=za (HV.o.turn t1 (by decide))
 have HK:=za (zet d)
 have hE:Hid (bad d=decide (0 < xc d)∧zbv d p x=if xc d < 2 then { ye d with fs:=zac d.fs p x } else ye d):=⟨rfl,rfl⟩
 clear t1 d1 HV HD htx
 have h012:xc d=0∨xc d=1∨xc d=2:=by have:=HK.o;omega
 rcases h012 with hK | hK | hK
 ·rw [hK]
  have HKK:=za hK
  clear hK
  go_wp2_with fail
  refine(zhi O b (ye d) p x v w3 (by rw [yg];exact hn) HD3.o HV3.o).mono ?_
  rintro e w4 ⟨rfl,t4,d4⟩
  have HT4:=za (HT3.o.trans (t4.mono (fun _ h=> .inl h) (fun _ h=>h)))
  have HD4:=za (d4.mono (O':=Ext O w w4) (fun k hk=>by rcases hk with h | h;exact .inl h;exact .inr ⟨by have:=HT3.o.size;omega,h.2⟩))
  clear t4 d4
  go_wp2_with fail
  go_ret
  refine⟨_,rfl,.inl ⟨by rw [hE.out.1,HKK.o];rfl,rfl⟩,HT4.o,?_⟩
  rw [hE.out.2,HKK.o,if_pos (by omega)]
  rw [yg] at HD4
  exact HD4.o
 ·rw [hK]
  have HKK:=za hK
  clear hK
  go_wp2_with fail
  refine(zhi O b (ye d) p x v w3 (by rw [yg];exact hn) HD3.o HV3.o).mono ?_
  rintro e w4 ⟨rfl,t4,d4⟩
  have HT4:=za (HT3.o.trans (t4.mono (fun _ h=> .inl h) (fun _ h=>h)))
  have HD4:=za (d4.mono (O':=Ext O w w4) (fun k hk=>by rcases hk with h | h;exact .inl h;exact .inr ⟨by have:=HT3.o.size;omega,h.2⟩))
  clear t4 d4
  obtain⟨fv',hO',hb',-,-⟩:=HD4.o
  obtain⟨-,⟨z1,z1'⟩,-⟩:=zd1 hb'
  clear hb'
  go_wp2_with fail
  go_ret
  refine⟨_,rfl,.inr ⟨by rw [hE.out.1,HKK.o];rfl,_,rfl,HT4.o.size,_,heap_alloc_last _ _⟩,HT4.o.alloc _,?_⟩
  rw [hE.out.2,HKK.o,if_pos (by omega)]
  rw [yg] at HD4
  exact ze3 HD4.o _
 ·rw [hK]
  have HKK:=za hK
  clear hK
  have HD4:Hid (zm w3 (Ext O w w3) b (ye d)):=HD3.o.mono (fun _ h=> .inl h)
  obtain⟨fv',hO',hb',-,-⟩:=HD4.o
  obtain⟨-,⟨z1,z1'⟩,-⟩:=zd1 hb'
  clear hb'
  go_wp2_with fail
  go_ret
  refine⟨_,rfl,.inr ⟨by rw [hE.out.1,HKK.o];rfl,_,rfl,HT3.o.size,_,heap_alloc_last _ _⟩,HT3.o.alloc _,?_⟩
  rw [hE.out.2,HKK.o,if_neg (by omega)]
  exact ze3 HD4.o _
theorem z6o (O:Nat→Prop)(b:Nat)(d:Dk)(p:List UInt8)(w:World)(hn:d.fs.length≤1000000000)(hl:∀ f∈d.fs,f.2.length≤1000000000)(h:zm w O b d):
  Calls Tryz.prog 233 #[vv b,txv p] w fun r w'=>∃ v e,r= .returned (.tuple #[v,e])∧zcc (bad d) w.heap.size e w'∧zf O dT1 w w'∧zm w' O b (ye d) ∧
   ((bad d=false∧∃ x,zx d.fs p=some x∧Bq w' v x)∨((bad d=true∨zx d.fs p=none)∧v= .slice none 0 0)):=by
 have HD:=za h
 have HL:=za hl
 clear h hl
 unfold vv
 have htx:∀ q,txv q= .string ⟨q.toArray⟩:=fun _=>rfl
 rw [htx]
 go_enter Tryz.func233,Tryz.ntmps233
 go_wp2_with fail
 refine(zj3 O b d w HD.o).mono ?_
 rintro e w1 ⟨rfl,t1,d1⟩
 have HT:=za t1
 have HD1:=za d1
 have hKl:=zet d
 clear t1 d1 HD htx
 by_cases hK:0 < xc d
 ·have HB:Hid (bad d=true):=by show decide _=true;simpa using hK
  obtain⟨fv',hO',hb',-,-⟩:=HD1.o
  obtain⟨-,⟨z1,z1'⟩,-⟩:=zd1 hb'
  clear hb'
  go_wp2_with fail
  go_region
  all_goals go_wp2
  all_goals go_ret2
  all_goals refine⟨_,_,rfl,.inr ⟨HB.o,_,rfl,HT.o.size,_,heap_alloc_last _ _⟩,(HT.o.alloc _).drew,HD1.o.stay (O1:=fun _=>False) (T:=[]) ((zf.refl _ _ w1).alloc _).drew (by simp) (by simp),.inr ⟨.inl HB.o,rfl⟩⟩
 ·have HB:Hid (bad d=false):=by show decide _=false;simpa using hK
  have hfs:=yg d
  go_wp2_with fail
  refine(zgn O b (ye d) p w1 (by rw [hfs];exact hn) HD1.o).mono ?_
  rintro e w2 ⟨rfl,hb2⟩
  rw [hfs]
  have HT2:Hid (zf O dT1 w w2):=HT.o.then_below hb2
  have HD2:=za (HD1.o.stay (O1:=fun _=>False) (T:=[]) (.of_below hb2) (by simp) (by simp))
  clear hb2 HD1 HT
  cases e:ixF d.fs p with
  | some k =>
   have he:ixI d.fs p=k:=by unfold ixI;rw [e]
   rw [he]
   obtain⟨hk,hkp,hlk,-⟩:=zbg e
   obtain⟨fv,hO,hb,hf,hg⟩:=HD2.o
   obtain⟨⟨c0,f0⟩,-⟩:=zd1 hb
   rcases zir hf with ⟨a,cap,rfl,h0 | ⟨g,rfl,cur,hgg,hcap,hcs,hx⟩⟩
   ·rw [yg] at h0;omega
   rw [yg] at c0 hcap
   have y1:w2.cell? ⟨g,k*2+1,none⟩=some (.string ⟨d.fs[k].2.toArray⟩):=by
    rw [cell_of_row _ _ _ _ _ _ hgg]
    have:=(hx k (by rw [yg];exact hk)).2
    simp only [yg] at this
    exact this
   have hyl:=HL.o _ (List.getElem_mem hk)
   have HLK:=za hlk
   clear hx hgg hb hf hg e he hkp hcs hlk
   generalize d.fs[k].2=y at *
   have hcv:=fun w0=>run_bytes_of_string (P:=Tryz.prog) w0 9 76 5 ⟨y.toArray⟩ Tryz.underlying9 Tryz.underlying76 Tryz.underlying5
   go_wp2_with fail
   go_ret2
   have hq:=zco w2 y (grownCap w2 y.length 0 5) (grownCap_ge _ _ _ _)
   exact⟨_,_,rfl,.inl ⟨HB.o,rfl⟩,(HT2.o.alloc _).drew,HD2.o.stay (O1:=fun _=>False) (T:=[]) ((zf.refl _ _ w2).alloc _).drew (by simp) (by simp),.inl ⟨HB.o,y,HLK.o,hq⟩⟩
  | none =>
   have he:ixI d.fs p=-1:=by unfold ixI;rw [e]
   rw [he]
   have HLK:=za (zb3 e).1
   clear e he
   go_wp2_with fail
   go_ret2
   exact⟨_,_,rfl,.inl ⟨HB.o,rfl⟩,HT2.o,HD2.o,.inr ⟨.inr HLK.o,rfl⟩⟩
end
section
set_option maxHeartbeats 400000
open Go.RowKit
set_option maxRecDepth 100000
theorem znm (p:Addr)(w:World):
  CallsD Tryz.prog 161 #[.pointer (some p)] .returning w fun e u' w'=>e= .returned (.tuple #[])∧u'= .returning∧w'=w:=by
 refine callsD_of_wpS Tryz.func161 rfl fun c₀ cs hu=>?_
 apply wpS_seq
 apply wpS_region
 simp [wpOpsS,go_sem,recoverD,hu,Tryz.ntmps161,Exit.thenS]
 refine wpS_cond (t:=false) (by simp [Act.eval,Array.replicate]) ?_
 simp only [Bool.false_eq_true,if_false]
 refine wpS_of_wp (wp_skip ?_)
 cases c₀
 simp_all [bodyPostS,results,Tryz.results161]
def xm (g:Nat):Value:= .iface 113 (.pointer (some ⟨g,0,none⟩))
theorem zq1 (path:List UInt8)(g:Nat)(lb:Array Value)(w:World)(Q:Value→World→Prop)(eg:∀ args w,(callFunc g args).run Tryz.prog w= .ok (.enter g args) w)
  (hcall:Calls Tryz.prog g lb (w.alloc (.cells #[.nilIface] 70)) fun r w'=>∃ e,r= .returned e∧Q e w')
  (hQ:∀ e w',Q e w'→(e= .nilIface∨∃ g,e=zar g)∧w'.heap[w.heap.size]?=some (.cells #[.nilIface] 70 (0,0))) :
  Calls Tryz.prog 116 #[txv path,.func (.func g) #[] lb] w fun r w2=>∃ e w',Q e w' ∧
   ((e= .nilIface∧r= .returned .nilIface∧w2=w'.setCell ⟨w.heap.size,0,none⟩ .nilIface) ∨
    ((∃ g,e=zar g)∧r= .returned (xm w'.heap.size)∧w2=(w'.alloc (.cells #[txv path,e] 115)).setCell ⟨w.heap.size,0,none⟩ (xm w'.heap.size))):=by
 have hmf:∀(fn:Fn) (first cap:Array Value) (w:World),(Instr.makeFunc fn first cap).run Tryz.prog w= .ok (.func fn first cap) w:=fun _ _ _ _=>rfl
 have HQ:=za hQ
 have HC:=za hcall
 clear hQ hcall
 unfold txv xm
 go_enter_defers Tryz.func116,Tryz.ntmps116
 go_wp2_with fail
 refine HC.o.mono ?_
 rintro r w1 ⟨e,rfl,hq⟩
 obtain⟨he,hb⟩:=HQ.o _ _ hq
 obtain⟨k0,z0⟩:=zg hb 0 _ rfl
 have k1:∀ o,(w1.alloc o).cell? ⟨w.heap.size,0,none⟩=some .nilIface:=fun o=>(zg (zc (o:=o) hb) 0 _ rfl).1
 have z1:∀ o,(w1.alloc o).frozen? ⟨w.heap.size,0,none⟩=false:=fun o=>(zg (zc (o:=o) hb) 0 .nilIface rfl).2
 have HBB:=za hb
 have HH:=za hq
 clear hb hq
 rcases he with rfl | ⟨g',rfl⟩
 ·go_wp2_with fail
  refine leaves_cons (f:=161) (args:=#[.pointer (some ⟨w.heap.size,0,none⟩)]) (by simp) (by simp [go_sem]) ?_
  refine(znm ⟨w.heap.size,0,none⟩ _).mono ?_
  rintro e u' w'' ⟨rfl,rfl,rfl⟩
  simp [Leaves,settle,results,Tryz.results116,go_sem]
  have hc:(w1.setCell ⟨w.heap.size,0,none⟩ .nilIface).cell? ⟨w.heap.size,0,none⟩=some .nilIface:=(zg (qj HBB.o 0 .nilIface) 0 _ rfl).1
  rw [hc]
  exact⟨_,rfl,.nilIface,w1,HH.o,.inl ⟨rfl,rfl,rfl⟩⟩
 ·unfold zar
  go_wp2_with fail
  refine leaves_cons (f:=161) (args:=#[.pointer (some ⟨w.heap.size,0,none⟩)]) (by simp) (by simp [go_sem]) ?_
  refine(znm ⟨w.heap.size,0,none⟩ _).mono ?_
  rintro e u' w'' ⟨rfl,rfl,rfl⟩
  simp [Leaves,settle,results,Tryz.results116,go_sem]
  rw [(zg (qj (zc HBB.o) 0 _) 0 _ rfl).1]
  exact⟨_,rfl,zar g',w1,HH.o,.inr ⟨⟨g',rfl⟩,rfl,rfl⟩⟩
end
section
def zsa (l:List UInt8):List UInt8:=UInt8.ofNat l.length::l
def zce (ls:List (List UInt8)):List UInt8:=(ls.map zsa).flatten
def okB (ls:List (List UInt8)):Bool:=decide (1≤ls.length)&&(decide (ls.length≤4)&&ls.all fun l=>decide (l.length≤20))
def zn6:Nat→List UInt8→Option (List (List UInt8))
 | _,[]=>some []
 | 0,_::_=>none
 | f+1,c::r=>if c.toNat≤r.length then (zn6 f (r.drop c.toNat)).map (r.take c.toNat::·) else none
def unb (d:List UInt8):Option (List (List UInt8)):=zn6 d.length d
theorem zsw:∀(n f g:Nat) (d:List UInt8),d.length≤n→d.length≤f→d.length≤g→zn6 f d=zn6 g d:=by
 intro n
 induction n with
 | zero =>
  intro f g d hd _ _
  obtain rfl:d=[]:=List.length_eq_zero_iff.1 (by omega)
  cases f<;>cases g<;>rfl
 | succ n ih =>
  intro f g d hd hf hg
  cases d with
  | nil=>cases f<;>cases g<;>rfl
  | cons c r =>
   simp only [List.length_cons] at hd hf hg
   obtain⟨f,rfl⟩:∃ k,f=k+1:=⟨f - 1,by omega⟩
   obtain⟨g,rfl⟩:∃ k,g=k+1:=⟨g - 1,by omega⟩
   have hl:(r.drop c.toNat).length≤r.length:=by simp
   rw [zn6,zn6,ih f g (r.drop c.toNat) (by omega) (by omega) (by omega)]
theorem zqn:unb []=some []:=rfl
theorem zqh (c:UInt8)(r:List UInt8)(h:c.toNat≤r.length):unb (c::r)=(unb (r.drop c.toNat)).map (r.take c.toNat::·):=by
 have hl:(r.drop c.toNat).length≤r.length:=by simp
 show zn6 (r.length+1) (c::r)=_
 rw [zn6,if_pos h,zsw r.length r.length (r.drop c.toNat).length (r.drop c.toNat) hl hl (Nat.le_refl _)]
 rfl
theorem zwt (c:UInt8)(r:List UInt8)(h:¬ c.toNat≤r.length):unb (c::r)=none:=by
 show zn6 (r.length+1) (c::r)=_
 rw [zn6,if_neg h]
def zch (d:List UInt8):Option (List (List UInt8)):=match unb d with
 | some ls=>if okB ls then some ls else none
 | none=>none
theorem zeb (a b:List (List UInt8)):zce (a++b)=zce a++zce b:=by simp [zce]
theorem zjb (l:List UInt8):zce [l]=zsa l:=by simp [zce]
theorem z24 (ls:List (List UInt8))(h:∀ l∈ls,l.length≤20):(zce ls).length≤21*ls.length:=by
 induction ls with
 | nil=>simp [zce]
 | cons a t ih =>
  rw [show a::t=[a]++t from rfl,zeb,zjb]
  have h1:=h a (by simp)
  have h2:=ih (fun l hl=>h l (by simp [hl]))
  simp [zsa]
  omega
theorem zyv:∀(n:Nat) (d:List UInt8)(ls:List (List UInt8)) ,d.length≤n→unb d=some ls→zce ls=d:=by
 intro n
 induction n with
 | zero =>
  intro d ls hd h
  obtain rfl:d=[]:=List.length_eq_zero_iff.1 (by omega)
  rw [zqn] at h
  obtain rfl:[]=ls:=by simpa using h
  rfl
 | succ n ih =>
  intro d ls hd h
  cases d with
  | nil =>
   rw [zqn] at h
   obtain rfl:[]=ls:=by simpa using h
   rfl
  | cons c r =>
   by_cases hc:c.toNat≤r.length
   ·rw [zqh c r hc] at h
    obtain⟨t,ht,rfl⟩:=Option.map_eq_some_iff.1 h
    have:=ih (r.drop c.toNat) t (by simp at hd ⊢;omega) ht
    rw [show r.take c.toNat::t=[r.take c.toNat]++t from rfl,zeb,zjb,this,zsa]
    have e:(r.take c.toNat).length=c.toNat:=by simp;omega
    rw [e]
    simp
   ·rw [zwt c r hc] at h
    simp at h
def Un (d:List UInt8)(acc:List (List UInt8))(r:List UInt8):Prop:=unb d=(unb r).map (acc++·)∧acc.length+r.length≤d.length
theorem Un.start (d:List UInt8):Un d [] d:=⟨by cases h:unb d<;>simp,by simp⟩
theorem Un.step {d:List UInt8}{acc:List (List UInt8)}{c:UInt8}{r:List UInt8}(h:Un d acc (c::r))(hc:c.toNat≤r.length):Un d (acc++[r.take c.toNat]) (r.drop c.toNat):=by
 refine⟨?_,?_⟩
 ·rw [h.1,zqh c r hc]
  cases unb (r.drop c.toNat)<;>simp
 ·have:=h.2
  simp at this ⊢
  omega
theorem Un.fail {d:List UInt8}{acc:List (List UInt8)}{c:UInt8}{r:List UInt8}(h:Un d acc (c::r))(hc:¬ c.toNat≤r.length):zch d=none:=by
 unfold zch
 rw [h.1,zwt c r hc]
 rfl
theorem Un.done {d:List UInt8}{acc:List (List UInt8)}(h:Un d acc []):unb d=some acc:=by
 rw [h.1,zqn]
 simp
theorem Un.many {d:List UInt8}{acc:List (List UInt8)}{c:UInt8}{r:List UInt8}(h:Un d acc (c::r))(h4:4≤acc.length):zch d=none:=by
 by_cases hc:c.toNat≤r.length
 ·have:=(h.step hc).1
  unfold zch
  rw [this]
  cases unb (r.drop c.toNat) with
  | none=>rfl
  | some t =>
   have:okB (acc++[r.take c.toNat]++t)=false:=by
    unfold okB
    rw [show decide ((acc++[r.take c.toNat]++t).length≤4)=false by simp;omega]
    simp
   simp only [Option.map_some]
   rw [this]
   rfl
 ·exact h.fail hc
theorem Un.long {d:List UInt8}{acc:List (List UInt8)}{c:UInt8}{r:List UInt8}(h:Un d acc (c::r))(h20:20 < c.toNat):zch d=none:=by
 by_cases hc:c.toNat≤r.length
 ·have:=(h.step hc).1
  unfold zch
  rw [this]
  cases unb (r.drop c.toNat) with
  | none=>rfl
  | some t =>
   have:okB (acc++[r.take c.toNat]++t)=false:=by
    unfold okB
    have:(acc++[r.take c.toNat]++t).all (fun l=>decide (l.length≤20))=false:=by
     rw [List.all_append,List.all_append]
     have:([r.take c.toNat]).all (fun l=>decide (l.length≤20))=false:=by simp;omega
     rw [this]
     simp
    rw [this]
    simp
   simp only [Option.map_some]
   rw [this]
   rfl
 ·exact h.fail hc
theorem Un.end_ok {d:List UInt8}{acc:List (List UInt8)}(h:Un d acc [])(ho:okB acc=true):zch d=some acc∧zce acc=d:=by
 refine⟨?_,zyv d.length d acc (Nat.le_refl _) h.done⟩
 unfold zch
 rw [h.done]
 simp [ho]
theorem Un.end_not {d:List UInt8}{acc:List (List UInt8)}(h:Un d acc [])(ho:okB acc=false):zch d=none:=by
 unfold zch
 rw [h.done]
 simp [ho]
end
section
open Go.RowKit
set_option maxRecDepth 100000
def e8 (l:List UInt8):List UInt8:=l.take 8++List.replicate (8 - l.length) 0
def yf:List UInt8:=[0,0,0,0,0,0,0,0]
end
section
open Go.RowKit
set_option maxRecDepth 100000
def c8 (s:ByteArray):ByteArray:=⟨(e8 s.data.toList).toArray⟩
theorem zwp:(Tryz.prog.info? 9).map (fun i=>(i.zero,i.size,i.bytes))=some (some (.string ⟨#[]⟩),1,16):=by kernel_rfl
theorem z48:(Tryz.prog.info? 91).map (fun i=>(i.zero,i.size,i.bytes))=some (some (.agg (hv yf)),8,8):=by kernel_rfl
theorem Sss.of_owns {w:World}{B:Nat}{v:Value}{ts:List ByteArray}(h:w.ownsRow B 9 1 v ts.length (ts.map Value.string)):Sss w v ts:=by
 rcases h.2 with ⟨rfl,h0⟩ | ⟨g,cap,cur,rfl,hB,hg,hn,hm,hs,ht⟩
 ·exact⟨none,0,by rw [h0],by rw [h0];exact Nat.le_refl _,.inl (List.length_eq_zero_iff.1 h0)⟩
 ·refine⟨_,_,rfl,hn,.inr ⟨g,0,rfl,fun i hi=>?_⟩⟩
  rw [Nat.zero_add,cell_of_row _ _ _ _ _ _ hg]
  have e:(cur.toList.take (ts.length*1))[i]?=some (.string ts[i]):=by rw [ht];simp [hi]
  rw [Nat.mul_one,List.getElem?_take,if_pos hi] at e
  simpa using e
def Hss (w:World)(v:Value)(ps:List (List UInt8)):Prop :=
 ∃ a cap,v= .slice a ps.length cap∧ps.length≤cap∧(∀ p∈ps,p.length=8)∧(ps=[]∨∃ b off,a=some ⟨b,off,none⟩∧∀ i (h:i < ps.length),w.rangeAt b (off+i*8) (hv ps[i]).toList)
theorem vr {w w':World}{b o:Nat}{cs:List Value}(h:w.rangeAt b o cs)(hb:Below w.heap.size w w'):w'.rangeAt b o cs:=fun j v hv=>by
 have:=h j v hv
 rw [hb.cell (zj (p:=⟨b,o+j,none⟩) this)];exact this
theorem Hss.below {w w':World}{v:Value}{ps:List (List UInt8)}(h:Hss w v ps)(hb:Below w.heap.size w w'):Hss w' v ps:=by
 obtain⟨a,cap,rfl,hcap,h8,h⟩:=h
 refine⟨a,cap,rfl,hcap,h8,?_⟩
 rcases h with h | ⟨b,off,rfl,hc⟩
 ·exact .inl h
 ·exact .inr ⟨b,off,rfl,fun i hi=>vr (hc i hi) hb⟩
def zk8 (ps:List (List UInt8)):List Value:=(ps.map fun p=>(hv p).toList).flatten
theorem zw6 (ps:List (List UInt8))(h:∀ p∈ps,p.length=8)(i j:Nat)(hi:i < ps.length)(hj:j < 8):(zk8 ps)[i*8+j]?=(hv ps[i]).toList[j]?:=by
 induction ps generalizing i with
 | nil=>simp at hi
 | cons p ps ih =>
  have h1:=h p (by simp)
  have hl:(hv p).toList.length=8:=by rw [Array.length_toList,qd,h1]
  cases i with
  | zero =>
   simp only [zk8,List.map_cons,List.flatten_cons]
   rw [List.getElem?_append_left (by rw [hl];omega)]
   simp
  | succ i =>
   have h2:=ih (fun q hq=>h q (by simp [hq])) i (by simpa using hi)
   simp only [zk8,List.map_cons,List.flatten_cons] at h2 ⊢
   rw [List.getElem?_append_right (by rw [hl];omega),hl,show(i+1)*8+j - 8=i*8+j by omega,h2]
   simp
theorem Hss.of_owns {w:World}{B:Nat}{v:Value}{ps:List (List UInt8)}(h8:∀ p∈ps,p.length=8)(h:w.ownsRow B 91 8 v ps.length (zk8 ps)):Hss w v ps:=by
 rcases h.2 with ⟨rfl,h0⟩ | ⟨g,cap,cur,rfl,hB,hg,hn,hm,hs,ht⟩
 ·exact⟨none,0,by rw [h0],by rw [h0];exact Nat.le_refl _,h8,.inl (List.length_eq_zero_iff.1 h0)⟩
 ·refine⟨_,_,rfl,hn,h8,.inr ⟨g,0,rfl,fun i hi=>?_⟩⟩
  intro j v hv
  have hj:j < 8:=by
   have:=(List.getElem?_eq_some_iff.1 hv).1
   rw [Array.length_toList,qd,h8 _ (List.getElem_mem hi)] at this
   exact this
  rw [Nat.zero_add,cell_of_row _ _ _ _ _ _ hg]
  have e:=zw6 ps h8 i j hi hj
  rw [hv,← ht,List.getElem?_take,if_pos (by omega)] at e
  simpa using e
end
section
open Go.RowKit
theorem vd (b:Nat):∀(vs:List Value) (o:Nat) (w:World) (k:Nat),k≠b→(w.setCells b o vs).heap[k]?=w.heap[k]?
 | [],_,_,_,_=>rfl
 | v::r,o,w,k,h=>by rw [World.setCells,vd b r (o+1) _ k h,Below.heap_setCell _ _ _ _ h]
theorem zbi (b:Nat):∀(vs:List Value) (o:Nat) (w:World),(w.setCells b o vs).os=w.os∧(w.setCells b o vs).tape=w.tape∧(w.setCells b o vs).output=w.output∧(w.setCells b o vs).heap.size=w.heap.size
 | [],_,_=>⟨rfl,rfl,rfl,rfl⟩
 | v::r,o,w=>by
  obtain⟨a,b',c,d⟩:=zbi b r (o+1) (w.setCell ⟨b,o,none⟩ v)
  exact⟨a,b',c,by rw [World.setCells,d];simp [World.setCell]⟩
theorem zrr {P:Program}(w:World)(t e ty:TypeId)(z:Value)(ht:P.underlying t=some (.slice e))(hv:∀ w,(zeroValue e).run P w= .ok z w)(hz:z.cells=#[z])(h1:z.oneCell'=true)(g n c:Nat)(hth:w.there g 0 n):
  (Builtin.clear_ #[t] ty #[.slice (some ⟨g,0,none⟩) n c]).run P w= .ok (.tuple #[]) (w.setCells g 0 (List.replicate n z)):=by
 by_cases h0:n=0
 ·subst h0
  simp [Builtin.clear_,run_underlying ht,World.setCells]
 ·exact Lib.run_clear_slice w t e ty z ht hv hz h1 g 0 n c (by omega) (fun j hj=>(hth j hj).1) (fun j hj=>(hth j hj).2)
theorem zvi {P:Program}(w:World)(t e ty:TypeId)(ht:P.underlying t=some (.slice e))(a:Option Addr)(c:Nat):
  (Builtin.clear_ #[t] ty #[.slice a 0 c]).run P w= .ok (.tuple #[]) w:=by
 cases a<;>simp [Builtin.clear_,run_underlying ht]
theorem zqw {w:World}{g n:Nat}{C:Array Value}{t:TypeId}{fr:Nat×Nat}(hg:w.heap[g]?=some (.cells C t fr))(hn:n≤C.size)(hf:n≤fr.1∨fr=(0,0)):w.there g 0 n:=fun j hj=>by
 refine⟨by rw [Nat.zero_add,cell_of_row _ _ _ _ _ _ hg,Array.getElem?_eq_getElem (by omega)];rfl,?_⟩
 obtain⟨lo,hi⟩:=fr
 unfold World.frozen?
 simp only [hg,Nat.zero_add]
 rcases hf with hf | hf
 ·simp at hf ⊢;omega
 ·simp only [Prod.mk.injEq] at hf
  simp [hf.1,hf.2]
theorem zrn (w:World):(zeroValue 5).run Tryz.prog w= .ok (.int .u8 0) w:=by kernel_rfl
end
end Go.Proofs.YtinhekmmdlhfkaaGreatDoor
