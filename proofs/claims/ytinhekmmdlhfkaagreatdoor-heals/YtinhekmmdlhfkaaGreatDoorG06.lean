import Derived.Test.YtinhekmmdlhfkaaGreatDoorG04
import Derived.Test.YtinhekmmdlhfkaaGreatDoorG05
import Derived.Deep.RegionWith
import Derived.Laws.ResultCell
import Derived.Test.YtinhekmmdlhfkaaGreatDoorG01
import Derived.Lib.ItoaMem
import Derived.Lib.AtoiAllCases
import Derived.Lib.IndexLaws
import Derived.Lib.IndexMore
import Derived.Lib.Strings
namespace Go.Proofs.YtinhekmmdlhfkaaGreatDoor
section
set_option maxHeartbeats 1000000
open Go.RowKit
set_option maxRecDepth 100000
structure Lg where
 key:List UInt8
 es:List (List UInt8)
 put:Nat
 live:Bool
def stV (db:Nat)(live:Bool):Value:=if live then .iface 25 (dptr db) else .nilIface
def lcells (db:Nat)(ev:Value)(l:Lg):Array Value:=#[stV db l.live,txv l.key,ev,.int .i64 l.put]
def LogAt (w:World)(O:Nat→Prop)(db b:Nat)(l:Lg):Prop :=
 ∃ ev,O b∧w.heap[b]?=some (.cells (lcells db ev l) 109 (0,0))∧OBs w 0 ev l.es∧∀ g,ev.ownBlock=some g→O g
theorem got_slice {d:Dk}{p:List UInt8}{w:World}{v:Value}(h:(bad d=false∧∃ x,look d.fs p=some x∧Bq w v x)∨((bad d=true∨look d.fs p=none)∧v= .slice none 0 0)):∃ a n c,v= .slice a n c:=by
 rcases h with ⟨-,x,-,g,cap,C,fr,rfl,-⟩ | ⟨-,rfl⟩
 ·exact⟨_,_,_,rfl⟩
 ·exact⟨_,_,_,rfl⟩
theorem meth_get (n:Nat)(v:Value)(w:World):(method (n+1) 25 v "Get").run Tryz.prog w= .ok (233,v) w:=by kernel_rfl
theorem meth_put (n:Nat)(v:Value)(w:World):(method (n+1) 25 v "Put").run Tryz.prog w= .ok (234,v) w:=by kernel_rfl
theorem meth_swap (n:Nat)(v:Value)(w:World):(method (n+1) 25 v "Swap").run Tryz.prog w= .ok (235,v) w:=by kernel_rfl
theorem get1_any (O:Nat→Prop)(db lb B1 B2 B3:Nat)(d:Dk)(p:List UInt8)(u:Value)(w:World)(hn:d.fs.length≤1000000000)(hl:∀ f∈d.fs,f.2.length≤1000000000)(h:DiskAt w O db d)
  (h1:w.cell? ⟨B1,0,none⟩=some (.pointer (some ⟨lb,0,none⟩))) (h2:w.cell? ⟨B2,0,none⟩=some (txv p)) (h3:w.heap[B3]?=some (.cells #[u] 76 (0,0))) (hst:w.cell? ⟨lb,0,none⟩=some (stV db true)) :
  Calls Tryz.prog 117 #[.pointer (some ⟨B1,0,none⟩),.pointer (some ⟨B2,0,none⟩),.pointer (some ⟨B3,0,none⟩)] w fun r w2=>∃ v e w',r= .returned e∧w2=w'.setCell ⟨B3,0,none⟩ v∧OwnRes (bad d) w.heap.size e w'∧Turn O dT1 w w'∧DiskAt w' O db (enterD d) ∧
   ((bad d=false∧∃ x,look d.fs p=some x∧Bq w' v x)∨((bad d=true∨look d.fs p=none)∧v= .slice none 0 0)):=by
 unfold stV dptr at hst
 simp only [if_true] at hst
 unfold txv at h2
 obtain⟨k3,z3⟩:=dcell h3 0 u rfl
 have HD:=hide h
 have H3:=hide h3
 have HL:=hide hl
 clear h h3 hl
 go_enter Tryz.func117,Tryz.ntmps117
 go_wp2_with fail
 have hm:=meth_get
 go_region_with (go_at_call 233;refine(get_any O db d p _ hn HL.out (by exact HD.out)).mono ?_;rintro r w1 ⟨v,e,rfl,ho,ht,hd,hv⟩;obtain⟨a,n,c,rfl⟩:=got_slice hv;have HO:=hide ho;have HT:=hide ht;have HDD:=hide hd;have HV:=hide hv;obtain⟨k4,z4⟩:=dcell (ht.keep (k:=B3) H3.out (by decide)) 0 u rfl;clear ho ht hd hv)
 all_goals go_wp2
 all_goals go_ret
 all_goals exact⟨_,_,w1,rfl,rfl,HO.out,HT.out.undrew,HDD.out,HV.out⟩
def PErr (w:World)(g:Nat)(p:List UInt8):Prop:=∃ g',w.heap[g]?=some (.cells #[txv p,errV g'] 115 (0,0))∧ErrAt w g'
def GotErr (e:Bool)(p:List UInt8)(B:Nat)(r:Value)(w:World):Prop:=(e=false∧r= .nilIface)∨(e=true∧∃ g,r=pathE g∧B≤g∧PErr w g p)
theorem ErrAt.turn {w w':World}{O:Nat→Prop}{T:List Nat}{g:Nat}(h:ErrAt w g)(ht:Turn O T w w')(hT:353∉T):ErrAt w' g:=by
 obtain⟨c,h⟩:=h
 exact⟨c,ht.keep h hT⟩
theorem PErr.turn {w w':World}{O:Nat→Prop}{T:List Nat}{g:Nat}{p:List UInt8}(h:PErr w g p)(ht:Turn O T w w')(hT:353∉T)(hT':115∉T):PErr w' g p:=by
 obtain⟨g',h,h'⟩:=h
 exact⟨g',ht.keep h hT',h'.turn ht hT⟩
theorem own_shape {e:Bool}{B:Nat}{r:Value}{w:World}(h:OwnRes e B r w):r= .nilIface∨∃ g,r=errV g:=by
 rcases h with ⟨-,rfl⟩ | ⟨-,g,rfl,-⟩
 ·exact .inl rfl
 ·exact .inr ⟨g,rfl⟩
abbrev cT:List Nat:=[76,70]
theorem set_cell_turn {w:World}{b:Nat}{cs:Array Value}{t:TypeId}(hb:w.heap[b]?=some (.cells cs t (0,0)))(ht:t∈cT)(u:Value):Turn (fun _=>True) cT w (w.setCell ⟨b,0,none⟩ u):=(Turn.refl _ _ w).set (.inl trivial) hb ht u
theorem alloc3 (w:World)(o1 o2 o3:Obj):(((w.alloc o1).alloc o2).alloc o3).heap.size=w.heap.size+3∧(((w.alloc o1).alloc o2).alloc o3).heap[w.heap.size]?=some o1∧(((w.alloc o1).alloc o2).alloc o3).heap[w.heap.size+1]?=some o2∧(((w.alloc o1).alloc o2).alloc o3).heap[w.heap.size+1+1]?=some o3∧Below w.heap.size w (((w.alloc o1).alloc o2).alloc o3):=by
 have e1:(w.alloc o1).heap.size=w.heap.size+1:=by simp
 have e2:((w.alloc o1).alloc o2).heap.size=w.heap.size+1+1:=by simp
 refine⟨by simp,heap_alloc_old (heap_alloc_old (heap_alloc_last _ _)),?_,?_,?_⟩
 ·rw [← e1];exact heap_alloc_old (heap_alloc_last _ _)
 ·rw [← e2];exact heap_alloc_last _ _
 ·exact((below_alloc w o1).trans ((below_alloc _ o2).mono (by simp))).trans ((below_alloc _ o3).mono (by simp;omega))
theorem heap_set_ne {w:World}{b k:Nat}{u:Value}{o:Obj}(h:w.heap[k]?=some o)(hne:k≠b):(w.setCell ⟨b,0,none⟩ u).heap[k]?=some o:=by rw [heap_setCell_other _ _ _ _ hne];exact h
theorem lget_any (O:Nat→Prop)(db lb:Nat)(d:Dk)(p:List UInt8)(w:World)(hn:d.fs.length≤1000000000)(hl:∀ f∈d.fs,f.2.length≤1000000000)(h:DiskAt w O db d)(hst:w.cell? ⟨lb,0,none⟩=some (stV db true)):
  Calls Tryz.prog 69 #[.pointer (some ⟨lb,0,none⟩),txv p] w fun r w'=>∃ v e,r= .returned (.tuple #[v,e])∧GotErr (bad d) p w.heap.size e w'∧Turn O dT1 w w'∧DiskAt w' O db (enterD d) ∧
   ((bad d=false∧∃ x,look d.fs p=some x∧Bq w' v x)∨((bad d=true∨look d.fs p=none)∧v= .slice none 0 0)):=by
 have hmf:∀(fn:Fn) (first cap:Array Value) (w:World),(Instr.makeFunc fn first cap).run Tryz.prog w= .ok (.func fn first cap) w:=fun _ _ _ _=>rfl
 have eg:∀ args w,(callFunc 117 args).run Tryz.prog w= .ok (.enter 117 args) w:=enters_of Tryz.func117 (by kernel_rfl) rfl
 have HD:=hide h
 have HL:=hide hl
 have HS:=hide hst
 clear h hl hst
 have htx:txv p= .string ⟨p.toArray⟩:=rfl
 rw [htx]
 go_enter Tryz.func69,Tryz.ntmps69
 go_wp2_with fail
 obtain⟨s3,p1,p2,p3,hb3⟩:=alloc3 w (.cells #[.pointer (some ⟨lb,0,none⟩)] 68) (.cells #[.string ⟨p.toArray⟩] 9) (.cells #[.slice none 0 0] 76)
 generalize (((w.alloc (.cells #[.pointer (some ⟨lb,0,none⟩)] 68)).alloc (.cells #[.string ⟨p.toArray⟩] 9)).alloc (.cells #[.slice none 0 0] 76))=W3 at *
 have HB3:=hide hb3
 have P3:=hide p3
 have S3:=hide s3
 have hcall:=get1_any O db lb w.heap.size (w.heap.size+1) (w.heap.size+1+1) d p (.slice none 0 0) (W3.alloc (.cells #[.nilIface] 70)) hn HL.out
  (HD.out.stay (O1:=fun _=>False) (T:=[]) ((Turn.of_below hb3).alloc _) (by simp) (by simp))
  (dcell (heap_alloc_old p1) 0 _ rfl).1 (dcell (heap_alloc_old p2) 0 _ rfl).1 (heap_alloc_old p3) (by rw [cell_old _ _ ⟨_,0,none⟩ (Nat.lt_of_lt_of_le (cell_lt HS.out) hb3.size),hb3.cell (p:=⟨lb,0,none⟩) (cell_lt HS.out)];exact HS.out)
 have H0:Hid ((W3.alloc (.cells #[.nilIface] 70)).heap[W3.heap.size]?=some (.cells #[.nilIface] 70 (0,0))):=heap_alloc_last _ _
 have hW:Hid ((W3.alloc (.cells #[.nilIface] 70)).heap.size=W3.heap.size+1):=by show _=_;simp
 have hbl:Hid (Below w.heap.size w (W3.alloc (.cells #[.nilIface] 70))):=hb3.alloc (by omega) _
 have P4:Hid ((W3.alloc (.cells #[.nilIface] 70)).heap[w.heap.size+1+1]?=some (.cells #[.slice none 0 0] 76 (0,0))):=heap_alloc_old p3
 refine(ask_any p 117 _ W3 (fun e w2=>∃ v w',w2=w'.setCell ⟨w.heap.size+1+1,0,none⟩ v∧OwnRes (bad d) (W3.alloc (.cells #[.nilIface] 70)).heap.size e w'∧Turn O dT1 (W3.alloc (.cells #[.nilIface] 70)) w'∧DiskAt w' O db (enterD d)∧((bad d=false∧∃ x,look d.fs p=some x∧Bq w' v x)∨((bad d=true∨look d.fs p=none)∧v= .slice none 0 0))) eg
  (hcall.mono (by rintro r w2 ⟨v,e,w',rfl,h⟩;exact⟨e,rfl,v,w',h⟩)) ?_).mono ?_
 ·rintro e w2 ⟨v,w',rfl,ho,ht,-⟩
  exact⟨own_shape ho,heap_set_ne (ht.keep H0.out (by decide)) (by have:=S3.out;omega)⟩
 clear hcall p1 p2 p3 hb3 s3
 generalize W3.alloc (.cells #[.nilIface] 70)=W4 at *
 rintro r w5 ⟨e,w2,⟨v,w',rfl,ho,ht,hd,hv⟩,h⟩
 obtain⟨a,n,c,rfl⟩:=got_slice hv
 have q3:=ht.keep P4.out (by decide)
 have q0:=ht.keep H0.out (by decide)
 have tw:Turn O dT1 w w':=(Turn.of_below hbl.out).trans (ht.mono (fun _ h=> .inl h) (fun _ h=>h))
 have hsz:W3.heap.size≠w.heap.size+1+1:=by have:=S3.out;omega
 have hsz':w.heap.size≤W3.heap.size:=by have:=S3.out;omega
 have r3:=dset q3 0 (.slice a n c)
 have r0:=heap_set_ne (u:= .slice a n c) q0 hsz
 have tA:Turn (fun _=>True) cT w' (w'.setCell ⟨w.heap.size+1+1,0,none⟩ (.slice a n c)):=set_cell_turn q3 (by decide) _
 rcases h with ⟨rfl,rfl,rfl⟩ | ⟨⟨g',rfl⟩,rfl,rfl⟩
 ·have hbd:bad d=false:=by
   rcases ho with ⟨h,-⟩ | ⟨-,g,h,-⟩
   ·exact h
   ·simp [errV] at h
  have tB:=set_cell_turn r0 (by decide) .nilIface
  have r3':=heap_set_ne (u:= .nilIface) r3 (Ne.symm hsz)
  have tC:=set_cell_turn r3' (by decide) (.slice a n c)
  have rf:=dset r3' 0 (.slice a n c)
  have HFIN:Hid (GotErr (bad d) p w.heap.size .nilIface (((w'.setCell ⟨w.heap.size+1+1,0,none⟩ (.slice a n c)).setCell ⟨W3.heap.size,0,none⟩ .nilIface).setCell ⟨w.heap.size+1+1,0,none⟩ (.slice a n c))∧Turn O dT1 w (((w'.setCell ⟨w.heap.size+1+1,0,none⟩ (.slice a n c)).setCell ⟨W3.heap.size,0,none⟩ .nilIface).setCell ⟨w.heap.size+1+1,0,none⟩ (.slice a n c))∧DiskAt (((w'.setCell ⟨w.heap.size+1+1,0,none⟩ (.slice a n c)).setCell ⟨W3.heap.size,0,none⟩ .nilIface).setCell ⟨w.heap.size+1+1,0,none⟩ (.slice a n c)) O db (enterD d) ∧
   ((bad d=false∧∃ x,look d.fs p=some x∧Bq (((w'.setCell ⟨w.heap.size+1+1,0,none⟩ (.slice a n c)).setCell ⟨W3.heap.size,0,none⟩ .nilIface).setCell ⟨w.heap.size+1+1,0,none⟩ (.slice a n c)) (.slice a n c) x)∨((bad d=true∨look d.fs p=none)∧Value.slice a n c= .slice none 0 0))):=by
   refine⟨.inl ⟨hbd,rfl⟩,((tw.setNew (by omega) _ _).setNew hsz' _ _).setNew (by omega) _ _,((hd.stay tA (by decide) (by decide)).stay tB (by decide) (by decide)).stay tC (by decide) (by decide),?_⟩
   rcases hv with ⟨h1,x,h2,h3⟩ | h
   ·exact .inl ⟨h1,x,h2,((h3.turn tA (by decide)).turn tB (by decide)).turn tC (by decide)⟩
   ·exact .inr h
  obtain⟨kc,kz⟩:=dcell r3' 0 (.slice a n c) rfl
  have HRF:=hide (dcell rf 0 (.slice a n c) rfl).1
  clear tA tB tC tw ho ht hd hv q3 q0 r3 r0 r3' rf hbl H0 P4 P3 HB3 HS HL HD
  go_wp2_with fail
  refine bodyPost_ret (v:= .tuple #[.slice a n c,.nilIface]) ?_ rfl ⟨_,_,rfl,HFIN.out⟩
  simp [results,Tryz.results69,go_sem,HRF.out]
 ·have hbd:bad d=true:=by
   rcases ho with ⟨-,h⟩ | ⟨h,-⟩
   ·simp [errV] at h
   ·exact h
  have herr:ErrAt w' g':=by
   rcases ho with ⟨-,h⟩ | ⟨-,g,h,-,h'⟩
   ·simp [errV] at h
   ·simp [errV] at h
    exact h▸h'
  have hsw:(w'.setCell ⟨w.heap.size+1+1,0,none⟩ (.slice a n c)).heap.size=w'.heap.size:=by simp [World.setCell]
  rw [hsw]
  have hpe:((w'.setCell ⟨w.heap.size+1+1,0,none⟩ (.slice a n c)).alloc (.cells #[txv p,errV g'] 115)).heap[w'.heap.size]?=some (.cells #[txv p,errV g'] 115 (0,0)):=by rw [← hsw];exact heap_alloc_last _ _
  have tP:Turn (fun _=>True) cT (w'.setCell ⟨w.heap.size+1+1,0,none⟩ (.slice a n c)) ((w'.setCell ⟨w.heap.size+1+1,0,none⟩ (.slice a n c)).alloc (.cells #[txv p,errV g'] 115)):=(Turn.refl _ _ _).alloc _
  have r0':=heap_alloc_old (o:= .cells #[txv p,errV g'] 115) r0
  have r3a:=heap_alloc_old (o:= .cells #[txv p,errV g'] 115) r3
  have tB:=set_cell_turn r0' (by decide) (pathE w'.heap.size)
  have r3':=heap_set_ne (u:=pathE w'.heap.size) r3a (Ne.symm hsz)
  have tC:=set_cell_turn r3' (by decide) (.slice a n c)
  have rf:=dset r3' 0 (.slice a n c)
  have hlw:w.heap.size≤w'.heap.size:=tw.size
  have HFIN:Hid (GotErr (bad d) p w.heap.size (pathE w'.heap.size) ((((w'.setCell ⟨w.heap.size+1+1,0,none⟩ (.slice a n c)).alloc (.cells #[txv p,errV g'] 115)).setCell ⟨W3.heap.size,0,none⟩ (pathE w'.heap.size)).setCell ⟨w.heap.size+1+1,0,none⟩ (.slice a n c))∧Turn O dT1 w ((((w'.setCell ⟨w.heap.size+1+1,0,none⟩ (.slice a n c)).alloc (.cells #[txv p,errV g'] 115)).setCell ⟨W3.heap.size,0,none⟩ (pathE w'.heap.size)).setCell ⟨w.heap.size+1+1,0,none⟩ (.slice a n c))∧DiskAt ((((w'.setCell ⟨w.heap.size+1+1,0,none⟩ (.slice a n c)).alloc (.cells #[txv p,errV g'] 115)).setCell ⟨W3.heap.size,0,none⟩ (pathE w'.heap.size)).setCell ⟨w.heap.size+1+1,0,none⟩ (.slice a n c)) O db (enterD d) ∧
   ((bad d=false∧∃ x,look d.fs p=some x∧Bq ((((w'.setCell ⟨w.heap.size+1+1,0,none⟩ (.slice a n c)).alloc (.cells #[txv p,errV g'] 115)).setCell ⟨W3.heap.size,0,none⟩ (pathE w'.heap.size)).setCell ⟨w.heap.size+1+1,0,none⟩ (.slice a n c)) (.slice a n c) x)∨((bad d=true∨look d.fs p=none)∧Value.slice a n c= .slice none 0 0))):=by
   refine⟨.inr ⟨hbd,w'.heap.size,rfl,hlw,g',?_,?_⟩,(((tw.setNew (by omega) _ _).alloc _).setNew hsz' _ _).setNew (by omega) _ _,(((hd.stay tA (by decide) (by decide)).stay tP (by decide) (by decide)).stay tB (by decide) (by decide)).stay tC (by decide) (by decide),?_⟩
   ·exact tC.keep (tB.keep hpe (by decide)) (by decide)
   ·exact(((herr.turn tA (by decide)).turn tP (by decide)).turn tB (by decide)).turn tC (by decide)
   ·rcases hv with ⟨h1,x,h2,h3⟩ | h
    ·rw [hbd] at h1;simp at h1
    ·exact .inr h
  obtain⟨kc,kz⟩:=dcell r3' 0 (.slice a n c) rfl
  have HRF:=hide (dcell rf 0 (.slice a n c) rfl).1
  clear tA tB tC tP tw ho ht hd hv q3 q0 r3 r0 r3' r3a r0' rf hbl H0 P4 P3 HB3 HS HL HD hpe herr hsw
  unfold txv pathE errV at *
  go_wp2_with fail
  refine bodyPost_ret (v:= .tuple #[.slice a n c,.iface 113 (.pointer (some ⟨w'.heap.size,0,none⟩))]) ?_ rfl ⟨_,_,rfl,HFIN.out⟩
  simp [results,Tryz.results69,go_sem,HRF.out]
end
section
def dec (n:Nat):List UInt8:=Lib.decDigits n
def isDig (c:UInt8):Prop:=48≤c.toNat∧c.toNat≤57
theorem dec_one {n:Nat}(h:n < 10):dec n=[UInt8.ofNat (48+n)]:=by unfold dec;rw [Lib.decDigits,dif_pos h]
theorem dec_more {n:Nat}(h:¬ n < 10):dec n=dec (n / 10)++[UInt8.ofNat (48+n % 10)]:=by unfold dec;rw [Lib.decDigits,dif_neg h]
theorem dig_val (d:Nat)(h:d < 10):(UInt8.ofNat (48+d)).toNat=48+d:=by rw [UInt8.toNat_ofNat'];omega
theorem dec_digits (n:Nat):∀ c∈dec n,isDig c:=by
 induction n using Nat.strongRecOn with
 | _ n ih =>
  intro c hc
  by_cases h:n < 10
  ·rw [dec_one h] at hc
   obtain rfl:c=UInt8.ofNat (48+n):=by simpa using hc
   unfold isDig
   rw [dig_val n h];omega
  ·rw [dec_more h] at hc
   rcases List.mem_append.1 hc with h' | h'
   ·exact ih (n / 10) (by omega) c h'
   ·obtain rfl:c=UInt8.ofNat (48+n % 10):=by simpa using h'
    unfold isDig
    rw [dig_val _ (by omega)];omega
theorem dec_ne (n:Nat):dec n≠[]:=by
 by_cases h:n < 10
 ·rw [dec_one h];simp
 ·rw [dec_more h];simp
theorem parse_dec (n:Nat)(h:n≤9223372036854775807)(r:List UInt8):Lib.parseUint10 0 (dec n++r)=Lib.parseUint10 n r:=by
 induction n using Nat.strongRecOn generalizing r with
 | _ n ih =>
  by_cases h9:n < 10
  ·rw [dec_one h9,List.cons_append,List.nil_append,Lib.parseUint10,dig_val n h9,if_pos (by omega),if_neg (by omega),if_neg (by omega)]
   congr 1
   omega
  ·rw [dec_more h9,List.append_assoc,ih (n / 10) (by omega) (by omega),List.cons_append,List.nil_append,Lib.parseUint10,dig_val _ (by omega),if_pos (by omega),if_neg (by omega),if_neg (by omega)]
   congr 1
   omega
theorem atoi_dec (n:Nat)(h:n≤9223372036854775807):Lib.atoiAll (dec n)= .ok (n:Int):=by
 have hp:=parse_dec n h []
 rw [List.append_nil,Lib.parseUint10] at hp
 have hd:=dec_digits n
 have hne:=dec_ne n
 cases hdec:dec n with
 | nil=>exact absurd hdec hne
 | cons c r =>
  rw [hdec] at hp hd
  obtain⟨c1,c2⟩:=hd c (by simp)
  have hm:Lib.parseMag (c::r)= .ok n:=by rw [Lib.parseMag,if_neg (by simp),hp]
  simp only [Lib.atoiAll]
  rw [if_neg (by omega),hm]
  simp only []
  rw [if_neg (by omega),if_neg (by omega),if_neg (by omega)]
def numP (l:List UInt8):Int:=match Lib.atoiAll l with
 | .ok v=>v
 | _=>-1
theorem numP_dec (n:Nat)(h:n≤9223372036854775807):numP (dec n)=(n:Int):=by unfold numP;rw [atoi_dec n h]
theorem numP_bounds (l:List UInt8):-9223372036854775808≤numP l∧numP l≤9223372036854775807:=by
 unfold numP
 cases h:Lib.atoiAll l
 ·exact Lib.atoiAll_bounds h
 ·simp
 ·simp
def numL (n:Nat):List UInt8→Option (Nat×List UInt8)
 | []=>some (n,[])
 | c::r=>if 48≤c.toNat∧c.toNat≤57 then (if (9223372036854775807 - (c.toNat - 48)) / 10 < n then none else numL (10*n+(c.toNat - 48)) r) else some (n,c::r)
theorem numL_dec (n:Nat)(h:n≤9223372036854775807)(r:List UInt8):numL 0 (dec n++r)=numL n r:=by
 induction n using Nat.strongRecOn generalizing r with
 | _ n ih =>
  by_cases h9:n < 10
  ·rw [dec_one h9,List.cons_append,List.nil_append,numL,dig_val n h9,if_pos (by omega),if_neg (by omega)]
   congr 1
   omega
  ·rw [dec_more h9,List.append_assoc,ih (n / 10) (by omega) (by omega),List.cons_append,List.nil_append,numL,dig_val _ (by omega),if_pos (by omega),if_neg (by omega)]
   congr 1
   omega
def numR (s:List UInt8):Nat×List UInt8×Bool:=match numL 0 s with
 | none=>(0,s,false)
 | some (n,r)=>(n,r,decide (r.length < s.length))
def noDig:List UInt8→Prop
 | []=>True
 | c::_=>¬ isDig c
theorem numL_stop (n:Nat)(r:List UInt8)(h:noDig r):numL n r=some (n,r):=by
 cases r with
 | nil=>rfl
 | cons c r =>
  have h':¬(48≤c.toNat∧c.toNat≤57):=h
  rw [numL,if_neg h']
theorem numR_dec (n:Nat)(h:n≤9223372036854775807)(r:List UInt8)(hr:noDig r):numR (dec n++r)=(n,r,true):=by
 unfold numR
 rw [numL_dec n h,numL_stop n r hr]
 have:0 < (dec n).length:=List.length_pos_iff.2 (dec_ne n)
 simp only [List.length_append]
 rw [show decide (r.length < (dec n).length+r.length)=true by simp;omega]
theorem cut_at (a t b:List UInt8)(c:UInt8)(h:∀ x∈a,x≠c):Lib.cut (a++(c::t)++b) (c::t)=(a,b,true):=by
 have hi:Lib.index (a++(c::t)++b) (c::t)=a.length:=by
  refine Lib.index_first (by simp) ?_ (fun j hj=>?_)
  ·unfold Lib.occAt
   rw [List.append_assoc,List.drop_left]
   simp [List.isPrefixOf_iff_prefix]
  ·cases ho:Lib.occAt (a++(c::t)++b) (c::t) j with
   | false=>rfl
   | true =>
    have:=Lib.occAt_head rfl ho
    rw [List.append_assoc,List.getElem?_append_left hj,List.getElem?_eq_getElem hj] at this
    exact absurd (Option.some.inj this) (h _ (List.getElem_mem hj))
 unfold Lib.cut
 rw [hi,if_pos (by omega),Int.toNat_natCast]
 have e1:(a++(c::t)++b).take a.length=a:=by rw [List.append_assoc,List.take_left]
 have e2:(a++(c::t)++b).drop (a.length+(c::t).length)=b:=by
  rw [← List.length_append,List.drop_left]
 rw [e1,e2]
theorem cut_none (a t:List UInt8)(c:UInt8)(h:∀ x∈a,x≠c):Lib.cut a (c::t)=(a,[],false):=by
 have hi:Lib.index a (c::t)=-1:=by
  refine Lib.index_none (fun j hj=>?_)
  cases ho:Lib.occAt a (c::t) j with
  | false=>rfl
  | true =>
   have:=Lib.occAt_head rfl ho
   obtain⟨hj',e⟩:=List.getElem?_eq_some_iff.1 this
   exact absurd e (h _ (List.getElem_mem hj'))
 unfold Lib.cut
 rw [hi,if_neg (by omega)]
theorem pre_app (p r:List UInt8):p.isPrefixOf (p++r)=true:=by rw [List.isPrefixOf_iff_prefix];exact List.prefix_append p r
def entF:List UInt8:=[101,110,116,114,105,101,115,47]
def tileF:List UInt8:=[116,105,108,101,47]
def partF:List UInt8:=[46,112,47]
def badName (l i w:Int):Prop:=l < -1∨20 < l∨i < 0∨w < 1∨4 < w
def headF (l:Int):List UInt8:=if l=-1 then entF else tileF++dec l.toNat++[47]
def tailF (w:Int):List UInt8:=if w < 4 then partF++dec w.toNat else []
def nameF (l i w:Int):List UInt8:=if l < -1∨20 < l∨i < 0∨w < 1∨4 < w then [] else headF l++dec i.toNat++tailF w
theorem nameF_bad {l i w:Int}(h:badName l i w):nameF l i w=[]:=by unfold badName at h;unfold nameF;rw [if_pos h]
theorem nameF_good {l i w:Int}(h:¬ badName l i w):nameF l i w=headF l++dec i.toNat++tailF w:=by unfold badName at h;unfold nameF;rw [if_neg h]
def cutLevelF (p:List UInt8):Int×List UInt8×Bool :=
 if Lib.hasPrefix p entF then (-1,Lib.trimPrefix p entF,true)
 else (numP (Lib.cut (Lib.trimPrefix p tileF) [47]).1,(Lib.cut (Lib.trimPrefix p tileF) [47]).2.1,Lib.hasPrefix p tileF)
def widthP (c:List UInt8×List UInt8×Bool):Int:=if c.2.2 then numP c.2.1 else 4
def parseP (p:List UInt8):Int×Int×Int×Bool :=
 if (cutLevelF p).2.2=true∧nameF (cutLevelF p).1 (numP (Lib.cut (cutLevelF p).2.1 partF).1) (widthP (Lib.cut (cutLevelF p).2.1 partF))=p
 then ((cutLevelF p).1,numP (Lib.cut (cutLevelF p).2.1 partF).1,widthP (Lib.cut (cutLevelF p).2.1 partF),true) else (0,0,0,false)
theorem dig_ne (c x:UInt8)(h:isDig x)(hc:¬ isDig c):x≠c:=fun e=>hc (e▸h)
theorem dec_not (n:Nat)(c:UInt8)(hc:¬ isDig c):∀ x∈dec n,x≠c:=fun x hx=>dig_ne c x (dec_digits n x hx) hc
theorem headF_ent:headF (-1) =entF:=by unfold headF;rw [if_pos rfl]
theorem headF_tile (l:Int)(h:l≠-1):headF l=tileF++dec l.toNat++[47]:=by unfold headF;rw [if_neg h]
theorem tailF_noDig (w:Int):noDig (tailF w):=by
 unfold tailF
 split
 ·show ¬ isDig 46
  unfold isDig;decide
 ·trivial
theorem cutLevel_name (l:Int)(hl:-1≤l)(hl2:l≤20)(r:List UInt8):cutLevelF (headF l++r)=(l,r,true):=by
 by_cases h:l=-1
 ·subst h
  rw [headF_ent]
  unfold cutLevelF Lib.trimPrefix Lib.hasPrefix
  rw [if_pos (pre_app entF r),if_pos (pre_app entF r),List.drop_left]
 ·rw [headF_tile l h,List.append_assoc,List.append_assoc]
  have n1:Lib.hasPrefix (tileF++(dec l.toNat++([47]++r))) entF=false:=rfl
  have n2:Lib.hasPrefix (tileF++(dec l.toNat++([47]++r))) tileF=true:=pre_app _ _
  have n3:Lib.trimPrefix (tileF++(dec l.toNat++([47]++r))) tileF=dec l.toNat++[47]++r:=by
   unfold Lib.trimPrefix
   rw [if_pos n2,List.drop_left,List.append_assoc]
  unfold cutLevelF
  rw [n1,n2,n3,cut_at (dec l.toNat) [] r 47 (dec_not _ _ (by unfold isDig;decide)),numP_dec _ (by omega)]
  simp only [Bool.false_eq_true,if_false]
  rw [show((l.toNat:Nat):Int)=l by omega]
theorem cut_name (i:Nat)(w:Int)(hi:i≤9223372036854775807)(hw:1≤w)(hw4:w≤4):numP (Lib.cut (dec i++tailF w) partF).1=i∧widthP (Lib.cut (dec i++tailF w) partF)=w:=by
 unfold tailF
 by_cases h:w < 4
 ·rw [if_pos h,← List.append_assoc,show partF=46::[112,47] from rfl,cut_at (dec i) [112,47] (dec w.toNat) 46 (dec_not _ _ (by unfold isDig;decide))]
  refine⟨numP_dec i hi,?_⟩
  show(if true=true then numP (dec w.toNat) else 4)=w
  rw [if_pos rfl,numP_dec _ (by omega)]
  omega
 ·rw [if_neg h,List.append_nil,show partF=46::[112,47] from rfl,cut_none (dec i) [112,47] 46 (dec_not _ _ (by unfold isDig;decide))]
  refine⟨numP_dec i hi,?_⟩
  show(if false=true then numP [] else 4)=w
  rw [if_neg (by simp)]
  omega
theorem parseP_name {l i w:Int}(h:¬ badName l i w)(hi:i≤9223372036854775807):parseP (nameF l i w)=(l,i,w,true):=by
 have h':=h
 unfold badName at h'
 have e:nameF l i w=headF l++(dec i.toNat++tailF w):=by rw [nameF_good h,List.append_assoc]
 have c:=cutLevel_name l (by omega) (by omega) (dec i.toNat++tailF w)
 obtain⟨c1,c2⟩:=cut_name i.toNat w (by omega) (by omega) (by omega)
 unfold parseP
 rw [e,c]
 simp only []
 rw [c1,c2,show((i.toNat:Nat):Int)=i by omega,← e,if_pos (by simp)]
end
section
open Go.RowKit
def rebF (z:List UInt8):Nat→List UInt8→Nat→Nat→List (List UInt8)→List UInt8×Bool
 | 0,_,_,_,_=>(z,false)
 | f+1,leaf,i,n,ps =>
  if n=1 then (leaf,decide (ps.length=0))
  else if ps.length=0 then (z,false)
  else if i < kOf n then (nodeH (rebF z f leaf i (kOf n) ps.dropLast).1 (ps.getLastD []),(rebF z f leaf i (kOf n) ps.dropLast).2)
  else (nodeH (ps.getLastD []) (rebF z f leaf (i - kOf n) (n - kOf n) ps.dropLast).1,(rebF z f leaf (i - kOf n) (n - kOf n) ps.dropLast).2)
theorem rebF_one (z leaf:List UInt8)(f i:Nat)(ps:List (List UInt8)):rebF z (f+1) leaf i 1 ps=(leaf,decide (ps.length=0)):=by
 rw [rebF,if_pos rfl]
theorem rebF_none (z leaf:List UInt8)(f i n:Nat)(ps:List (List UInt8))(h:n≠1)(h0:ps.length=0):rebF z (f+1) leaf i n ps=(z,false):=by
 rw [rebF,if_neg h,if_pos h0]
theorem rebF_left (z leaf:List UInt8)(f i n:Nat)(ps:List (List UInt8))(h:n≠1)(h0:ps.length≠0)(hi:i < kOf n):rebF z (f+1) leaf i n ps=(nodeH (rebF z f leaf i (kOf n) ps.dropLast).1 (ps.getLastD []),(rebF z f leaf i (kOf n) ps.dropLast).2):=by
 rw [rebF,if_neg h,if_neg h0,if_pos hi]
theorem rebF_right (z leaf:List UInt8)(f i n:Nat)(ps:List (List UInt8))(h:n≠1)(h0:ps.length≠0)(hi:¬ i < kOf n):rebF z (f+1) leaf i n ps=(nodeH (ps.getLastD []) (rebF z f leaf (i - kOf n) (n - kOf n) ps.dropLast).1,(rebF z f leaf (i - kOf n) (n - kOf n) ps.dropLast).2):=by
 rw [rebF,if_neg h,if_neg h0,if_neg hi]
theorem rebF_len8 (z leaf:List UInt8)(hz:z.length=8)(hl:leaf.length=8)(f i n:Nat)(ps:List (List UInt8)):(rebF z f leaf i n ps).1.length=8:=by
 cases f with
 | zero=>exact hz
 | succ f =>
  by_cases h1:n=1
  ·subst h1;rw [rebF_one];exact hl
  by_cases h0:ps.length=0
  ·rw [rebF_none _ _ _ _ _ _ h1 h0];exact hz
  by_cases hi:i < kOf n
  ·rw [rebF_left _ _ _ _ _ _ h1 h0 hi];exact nodeH_length _ _
  ·rw [rebF_right _ _ _ _ _ _ h1 h0 hi];exact nodeH_length _ _
theorem last_split {α:Type}(l:List α)(m:Nat)(h:l.length=m+1)(d:α):l.getLastD d=l[m]∧l.dropLast=l.take m:=by
 refine⟨?_,?_⟩
 ·rw [List.getLastD_eq_getLast?,List.getLast?_eq_getElem?,show l.length - 1=m by omega,List.getElem?_eq_getElem (by omega)];rfl
 ·rw [List.dropLast_eq_take,h,Nat.add_sub_cancel]
end
section
open Go.RowKit
def rtsF (z a:List UInt8):Nat→Nat→Nat→List (List UInt8)→Bool→List UInt8×List UInt8×Bool
 | 0,_,_,_,_=>(z,z,false)
 | f+1,m,n,ps,whole =>
  if m=n then (if whole=true then (a,a,decide (ps.length=0)) else if ps.length=1 then (ps.headD [],ps.headD [],true) else (z,z,false))
  else if ps.length=0 then (z,z,false)
  else if m≤kOf n then ((rtsF z a f m (kOf n) ps.dropLast whole).1,nodeH (rtsF z a f m (kOf n) ps.dropLast whole).2.1 (ps.getLastD []),(rtsF z a f m (kOf n) ps.dropLast whole).2.2)
  else (nodeH (ps.getLastD []) (rtsF z a f (m - kOf n) (n - kOf n) ps.dropLast false).1,nodeH (ps.getLastD []) (rtsF z a f (m - kOf n) (n - kOf n) ps.dropLast false).2.1,(rtsF z a f (m - kOf n) (n - kOf n) ps.dropLast false).2.2)
variable (z a : List UInt8) (f m n : Nat) (ps : List (List UInt8)) (whole : Bool)
theorem rtsF_whole:rtsF z a (f+1) n n ps true=(a,a,decide (ps.length=0)):=by
 rw [rtsF,if_pos rfl,if_pos rfl]
theorem rtsF_part (h:ps.length=1):rtsF z a (f+1) n n ps false=(ps.headD [],ps.headD [],true):=by
 rw [rtsF,if_pos rfl,if_neg (by simp),if_pos h]
theorem rtsF_not (h:ps.length≠1):rtsF z a (f+1) n n ps false=(z,z,false):=by
 rw [rtsF,if_pos rfl,if_neg (by simp),if_neg h]
theorem rtsF_none (hm:m≠n)(h:ps.length=0):rtsF z a (f+1) m n ps whole=(z,z,false):=by
 rw [rtsF,if_neg hm,if_pos h]
theorem rtsF_left (hm:m≠n)(h:ps.length≠0)(hk:m≤kOf n):rtsF z a (f+1) m n ps whole=((rtsF z a f m (kOf n) ps.dropLast whole).1,nodeH (rtsF z a f m (kOf n) ps.dropLast whole).2.1 (ps.getLastD []),(rtsF z a f m (kOf n) ps.dropLast whole).2.2):=by
 rw [rtsF,if_neg hm,if_neg h,if_pos hk]
theorem rtsF_right (hm:m≠n)(h:ps.length≠0)(hk:¬ m≤kOf n):rtsF z a (f+1) m n ps whole=(nodeH (ps.getLastD []) (rtsF z a f (m - kOf n) (n - kOf n) ps.dropLast false).1,nodeH (ps.getLastD []) (rtsF z a f (m - kOf n) (n - kOf n) ps.dropLast false).2.1,(rtsF z a f (m - kOf n) (n - kOf n) ps.dropLast false).2.2):=by
 rw [rtsF,if_neg hm,if_neg h,if_neg hk]
theorem head_len (ps:List (List UInt8))(h:ps.length=1)(p8:∀ p∈ps,p.length=8):(ps.headD []).length=8:=by
 match ps,h with
 | [p],_=>exact p8 p (by simp)
theorem rtsF_len8 (z a:List UInt8)(hz:z.length=8)(ha:a.length=8)(f:Nat):∀(m n:Nat) (ps:List (List UInt8)) (whole:Bool),(∀ p∈ps,p.length=8)→(rtsF z a f m n ps whole).1.length=8∧(rtsF z a f m n ps whole).2.1.length=8:=by
 induction f with
 | zero=>exact fun m n ps whole _=>⟨hz,hz⟩
 | succ f ih =>
  intro m n ps whole p8
  have p8':∀ p∈ps.dropLast,p.length=8:=fun p hp=>p8 p (List.dropLast_subset _ hp)
  by_cases h1:m=n
  ·subst h1
   cases whole with
   | true=>rw [rtsF_whole];exact⟨ha,ha⟩
   | false =>
    by_cases h:ps.length=1
    ·rw [rtsF_part _ _ _ _ _ h];exact⟨head_len ps h p8,head_len ps h p8⟩
    ·rw [rtsF_not _ _ _ _ _ h];exact⟨hz,hz⟩
  by_cases h0:ps.length=0
  ·rw [rtsF_none _ _ _ _ _ _ _ h1 h0];exact⟨hz,hz⟩
  by_cases hk:m≤kOf n
  ·rw [rtsF_left _ _ _ _ _ _ _ h1 h0 hk];exact⟨(ih m (kOf n) ps.dropLast whole p8').1,nodeH_length _ _⟩
  ·rw [rtsF_right _ _ _ _ _ _ _ h1 h0 hk];exact⟨nodeH_length _ _,nodeH_length _ _⟩
end
end Go.Proofs.YtinhekmmdlhfkaaGreatDoor
