import Derived.Test.YtinhekmmdlhfkaaGreatDoorG42
import Derived.Test.YtinhekmmdlhfkaaGreatDoorG46
import Derived.Test.YtinhekmmdlhfkaaGreatDoorG05
import Derived.Test.YtinhekmmdlhfkaaGreatDoorG45
import Derived.Test.YtinhekmmdlhfkaaGreatDoorG10
import Derived.Test.YtinhekmmdlhfkaaGreatDoorG44
namespace Go.Proofs.YtinhekmmdlhfkaaGreatDoor
section
set_option maxHeartbeats 1000000
open Go.RowKit
set_option maxRecDepth 100000
theorem below_cells {B g:Nat}{a w:World}(hg:B≤g)(h:Below B a w)(o:Nat)(vs:List Value):Below B a (w.setCells g o vs):=by
 obtain⟨r1,r2,r3,r4⟩:=setCells_rest g vs o w
 exact⟨r1.trans h.os,r2.trans h.tape,r3.trans h.output,by rw [r4];exact h.size,fun k hk=>by rw [setCells_other _ _ _ _ _ (by omega)];exact h.block k hk⟩
theorem turn_cells {O:Nat→Prop}{T:List Nat}{a w:World}{g:Nat}(h:Turn O T a w)(hg:a.heap.size≤g)(o:Nat)(vs:List Value):Turn O T a (w.setCells g o vs):=by
 obtain⟨r1,r2,r3,r4⟩:=setCells_rest g vs o w
 exact⟨r1.trans h.os,r2.trans h.tape,r3.trans h.output,by rw [r4];exact h.size,fun k hk=>by rw [setCells_other _ _ _ _ _ (by omega)];exact h.block k hk⟩
def InRow (g n:Nat)(w:World):Prop:=∃ C fr,w.heap[g]?=some (.cells C 5 fr)∧n≤C.size∧n≤fr.1
theorem in_row_conv (w0:World)(s:List UInt8)(cap:Nat):InRow w0.heap.size s.length (w0.alloc (.cells (bytesRow ⟨s.toArray⟩ cap) 5 ((bytesRow ⟨s.toArray⟩ cap).size,(bytesRow ⟨s.toArray⟩ cap).size+1))):=⟨_,_,heap_alloc_last _ _,by simp [bytesRow,ByteArray.size],by simp [bytesRow,ByteArray.size]⟩
theorem InRow.there {g n:Nat}{w:World}(h:InRow g n w):w.there g 0 n:=by
 obtain⟨C,fr,h1,h2,h3⟩:=h
 exact there_of_row h1 h2 (.inl h3)
theorem InRow.turn {g n:Nat}{w w':World}{O:Nat→Prop}{T:List Nat}(h:InRow g n w)(ht:Turn O T w w')(hT:5∉T):InRow g n w':=by
 obtain⟨C,fr,h1,h2,h3⟩:=h
 exact⟨C,fr,ht.keep h1 hT,h2,h3⟩
theorem pappend_any (O:Nat→Prop)(W:World)(at_:Nat→Addr)(hSN:Sents W at_)(hOW:∀ k,O k→W.heap.size≤k)(db pb lb:Nat)(l:Lg)(s:List UInt8)(w:World)(hW:Below W.heap.size W w)(he:l.es.length≤1000000)(hsl:s.length≤9223372036854775807)(hp:PlAt w pb lb)(hL:LogAt w O db lb l):
  Calls Tryz.prog 10 #[.pointer (some ⟨pb,0,none⟩),.string ⟨s.toArray⟩] w fun r w'=>Turn O lT w w' ∧
   ((20 < s.length∧r= .returned (.tuple #[.int .i64 0,told 1])∧Below w.heap.size w w')∨(s.length≤20∧l.live=false∧r= .returned (.tuple #[.int .i64 0,told 7])∧Below w.heap.size w w') ∨
    (s.length≤20∧l.live=true∧r= .returned (.tuple #[.int .i64 (l.es.length:Int),told 0])∧LogAt w' (Ext O w w') db lb { l with es:=l.es++[s] })):=by
 have hplt:pb < w.heap.size:=heap_some_lt hp
 have HPB:Hid (w.cell? ⟨pb,0,none⟩=some (.pointer (some ⟨lb,0,none⟩))):=(dcell hp 0 _ rfl).1
 have HL:=hide hL
 have HW:=hide hW
 have HO:=hide hOW
 have HS:=hide hSN
 clear hL hW hOW hSN hp
 have hcv:=run_bytes_of_string (P:=Tryz.prog) (w.alloc (.cells #[.int .i64 0,.string ⟨#[]⟩] 29)) 9 76 5 ⟨s.toArray⟩ Tryz.underlying9 Tryz.underlying76 Tryz.underlying5
 have hge:(⟨s.toArray⟩:ByteArray).size≤grownCap (w.alloc (.cells #[.int .i64 0,.string ⟨#[]⟩] 29)) (⟨s.toArray⟩:ByteArray).size 0 5:=grownCap_ge _ _ _ _
 have hss:(⟨s.toArray⟩:ByteArray).size=s.length:=by simp [ByteArray.size]
 rw [hss] at hge
 have HQ:=hide (bq_conv (w.alloc (.cells #[.int .i64 0,.string ⟨#[]⟩] 29)) s (grownCap (w.alloc (.cells #[.int .i64 0,.string ⟨#[]⟩] 29)) s.length 0 5) hge)
 clear hss
 have hc0:∀ o1 o2,((w.alloc o1).alloc o2).cell? ⟨pb,0,none⟩=some (.pointer (some ⟨lb,0,none⟩)):=fun o1 o2=>by
  rw [cell_old _ _ ⟨_,0,none⟩ (by simp;omega),cell_old _ _ ⟨_,0,none⟩ hplt]
  exact HPB.out
 have hb0:∀ o1 o2,Below w.heap.size w ((w.alloc o1).alloc o2):=fun o1 o2=>(below_alloc w o1).trans ((below_alloc _ o2).mono (by simp))
 have HB0:=hide hb0
 have HIR:=hide (in_row_conv (w.alloc (.cells #[.int .i64 0,.string ⟨#[]⟩] 29)) s (grownCap (w.alloc (.cells #[.int .i64 0,.string ⟨#[]⟩] 29)) s.length 0 5))
 have HR0:Hid (∀ o,TRow w.heap.size ((w.alloc (.cells #[.int .i64 0,.string ⟨#[]⟩] 29)).alloc o)):=fun o=>heap_alloc_old (heap_alloc_last _ _)
 have HSZ:Hid (∀ o1 o2,((w.alloc o1).alloc o2).heap.size=w.heap.size+2):=fun o1 o2=>by simp
 have e1:(w.alloc (.cells #[.int .i64 0,.string ⟨#[]⟩] 29)).heap.size=w.heap.size+1:=by simp
 rw [e1] at HQ HIR
 clear hb0 e1
 go_enter Tryz.func10,Tryz.ntmps10
 go_wp2_with fail
 have HR1:=hide (HR0.out (.cells (bytesRow ⟨s.toArray⟩ (grownCap (w.alloc (.cells #[.int .i64 0,.string ⟨#[]⟩] 29)) s.length 0 5)) 5 ((bytesRow ⟨s.toArray⟩ (grownCap (w.alloc (.cells #[.int .i64 0,.string ⟨#[]⟩] 29)) s.length 0 5)).size,(bytesRow ⟨s.toArray⟩ (grownCap (w.alloc (.cells #[.int .i64 0,.string ⟨#[]⟩] 29)) s.length 0 5)).size+1)))
 have HB1:=hide (HB0.out (.cells #[.int .i64 0,.string ⟨#[]⟩] 29) (.cells (bytesRow ⟨s.toArray⟩ (grownCap (w.alloc (.cells #[.int .i64 0,.string ⟨#[]⟩] 29)) s.length 0 5)) 5 ((bytesRow ⟨s.toArray⟩ (grownCap (w.alloc (.cells #[.int .i64 0,.string ⟨#[]⟩] 29)) s.length 0 5)).size,(bytesRow ⟨s.toArray⟩ (grownCap (w.alloc (.cells #[.int .i64 0,.string ⟨#[]⟩] 29)) s.length 0 5)).size+1)))
 have HZ1:=hide (HSZ.out (.cells #[.int .i64 0,.string ⟨#[]⟩] 29) (.cells (bytesRow ⟨s.toArray⟩ (grownCap (w.alloc (.cells #[.int .i64 0,.string ⟨#[]⟩] 29)) s.length 0 5)) 5 ((bytesRow ⟨s.toArray⟩ (grownCap (w.alloc (.cells #[.int .i64 0,.string ⟨#[]⟩] 29)) s.length 0 5)).size,(bytesRow ⟨s.toArray⟩ (grownCap (w.alloc (.cells #[.int .i64 0,.string ⟨#[]⟩] 29)) s.length 0 5)).size+1)))
 clear HR0 HB0 HSZ hc0 hcv hge
 generalize ((w.alloc (.cells #[.int .i64 0,.string ⟨#[]⟩] 29)).alloc (.cells (bytesRow ⟨s.toArray⟩ (grownCap (w.alloc (.cells #[.int .i64 0,.string ⟨#[]⟩] 29)) s.length 0 5)) 5 ((bytesRow ⟨s.toArray⟩ (grownCap (w.alloc (.cells #[.int .i64 0,.string ⟨#[]⟩] 29)) s.length 0 5)).size,(bytesRow ⟨s.toArray⟩ (grownCap (w.alloc (.cells #[.int .i64 0,.string ⟨#[]⟩] 29)) s.length 0 5)).size+1)))=X at *
 generalize grownCap (w.alloc (.cells #[.int .i64 0,.string ⟨#[]⟩] 29)) s.length 0 5=cp at *
 have HX:Hid (Turn O lT w X):= .of_below HB1.out
 have HLX:Hid (LogAt X O db lb l):=HL.out.stay (O1:=fun _=>False) (T:=[]) (.of_below HB1.out) (by simp) (by simp) (by simp)
 have HFX:Hid (LFree X lb (w.heap.size+1)):=(LFree.fresh HL.out (w.heap.size+1) (by omega)).below HB1.out
 have HBX:Hid (Below W.heap.size W X):=HW.out.trans (HB1.out.mono HW.out.size)
 refine(append_any O W at_ HS.out db lb l _ s X.drew HBX.out.drew he (by exact HLX.out) (by exact HQ.out) hsl).mono ?_
 rintro r w2 ⟨ht2,hres⟩
 have HT2:Hid (Turn O lT w w2):=HX.out.trans ((ht2.undrew).mono (fun _ h=> .inl h) (fun _ h=>h))
 have HR2:Hid (TRow w.heap.size w2):=HR1.out.turn ht2.undrew (by decide)
 have HI2:Hid (InRow (w.heap.size+1) s.length w2):=HIR.out.turn ht2.undrew (by decide)
 have HB2:Hid (Below W.heap.size W w2):=HW.out.trans (HT2.out.below HO.out HW.out.size)
 have HE2:Hid (∀ k,Ext O X.drew w2 k→Ext O w w2 k):=fun k hk=>by
  rcases hk with h | h
  ·exact .inl h
  ·exact .inr ⟨Nat.le_trans HB1.out.size h.1,h.2⟩
 clear ht2
 have hcl:=fun ty=>clear_el (P:=Tryz.prog) w2 76 5 ty (.int .u8 0) Tryz.underlying76 zeroByte rfl rfl (w.heap.size+1) s.length cp HI2.out.there
 have HT3:Hid (Turn O lT w (w2.setCells (w.heap.size+1) 0 (List.replicate s.length (.int .u8 0)))):=turn_cells HT2.out (by omega) _ _
 have HR3:Hid (TRow w.heap.size (w2.setCells (w.heap.size+1) 0 (List.replicate s.length (.int .u8 0)))):=by
  show TRow _ _
  unfold TRow
  rw [setCells_other _ _ _ _ _ (by omega)]
  exact HR2.out
 have HB3:Hid (Below W.heap.size W (w2.setCells (w.heap.size+1) 0 (List.replicate s.length (.int .u8 0)))):=below_cells (Nat.le_trans HW.out.size (by omega)) HB2.out _ _
 have HS3:Hid ((w2.setCells (w.heap.size+1) 0 (List.replicate s.length (.int .u8 0))).heap.size=w2.heap.size):=(setCells_rest (w.heap.size+1) (List.replicate s.length (.int .u8 0)) 0 w2).2.2.2
 have HBL:Hid (Below X.heap.size X w2→Below w.heap.size w (w2.setCells (w.heap.size+1) 0 (List.replicate s.length (.int .u8 0)))):=fun h=>below_cells (by omega) (HB1.out.trans (h.mono HB1.out.size)) _ _
 have HLL:Hid (∀ l',LogAt w2 (Ext O X.drew w2) db lb l'→LFree w2 lb (w.heap.size+1)→LogAt (w2.setCells (w.heap.size+1) 0 (List.replicate s.length (.int .u8 0))) (Ext O w (w2.setCells (w.heap.size+1) 0 (List.replicate s.length (.int .u8 0)))) db lb l'):=fun l' h hf=>by
  obtain⟨C,fr,hg,-,-⟩:=HI2.out
  refine(h.clear hf hg (fun k hk=>setCells_other _ _ _ _ _ hk)).mono (fun k hk=>?_)
  rcases HE2.out k hk with h | h
  ·exact .inl h
  ·exact .inr ⟨h.1,by rw [HS3.out];exact h.2⟩
 generalize w2.setCells (w.heap.size+1) 0 (List.replicate s.length (.int .u8 0))=Y at *
 rcases hres with ⟨h20,rfl,hb⟩ | ⟨h20,hlv,rfl,hb⟩ | ⟨h20,hlv,rfl,hl,hfr⟩
 ·have HH:=hide (And.intro h20 (HBL.out ⟨hb.os,hb.tape,hb.output,hb.size,hb.block⟩))
  clear h20 hb
  unfold errS
  go_wp2_with fail
  refine(of_sent0 at_ Y (sents_below HS.out HB3.out)).mono ?_
  rintro r w4 ⟨rfl,hb4⟩
  have HB4:=hide hb4
  have HR4:=hide (HR3.out.below hb4)
  obtain⟨c0,z0⟩:=dcell HR4.out 0 _ rfl
  obtain⟨c1,z1⟩:=dcell HR4.out 1 _ rfl
  clear hb4
  unfold told
  go_wp2_with fail
  exact bodyPost_ret (v:= .tuple #[.int .i64 0,.agg #[.int .i64 1,.string ⟨([]:List UInt8).toArray⟩]]) (results_tmp_cell Tryz.results10 _ _ w.heap.size 29 _ (0,0) _ rfl (told_end HR4.out _ _ rfl) Tryz.underlying29 rfl (by kernel_rfl) _ rfl) rfl ⟨turn_sets2 (HT3.out.then_below HB4.out),.inl ⟨HH.out.1,rfl,below_sets2 (HH.out.2.trans (HB4.out.mono HT3.out.size))⟩⟩
 ·have HH:=hide (And.intro h20 (And.intro hlv (HBL.out ⟨hb.os,hb.tape,hb.output,hb.size,hb.block⟩)))
  clear h20 hb hlv
  unfold errS
  go_wp2_with fail
  refine(of_sent6 at_ Y (sents_below HS.out HB3.out)).mono ?_
  rintro r w4 ⟨rfl,hb4⟩
  have HB4:=hide hb4
  have HR4:=hide (HR3.out.below hb4)
  obtain⟨c0,z0⟩:=dcell HR4.out 0 _ rfl
  obtain⟨c1,z1⟩:=dcell HR4.out 1 _ rfl
  clear hb4
  unfold told
  go_wp2_with fail
  exact bodyPost_ret (v:= .tuple #[.int .i64 0,.agg #[.int .i64 7,.string ⟨([]:List UInt8).toArray⟩]]) (results_tmp_cell Tryz.results10 _ _ w.heap.size 29 _ (0,0) _ rfl (told_end HR4.out _ _ rfl) Tryz.underlying29 rfl (by kernel_rfl) _ rfl) rfl ⟨turn_sets2 (HT3.out.then_below HB4.out),.inr (.inl ⟨HH.out.1,HH.out.2.1,rfl,below_sets2 (HH.out.2.2.trans (HB4.out.mono HT3.out.size))⟩)⟩
 ·have HH:=hide (And.intro h20 (And.intro hlv (HLL.out _ hl (hfr _ (by have:=HZ1.out;show _ < X.heap.size;omega) HFX.out))))
  clear h20 hlv hl hfr
  go_wp2_with fail
  refine(of_nil at_ Y (sents_below HS.out HB3.out)).mono ?_
  rintro r w4 ⟨rfl,hb4⟩
  have HB4:=hide hb4
  have HR4:=hide (HR3.out.below hb4)
  obtain⟨c0,z0⟩:=dcell HR4.out 0 _ rfl
  obtain⟨c1,z1⟩:=dcell HR4.out 1 _ rfl
  clear hb4
  unfold told
  go_wp2_with fail
  exact bodyPost_ret (v:= .tuple #[.int .i64 (l.es.length:Int),.agg #[.int .i64 0,.string ⟨([]:List UInt8).toArray⟩]]) (results_tmp_cell Tryz.results10 _ _ w.heap.size 29 _ (0,0) _ rfl (told_end HR4.out _ _ rfl) Tryz.underlying29 rfl (by kernel_rfl) _ rfl) rfl ⟨turn_sets2 (HT3.out.then_below HB4.out),.inr (.inr ⟨HH.out.1,HH.out.2.1,rfl,(HH.out.2.2.later HB4.out).sets2 HR4.out⟩)⟩
end
section
open Go.RowKit
set_option maxRecDepth 100000
end
section
open Go.RowKit
set_option maxRecDepth 100000
end
section
open Go.RowKit
set_option maxRecDepth 100000
end
section
open Go.RowKit
set_option maxRecDepth 100000
structure Num (n:Nat)(x:Wd)(d:Dk)(s:List Nat):Prop where
 apart:Apart d.fs
 data:∀ f∈d.fs,f.2.length≤1048576
 count:d.fs.length≤4096+n*180400
 among:Among (look d.fs) s
 small:s.length≤4096+n
 key:x.key.length≤9223372036854775807
 turned:d.turned=false
structure Ent (x:Wd)(d:Dk)(s:List Nat)(es:List (List UInt8))(put:Nat):Prop where
 short:∀ e∈es,e.length≤20
 ins:∀ j,4*j < es.length→j∈s
 le:put≤es.length
 there:x.failed=false→Calm d∧∀ f∈want (es.take put),look d.fs f.1=some f.2
theorem ent_few {x:Wd}{d:Dk}{s:List Nat}{es:List (List UInt8)}{put:Nat}(h:Ent x d s es put):es.length≤4*s.length:=by
 have:=pigeon_range ((es.length+3) / 4) s (fun j hj=>h.ins j (by omega))
 omega
end
section
open Go.RowKit
set_option maxRecDepth 100000
end
section
open Go.RowKit
set_option maxRecDepth 100000
theorem app_text (w:World){ops:Array Oper}{rest:List Oper}{o:Oper}{a:Act}{Q:Exit→Act→World→Prop}
  (hgd:o.guard=none) (s x:Operand) (hop:o.op=Op.call { callee:=Callee.builtin Builtin.append,args:=#[s,x],argTypes:=#[22,22] })
  (B:Nat) (hB:B≤w.heap.size) (v:Value) (ls:List (List UInt8)) (hs:a.eval s=v) (hown:w.ownsRow B 9 1 v ls.length (ls.map txv))
  (t:List UInt8) (H:Nat) (hH:w.heap.size=H) (hx:a.eval x= .slice (some ⟨H,0,none⟩) 1 1) (hn:ls.length≤1000000000)
  (h:∀ v' w',w'.ownsRow B 9 1 v' (ls++[t]).length ((ls++[t]).map txv)→Turn (fun g=>v.ownBlock=some g) [9] w w'→(∀ g,v'.ownBlock=some g→v.ownBlock=some g∨w.heap.size≤g)→wpList Tryz.prog ops Q rest (a.put o.dst v') w'):wpList Tryz.prog ops Q (o::rest) a (w.alloc (.cells #[txv t] 9)):=by
 obtain⟨i,hi,hi'⟩:=Option.map_eq_some_iff.1 infoStr
 obtain⟨hz0,hz1,hz2⟩:i.zero=some (.string ⟨#[]⟩)∧i.size=1∧i.bytes=16:=by simpa using hi'
 subst hH
 have ho:=World.ownsRow.alloc hown (.cells #[txv t] 9)
 refine wpList_append_lies _ hgd s x _ hop B 9 i (.string ⟨#[]⟩) 1 16 Tryz.underlying22 hi hz0 hz1 hz2 rfl (by omega) v ls.length (ls.map txv) hs ho ⟨w.heap.size,0,none⟩ 1 1 [txv t] hx rfl (World.news_of_block (heap_alloc_last _ _)) (by simp [txv,Value.oneCell']) (by omega) (by unfold maxLen;omega) (by omega) (by simp;omega) (w.heap.size+1) (by simp) fun g cap w1 hown1 hgrow hat hlt=>?_
 refine h _ w1 (by simpa using hown1) (((Turn.refl (fun g=>v.ownBlock=some g) [9] w).alloc _).grown ho hgrow (fun g hg=> .inl hg) (by simp)) fun g' hg'=>?_
 simp only [Value.ownBlock,Option.some.injEq] at hg'
 subst hg'
 rcases hat with h | h
 ·exact .inl h
 ·exact .inr (by omega)
end
section
open Go.RowKit
set_option maxRecDepth 100000
end
section
def cpT (x:Wd)(es:List (List UInt8)):List UInt8:=signF es.length (rootT es) x.key
theorem pub_num {n:Nat}{x x':Wd}{d:Dk}{s:List Nat}{es:List (List UInt8)}{put:Nat}{fs2:Fs}(hn:n≤4100)(h:Num n x d s)(he:Ent x d s es put)(hf:x.failed=false)(hp:fs2.Perm d.fs)(hc:clashB fs2 (want es)=false)(hk:x'.key=x.key):
  Num (n+1) x' (pubD (todo es put) (cpT x es) d).2 s∧Went (want es) (cpT x es) d.fs (pubD (todo es put) (cpT x es) d).2.fs∧Fine (want es) ∧
   (((pubD (todo es put) (cpT x es) d).1=none∧Calm (pubD (todo es put) (cpT x es) d).2∧look (pubD (todo es put) (cpT x es) d).2.fs cpF=some (cpT x es)∧∀ f∈want es,look (pubD (todo es put) (cpT x es) d).2.fs f.1=some f.2) ∨
    ((∃ p,(pubD (todo es put) (cpT x es) d).1=some p∧(p=cpF∨∃ x,(p,x)∈want es))∧(pubD (todo es put) (cpT x es) d).2.hit=true)):=by
 have hfew:=ent_few he
 have hsm:=h.small
 have hlen:es.length≤1000000:=by omega
 have hfine:=want_fine hlen
 have hnc:NoClash d.fs (want es):=by
  have h1:=clashB_false hc
  intro q y hy
  have:=h1 q y hy
  rw [look_perm h.apart hp] at this
  exact this
 obtain⟨hcalm,hthere⟩:=he.there hf
 obtain⟨a1,t1,w1,h1⟩:=pub_end (c:=cpT x es) hfine hcalm h.apart h.turned hnc (fun f hf=>todo_want f hf)
 have hcl:(cpT x es).length≤1048576:=by
  have h8:(rootT es).length=8:=rootF_length _ _
  have h1:=dec_length_le (es.length:Int) (by omega) (by omega)
  rw [Int.toNat_natCast] at h1
  have h2:=hexF_len (rootT es)
  have h3:(lastF es.length (rootT es) x.key).length=16:=by unfold lastF;rw [hexF_len];rfl
  have h4:tilesL.length≤10:=by decide
  unfold cpT
  rw [signF_eq]
  simp only [List.length_append,List.length_cons,List.length_nil]
  omega
 refine⟨⟨a1,len_went he.short h.data hcl (by omega) a1 w1,?_,among_went h.among he.ins w1,by omega,by rw [hk];exact h.key,t1⟩,w1,hfine,?_⟩
 ·have h1:=pubD_len (todo es put) (cpT x es) d
  have h2:=todo_len es put
  have h3:=h.count
  omega
 ·rcases h1 with ⟨e,c1,l1,l2⟩ | h1
  ·refine .inl ⟨e,c1,l1,fun f hf=>?_⟩
   rcases want_parts he.le f hf with h' | h'
   ·exact l2 f h'
   ·exact w1.stays (hthere f h') (fun e=>hfine.2 f.2 (by rw [← e];exact hf))
  ·exact .inr h1
end
section
open Go.RowKit
set_option maxRecDepth 100000
theorem pub_still {es:List (List UInt8)}{put:Nat}{c:List UInt8}{d:Dk}(hs:Still d)(ha:Apart d.fs)(ht:d.turned=false)(hl:es.length≤1000000)(hn:NoClash d.fs (want es)):(pubD (todo es put) c d).1=none:=by
 obtain⟨-,-,-,h⟩:=pub_end (c:=c) (want_fine hl) ⟨hs.2.1,hs.2.2⟩ ha ht hn (fun f hf=>todo_want (put:=put) f hf)
 rcases h with h | ⟨-,h⟩
 ·exact h.1
 ·rw [(hs.pub (todo es put) c).2.2] at h;simp at h
end
section
structure KS (n:Nat)(key:List UInt8)(d:Dk)(s:List Nat)(es:List (List UInt8))(put:Nat):Prop where
 num:Num n ⟨key,0,false,false⟩ d s
 ent:Ent ⟨key,0,false,false⟩ d s es put
 still:Still d
 since:FromOf d.fs es
 chk:Chp d.fs es put key
theorem KS.few {n:Nat}{key:List UInt8}{d:Dk}{s:List Nat}{es:List (List UInt8)}{put:Nat}(h:KS n key d s es put)(hn:n≤4200):es.length≤40000:=by
 have:=ent_few h.ent
 have:=h.num.small
 omega
theorem KS.count {n:Nat}{key:List UInt8}{d:Dk}{s:List Nat}{es:List (List UInt8)}{put:Nat}(h:KS n key d s es put)(hn:n≤4200):d.fs.length+(todo es put).length≤800000000:=by
 have:=h.few hn
 have:=todo_len es put
 have:=h.num.count
 omega
theorem ks_new (key:List UInt8)(hk:key.length≤9223372036854775807)(d:Dk)(hs:Still d)(hf:d.fs=[])(ht:d.turned=false):KS 0 key d [] [] 0 where
 num:=⟨by rw [hf];exact List.nodup_nil,fun f h=>by rw [hf] at h;simp at h,by rw [hf];simp,fun j w h1 h4 h=>by rw [hf] at h;simp [look] at h,by simp,hk,ht⟩
 ent:=⟨fun e he=>by simp at he,fun j hj=>by simp at hj,Nat.le_refl _,fun _=>⟨⟨hs.2.1,hs.2.2⟩,fun f hf=>absurd hf (by rw [List.take_zero];exact want_nil)⟩⟩
 still:=hs
 since:=fun q x h=>by rw [hf] at h;simp [look] at h
 chk:=⟨Nat.le_refl _,.inl ⟨by rw [hf];simp [look],rfl⟩⟩
theorem ks_append {n:Nat}{key:List UInt8}{d:Dk}{s:List Nat}{es:List (List UInt8)}{put:Nat}(h:KS n key d s es put)(t:List UInt8)(ht:t.length≤20):KS (n+1) key d (es.length / 4::s) (es++[t]) put where
 num:=⟨h.num.apart,h.num.data,Nat.le_trans h.num.count (Nat.add_le_add_left (Nat.mul_le_mul_right _ (Nat.le_succ n)) _),fun j w' h1 h4 hh=>List.mem_cons_of_mem _ (h.num.among j w' h1 h4 hh),by have:=h.num.small;simp only [List.length_cons];omega,h.num.key,h.num.turned⟩
 ent:=by
  have hent:=h.ent
  refine⟨fun e he=>?_,fun j hj=>?_,by have:=hent.le;rw [List.length_append];omega,fun hf=>?_⟩
  ·rcases List.mem_append.1 he with he | he
   ·exact hent.short e he
   ·obtain rfl:e=t:=by simpa using he
    exact ht
  ·rw [List.length_append] at hj
   simp only [List.length_cons,List.length_nil] at hj
   by_cases h4:4*j < es.length
   ·exact List.mem_cons_of_mem _ (hent.ins j h4)
   ·obtain rfl:j=es.length / 4:=by omega
    exact List.mem_cons_self
  ·rw [List.take_append_of_le_length hent.le]
   exact hent.there hf
 still:=h.still
 since:=h.since.more [t]
 chk:=h.chk.more [t]
theorem ks_publish {n:Nat}{key:List UInt8}{d:Dk}{s:List Nat}{es:List (List UInt8)}{put:Nat}(h:KS n key d s es put)(hn:n≤4100):
  (pubD (todo es put) (signF es.length (rootT es) key) d).1=none∧KS (n+1) key (pubD (todo es put) (signF es.length (rootT es) key) d).2 s es es.length:=by
 have hl:=h.few (by omega)
 have hnc:=h.since.noClash (by omega)
 have h0:=pub_still (c:=signF es.length (rootT es) key) (put:=put) h.still h.num.apart h.num.turned (by omega) hnc
 obtain⟨g1,g2,g3,g4⟩:=pub_num (x':=⟨key,0,false,false⟩) hn h.num h.ent rfl (List.Perm.refl d.fs) (clashB_no hnc) rfl
 refine⟨h0,⟨g1,?_,h.still.pub _ _,h.since.went g2,?_⟩⟩
 ·rcases g4 with ⟨-,c1,-,c3⟩ | ⟨⟨p,hp,-⟩,-⟩
  ·exact⟨h.ent.short,h.ent.ins,Nat.le_refl _,fun _=>⟨c1,fun f hf=>c3 f (by rw [List.take_length] at hf;exact hf)⟩⟩
  ·have e:(pubD (todo es put) (cpT ⟨key,0,false,false⟩ es) d).1=none:=h0
   rw [e] at hp
   simp at hp
 ·rcases g4 with ⟨-,-,c2,c3⟩ | ⟨⟨p,hp,-⟩,-⟩
  ·exact⟨Nat.le_refl _,.inr ⟨by rw [List.take_length];exact c2,fun f hf=>c3 f (by rw [List.take_length] at hf;exact hf)⟩⟩
  ·have e:(pubD (todo es put) (cpT ⟨key,0,false,false⟩ es) d).1=none:=h0
   rw [e] at hp
   simp at hp
end
section
set_option maxHeartbeats 2000000
open Go.RowKit
set_option maxRecDepth 100000
theorem kpick_any (c:Int)(n:Nat)(w:World)(h1:-9223372036854775808≤c)(h2:c≤9223372036854775807)(hn:0 < n)(hn':n≤100000000000):
  Calls Tryz.prog 12 #[.int .i64 c,.int .i64 n] w fun r w'=>(∃ m:Nat,m < n∧r= .returned (.int .i64 m))∧w'=w:=by
 by_cases hc:c < 0
 ·obtain⟨d,hd⟩:=Int.eq_ofNat_of_zero_le (show 0≤-(c+1) by omega)
  have HD:=hide hd
  clear hd
  have hm:d % n < n:=Nat.mod_lt _ hn
  go_enter Tryz.func12,Tryz.ntmps12
  go_wp2_with fail
  go_ret
  refine⟨⟨d % n,hm,congrArg (fun z=>Ending.returned (.int .i64 z)) ?_⟩,rfl⟩
  show -((c+1).tmod (n:Int))=((d % n:Nat):Int)
  rw [← Int.neg_tmod,HD.out]
  rfl
 ·obtain⟨d,rfl⟩:=Int.eq_ofNat_of_zero_le (show 0≤c by omega)
  have hm:d % n < n:=Nat.mod_lt _ hn
  go_enter Tryz.func12,Tryz.ntmps12
  go_wp2_with fail
  go_ret
  exact⟨⟨d % n,hm,congrArg (fun z=>Ending.returned (.int .i64 z)) (by simp)⟩,rfl⟩
theorem tb_take (l:List UInt8):(⟨l.toArray⟩:ByteArray).extract 0 20=⟨(l.take 20).toArray⟩:=by
 rw [ByteArray.ext_iff]
 simp [ByteArray.data_extract]
def cut20 (l:List UInt8):List UInt8:=l.take 20
theorem cut20_len (l:List UInt8):(cut20 l).length≤20:=by simp [cut20];omega
theorem cut20_short {l:List UInt8}(h:¬ 20 < l.length):cut20 l=l:=List.take_of_length_le (by omega)
theorem short_any (v:Value)(ls:List (List UInt8))(w:World)(hn:ls.length≤1000000)(hl:∀ l∈ls,l.length≤9223372036854775807)(h:Tss w v ls):
  Calls Tryz.prog 6 #[v] w fun r w'=>∃ x,r= .returned x∧Below w.heap.size w w'∧w'.ownsRow w.heap.size 9 1 x (ls.map cut20).length ((ls.map cut20).map txv):=by
 obtain⟨a,cap,rfl,hcap,h'⟩:=h
 have Hc:Hid (ls.length=0∨∃ b off,a=some ⟨b,off,none⟩∧∀ i (h:i < ls.length),w.cell? ⟨b,off+i,none⟩=some (txv ls[i])):=by
  rcases h' with h | h
  ·exact .inl (by simp [h])
  ·exact .inr h
 have HL:=hide hl
 clear h' hcap hl
 go_enter Tryz.func6,Tryz.ntmps6
 go_wp2_with fail
 go_loopw [3,4] (fun t i wr=>∃ k:Nat,k≤ls.length∧i= .int .i64 k∧Below w.heap.size w wr∧wr.ownsRow w.heap.size 9 1 t ((ls.take k).map cut20).length (((ls.take k).map cut20).map txv)) (fun _ i _=>ls.length - (intOf i).toNat)
 case atStart=>exact⟨0,Nat.zero_le _,rfl,Below.refl _ _,⟨rfl,.inl ⟨rfl,rfl⟩⟩⟩
 case round =>
  obtain⟨k,hk,rfl,hbe,hown⟩:=hrel
  have HB:=hide hbe
  have HO:=hide hown
  clear hbe hown
  by_cases hlt:k < ls.length
  ·rcases Hc.out with h0 | ⟨b,off,rfl,hcell⟩
   ·omega
   have hx:=hcell k hlt
   rw [← HB.out.cell (cell_lt (p:=⟨b,off+k,none⟩) hx)] at hx
   have hlen:=HL.out ls[k] (List.getElem_mem hlt)
   clear hcell
   have hs:(ls.take (k+1)).map cut20=(ls.take k).map cut20++[cut20 ls[k]]:=by rw [List.take_succ_eq_append_getElem hlt,List.map_append];rfl
   have Hs:=hide hs
   have hkl:((ls.take k).map cut20).length≤1000000000:=by simp;omega
   clear hs
   generalize ls[k]=s at *
   generalize (ls.take k).map cut20=xs at *
   unfold txv at hx
   by_cases h20:20 < s.length
   ·have Ht:Hid ((⟨s.toArray⟩:ByteArray).extract 0 20=⟨(cut20 s).toArray⟩):=tb_take s
    go_wp2_with (first | rw [Ht.out] | (at_builtin;refine app_text wr rfl _ _ rfl w.heap.size HB.out.size u3 xs rfl HO.out (cut20 s) wr.heap.size rfl rfl hkl ?_;intro v' w2 hown htn hblk))
    have HB2:Hid (Below w.heap.size w w2):=HB.out.trans (htn.below (fun g hg=>own_base HO.out g hg) HB.out.size)
    have HO2:=hide hown
    clear htn hblk hown
    go_wp2_with fail
    go_roundw
    case rel=>exact⟨k+1,by omega,by go_num,HB2.out,by rw [Hs.out];exact HO2.out⟩
    case measure=>simp [intOf];omega
   ·have Ht:Hid (cut20 s=s):=cut20_short h20
    go_wp2_with (at_builtin;refine app_text wr rfl _ _ rfl w.heap.size HB.out.size u3 xs rfl HO.out s wr.heap.size rfl rfl hkl ?_;intro v' w2 hown htn hblk)
    have HB2:Hid (Below w.heap.size w w2):=HB.out.trans (htn.below (fun g hg=>own_base HO.out g hg) HB.out.size)
    have HO2:=hide hown
    clear htn hblk hown
    go_wp2_with fail
    go_roundw
    case rel=>exact⟨k+1,by omega,by go_num,HB2.out,by rw [Hs.out,Ht.out];exact HO2.out⟩
    case measure=>simp [intOf];omega
  ·go_wp2_with fail
   go_ret
   have:=HO.out
   rw [List.take_of_length_le (by omega)] at this
   exact⟨_,rfl,HB.out,this⟩
end
end Go.Proofs.YtinhekmmdlhfkaaGreatDoor
