import Derived.Test.YtinhekmmdlhfkaaGreatDoorG49
import Derived.Test.YtinhekmmdlhfkaaGreatDoorG46
namespace Go.Proofs.YtinhekmmdlhfkaaGreatDoor
section
set_option maxHeartbeats 4000000
open Go.RowKit
set_option maxRecDepth 100000
theorem lcs_append (a b:List Ly):lcs (a++b)=lcs a++lcs b:=by simp [lcs]
theorem app_lie (w:World){ops:Array Oper}{rest:List Oper}{o:Oper}{a:Act}{Q:Exit→Act→World→Prop}
  (hgd:o.guard=none) (s x:Operand) (hop:o.op=Op.call { callee:=Callee.builtin Builtin.append,args:=#[s,x],argTypes:=#[55,55] })
  (B:Nat) (hB:B≤w.heap.size) (v:Value) (L:List Ly) (hs:a.eval s=v) (hown:w.ownsRow B 65 4 v L.length (lcs L))
  (l:Ly) (H:Nat) (hH:w.heap.size=H) (hx:a.eval x= .slice (some ⟨H,0,none⟩) 1 1) (hn:L.length≤1000000000)
  (h:∀ v' w',w'.ownsRow B 65 4 v' (L++[l]).length (lcs (L++[l]))→Turn (fun g=>v.ownBlock=some g) [65] w w'→wpList Tryz.prog ops Q rest (a.put o.dst v') w'):wpList Tryz.prog ops Q (o::rest) a (w.alloc (.cells #[txv l.path,txv l.data,.bool l.fails,.int .i64 l.times] 65)):=by
 obtain⟨i,hi,hi'⟩:=Option.map_eq_some_iff.1 infoLie
 obtain⟨hz0,hz1,hz2⟩:i.zero=some (.agg #[.string ⟨#[]⟩,.string ⟨#[]⟩,.bool false,.int .i64 0])∧i.size=4∧i.bytes=48:=by simpa using hi'
 subst hH
 have ho:=World.ownsRow.alloc hown (.cells #[txv l.path,txv l.data,.bool l.fails,.int .i64 l.times] 65)
 refine wpList_append_lies _ hgd s x _ hop B 65 i (.agg #[.string ⟨#[]⟩,.string ⟨#[]⟩,.bool false,.int .i64 0]) 4 48 Tryz.underlying55 hi hz0 hz1 hz2 rfl (by omega) v L.length (lcs L) hs ho ⟨w.heap.size,0,none⟩ 1 1 [txv l.path,txv l.data,.bool l.fails,.int .i64 l.times] hx rfl (World.news_of_block (heap_alloc_last _ _)) (by simp [txv,Value.oneCell']) (by omega) (by unfold maxLen;omega) (by omega) (by simp;omega) (w.heap.size+1) (by simp) fun g cap w1 hown1 hgrow hat hlt=>?_
 refine h _ w1 ?_ (((Turn.refl (fun g=>v.ownBlock=some g) [65] w).alloc _).grown ho hgrow (fun g hg=> .inl hg) (by simp))
 rw [List.length_append,lcs_append]
 exact hown1
theorem lss_owns {w:World}{B:Nat}{v:Value}{L:List Ly}(h:w.ownsRow B 65 4 v L.length (lcs L)):Lss w v L:=by
 rcases h.2 with ⟨rfl,h0⟩ | ⟨g,cap,cur,rfl,-,hg,hn,hm,hs,ht⟩
 ·exact⟨none,0,by rw [h0],.inl (List.length_eq_zero_iff.1 h0)⟩
 ·refine⟨_,cap,rfl,.inr ⟨g,0,rfl,fun j u hj=>?_⟩⟩
  have hl:=(List.getElem?_eq_some_iff.1 hj).1
  rw [lcs_len] at hl
  rw [Nat.zero_add,cell_of_row _ _ _ _ _ _ hg]
  rw [← ht,List.getElem?_take,if_pos hl,Array.getElem?_toList] at hj
  exact hj
theorem tb_last (l:List UInt8):(⟨l.toArray⟩:ByteArray).extract 0 (l.length - 1)=⟨l.dropLast.toArray⟩:=by
 rw [ByteArray.ext_iff]
 simp [ByteArray.data_extract,List.dropLast_eq_take]
theorem heals_yes (W:World)(at_:Nat→Addr)(hE:Env W)(hS:Sents W at_)(hTb:Tabs W)(lv av sv:Value)(ls:List (List UInt8))(az:List Int)(key:List UInt8)(cap:Int)(wz:List Int)(hl:∀ l∈ls,l.length≤9223372036854775807)(hk:key.length≤9223372036854775807)(hal:az.length≤9223372036854775807)(hab:∀ a∈az,-9223372036854775808≤a∧a≤9223372036854775807)
  (hwb:∀ a∈wz,-9223372036854775808≤a∧a≤9223372036854775807) (hT:Tss W lv ls) (hI:Iss W av az) (hWz:Iss W sv wz) :
  Calls Tryz.prog 5 #[lv,av,.string ⟨key.toArray⟩,.int .i64 cap,sv] W fun r w'=>r= .returned (.bool true)∧Below W.heap.size W w':=by
 obtain⟨la,lc,rfl,hlc,hT'⟩:=id hT
 obtain⟨sa,sc,rfl,hsc,hS'⟩:=id hWz
 have HT:=hide hT
 have HI:=hide hI
 have HST:=hide hS'
 have HEE:=hide hE
 have HSN:=hide hS
 have HTB:=hide hTb
 have HL:=hide hl
 have HK:=hide hk
 have HAB:=hide (And.intro hal hab)
 have HWB:=hide hwb
 clear hT' hS' hT hI hWz hE hS hTb hl hk hal hab hwb hlc hsc
 by_cases h60:60 < ls.length
 ·go_enter Tryz.func5,Tryz.ntmps5
  go_wp2_with fail
  go_ret
  exact⟨by first | rfl | simp,Below.refl _ _⟩
 by_cases h1k:1024 < wz.length
 ·go_enter Tryz.func5,Tryz.ntmps5
  go_wp2_with fail
  go_ret
  exact⟨by first | rfl | simp,Below.refl _ _⟩
 go_enter Tryz.func5,Tryz.ntmps5
 have HB0:Hid (Below W.heap.size W (W.alloc (.cells #[txv firstL] 9))):=below_alloc _ _
 have HOW0:Hid ((W.alloc (.cells #[txv firstL] 9)).ownsRow W.heap.size 9 1 (.slice (some ⟨W.heap.size,0,none⟩) 1 1) [firstL].length ([firstL].map txv)):=⟨rfl,.inr ⟨W.heap.size,1,#[txv firstL],rfl,Nat.le_refl _,heap_alloc_last _ _,Nat.le_refl _,by unfold maxLen;omega,rfl,rfl⟩⟩
 have HSH:=hide (short_any (.slice la ls.length lc) ls (W.alloc (.cells #[txv firstL] 9)) (by omega) HL.out (HT.out.below HB0.out))
 have hfs:(Value.string ⟨#[102,105,114,115,116]⟩)=txv firstL:=rfl
 go_wp2_with fail
 refine HSH.out.mono ?_
 generalize W.alloc (.cells #[txv firstL] 9)=w0 at *
 rintro r w1 ⟨x,rfl,hb1,hx⟩
 have HB1:Hid (Below W.heap.size W w1):=HB0.out.trans (hb1.mono HB0.out.size)
 have HOW1:=hide (ownsRow_below HOW0.out hb1)
 have HX:=hide hx
 have hs1:=HB1.out.size
 have hlen1:[firstL].length+(ls.map cut20).length≤1000000000:=by simp;omega
 clear hb1 hx HSH HOW0 hfs
 go_wp2_with (at_builtin;refine app_texts w1 rfl _ _ rfl W.heap.size hs1 (.slice (some ⟨W.heap.size,0,none⟩) 1 1) [firstL] rfl HOW1.out x (ls.map cut20) rfl (tss_owns HX.out) hlen1 ?_;intro v2 w2 hown2 hgrow2)
 have HB2:Hid (Below W.heap.size W w2):=HB1.out.grown hgrow2 (by simpa using hs1) (own_base HOW1.out)
 have HTS2:=hide (tss_owns hown2)
 have HOW2:=hide hown2
 obtain⟨va,vc,hv2⟩:=own_slice hown2
 subst hv2
 clear hown2 hgrow2 HOW1 HX
 have hel:([firstL]++ls.map cut20).length≤61:=by simp;omega
 have HPB:=hide (published_any W at_ HEE.out HSN.out (.slice va ([firstL]++ls.map cut20).length vc) av ([firstL]++ls.map cut20) az key w2 HB2.out (by omega) (fun l hl=>by
  rcases List.mem_append.1 hl with h | h
  ·obtain rfl:l=firstL:=by simpa using h
   decide
  ·obtain⟨y,-,rfl⟩:=List.mem_map.1 h
   exact cut20_len y) HK.out (by have:=HAB.out.1;omega) HAB.out.2 HTS2.out (HI.out.below HB2.out))
 have hz:([firstL]++ls.map cut20).getD 0 []=firstL:=rfl
 have hpos:0 < ([firstL]++ls.map cut20).length:=by simp
 have HES:=hide (And.intro hz hpos)
 clear hz hpos
 generalize [firstL]++ls.map cut20=es at *
 go_wp2_with fail
 refine HPB.out.mono ?_
 rintro r w3 ⟨db,pbl,lb,n0,d,sx,rfl,hdb,hn0,hkp⟩
 have HKP:=hide hkp
 have HOW3:=hide (ownsRow_below HOW2.out hkp.bel)
 clear hkp HPB HTS2 HOW2
 unfold dptr
 go_wp2_with fail
 have HNN:=hide (pnewNet_any db w3)
 unfold dptr ptrV at HNN
 refine HNN.out.mono ?_
 rintro r w4 ⟨rfl,hb4,hN4⟩
 have HSH:=hide (sh_new HB2.out HKP.out (by omega) hb4 hN4)
 have HOW4:=hide (ownsRow_below HOW3.out hb4)
 have HS4:Hid (W.heap.size≤w4.heap.size):=HSH.out.base.size
 have HFD:=hide HKP.out.ks.num.data
 have HCHK:=hide HKP.out.ks.chk
 have H20:=hide HKP.out.ks.ent.short
 have HAP:=hide HKP.out.ks.num.apart
 have HFR:=hide HKP.out.ks.since
 clear hb4 hN4 HNN HKP
 generalize w3.heap.size=nb at *
 have HN5:=hide (kc_new W (fun k=>W.heap.size≤k∧k < w4.heap.size) nb key cap w4 HS4.out (fun _ h=>h.2))
 unfold ptrV txv at HN5
 go_wp2_with fail
 refine HN5.out.mono ?_
 rintro r w5 ⟨pf,rfl,hb5,hk5⟩
 have HF5:=hide hk5
 have HOW5:=hide (ownsRow_below HOW4.out hb5)
 have HSH5:=hide (HSH.out.below hb5)
 have hs5:w4.heap.size≤w5.heap.size:=hb5.size
 clear hb5 hk5 HN5 HSH
 have HU:=hide (kc_update at_ HEE.out HSN.out HTB.out HF5.out HSH5.out (ki_new key cap) (by omega) (by show(0:Int)+_ < _;omega) HK.out HFD.out (by simp))
 unfold ptrV at HU
 go_wp2_with fail
 refine HU.out.mono ?_
 rintro r w7 ⟨q,o,c7,n7,x7,hq,hup,hki7,⟨hkey7,hroom7⟩,⟨hl7,hf7,hf7'⟩,-,-,rfl,hx7,-,-,g1,g2,g3⟩
 obtain⟨c',n',hup',hsz7,hci7⟩:=true_update HCHK.out rfl H20.out (Nat.lt_of_le_of_lt hel (by decide)) HES.out.2 (ci_new es key cap) (Nat.zero_le _) rfl hq
 rw [hup] at hup'
 simp only [Prod.mk.injEq] at hup'
 obtain⟨rfl,rfl,rfl⟩:=hup'
 have HC7:=hide g3
 have HSH7:=hide g2
 have HKI7:=hide hki7
 have HCI7:=hide hci7
 have HKEY7:Hid (c7.key=key):=hkey7
 have HSZ7:=hide hsz7
 have hs7:w5.heap.size≤w7.heap.size:=g1.size
 have HB78:Hid (∀ o,Below w7.heap.size w7 (w7.alloc o)):=fun o=>below_alloc _ _
 have HT7:Hid (∀ a b,(w7.alloc (.cells #[a,b] 29)).heap[w7.heap.size]?=some (.cells #[a,b] 29 (0,0))):=fun a b=>heap_alloc_last _ _
 have hx7':w7.ownsRow w5.heap.size 9 1 x7 0 []:=hx7
 obtain⟨xa7,xc7,rfl⟩:=own_slice hx7'
 have htt7:∀ ps:List (List UInt8),toldT (outU (Sum.inr ps:Sum Er (List (List UInt8)))).2= .agg #[.int .i64 0,.string ⟨#[]⟩]:=fun _=>rfl
 have HOW7:=hide (ownsRow_turn HOW5.out g1 (by decide))
 clear HU hq hup hki7 hkey7 hroom7 hci7 g1 g2 g3 hx7 hx7' hsz7 HOW3 HOW4 HOW5 HSH5 HF5
 rw [htt7]
 clear htt7
 have HT8:=hide (HT7.out (.int .i64 0) (.string ⟨#[]⟩))
 have HC8:=hide (HC7.out.below (HB78.out (.cells #[.int .i64 0,.string ⟨#[]⟩] 29)))
 have HSH8:=hide (HSH7.out.below (HB78.out (.cells #[.int .i64 0,.string ⟨#[]⟩] 29)))
 have HOW8:=hide (ownsRow_below HOW7.out (HB78.out (.cells #[.int .i64 0,.string ⟨#[]⟩] 29)))
 clear HT7 HC7 HSH7 HOW7 HB78
 go_wp2_with fail
 generalize w7.alloc (.cells #[.int .i64 0,.string ⟨#[]⟩] 29)=w8 at *
 have HFI:=hide (files_any _ db d w8 (by have:=HSH8.out.st.nf;omega) HSH8.out.disk)
 unfold dptr at HFI
 refine HFI.out.mono ?_
 rintro r w9 ⟨fv,fs',rfl,hperm,hfss,hb9⟩
 have HT9:Hid (w9.heap[w7.heap.size]?=some (.cells #[.int .i64 0,.string ⟨#[]⟩] 29 (0,0))):=(Turn.of_below (O:=fun _=>False) (T:=[]) hb9).keep HT8.out (by simp)
 have HC9:=hide (HC8.out.below hb9)
 have HSH9:=hide (HSH8.out.below hb9)
 have HOW9:=hide (ownsRow_below HOW8.out hb9)
 have HPERM:=hide hperm
 have hfl:fs'.length≤1000000000:=by rw [hperm.length_eq];exact HSH8.out.st.nf
 have hfpos:0 < fs'.length:=by
  rw [hperm.length_eq]
  rcases HCHK.out.2 with ⟨-,h⟩ | ⟨h,-⟩
  ·have:=HES.out.2;omega
  ·cases hd:d.fs with
   | nil=>rw [hd] at h;simp [look] at h
   | cons a b=>simp
 obtain⟨fa,fc,rfl,hfc,hfcell⟩:=hfss
 have HFC:Hid (∃ b off,fa=some ⟨b,off,none⟩∧∀ i (h:i < fs'.length),w9.cell? ⟨b,off+i*2,none⟩=some (txv fs'[i].1)∧w9.cell? ⟨b,off+i*2+1,none⟩=some (txv fs'[i].2)):=by
  rcases hfcell with h | h
  ·rw [h] at hfpos;simp at hfpos
  ·exact h
 have HDL:Hid (∀ f∈fs',f.2.length≤1048576):=fun f hf=>HFD.out f (hperm.mem_iff.1 hf)
 have hs9:w7.heap.size≤w9.heap.size:=Nat.le_of_lt (heap_some_lt HT9.out)
 clear hperm hfcell hfc hb9 HT8 HC8 HSH8 HOW8 HFI
 go_wp2_with fail
 go_loopw [17,18] (fun lz i wr=>∃(k:Nat) (L:List Ly),k≤wz.length∧i= .int .i64 k∧Below w9.heap.size w9 wr∧wr.ownsRow w9.heap.size 65 4 lz L.length (lcs L)∧L.length=k∧∀ l∈L,l.times=0∧∃ f∈fs',l.path=f.1∧l.data=f.2.dropLast) (fun _ i _=>wz.length - (intOf i).toNat)
 case atStart=>exact⟨0,[],Nat.zero_le _,rfl,Below.refl _ _,⟨rfl,.inl ⟨rfl,rfl⟩⟩,rfl,by simp⟩
 case round =>
  obtain⟨k,L,hk,rfl,hbe,hown,hLk,hL⟩:=hrel
  have HB:=hide hbe
  have HO:=hide hown
  have HL:=hide hL
  clear hbe hown hL
  by_cases hlt:k < wz.length
  ·rcases HST.out with h0 | ⟨b,off,rfl,hcell⟩
   ·rw [h0] at hlt;simp at hlt
   have hx:=hcell k hlt
   have hxr:wr.cell? ⟨b,off+k,none⟩=some (.int .i64 wz[k]):=by
    have hbW:Below W.heap.size W wr:=HSH9.out.base.trans (HB.out.mono HSH9.out.base.size)
    rw [hbW.cell (p:=⟨b,off+k,none⟩) (cell_lt hx)];exact hx
   have HPK:=hide (kpick_any wz[k] fs'.length wr (HWB.out _ (List.getElem_mem hlt)).1 (HWB.out _ (List.getElem_mem hlt)).2 hfpos (by omega))
   clear hcell hx
   generalize wz[k]=wk at *
   go_wp2_with fail
   refine HPK.out.mono ?_
   rintro r wr' ⟨⟨m,hm,rfl⟩,rfl⟩
   obtain⟨fb,fo,rfl,hfx⟩:=HFC.out
   obtain⟨y0,y1⟩:=hfx m hm
   rw [← HB.out.cell (p:=⟨fb,fo+m*2,none⟩) (cell_lt y0)] at y0
   rw [← HB.out.cell (p:=⟨fb,fo+m*2+1,none⟩) (cell_lt y1)] at y1
   have hdl:=HDL.out fs'[m] (List.getElem_mem hm)
   have HMEM:=hide (List.getElem_mem hm)
   clear hfx HPK hxr
   generalize fs'[m]=f at *
   unfold txv at y0 y1
   have HOA:=hide (fun o=>World.ownsRow.alloc HO.out o)
   have HBA:=hide (fun o=>HB.out.alloc HB.out.size o)
   have HSR:Hid (∀ o,w9.heap.size≤(wr'.alloc o).heap.size):=fun o=>(HBA.out o).size
   have hLn:L.length≤1000000000:=by omega
   by_cases hd0:0 < f.2.length
   ·have Ht:=tb_last f.2
    go_wp2_with (at_builtin;refine app_lie _ rfl _ _ rfl w9.heap.size (HSR.out _) u17 L rfl (HOA.out _) ⟨f.1,f.2.dropLast,_,0⟩ (wr'.heap.size+1) (by simp) rfl hLn ?_;intro v' w2 hown htn)
    have HB2:Hid (Below w9.heap.size w9 w2):=(HBA.out _).trans (htn.below (fun g hg=>own_base HO.out g hg) (HBA.out _).size)
    have HO2:=hide hown
    clear htn hown
    go_wp2_with fail
    go_roundw
    case rel=>exact⟨k+1,L++[⟨f.1,f.2.dropLast,_,0⟩],by omega,by go_num,HB2.out,HO2.out,by simp [hLk],fun l hl=>by
     rcases List.mem_append.1 hl with h | h
     ·exact HL.out l h
     ·rw [List.mem_singleton] at h
      subst h
      exact⟨rfl,f,HMEM.out,rfl,rfl⟩⟩
    case measure=>simp [intOf];omega
   ·have hde:f.2=[]:=List.length_eq_zero_iff.1 (by omega)
    have HDE:Hid (f.2=f.2.dropLast):=by rw [hde];rfl
    clear hde
    go_wp2_with (at_builtin;refine app_lie _ rfl _ _ rfl w9.heap.size (HSR.out _) u17 L rfl (HOA.out _) ⟨f.1,f.2,_,0⟩ (wr'.heap.size+1) (by simp) rfl hLn ?_;intro v' w2 hown htn)
    have HB2:Hid (Below w9.heap.size w9 w2):=(HBA.out _).trans (htn.below (fun g hg=>own_base HO.out g hg) (HBA.out _).size)
    have HO2:=hide hown
    clear htn hown
    go_wp2_with fail
    go_roundw
    case rel=>exact⟨k+1,L++[⟨f.1,f.2,_,0⟩],by omega,by go_num,HB2.out,HO2.out,by simp [hLk],fun l hl=>by
     rcases List.mem_append.1 hl with h | h
     ·exact HL.out l h
     ·rw [List.mem_singleton] at h
      subst h
      exact⟨rfl,f,HMEM.out,rfl,HDE.out⟩⟩
    case measure=>simp [intOf];omega
  ·subst hLk
   have HLS:=hide (lss_owns HO.out)
   have hLl:L.length≤1024:=by omega
   have HSHa:=hide (HSH9.out.below HB.out)
   have HCa:=hide (HC9.out.below HB.out)
   have HOWa:=hide (ownsRow_below HOW9.out HB.out)
   have HTa:Hid (wr.heap[w7.heap.size]?=some (.cells #[.int .i64 0,.string ⟨#[]⟩] 29 (0,0))):=(Turn.of_below (O:=fun _=>False) (T:=[]) HB.out).keep HT9.out (by simp)
   have HLD:Hid (∀ l∈L,l.data.length≤1048576):=fun l hl=>by
    obtain⟨-,f,hf,-,e⟩:=HL.out l hl
    have:=HDL.out f hf
    rw [e,List.length_dropLast]
    omega
   have HCUT:Hid (Cut d.fs L):=fun l hl=>by
    obtain⟨h1,f,hf,e1,e2⟩:=HL.out l hl
    exact⟨h1,f.2,by rw [e1];exact mem_look HAP.out (show(f.1,f.2)∈d.fs from HPERM.out.mem_iff.1 hf),e2⟩
   obtain⟨la2,lc2,rfl⟩:=own_slice HO.out
   have HLI:=hide (lie_any _ nb db n7 (.slice la2 L.length lc2) L wr (by omega) HSHa.out.net HLS.out)
   clear HB HO HL HLS HSH9 HC9 HOW9 HT9 HFC HDL HPERM
   go_wp2_with fail
   refine HLI.out.mono ?_
   rintro r w11 ⟨rfl,ht11,hN11⟩
   obtain⟨hsh11,hkc11⟩:=sh_lie HSHa.out HCa.out ht11 hN11 (by omega) HLD.out
   have HOW11:=hide (ownsRow_turn HOWa.out ht11 (by decide))
   have HT11:=hide (ht11.keep HTa.out (by decide))
   have HS11:=hide hsh11
   have HC11:=hide hkc11
   have hnf7:n7.fetches≤20000:=by have:n7.fetches≤0+20000:=hf7';omega
   clear ht11 hN11 hsh11 hkc11 HLI HSHa HCa HOWa HTa
   generalize Ext (fun k=>W.heap.size≤k∧k < w4.heap.size) wr w11=O at *
   go_wp2_with fail
   go_loopw [21] (fun i w'=>∃(k:Nat) (N:Nat→Prop) (c:Cl) (n:Nt),k≤es.length∧i= .int .i64 k∧Sh W w' O nb db d n∧KC W w' O pf nb c N∧KI c (k+1)∧CI es c (k+1)∧c.size=es.length∧c.key=key∧n.lies=L∧n.fetches≤20000*((k:Int)+1)∧w'.ownsRow W.heap.size 9 1 (.slice va es.length vc) es.length (es.map txv)∧w'.heap[w7.heap.size]?=some (.cells #[.int .i64 0,.string ⟨#[]⟩] 29 (0,0))) (fun i _=>es.length - (intOf i).toNat)
   case atStart=>exact⟨0,_,c7,_,Nat.zero_le _,rfl,HS11.out,HC11.out,HKI7.out,HCI7.out,HSZ7.out,HKEY7.out,rfl,by show n7.fetches≤_;omega,HOW11.out,HT11.out⟩
   case round =>
    clear HS11 HC11 HOW11 HT11
    obtain⟨k,N,c,n,hk,rfl,hsh,hkc,hki,hci,hsz,hkey,hly,hfe,how,ht⟩:=hrel
    have HSH:=hide hsh
    have HKC:=hide hkc
    have HKI:=hide hki
    have HCI:=hide hci
    have HKEY:=hide hkey
    have HLY:=hide hly
    have HOW:=hide how
    have HTT:=hide ht
    clear hsh hkc hki hci hkey hly how ht
    by_cases hlt:k < es.length
    ·have HRD:=hide (kc_read at_ HEE.out HSN.out HTB.out HKC.out HSH.out HKI.out (by omega) (by omega) k (by omega))
     unfold ptrV txv at HRD
     go_wp2_with fail
     refine HRD.out.mono ?_
     rintro r w12 ⟨o,c2,n2,nn,x2,hrd,hki2,⟨e1,e2,e3,e4⟩,⟨f1,f2,f3⟩,-,her,rfl,-,-,hx2,-,-,g1,g2,g3⟩
     obtain⟨hci2,hval⟩:=cut_read HCUT.out HFR.out H20.out (by omega) HLY.out HCI.out (by omega) incC hrd
     have HOW12:=hide (ownsRow_turn HOW.out g1 (by decide))
     have HT12:=hide (g1.keep HTT.out (by decide))
     have HFIN:Hid (∀ o,Sh W (w12.alloc o) O nb db d n2∧KC W (w12.alloc o) O pf nb c2 (Ext N wr w12)∧(w12.alloc o).ownsRow W.heap.size 9 1 (.slice va es.length vc) es.length (es.map txv)∧(w12.alloc o).heap[w7.heap.size]?=some (.cells #[.int .i64 0,.string ⟨#[]⟩] 29 (0,0))):=fun o=>⟨g2.below (below_alloc _ _),g3.below (below_alloc _ _),ownsRow_below HOW12.out (below_alloc _ _),heap_alloc_old HT12.out⟩
     have HK2:Hid (KI c2 (k+1+1)∧CI es c2 (k+1+1)∧c2.size=es.length∧c2.key=key∧n2.lies=L):=⟨hki2,hci2,e2.trans hsz,e1.trans HKEY.out,f1.trans HLY.out⟩
     obtain⟨xa2,xc2,rfl⟩:=own_slice hx2
     have HER:=hide her
     have HVAL:=hide hval
     clear HRD hrd hki2 hci2 e1 e2 e3 e4 f1 g1 g2 g3 her hval hx2 HOW12 HT12 HSH HKC HKI HCI HKEY HLY HOW HTT
     cases o with
     | inl e =>
      obtain⟨q1,q2⟩:=HER.out e rfl
      have htt:toldT (outR (Sum.inl e:Sum Er (List UInt8×List (List UInt8)))).2.2= .agg #[.int .i64 e.n,.string ⟨e.p.toArray⟩]:=rfl
      rw [htt]
      have hq:(e.n==0)=false:=beq_eq_false_iff_ne.2 (by omega)
      clear htt HER HVAL
      go_wp2_with fail
      go_roundw
      case rel=>exact⟨k+1,_,c2,n2,by omega,by go_num,(HFIN.out _).1,(HFIN.out _).2.1,HK2.out.1,HK2.out.2.1,HK2.out.2.2.1,HK2.out.2.2.2.1,HK2.out.2.2.2.2,by omega,(HFIN.out _).2.2.1,(HFIN.out _).2.2.2⟩
      case measure=>simp [intOf];omega
     | inr y =>
      obtain⟨x,ps⟩:=y
      have hx:=HVAL.out x ps rfl
      have htt:toldT (outR (Sum.inr (x,ps):Sum Er (List UInt8×List (List UInt8)))).2.2= .agg #[.int .i64 0,.string ⟨#[]⟩]:=rfl
      have hv1:(outR (Sum.inr (x,ps):Sum Er (List UInt8×List (List UInt8)))).1=x:=rfl
      have hgd:es.getD k []=es[k]:=by rw [List.getD_eq_getElem?_getD,List.getElem?_eq_getElem hlt];rfl
      rw [htt,hv1,hx,hgd]
      obtain⟨-,-,hat⟩:=Tss.at (tss_owns (HFIN.out (.cells #[.int .i64 0,.string ⟨#[]⟩] 29)).2.2.1)
      obtain⟨vb,vo,hva,hcl⟩:=hat (by omega)
      subst hva
      have hc:=hcl k hlt
      unfold txv at hc
      clear htt hv1 hx hgd HER HVAL hcl
      generalize es[k]=ek at *
      go_wp2_with fail
      go_roundw
      case rel=>exact⟨k+1,_,c2,n2,by omega,by go_num,(HFIN.out _).1,(HFIN.out _).2.1,HK2.out.1,HK2.out.2.1,HK2.out.2.2.1,HK2.out.2.2.2.1,HK2.out.2.2.2.2,by omega,(HFIN.out _).2.2.1,(HFIN.out _).2.2.2⟩
      case measure=>simp [intOf];omega
    ·have HU:=hide (kc_update at_ HEE.out HSN.out HTB.out HKC.out HSH.out HKI.out (by omega) (by omega) (by rw [HKEY.out];exact HK.out) HFD.out (by rw [HLY.out];exact HLD.out))
     have hcp:look d.fs cpF=some (signF es.length (rootT es) key):=by
      rcases HCHK.out.2 with ⟨-,h⟩ | ⟨h,-⟩
      ·have:=HES.out.2;omega
      ·rw [List.take_length] at h;exact h
     have HCP:=hide hcp
     clear hcp
     unfold ptrV at HU
     go_wp2_with fail
     refine HU.out.mono ?_
     rintro r w12 ⟨q,o,c2,n2,x2,hq,hup,hki2,⟨k1,k2⟩,⟨f1,f2,f3⟩,-,-,rfl,hx2,-,-,g1,g2,g3⟩
     have hup':=hup
     have hq':=hq
     rw [cpP_is] at hup' hq'
     obtain⟨hci2,hsz2⟩:=cut_update HCUT.out HCP.out (by omega) HLY.out HCI.out hsz HKEY.out conC hq' hup'
     have HOW12:=hide (ownsRow_turn HOW.out g1 (by decide))
     have HT12:=hide (g1.keep HTT.out (by decide))
     have HSH12:=hide g2
     have HKC12:=hide g3
     have HK2:Hid (KI c2 (k+1+1)∧CI es c2 (k+1+1)∧c2.size=es.length∧c2.key=key):=⟨hki2,hci2,hsz2.trans hsz,k1.trans HKEY.out⟩
     have HLI:=hide (lie_any O nb db n2 (.slice none 0 0) [] w12 (by simp) g2.net ⟨none,0,rfl,.inl rfl⟩)
     obtain⟨xa2,xc2,rfl⟩:=own_slice hx2
     generalize toldT (outU o).2=tv2 at *
     generalize (outU o).1.length=pl2 at *
     clear HU hq hq' hup hup' hki2 k1 k2 f1 hci2 hsz2 g1 g2 g3 hx2 HSH HKC HKI HCI HKEY HLY HOW HTT
     go_wp2_with fail
     refine HLI.out.mono ?_
     rintro r w13 ⟨rfl,ht13,hN13⟩
     obtain⟨hsh13,hkc13⟩:=sh_lie HSH12.out HKC12.out ht13 hN13 (by simp) (by simp)
     have HOW13:=hide (ownsRow_turn HOW12.out ht13 (by decide))
     have HT13:=hide (ht13.keep HT12.out (by decide))
     have HSH13:=hide hsh13
     have HKC13:=hide hkc13
     clear ht13 hN13 hsh13 hkc13 HLI HSH12 HKC12 HOW12 HT12
     generalize Ext O w12 w13=O2 at *
     have HU:=hide (kc_update at_ HEE.out HSN.out HTB.out HKC13.out HSH13.out HK2.out.1 (by omega) (by show n2.fetches+_ < _;omega) (by rw [HK2.out.2.2.2];exact HK.out) HFD.out (by simp))
     unfold ptrV at HU
     go_wp2_with fail
     refine HU.out.mono ?_
     rintro r w14 ⟨q,o,c3,n3,x3,hq,hup,hki3,⟨k1,k2⟩,⟨f1',f2',f3'⟩,-,-,rfl,hx3,-,-,g1,g2,g3⟩
     obtain⟨c',n',hup',hsz3,hci3⟩:=true_update HCHK.out rfl H20.out (Nat.lt_of_le_of_lt hel (by decide)) HES.out.2 HK2.out.2.1 (by rw [HK2.out.2.2.1];exact Nat.le_refl _) HK2.out.2.2.2 hq
     rw [hup] at hup'
     simp only [Prod.mk.injEq] at hup'
     obtain⟨rfl,rfl,rfl⟩:=hup'
     have htt:∀ ps:List (List UInt8),toldT (outU (Sum.inr ps:Sum Er (List (List UInt8)))).2= .agg #[.int .i64 0,.string ⟨#[]⟩]:=fun _=>rfl
     rw [htt]
     obtain⟨xa3,xc3,rfl⟩:=own_slice hx3
     generalize (outU (Sum.inr (if 0 < c2.size∧c2.size < es.length then partR es c2.size es.length else []):Sum Er (List (List UInt8)))).1.length=pl3 at *
     have HOW14:=hide (ownsRow_turn HOW13.out g1 (by decide))
     have HT14:=hide (g1.keep HT13.out (by decide))
     have HK3:Hid (KI c3 (k+1+1+1)∧CI es c3 (k+1+1+1)∧c3.size=es.length∧n3.lies=[]):=⟨hki3,hci3,hsz3,f1'⟩
     have HFIN:Hid (∀ o,Sh W (w14.alloc o) O2 nb db d n3∧KC W (w14.alloc o) O2 pf nb c3 (Ext _ w13 w14)∧(w14.alloc o).ownsRow W.heap.size 9 1 (.slice va es.length vc) es.length (es.map txv)∧(w14.alloc o).heap[w7.heap.size]?=some (.cells #[.int .i64 0,.string ⟨#[]⟩] 29 (0,0))∧(w14.alloc o).heap[w14.heap.size]?=some o):=fun o=>⟨g2.below (below_alloc _ _),g3.below (below_alloc _ _),ownsRow_below HOW14.out (below_alloc _ _),heap_alloc_old HT14.out,heap_alloc_last _ _⟩
     have hf3:n3.fetches≤n.fetches+40000:=by have h1:n3.fetches≤n2.fetches+20000:=f3';omega
     clear HU hq hup hki3 hci3 hsz3 k1 k2 f1' f2' f3' htt hx3 g1 g2 g3 HSH13 HKC13 HOW13 HT13 HOW14 HT14 HK2
     go_wp2_with fail
     have HF0:=hide (HFIN.out (.cells #[.int .i64 0,.string ⟨#[]⟩] 29))
     clear HFIN
     generalize w14.alloc (.cells #[.int .i64 0,.string ⟨#[]⟩] 29)=w15 at *
     generalize w14.heap.size=tb2 at *
     go_loopw [28] (fun i w'=>∃(j:Nat) (N:Nat→Prop) (c:Cl) (n4:Nt),j≤es.length∧i= .int .i64 j∧Sh W w' O2 nb db d n4∧KC W w' O2 pf nb c N∧KI c (k+1+1+1+j)∧CI es c (k+1+1+1+j)∧c.size=es.length∧n4.lies=[]∧n4.fetches≤n3.fetches+20000*(j:Int)∧w'.ownsRow W.heap.size 9 1 (.slice va es.length vc) es.length (es.map txv)∧w'.heap[w7.heap.size]?=some (.cells #[.int .i64 0,.string ⟨#[]⟩] 29 (0,0))∧w'.heap[tb2]?=some (.cells #[.int .i64 0,.string ⟨#[]⟩] 29 (0,0))) (fun i _=>es.length - (intOf i).toNat)
     case atStart=>exact⟨0,_,c3,n3,Nat.zero_le _,rfl,HF0.out.1,HF0.out.2.1,HK3.out.1,HK3.out.2.1,HK3.out.2.2.1,HK3.out.2.2.2,by omega,HF0.out.2.2.1,HF0.out.2.2.2.1,HF0.out.2.2.2.2⟩
     case round =>
      clear HF0 HK3
      obtain⟨j,N4,c4,n4,hj,rfl,hsh,hkc,hki,hci,hsz4,hly,hfe4,how,ht1,ht2⟩:=hrel
      have HSH:=hide hsh
      have HKC:=hide hkc
      have HKI:=hide hki
      have HCI:=hide hci
      have HLY:=hide hly
      have HOW:=hide how
      have HTT:=hide (And.intro ht1 ht2)
      clear hsh hkc hki hci hly how ht1 ht2
      by_cases hlt4:j < es.length
      ·have HRD:=hide (kc_read at_ HEE.out HSN.out HTB.out HKC.out HSH.out HKI.out (by omega) (by omega) j (by omega))
       unfold ptrV txv at HRD
       go_wp2_with fail
       refine HRD.out.mono ?_
       rintro r w16 ⟨o,c5,n5,nn,x5,hrd,hki5,⟨e1,e2,e3,e4⟩,⟨f1,f2,f3⟩,-,-,rfl,-,-,hx5,-,-,g1,g2,g3⟩
       obtain⟨c'',n'',hrd',hci5⟩:=true_read (i:=j) (by rw [hsz4];exact HCHK.out.all) HLY.out H20.out (Nat.lt_of_le_of_lt hel (by decide)) HCI.out (by omega)
       rw [hrd] at hrd'
       simp only [Prod.mk.injEq] at hrd'
       obtain⟨rfl,rfl,rfl⟩:=hrd'
       have HOW16:=hide (ownsRow_turn HOW.out g1 (by decide))
       have HT16:Hid (w16.heap[w7.heap.size]?=some (.cells #[.int .i64 0,.string ⟨#[]⟩] 29 (0,0))∧w16.heap[tb2]?=some (.cells #[.int .i64 0,.string ⟨#[]⟩] 29 (0,0))):=⟨g1.keep HTT.out.1 (by decide),g1.keep HTT.out.2 (by decide)⟩
       have HFIN:Hid (∀ o,Sh W (w16.alloc o) O2 nb db d n5∧KC W (w16.alloc o) O2 pf nb c5 (Ext N4 wr w16)∧(w16.alloc o).ownsRow W.heap.size 9 1 (.slice va es.length vc) es.length (es.map txv)∧(w16.alloc o).heap[w7.heap.size]?=some (.cells #[.int .i64 0,.string ⟨#[]⟩] 29 (0,0))∧(w16.alloc o).heap[tb2]?=some (.cells #[.int .i64 0,.string ⟨#[]⟩] 29 (0,0))):=fun o=>⟨g2.below (below_alloc _ _),g3.below (below_alloc _ _),ownsRow_below HOW16.out (below_alloc _ _),heap_alloc_old HT16.out.1,heap_alloc_old HT16.out.2⟩
       have HK5:Hid (KI c5 (k+1+1+1+(j+1))∧CI es c5 (k+1+1+1+(j+1))∧c5.size=es.length∧n5.lies=[]):=⟨hki5,hci5,e2.trans hsz4,f1.trans HLY.out⟩
       obtain⟨xa5,xc5,rfl⟩:=own_slice hx5
       have htt:∀ y:List UInt8×List (List UInt8),toldT (outR (Sum.inr y:Sum Er (List UInt8×List (List UInt8)))).2.2= .agg #[.int .i64 0,.string ⟨#[]⟩]:=fun _=>rfl
       have hv1:∀ y:List UInt8×List (List UInt8),(outR (Sum.inr y:Sum Er (List UInt8×List (List UInt8)))).1=y.1:=fun _=>rfl
       have hgd:es.getD j []=es[j]:=by rw [List.getD_eq_getElem?_getD,List.getElem?_eq_getElem hlt4];rfl
       rw [htt,hv1]
       simp only [hgd]
       obtain⟨-,-,hat⟩:=Tss.at (tss_owns (HFIN.out (.cells #[.int .i64 0,.string ⟨#[]⟩] 29)).2.2.1)
       obtain⟨vb,vo,hva,hcl⟩:=hat (by omega)
       subst hva
       have hc:=hcl j hlt4
       unfold txv at hc
       clear HRD hrd hki5 hci5 e1 e2 e3 e4 f1 g1 g2 g3 hx5 HOW16 HT16 HSH HKC HKI HCI HLY HOW HTT htt hv1 hgd hcl
       generalize es[j]=ek at *
       go_wp2_with fail
       go_roundw
       case rel =>
        have hff:n5.fetches≤n3.fetches+20000*((j+1:Nat):Int):=by omega
        exact⟨j+1,_,c5,n5,hlt4,by go_num,(HFIN.out _).1,(HFIN.out _).2.1,HK5.out.1,HK5.out.2.1,HK5.out.2.2.1,HK5.out.2.2.2,hff,(HFIN.out _).2.2.1,(HFIN.out _).2.2.2.1,(HFIN.out _).2.2.2.2⟩
       case measure=>simp [intOf];omega
      ·have HTR:=hide (kc_trusted HKC.out)
       unfold ptrV txv at HTR
       rw [hsz4] at HTR
       go_wp2_with fail
       refine HTR.out.mono ?_
       rintro r w16 ⟨rfl,ht16,-⟩
       have HBL:=hide (sh_trusted HSH.out HKC.out ht16).base
       obtain⟨y0,-⟩:=dcell (ht16.keep HTT.out.1 (by decide)) 0 _ rfl
       obtain⟨y1,-⟩:=dcell (ht16.keep HTT.out.2 (by decide)) 0 _ rfl
       clear ht16 HTR
       go_wp2_with fail
       go_ret
       exact⟨by first | rfl | simp,HBL.out⟩
end
end Go.Proofs.YtinhekmmdlhfkaaGreatDoor
