import Derived.Test.YtinhekmmdlhfkaaGreatDoorG30
import Derived.Test.YtinhekmmdlhfkaaGreatDoorG19
namespace Go.Proofs.YtinhekmmdlhfkaaGreatDoor
section
set_option maxHeartbeats 4000000
open Go.RowKit
set_option maxRecDepth 100000
attribute [local go_sem ↓] yq yk yt yp yn yo yu yl
def zjh (x y:Px):Bool:=x.there&&y.fits&&eqH x.hash y.hash
def zcw (ys:List Px):Nat→List Px→List Px
 | 0,xs=>xs
 | k+1,xs=>if zjh ((zcw ys k xs).getD k .no) (ys.getD k .no) then (zcw ys k xs).set k { (zcw ys k xs).getD k .no with fits:=true } else zcw ys k xs
def zux (xs ys:List Px):List Px:=List.zipWith (fun a b=>if zjh a b then { a with fits:=true } else a) xs ys
theorem zq2 {xs ys:List Px}(hx:FOk xs):∀ k,FOk (zcw ys k xs)
 | 0=>hx
 | k+1=>by
  have:=zq2 (ys:=ys) hx k
  unfold zcw
  split
  ·exact⟨by simp [this.1],zj8 this.2 k ⟨(zbk this k).1,(zbk this k).2⟩⟩
  ·exact this
theorem zr4 {xs ys:List Px}(hx:FOk xs)(hy:FOk ys):zcw ys 4 xs=zux xs ys:=by
 obtain⟨a,b,c,d,rfl⟩:=zez hx.1
 obtain⟨a',b',c',d',rfl⟩:=zez hy.1
 simp only [zcw,zux,List.zipWith_cons_cons,List.zipWith_nil_right]
 cases ha:zjh a a'<;>cases hb:zjh b b'<;>cases hc:zjh c c'<;>cases hd:zjh d d'<;>simp [ha,hb,hc,hd]
theorem z5g {w:World}{xs ys:List Px}{f g:Fl}(h:j4 w xs f)(h':j4 w ys g):j4 w (zux xs ys) (zc6 f g):=by
 obtain⟨a1,a2,a3⟩:=h
 obtain⟨b1,b2,b3⟩:=h'
 refine⟨by simp [zux,a1,b1],by simp [zc6,a2,b2],fun k hk=>?_⟩
 have e1:(zux xs ys).getD k .no=if zjh (xs.getD k .no) (ys.getD k .no) then { xs.getD k .no with fits:=true } else xs.getD k .no:=by
  unfold zux
  have h1:k < xs.length:=by omega
  have h2:k < ys.length:=by omega
  simp only [List.getD_eq_getElem?_getD,List.getElem?_zipWith,List.getElem?_eq_getElem h1,List.getElem?_eq_getElem h2,Option.getD_some]
 have e2:zjh (xs.getD k .no) (ys.getD k .no)=((f.getD k .no).there&&(g.getD k .no).fits&&decide ((f.getD k .no).hash=(g.getD k .no).hash)):=by
  unfold zjh eqH
  rw [(a3 k hk).there,(b3 k hk).fits,(a3 k hk).hash,(b3 k hk).hash]
 rw [e1,zk3 f g a2 b2 k hk,e2]
 split
 ·exact⟨(a3 k hk).there,rfl,(a3 k hk).hash,(a3 k hk).ent⟩
 ·exact a3 k hk
theorem z5u {xs ys:List Px}(hx:FOk xs)(hy:FOk ys):FOk (zux xs ys):=by rw [← zr4 hx hy];exact zq2 hx 4
theorem zqg {w:World}{A:Nat→Prop}{nm:Nat}{LN:LsN}{nd:Mm}(hmn:vt w A nm zbe LN)(hnd:qo (NdR w A) LN nd)(p:Pl)(hp:zcb p):∃(a:Option Addr) (b:Bool),
  ((b=false∧a=none∧nd.get p=none)∨(b=true∧∃ bb fb xs f,a=some ⟨fb,0,none⟩∧LN.get p=some (bb,zt fb)∧nd.get p=some f∧A fb∧zn w fb xs∧FOk xs∧j4 w xs f)) ∧
  ∀ w0,Below w.heap.size w w0→Calls Tryz.prog 144 #[zt nm,plV p] w0 fun r w'=>r= .returned (.tuple #[.pointer a,.bool b])∧Below w0.heap.size w0 w':=by
 rcases zf0.get hnd p with ⟨g1,g2⟩ | ⟨b,v,f,g1,g2,⟨fb,xs,rfl,hA,hf,hk,hi⟩,-⟩
 ·exact⟨none,false,.inl ⟨rfl,rfl,g2⟩,fun w0 hb=>zp3 A nm zbe LN _ hp w0 (hmn.below hb (fun _ h=>h)) g1⟩
 ·exact⟨_,true,.inr ⟨rfl,b,fb,xs,f,rfl,g1,g2,hA,hf,hk,hi⟩,fun w0 hb=>zmy A nm zbe LN _ hp w0 (hmn.below hb (fun _ h=>h)) b _ g1⟩
theorem zcm {xs:List Px}{k:Nat}(hk:k < xs.length):xs[k]=xs.getD k .no:=by simp [List.getD_eq_getElem?_getD,hk]
theorem zlc (W0:World)(O A OP:Nat→Prop)(cb nb db pm nm:Nat)(C:Array Value)(d:Dk)(room:Int)(pr:Mm)(size k i:Nat)(hsz:size < 9223372036854775808)(hi:i < size)(leaf:List UInt8)(h8:leaf.length=8)(m:Ms Nt)(w:World)(hwd:WdN m.needed)(hbun:(m.needed.get (zi size (-1) i)).isSome=true)(hcs:CS W0 w O A OP cb nb db pm nm C d room pr m k):
  Calls Tryz.prog 103 #[zt cb,.int .i64 size,.int .i64 i,.agg (hv leaf)] w fun r w'=>r= .returned (.tuple #[])∧zf A [zr] w w'∧CS W0 w' O A OP cb nb db pm nm C d room pr { m with needed:=jw size m.needed i leaf } k:=by
 have hi63:i < 9223372036854775808:=by omega
 have HP1:=za (zi2 size hsz (-1) (by omega) (by omega) i hi63)
 have HP0:=za (zi2 size hsz 0 (by omega) (by omega) i hi63)
 have HPIN1:=za (fun w=>zbs size hsz (-1) (by omega) (by omega) i hi63 w)
 have HPIN0:=za (fun w=>zbs size hsz 0 (by omega) (by omega) i hi63 w)
 have HST:=za (fun w0 hcs0=>zmm W0 O A OP cb nb db pm nm C d room pr size k hsz 64 0 i leaf m w0 (by omega) (by omega) hi63 h8 hwd hcs0)
 have HCS:=za hcs
 have H8:=za h8
 have HBN:Hid ((xo size 64 m.needed 0 i leaf).get (zi size (-1) i)≠none):=by
  intro e
  obtain⟨f,hf⟩:=Option.isSome_iff_exists.1 hbun
  have h1:=Mm.get_mem hf
  have h2:zi size (-1) i∈(xo size 64 m.needed 0 i leaf).map (·.1):=by rw [zai];exact List.mem_map_of_mem h1
  obtain⟨y,hy,ey⟩:=List.mem_map.1 h2
  exact Mm.get_none e y hy ey
 have HSE:Hid (jw size m.needed i leaf=match (xo size 64 m.needed 0 i leaf).get (zi size 0 i) with
  | none=>xo size 64 m.needed 0 i leaf
  | some ls=>match (xo size 64 m.needed 0 i leaf).get (zi size (-1) i) with
   | none=>xo size 64 m.needed 0 i leaf
   | some b=>(xo size 64 m.needed 0 i leaf).set (zi size (-1) i) (zc6 b ls)):=rfl
 clear hwd hcs h8 hbun hi63
 unfold zt
 go_enter Tryz.func103,Tryz.ntmps103
 have hlh:(vx (.pointer (some ⟨w.heap.size,0,none⟩))).run Tryz.prog (w.alloc (.cells (hv leaf) 91))= .ok (.agg (hv leaf)) (w.alloc (.cells (hv leaf) 91)):=qg (yv (cs:=leaf.map bv) (heap_alloc_last _ _)) H8.o
 go_wp2_with fail
 have HB1:Hid (Below w.heap.size w (w.alloc (.cells (hv leaf) 91))):=ze w _
 generalize w.alloc (.cells (hv leaf) 91)=W1 at *
 have HS2:=za (HST.o W1 (HCS.o.below HB1.o))
 unfold zt at HS2
 refine HS2.o.mono ?_
 rintro r w2 ⟨rfl,ht2,hcs2⟩
 have HT2:Hid (zf A [zr] w w2):=(zf.of_below HB1.o).trans (ht2.mono (fun _ h=> .inl h) (fun _ h=>h))
 have HC2:=za hcs2
 clear ht2 hcs2 HS2 HST hlh
 generalize xo size 64 m.needed 0 i leaf=nd at *
 obtain⟨LN,hmn,hnd,hndup⟩:=HC2.o.nee
 obtain⟨a1,b1,hab1,hget1⟩:=zqg hmn hnd (zi size (-1) i) HP1.o
 obtain⟨a0,b0,hab0,hget0⟩:=zqg hmn hnd (zi size 0 i) HP0.o
 have HMN:=za hmn
 have HND:=za hnd
 have HNDUP:=za hndup
 clear hmn hnd hndup
 have HAB1:=za hab1
 have HAB0:=za hab0
 have HG1:=za hget1
 have HG0:=za hget0
 clear hab1 hab0 hget1 hget0
 unfold zt at HG1 HG0
 have HCL:=za HC2.o.cli
 go_wp2_with fail
 go_cut [8,9] from 18 to 28 (fun s8 s9 wx=>s8= .pointer a1∧s9= .bool b1∧Below w2.heap.size w2 wx)
 case first =>
  have c14:w2.cell? ⟨cb,14,none⟩=some (.pointer (some ⟨nm,0,none⟩)):=(zg HCL.o 14 _ HC2.o.cells.nee).1
  go_region_with (first
   | (go_at_call 145;refine(HPIN1.o _).mono ?_;rintro r w3 ⟨rfl,hb3⟩;have HB3:=za (qk hb3);have c14':w3.cell? ⟨cb,14,none⟩=some (.pointer (some ⟨nm,0,none⟩)):=(zg ((HB3.o.block _ (zb HCL.o)).trans HCL.o) 14 _ HC2.o.cells.nee).1;clear hb3)
   | (go_at_call 144;refine(HG1.o w3 (by exact HB3.o)).mono ?_;rintro r w4 ⟨rfl,hb4⟩;have HB4:=za (HB3.o.trans (hb4.mono HB3.o.size));clear hb4))
  all_goals go_wp2_with fail
  all_goals go_meet
  all_goals exact⟨rfl,rfl,HB4.o⟩
 case rest =>
  obtain⟨rfl,rfl,hbx⟩:=hcut
  obtain⟨X,hX⟩:∃ X,X=wc:=⟨_,rfl⟩
  subst hX
  have HBX:=za hbx
  have HCLX:Hid (X.heap[cb]?=some (.cells C qw (0,0))):=(hbx.block _ (zb HCL.o)).trans HCL.o
  clear hbx
  go_wp2_with fail
  go_cut [10,11] from 29 to 39 (fun s10 s11 wx=>s10= .pointer a0∧s11= .bool b0∧Below w2.heap.size w2 wx)
  case first =>
   have c14:X.cell? ⟨cb,14,none⟩=some (.pointer (some ⟨nm,0,none⟩)):=(zg HCLX.o 14 _ HC2.o.cells.nee).1
   go_region_with (first
    | (go_at_call 145;refine(HPIN0.o _).mono ?_;rintro r w3 ⟨rfl,hb3⟩;have HB3:=za (qk hb3);have c14':w3.cell? ⟨cb,14,none⟩=some (.pointer (some ⟨nm,0,none⟩)):=(zg ((HB3.o.block _ (zb HCLX.o)).trans HCLX.o) 14 _ HC2.o.cells.nee).1;clear hb3)
    | (go_at_call 144;refine(HG0.o w3 (by exact HBX.o.trans (HB3.o.mono HBX.o.size))).mono ?_;rintro r w4 ⟨rfl,hb4⟩;have HB4:=za ((HBX.o.trans (HB3.o.mono HBX.o.size)).trans (hb4.mono (HBX.o.trans (HB3.o.mono HBX.o.size)).size));clear hb4))
   all_goals go_wp2_with fail
   all_goals go_meet
   all_goals exact⟨rfl,rfl,HB4.o⟩
  case rest =>
   obtain⟨rfl,rfl,hby⟩:=hcut
   obtain⟨Y,hY⟩:∃ Y,Y=wc:=⟨_,rfl⟩
   subst hY
   have HBY:=za hby
   clear hby HBX HCLX HG1 HG0
   rcases HAB0.o with ⟨rfl,rfl,hg0⟩ | ⟨rfl,bb,fbl,ys,ls,rfl,hlg0,hg0,hA0,hf0,hfk0,hfi0⟩
   ·go_wp2_with fail
    first | go_end0 | refine bodyPost_ret (results_none rfl _ _ _) rfl ?_
    rw [HSE.o,hg0]
    exact⟨rfl,HT2.o.then_below HBY.o,HC2.o.below HBY.o⟩
   ·rcases HAB1.o with ⟨rfl,rfl,hg1⟩ | ⟨rfl,bb1,fbb,xs,bf,rfl,hlg1,hg1,hA1,hf1,hfk1,hfi1⟩
    ·exact absurd hg1 HBN.o
    ·have hne:fbb≠fbl:=by
      intro e
      subst e
      have:=zkf HNDUP.o (ze8 hlg1) (ze8 hlg0) rfl
      simp only [Prod.mk.injEq] at this
      have h2:=this.2.1
      unfold zi at h2
      simp only [Prod.mk.injEq] at h2
      omega
     have HNE:=za hne
     have HFB:Hid (zn Y fbb xs):=(HBY.o.block _ (zb hf1)).trans hf1
     have HFL:Hid (zn Y fbl ys):=(HBY.o.block _ (zb hf0)).trans hf0
     have HXK:=za hfk1
     have HYK:=za hfk0
     have HXI:=za (hfi1.below HBY.o)
     have HYI:=za (hfi0.below HBY.o)
     have HLG:=za hlg1
     have HAA:=za hA1
     have HGG0:=za hg0
     have HGG1:=za hg1
     have HCY:=za (HC2.o.below HBY.o)
     have HMY:=za (HMN.o.below HBY.o (fun _ h=>h))
     have HNY:Hid (qo (NdR Y A) LN nd):=HND.o.mono (fun a' _ b' hr=>⟨hr.1,hr.2.turn (O:=fun _=>False) (T:=[]) (.of_below HBY.o) (by simp) (by simp) (fun _ h=>h)⟩)
     clear hne hf1 hf0 hfk1 hfk0 hfi1 hfi0 hlg1 hlg0 hg0 hg1 hA1 hA0 HAB1 HAB0
     go_wp2_with fail
     go_loopw [42,12] (fun ix _ wr=>∃ q:Nat,q≤4∧ix= .int .i64 q∧zf (fun x=>x=fbb) [zr] Y wr∧zn wr fbb (zcw ys q xs)∧zn wr fbl ys) (fun ix _ _=>4 - (intOf ix).toNat)
     case atStart=>exact⟨0,by omega,rfl,zf.refl _ _ _,HFB.o,HFL.o⟩
     case round =>
      obtain⟨q,hq,rfl,ht,hf,hl⟩:=hrel
      by_cases hlt:q < 4
      ·have hz:=zq2 (ys:=ys) HXK.o q
       have hkl:q < (zcw ys q xs).length:=by rw [hz.1];exact hlt
       have hyl:q < ys.length:=by rw [HYK.o.1];exact hlt
       have c0:wr.cell? ⟨fbb,q*11,none⟩=some (.bool ((zcw ys q xs).getD q .no).there):=by
        have:=(hf.cell hz.2 hkl (j:=0) (v:= .bool (zcw ys q xs)[q].there) (by omega) rfl).1
        rw [zcm hkl] at this
        exact this
       obtain⟨c1,z1⟩:=hf.cell hz.2 hkl (j:=1) (v:= .bool (zcw ys q xs)[q].fits) (by omega) rfl
       rw [zcm hkl] at c1
       have d1:wr.cell? ⟨fbl,q*11+1,none⟩=some (.bool (ys.getD q .no).fits):=by
        have:=(hl.cell HYK.o.2 hyl (j:=1) (v:= .bool ys[q].fits) (by omega) rfl).1
        rw [zcm hyl] at this
        exact this
       have hh8:=(zbk hz q).1
       have hy8:=(zbk HYK.o q).1
       have hlx:∀ n,(vx (.pointer (some ⟨fbb,q*11+2,none⟩))).run Tryz.prog (wr.drewN n)= .ok (.agg (hv ((zcw ys q xs).getD q .no).hash)) (wr.drewN n):=fun n=>by
        refine qg (w:=wr.drewN n) ?_ hh8
        have:=zn.hash (w:=wr.drewN n) (xs:=zcw ys q xs) (fb:=fbb) hf hz.2 hkl
        rw [zcm hkl] at this
        exact this
       have hly:∀ n,(vx (.pointer (some ⟨fbl,q*11+2,none⟩))).run Tryz.prog (wr.drewN n)= .ok (.agg (hv (ys.getD q .no).hash)) (wr.drewN n):=fun n=>by
        refine qg (w:=wr.drewN n) ?_ hy8
        have:=zn.hash (w:=wr.drewN n) (xs:=ys) (fb:=fbl) hl HYK.o.2 hyl
        rw [zcm hyl] at this
        exact this
       have heq:=fun w0=>zgr ((zcw ys q xs).getD q .no).hash (ys.getD q .no).hash hh8 hy8 w0
       have HBN1:Hid (zcw ys (q+1) xs=if zjh ((zcw ys q xs).getD q .no) (ys.getD q .no) then (zcw ys q xs).set q { (zcw ys q xs).getD q .no with fits:=true } else zcw ys q xs):=rfl
       have HZO:Hid (({ (zcw ys q xs).getD q .no with fits:=true }:Px).ok):=⟨(zbk hz q).1,(zbk hz q).2⟩
       have HF8:=za (fun n=>zn.set1 (w:=wr.drewN n) hf hz.2 hkl (j:=1) (v:= .bool true) (x:={ (zcw ys q xs).getD q .no with fits:=true }) (by omega) HZO.o (by rw [zcm hkl];rfl))
       have HT8:Hid (∀ n,zf (fun x=>x=fbb) [zr] Y ((wr.drewN n).setCell ⟨fbb,q*11+1,none⟩ (.bool true))∧zn ((wr.drewN n).setCell ⟨fbb,q*11+1,none⟩ (.bool true)) fbl ys):=fun n=>by
        have t1:=(ht.drewN n).set (o:=q*11+1) (.inl rfl) hf (by simp) (.bool true)
        have t2:zf (fun x=>x=fbb) [zr] wr ((wr.drewN n).setCell ⟨fbb,q*11+1,none⟩ (.bool true)):=((zf.refl (fun x=>x=fbb) [zr] wr).drewN n).set (o:=q*11+1) (.inl rfl) hf (by simp) (.bool true)
        exact⟨t1,t2.stay hl (fun e=>HNE.o e.symm)⟩
       have HT:=za ht
       have HF:=za hf
       have HL:=za hl
       have i0:(0:Int)≤(q:Int):=by omega
       have i1:(q:Int) < 4:=by omega
       clear ht hf hl hz hkl hyl hh8 hy8
       generalize hxe:(zcw ys q xs).getD q .no=x at *
       generalize hye:ys.getD q .no=y at *
       clear hxe hye
       generalize zcw ys q xs=xq at *
       cases ha:x.there with
       | false =>
        rw [ha] at c0
        go_wp2_with fail
        go_quiet (fail)
        go_wp2_with fail
        go_roundw
        case rel=>exact⟨q+1,by omega,by go_num,HT.o.drewN _,by rw [HBN1.o,if_neg (by unfold zjh;rw [ha];simp)];exact HF.o,HL.o⟩
        case measure=>simp [intOf];omega
       | true =>
        rw [ha] at c0
        cases hb:y.fits with
        | false =>
         rw [hb] at d1
         go_wp2_with fail
         go_quiet (fail)
         go_wp2_with fail
         go_roundw
         case rel=>exact⟨q+1,by omega,by go_num,HT.o.drewN _,by rw [HBN1.o,if_neg (by unfold zjh;rw [ha,hb];simp)];exact HF.o,HL.o⟩
         case measure=>simp [intOf];omega
        | true =>
         rw [hb] at d1
         cases he:eqH x.hash y.hash with
         | false =>
          rw [he] at heq
          go_wp2_with fail
          go_quiet (fail)
          go_wp2_with fail
          go_roundw
          case rel=>exact⟨q+1,by omega,by go_num,HT.o.drewN _,by rw [HBN1.o,if_neg (by unfold zjh;rw [ha,hb,he];simp)];exact HF.o,HL.o⟩
          case measure=>simp [intOf];omega
         | true =>
          rw [he] at heq
          go_wp2_with fail
          go_quiet (fail)
          go_wp2_with fail
          go_roundw
          case rel=>exact⟨q+1,by omega,by go_num,(HT8.o _).1,by rw [HBN1.o,if_pos (by unfold zjh;rw [ha,hb,he];rfl)];exact HF8.o _,(HT8.o _).2⟩
          case measure=>simp [intOf];omega
      ·obtain rfl:q=4:=by omega
       have hb:=z5g (HXI.o.turn ht (by decide)) (HYI.o.turn ht (by decide))
       rw [zr4 HXK.o HYK.o] at hf
       have hTA:zf A [zr] Y wr:=ht.mono (fun b hb=>by rw [hb];exact HAA.o) (fun _ h=>h)
       go_wp2_with fail
       first | go_end0 | refine bodyPost_ret (results_none rfl _ _ _) rfl ?_
       rw [HSE.o,HGG0.o,HGG1.o]
       exact⟨rfl,(HT2.o.then_below HBY.o).trans (hTA.mono (fun _ h=> .inl h) (fun _ h=>h)),HCY.o.setNd hTA (zf0.setF HMY.o HNY.o HNDUP.o HLG.o ht HFB.o hf (z5u HXK.o HYK.o) hb HAA.o) (Mm.set_len _ _ _)⟩
end
section
set_option maxHeartbeats 4000000
open Go.RowKit
set_option maxRecDepth 100000
attribute [local go_sem ↓] yq yk yt yp yn yo yu yl
theorem zv2 (f:Fl)(k:Nat):qx f k=f.set k { f.getD k .no with fits:=true }:=by
 unfold qx
 apply List.ext_getElem?
 intro i
 rw [List.getElem?_modify,List.getElem?_set]
 by_cases hik:k=i
 ·subst hik
  by_cases hk:k < f.length
  ·simp [hk,List.getD_eq_getElem?_getD]
  ·simp [hk]
 ·simp [hik]
def trC (n:Nat)(root:List UInt8):List Value:= .int .i64 n::root.map bv
theorem zk6 (W0:World)(O A OP:Nat→Prop)(cb nb db pm nm:Nat)(C:Array Value)(d:Dk)(room:Int)(pr:Mm)(size k old:Nat)(hsz:size < 9223372036854775808)(h1:1≤old)(hold:old < 9223372036854775808)(root:List UInt8)(h8:root.length=8)(m:Ms Nt)(w:World)(hTb:zdn W0)(hwd:WdN m.needed)(hcs:CS W0 w O A OP cb nb db pm nm C d room pr m k):
  Calls Tryz.prog 99 #[zt cb,.int .i64 size,.agg (trC old root).toArray] w fun r w'=>r= .returned (.tuple #[])∧zf A [zr] w w'∧CS W0 w' O A OP cb nb db pm nm C d room pr { m with needed:=zaq size m.needed old root } k:=by
 obtain⟨hdv,hl32,-⟩:=zb6 old h1 (by omega)
 have hq1:1≤old / 4 ^ lvl old:=Nat.div_pos (Nat.le_of_dvd h1 hdv) (Nat.pow_pos (by omega))
 have hqle:old / 4 ^ lvl old≤old:=Nat.div_le_self _ _
 obtain⟨J,hJ⟩:∃ J,J=old / 4 ^ lvl old - 1:=⟨_,rfl⟩
 have hc1:((zz ((lvl old:Nat):Int) old:Nat):Int)=(J:Int)+1:=by unfold zz;rw [Int.toNat_natCast];omega
 have HC1:=za hc1
 have HTZ:=za (fun w (hT:zdn w)=>zuj old (by omega) (by omega) w hT)
 have HCA:=za (fun(x:Nat) (hx:x < 9223372036854775808) w=>zda ((lvl old:Nat):Int) (by omega) (by omega) x hx w)
 have HQ:Hid (((Lib.ctz 64 old:Nat):Int) / 2=((lvl old:Nat):Int)):=by show _=_;unfold lvl;omega
 have hw64:IntKind.u64.wrap (old:Int)=(old:Int):=by
  have h1:(old:Int) < 18446744073709551616:=by omega
  have h0:0≤(old:Int):=by omega
  simp [IntKind.wrap,IntKind.bits,IntKind.signed]
  omega
 have hJ63:J < 9223372036854775808:=by omega
 have HPOK:=za (zi2 size hsz ((lvl old:Nat):Int) (by omega) (by omega) J hJ63)
 have HPIN:=za (fun w=>zbs size hsz ((lvl old:Nat):Int) (by omega) (by omega) J hJ63 w)
 have HSET:=za (fun(x:List UInt8) (hx:x.length=8) (m':Ms Nt) w0 (hw':WdN m'.needed) hcs0=>zmm W0 O A OP cb nb db pm nm C d room pr size k hsz 64 (lvl old) J x m' w0 (by omega) (by omega) hJ63 hx hw' hcs0)
 have HSO:Hid (zaq size m.needed old root=match m.needed.get (zi size ((lvl old:Nat):Int) J) with
  | none=>m.needed
  | some fl =>
   if J=0 then xo size 64 m.needed (lvl old) 0 root
   else if J=1 then
    (if xa (fl.getD 0 .no).hash (fl.getD 1 .no).hash=root then xo size 64 (m.needed.set (zi size ((lvl old:Nat):Int) 1) (qx fl 0)) (lvl old) 1 (fl.getD 1 .no).hash else m.needed)
   else xo size 64 m.needed (lvl old) J (fl.getD (J % 4) .no).hash):=by rw [hJ];rfl
 have HCS:=za hcs
 have HWD:=za hwd
 have H8:=za h8
 have HTB:=za hTb
 have HN:Hid (old < 9223372036854775808∧J < 9223372036854775808):=⟨hold,hJ63⟩
 clear hcs hwd h8 hTb hJ hdv hq1 hqle hold h1 hc1 hJ63
 generalize lvl old=L at *
 generalize Lib.ctz 64 old=Z at *
 unfold zt
 go_enter Tryz.func99,Tryz.ntmps99
 have hB1:Below w.heap.size w (w.alloc (.cells (trC old root).toArray 93)):=ze w _
 have hX1:(w.alloc (.cells (trC old root).toArray 93)).heap[w.heap.size]?=some (.cells (trC old root).toArray 93 (0,0)):=heap_alloc_last _ _
 have t0:(w.alloc (.cells (trC old root).toArray 93)).cell? ⟨w.heap.size,0,none⟩=some (.int .i64 old):=(zg hX1 0 _ rfl).1
 have HB1:=za hB1
 have HX1:=za hX1
 clear hB1 hX1
 go_wp2_with fail
 clear hw64
 generalize w.alloc (.cells (trC old root).toArray 93)=W1 at *
 have HC:=za (HCS.o.below HB1.o)
 refine(HTZ.o W1 (HTB.o.below HC.o.base)).mono ?_
 rintro r w1 ⟨rfl,rfl⟩
 have hwl:wrap64 (L:Int)=(L:Int):=by unfold wrap64;omega
 go_wp2_with fail
 rw [HQ.o,hwl]
 refine(HCA.o old HN.o.1 w1).mono ?_
 rintro r w2 ⟨rfl,rfl⟩
 rw [HC1.o]
 have hwj:wrap64 ((J:Int)+1 - 1)=(J:Int):=by have:=HN.o.2;unfold wrap64;omega
 have hwj2:wrap64 (J:Int)=(J:Int):=by have:=HN.o.2;unfold wrap64;omega
 obtain⟨LN,hmn,hnd,hndup⟩:=HC.o.nee
 obtain⟨a,b,hab,hget⟩:=zqg hmn hnd (zi size (L:Int) J) HPOK.o
 have HAB:=za hab
 have HGET:=za hget
 have HMN:=za hmn
 have HND:=za hnd
 have HNDUP:=za hndup
 unfold zt at HGET
 have HCL:=za HC.o.cli
 clear hmn hnd hndup hab hget hwl
 go_wp2_with fail
 rw [hwj2]
 clear hwj hwj2
 go_cut [8,9] from 21 to 32 (fun s8 s9 wx=>s8= .pointer a∧s9= .bool b∧Below w2.heap.size w2 wx)
 case first =>
  have c14:w2.cell? ⟨cb,14,none⟩=some (.pointer (some ⟨nm,0,none⟩)):=(zg HCL.o 14 _ HC.o.cells.nee).1
  go_region_with (first
   | (go_at_call 145;refine(HPIN.o _).mono ?_;rintro r w3 ⟨rfl,hb3⟩;have HB3:=za (qk hb3);have c14':w3.cell? ⟨cb,14,none⟩=some (.pointer (some ⟨nm,0,none⟩)):=(zg ((HB3.o.block _ (zb HCL.o)).trans HCL.o) 14 _ HC.o.cells.nee).1;clear hb3)
   | (go_at_call 144;refine(HGET.o w3 (by exact HB3.o)).mono ?_;rintro r w4 ⟨rfl,hb4⟩;have HB4:=za (HB3.o.trans (hb4.mono HB3.o.size));clear hb4))
  all_goals go_wp2_with fail
  all_goals go_meet
  all_goals exact⟨rfl,rfl,HB4.o⟩
 case rest =>
  obtain⟨rfl,rfl,hbx⟩:=hcut
  obtain⟨X,hX⟩:∃ X,X=wc:=⟨_,rfl⟩
  subst hX
  have HBX:=za hbx
  have HXX:Hid (X.heap[w.heap.size]?=some (.cells (trC old root).toArray 93 (0,0))):=(hbx.block _ (zb HX1.o)).trans HX1.o
  have HCX:=za (HC.o.below hbx)
  have HTX:Hid (zf A [zr] w X):=(zf.of_below HB1.o).then_below hbx
  clear hbx HGET t0
  rcases HAB.o with ⟨rfl,rfl,hg⟩ | ⟨rfl,bb,fb,xs,fl,rfl,hlg,hg,hA,hf,hfk,hfi⟩
  ·go_wp2_with fail
   first | go_end0 | refine bodyPost_ret (results_none rfl _ _ _) rfl ?_
   rw [HSO.o,hg]
   exact⟨rfl,HTX.o,HCX.o⟩
  ·have hfX:zn X fb xs:=(HBX.o.block _ (zb hf)).trans hf
   obtain⟨kk,hkk⟩:∃ kk,kk=J % 4:=⟨_,rfl⟩
   have hrem:(J:Int) % 4=(kk:Int):=by omega
   have hk4:kk < 4:=by omega
   have hkl:kk < xs.length:=by rw [hfk.1];exact hk4
   have h0l:0 < xs.length:=by rw [hfk.1];omega
   have hx8:=(zbk hfk kk).1
   have hlx:(vx (.pointer (some ⟨fb,kk*11+2,none⟩))).run Tryz.prog X= .ok (.agg (hv (xs.getD kk .no).hash)) X:=by
    refine qg ?_ hx8
    have:=zn.hash hfX hfk.2 hkl
    rw [zcm hkl] at this
    exact this
   have HG:Hid (∀ y:List UInt8,y.length=8→(zcx (.pointer (some ⟨X.heap.size,0,none⟩)) (.agg (hv y))).run Tryz.prog (X.alloc (.cells jg 91))= .ok () ((X.alloc (.cells jg 91)).setCells X.heap.size 0 (y.map bv))∧((X.alloc (.cells jg 91)).setCells X.heap.size 0 (y.map bv)).heap[X.heap.size]?=some (.cells (y.map bv).toArray 91 (0,0))∧Below X.heap.size X ((X.alloc (.cells jg 91)).setCells X.heap.size 0 (y.map bv))):=by
    intro y hy
    have hf4:(X.alloc (.cells jg 91)).heap[X.heap.size]?=some (.cells (xd.map bv).toArray 91 (0,0)):=heap_alloc_last _ _
    have hf5:=qz hf4 (ds:=y.map bv) (by simp [hy,xd])
    exact⟨za9 (by have:=jb hf4;simpa [xd] using this) hy,hf5,zu (ze _ _) (Nat.le_refl _) _ _⟩
   obtain⟨hst,hx9,hb9⟩:=HG.o _ hx8
   have HKK:=za hkk
   have HF:=za hfX
   have HFK:=za hfk
   have HFI:=za (hfi.below HBX.o)
   have HLG:=za hlg
   have HGG:=za hg
   have HA:=za hA
   have HX8:=za hx8
   have HX9:=za hx9
   have HB9:=za hb9
   have HXH:Hid ((xs.getD kk .no).hash=(fl.getD (J % 4) .no).hash):=by show _=_;rw [← hkk];exact(hfi.2.2 kk hk4).hash
   have HX0:Hid ((xs.getD 0 .no).hash=(fl.getD 0 .no).hash):=(hfi.2.2 0 (by omega)).hash
   have H08:=za (zbk hfk 0).1
   have HL0:Hid (∀ w0,zn w0 fb xs→(vx (.pointer (some ⟨fb,2,none⟩))).run Tryz.prog w0= .ok (.agg (hv (xs.getD 0 .no).hash)) w0):=fun w0 hf0=>by
    refine qg ?_ H08.o
    have:=zn.hash hf0 HFK.o.2 h0l
    rw [zcm h0l] at this
    simpa using this
   clear hfX hfk hfi hlg hg hA hf hkl hkk HG hx8 hx9 hb9 HAB h0l
   generalize (xs.getD kk .no).hash=xh at *
   generalize (xs.getD 0 .no).hash=x0h at *
   have HFV:Hid (zn ((X.alloc (.cells jg 91)).setCells X.heap.size 0 (xh.map bv)) fb xs):=(HB9.o.block _ (zb HF.o)).trans HF.o
   have HCV:=za (HCX.o.below HB9.o)
   have HTV:=za (HTX.o.then_below HB9.o)
   have HRV:Hid (((X.alloc (.cells jg 91)).setCells X.heap.size 0 (xh.map bv)).heap[w.heap.size]?=some (.cells (trC old root).toArray 93 (0,0))):=(HB9.o.block _ (zb HXX.o)).trans HXX.o
   have hXV:X.heap.size < ((X.alloc (.cells jg 91)).setCells X.heap.size 0 (xh.map bv)).heap.size:=zb HX9.o
   have hlr:(vx (.pointer (some ⟨w.heap.size,1,none⟩))).run Tryz.prog ((X.alloc (.cells jg 91)).setCells X.heap.size 0 (xh.map bv))= .ok (.agg (hv root)) ((X.alloc (.cells jg 91)).setCells X.heap.size 0 (xh.map bv)):=by
    refine qg ?_ H8.o
    intro j v hv'
    have:=yv HRV.o (1+j) v (by unfold trC;rw [Nat.add_comm,List.getElem?_cons_succ];exact hv')
    rw [Nat.zero_add] at this
    exact this
   have hlh:=qg (yv HX9.o) HX8.o
   by_cases j0:J=0
   ·have j0d:((J:Int)==0)=true:=by simp [j0]
    have J0:=za j0
    clear j0
    have hth:=jb HX9.o
    rw [List.length_map,HX8.o] at hth
    have hst:=za9 hth H8.o
    have hx2:=qz HX9.o (ds:=root.map bv) (by rw [List.length_map,List.length_map,HX8.o,H8.o])
    have hB2:Below X.heap.size X (((X.alloc (.cells jg 91)).setCells X.heap.size 0 (xh.map bv)).setCells X.heap.size 0 (root.map bv)):=zu HB9.o (Nat.le_refl _) _ _
    have hl2:=qg (yv hx2) H8.o
    have HC2:=za (HCX.o.below hB2)
    have HT2:=za (HTX.o.then_below hB2)
    have HS2:=za (HSET.o root H8.o m _ HWD.o HC2.o)
    unfold zt at HS2
    clear hth hx2 hB2
    go_wp2_with fail
    refine HS2.o.mono ?_
    rintro r w9 ⟨rfl,ht9,hc9⟩
    have HT9:=za ht9
    have HC9:=za hc9
    clear ht9 hc9 HS2
    go_wp2_with fail
    first | go_end0 | refine bodyPost_ret (results_none rfl _ _ _) rfl ?_
    have hso:=HSO.o
    rw [HGG.o] at hso
    simp only [J0.out,if_true] at hso
    have hc9:=HC9.o
    rw [J0.out] at hc9
    rw [hso]
    exact⟨rfl,HT2.o.trans (HT9.o.mono (fun _ h=> .inl h) (fun _ h=>h)),hc9⟩
   ·have j0d:((J:Int)==0)=false:=by simpa using (by omega:¬(J:Int)=0)
    by_cases j1:J=1
    ·have j1d:((J:Int)==1)=true:=by simp [j1]
     have J1:=za j1
     clear j1 j0
     obtain⟨N,hN,hN8,hNc⟩:∃ N,N=xa x0h xh∧N.length=8∧∀ w',Calls Tryz.prog 86 #[.agg (hv x0h),.agg (hv xh)] w' fun r w''=>r= .returned (.agg (hv N))∧Below w'.heap.size w' w'':=⟨_,rfl,qf _ _,fun w'=>zaw _ _ w' H08.o HX8.o⟩
     have HNC:=za hNc
     have HN:=za hN
     have hne:=fun w0=>znr N root hN8 H8.o w0
     clear hNc hN hN8
     go_wp2_with fail
     generalize (X.alloc (.cells jg 91)).setCells X.heap.size 0 (xh.map bv)=V at *
     clear hrem
     go_cut [58] from 49 to 57 (fun s58 wx=>s58= .bool (!eqH N root)∧Below V.heap.size V wx)
     case first =>
      have l1:(vx (.pointer (some ⟨fb,2,none⟩))).run Tryz.prog V.drew= .ok (.agg (hv x0h)) V.drew:=HL0.o V.drew HFV.o
      have l2:(vx (.pointer (some ⟨X.heap.size,0,none⟩))).run Tryz.prog V.drew= .ok (.agg (hv xh)) V.drew:=qg (w:=V.drew) (yv (w:=V.drew) HX9.o) HX8.o
      have HLR:Hid (∀ w0,Below V.heap.size V w0→(vx (.pointer (some ⟨w.heap.size,1,none⟩))).run Tryz.prog w0= .ok (.agg (hv root)) w0):=fun w0 hb0=>by
       have hrv:w0.heap[w.heap.size]?=some (.cells (trC old root).toArray 93 (0,0)):=(hb0.block _ (zb HRV.o)).trans HRV.o
       refine qg ?_ H8.o
       intro j v hv'
       have:=yv hrv (1+j) v (by unfold trC;rw [Nat.add_comm,List.getElem?_cons_succ];exact hv')
       rw [Nat.zero_add] at this
       exact this
      have l3:=HLR.o V.drew (Below.refl _ V).drew
      clear hlh hlr
      go_region_with (go_at_call 86;refine(HNC.o _).mono ?_;rintro r w5 ⟨rfl,hb5⟩;have HB5:=za (qk hb5);have l5:=HLR.o w5 HB5.o;clear hb5)
      all_goals go_wp2_with fail
      all_goals go_meet
      all_goals exact⟨rfl,HB5.o⟩
     case rest =>
      obtain⟨rfl,hbz⟩:=hcut
      obtain⟨Z2,hZ2⟩:∃ Z2,Z2=wc:=⟨_,rfl⟩
      subst hZ2
      have HBZ:=za hbz
      have hfz:zn Z2 fb xs:=(hbz.block _ (zb HFV.o)).trans HFV.o
      have HFZ:=za hfz
      have hxz:Z2.heap[X.heap.size]?=some (.cells (xh.map bv).toArray 91 (0,0)):=(hbz.block _ (zb HX9.o)).trans HX9.o
      have HXZ:=za hxz
      have HCZ:=za (HCV.o.below hbz)
      have HTZ2:=za (HTV.o.then_below hbz)
      have hso:=HSO.o
      rw [HGG.o] at hso
      simp only [J1.out,if_true,Nat.one_ne_zero,if_false] at hso
      have HXH1:=HXH.o
      rw [J1.out] at HXH1
      simp only [Nat.reduceMod] at HXH1
      rw [← HX0.o,← HXH1,← HN.o] at hso
      have HSO2:=za hso
      clear hbz hso hlr hlh HXH1
      cases he:eqH N root with
      | false =>
       have hne0:¬ N=root:=by simpa [eqH] using he
       go_wp2_with fail
       first | go_end0 | refine bodyPost_ret (results_none rfl _ _ _) rfl ?_
       rw [HSO2.o,if_neg hne0]
       exact⟨rfl,HTZ2.o,HCZ.o⟩
      | true =>
       have heq0:N=root:=by simpa [eqH] using he
       have h0l:0 < xs.length:=by rw [HFK.o.1];omega
       obtain⟨c1,z1⟩:=hfz.cell HFK.o.2 h0l (j:=1) (v:= .bool xs[0].fits) (by omega) rfl
       have hzk:({ xs.getD 0 .no with fits:=true }:Px).ok:=⟨(zbk HFK.o 0).1,(zbk HFK.o 0).2⟩
       have hf8:=hfz.set1 HFK.o.2 h0l (j:=1) (v:= .bool true) (x:={ xs.getD 0 .no with fits:=true }) (by omega) hzk (by rw [zcm h0l];rfl)
       have ht8:=(zf.refl (fun b=>b=fb) [zr] Z2).set (o:=0*11+1) (.inl rfl) hfz (by simp) (.bool true)
       rw [zcm h0l] at c1
       simp only [Nat.zero_mul,Nat.zero_add] at c1 z1 hf8 ht8
       have HF8:=za hf8
       have HT8:=za ht8
       have hx8':(Z2.setCell ⟨fb,1,none⟩ (.bool true)).heap[X.heap.size]?=some (.cells (xh.map bv).toArray 91 (0,0)):=ht8.keep hxz (by decide)
       have hl8:=qg (yv hx8') HX8.o
       have HIZ:Hid (j4 Z2 xs fl):=(HFI.o.below HB9.o).below HBZ.o
       have HK8:Hid (FOk (xs.set 0 { xs.getD 0 .no with fits:=true })):=⟨by rw [List.length_set];exact HFK.o.1,zj8 HFK.o.2 0 hzk⟩
       have HTA:Hid (zf A [zr] Z2 (Z2.setCell ⟨fb,1,none⟩ (.bool true))):=ht8.mono (fun b hb=>by rw [hb];exact HA.o) (fun _ h=>h)
       have HI8:Hid (j4 (Z2.setCell ⟨fb,1,none⟩ (.bool true)) (xs.set 0 { xs.getD 0 .no with fits:=true }) (qx fl 0)):=by
        have h1:=HIZ.o.turn ht8 (by decide)
        have h2:=h1.2.2 0 (by omega)
        have:=z4d h1 0 (z:={ xs.getD 0 .no with fits:=true }) (c:={ fl.getD 0 .no with fits:=true }) ⟨h2.there,rfl,h2.hash,h2.ent⟩
        rw [zv2]
        exact this
       have HMZ:Hid (vt Z2 A nm zbe LN):=((HMN.o.below HBX.o (fun _ h=>h)).below HB9.o (fun _ h=>h)).below HBZ.o (fun _ h=>h)
       have HBALL:Hid (Below w2.heap.size w2 Z2):=(HBX.o.trans (HB9.o.mono HBX.o.size)).trans (HBZ.o.mono (HBX.o.trans (HB9.o.mono HBX.o.size)).size)
       have HNZ:Hid (qo (NdR Z2 A) LN m.needed):=HND.o.mono (fun a' _ b' hr=>⟨hr.1,hr.2.turn (O:=fun _=>False) (T:=[]) (.of_below HBALL.o) (by simp) (by simp) (fun _ h=>h)⟩)
       have HC8:=za (HCZ.o.setNd HTA.o (zf0.setF HMZ.o HNZ.o HNDUP.o HLG.o ht8 hfz hf8 HK8.o HI8.o HA.o) (Mm.set_len _ _ _))
       have HS2:=za (HSET.o xh HX8.o _ _ (HWD.o.set _ _) HC8.o)
       unfold zt at HS2
       clear hf8 ht8 hx8' hzk hxz hfz h0l
       go_wp2_with fail
       refine HS2.o.mono ?_
       rintro r w9 ⟨rfl,ht9,hc9⟩
       have HT9:=za ht9
       have HC9:=za hc9
       clear ht9 hc9 HS2
       go_wp2_with fail
       first | go_end0 | refine bodyPost_ret (results_none rfl _ _ _) rfl ?_
       have hc9:=HC9.o
       rw [J1.out] at hc9
       rw [HSO2.o,if_pos heq0]
       exact⟨rfl,(HTZ2.o.trans (HTA.o.mono (fun _ h=> .inl h) (fun _ h=>h))).trans (HT9.o.mono (fun _ h=> .inl h) (fun _ h=>h)),hc9⟩
    ·have j1d:((J:Int)==1)=false:=by simpa using (by omega:¬(J:Int)=1)
     have HS2:=za (HSET.o xh HX8.o m _ HWD.o HCV.o)
     unfold zt at HS2
     go_wp2_with fail
     refine HS2.o.mono ?_
     rintro r w9 ⟨rfl,ht9,hc9⟩
     have HT9:=za ht9
     have HC9:=za hc9
     clear ht9 hc9 HS2
     go_wp2_with fail
     first | go_end0 | refine bodyPost_ret (results_none rfl _ _ _) rfl ?_
     have hso:=HSO.o
     rw [HGG.o] at hso
     simp only [j0,j1,if_false] at hso
     rw [hso,← HXH.o]
     exact⟨rfl,HTV.o.trans (HT9.o.mono (fun _ h=> .inl h) (fun _ h=>h)),HC9.o⟩
end
end Go.Proofs.YtinhekmmdlhfkaaGreatDoor
