import Derived.Test.YtndkblnpbjffhaaGreatDoorG35
set_option maxHeartbeats 4000000
set_option maxRecDepth 100000
open Go.RowKit
namespace Go.Proofs.YtndkblnpbjffhaaGreatDoor
section
attribute [local go_sem ↓] yv yl yy yo yj ym yx yk
def zi2 (x y:Px):Bool:=x.there&&y.fits&&eqH x.hash y.hash
def zdj (ys:List Px):Nat→List Px→List Px
 | 0,xs=>xs
 | k+1,xs=>if zi2 ((zdj ys k xs).getD k .no) (ys.getD k .no) then (zdj ys k xs).set k { (zdj ys k xs).getD k .no with fits:=true } else zdj ys k xs
def zxr (xs ys:List Px):List Px:=List.zipWith (fun a b=>if zi2 a b then { a with fits:=true } else a) xs ys
theorem zq8 {xs ys:List Px}(h:FOk xs):∀ k,FOk (zdj ys k xs)
 | 0=>h
 | k+1=>by
  have:=zq8 (ys:=ys) h k;unfold zdj
  split
  ·exact⟨by simp [this.1],zj1 this.2 k ⟨(zbn this k).1,(zbn this k).2⟩⟩
  ·exact this
theorem zr7 {xs ys:List Px}(D:FOk xs)(E:FOk ys):zdj ys 4 xs=zxr xs ys:=by
 obtain⟨a,b,c,d,rfl⟩:=zfk D.1;obtain⟨h,r,c',A,rfl⟩:=zfk E.1;simp only [zdj,zxr,List.zipWith_cons_cons,List.zipWith_nil_right];cases ha:zi2 a h<;>cases hb:zi2 b r<;>cases hc:zi2 c c'<;>cases hd:zi2 d A<;>simp [ha,hb,hc,hd]
theorem z74 {w:World}{xs ys:List Px}{f g:Fl}(h:j9 w xs f)(Q:j9 w ys g):j9 w (zxr xs ys) (zdu f g):=by
 obtain⟨I,D,A⟩:=h;obtain⟨J,E,H⟩:=Q;refine⟨by simp [zxr,I,J],by simp [zdu,D,E],fun k r=>?_⟩;have K:(zxr xs ys).getD k .no=if zi2 (xs.getD k .no) (ys.getD k .no) then { xs.getD k .no with fits:=true } else xs.getD k .no:=by
  unfold zxr;have h1:k < xs.length:=by omega
  have h2:k < ys.length:=by omega
  simp only [List.getD_eq_getElem?_getD,List.getElem?_zipWith,List.getElem?_eq_getElem h1,List.getElem?_eq_getElem h2,Option.getD_some]
 have L:zi2 (xs.getD k .no) (ys.getD k .no)=((f.getD k .no).there&&(g.getD k .no).fits&&decide ((f.getD k .no).hash=(g.getD k .no).hash)):=by
  unfold zi2 eqH;rw [(A k r).there,(H k r).fits,(A k r).hash,(H k r).hash]
 rw [K,zgx f g D E k r,L]
 split
 ·exact⟨(A k r).there,rfl,(A k r).hash,(A k r).ent⟩
 ·exact A k r
theorem z68 {xs ys:List Px}(h:FOk xs)(r:FOk ys):FOk (zxr xs ys):=by rw [← zr7 h r];exact zq8 h 4
theorem zq6 {w:World}{A:Nat→Prop}{nm:Nat}{D:LsN}{L:Mm}(E:zab w A nm zbh D)(K:jf (NdR w A) D L)(p:Pl)(Q:zct p):∃(a:Option Addr) (b:Bool),
  ((b=false∧a=none∧L.get p=none)∨(b=true∧∃ R fb xs f,a=some ⟨fb,0,none⟩∧D.get p=some (R,zo fb)∧L.get p=some f∧A fb∧zn w fb xs∧FOk xs∧j9 w xs f)) ∧
  ∀ w0,Below w.heap.size w w0→Calls Tryz.prog 140 #[zo nm,plV p] w0 fun r w'=>r= .returned (.tuple #[.pointer a,.bool b])∧Below w0.heap.size w0 w':=by
 rcases zgs.get K p with ⟨H,I⟩ | ⟨b,v,f,H,I,⟨fb,xs,rfl,S,U,W,V⟩,-⟩
 ·exact⟨none,false,.inl ⟨rfl,rfl,I⟩,fun w0 J=>zrl A nm zbh D _ Q w0 (E.below J (fun _ h=>h)) H⟩
 ·exact⟨_,true,.inr ⟨rfl,b,fb,xs,f,rfl,H,I,S,U,W,V⟩,fun w0 J=>zmc A nm zbh D _ Q w0 (E.below J (fun _ h=>h)) b _ H⟩
theorem zc6 {xs:List Px}{k:Nat}(h:k < xs.length):xs[k]=xs.getD k .no:=by simp [List.getD_eq_getElem?_getD,h]
theorem zlj (W0:World)(O A OP:Nat→Prop)(cb nb db pm nm:Nat)(C:Array Value)(d:Dk)(room:Int)(pr:Mm)(size k i:Nat)(ac:size < 9223372036854775808)(hi:i < size)(D:List UInt8)(h8:D.length=8)(m:Ms Nt)(w:World)(aU:WdN m.needed)(aD:(m.needed.get (zj size (-1) i)).isSome=true)(aF:CS W0 w O A OP cb nb db pm nm C d room pr m k):
  Calls Tryz.prog 154 #[zo cb,.int .i64 size,.int .i64 i,.agg (hv D)] w fun r w'=>r= .returned (.tuple #[])∧zg A [zt] w w'∧CS W0 w' O A OP cb nb db pm nm C d room pr { m with needed:=xt size m.needed i D } k:=by
 have U:i < 9223372036854775808:=by omega
 have bl:=za (zjf size ac (-1) (by omega) (by omega) i U);have bk:=za (zjf size ac 0 (by omega) (by omega) i U);have bn:=za (fun w=>zbv size ac (-1) (by omega) (by omega) i U w);have bm:=za (fun w=>zbv size ac 0 (by omega) (by omega) i U w);have a6:=za (fun w0 bu=>znx W0 O A OP cb nb db pm nm C d room pr size k ac 64 0 i D m w0 (by omega) (by omega) U h8 aU bu);have aW:=za aF;have H8:=za h8;have aV:Hid ((xg size 64 m.needed 0 i D).get (zj size (-1) i)≠none):=by
  intro e;obtain⟨f,V⟩:=Option.isSome_iff_exists.1 aD;have h1:=Mm.get_mem V;have h2:zj size (-1) i∈(xg size 64 m.needed 0 i D).map (·.1):=by rw [zaj];exact List.mem_map_of_mem h1
  obtain⟨y,hy,ey⟩:=List.mem_map.1 h2;exact Mm.get_none e y hy ey
 have a5:Hid (xt size m.needed i D=match (xg size 64 m.needed 0 i D).get (zj size 0 i) with
  | none=>xg size 64 m.needed 0 i D
  | some ls=>match (xg size 64 m.needed 0 i D).get (zj size (-1) i) with
   | none=>xg size 64 m.needed 0 i D
   | some b=>(xg size 64 m.needed 0 i D).set (zj size (-1) i) (zdu b ls)):=rfl
 clear aU aF h8 aD U;unfold zo;go_enter Tryz.func154,Tryz.ntmps154;have bw:(zaf (.pointer (some ⟨w.heap.size,0,none⟩))).run Tryz.prog (w.alloc (.cells (hv D) 92))= .ok (.agg (hv D)) (w.alloc (.cells (hv D) 92)):=qr (y9 (cs:=D.map bv) (heap_alloc_last _ _)) H8.o;go_wp2_with fail;have a2:Hid (Below w.heap.size w (w.alloc (.cells (hv D) 92))):=ze w _;generalize w.alloc (.cells (hv D) 92)=W1 at *
 have an:=za (a6.o W1 (aW.o.below a2.o));unfold zo at an;refine an.o.mono ?_;rintro r w2 ⟨rfl,aS,aG⟩;have a7:Hid (zg A [zt] w w2):=(zg.of_below a2.o).trans (aS.mono (fun _ h=> .inl h) (fun _ h=>h));have L:=za aG;clear aS aG an a6 bw;generalize xg size 64 m.needed 0 i D=nd at *
 obtain⟨LN,ai,aj,aQ⟩:=L.o.nee;obtain⟨a1,b1,aC,aN⟩:=zq6 ai aj (zj size (-1) i) bl.o;obtain⟨a0,b0,aB,aM⟩:=zq6 ai aj (zj size 0 i) bk.o;have be:=za ai;have bh:=za aj;have a4:=za aQ;clear ai aj aQ;have az:=za aC;have ay:=za aB;have am:=za aN;have al:=za aM;clear aC aB aN aM;unfold zo at am al;have W:=za L.o.cli;go_wp2_with fail;go_cut [8,9] from 18 to 28 (fun s8 s9 wx=>s8= .pointer a1∧s9= .bool b1∧Below w2.heap.size w2 wx)
 case first =>
  have br:w2.cell? ⟨cb,14,none⟩=some (.pointer (some ⟨nm,0,none⟩)):=(zf W.o 14 _ L.o.cells.nee).1
  go_region_with (first
   | (go_at_call 141;refine(bn.o _).mono ?_;rintro r w3 ⟨rfl,Z⟩;have J:=za (qa Z);have bs:w3.cell? ⟨cb,14,none⟩=some (.pointer (some ⟨nm,0,none⟩)):=(zf ((J.o.block _ (zb W.o)).trans W.o) 14 _ L.o.cells.nee).1;clear Z)
   | (go_at_call 140;refine(am.o w3 (by exact J.o)).mono ?_;rintro r w4 ⟨rfl,aa⟩;have ak:=za (J.o.trans (aa.mono J.o.size));clear aa))
  all_goals go_wp2_with fail
  all_goals go_meet
  all_goals exact⟨rfl,rfl,ak.o⟩
 case rest =>
  obtain⟨rfl,rfl,ap⟩:=hcut;obtain⟨X,hX⟩:∃ X,X=wc:=⟨_,rfl⟩
  subst hX;have Q:=za ap;have af:Hid (X.heap[cb]?=some (.cells C qh (0,0))):=(ap.block _ (zb W.o)).trans W.o;clear ap;go_wp2_with fail;go_cut [10,11] from 29 to 39 (fun b2 b3 wx=>b2= .pointer a0∧b3= .bool b0∧Below w2.heap.size w2 wx)
  case first =>
   have br:X.cell? ⟨cb,14,none⟩=some (.pointer (some ⟨nm,0,none⟩)):=(zf af.o 14 _ L.o.cells.nee).1
   go_region_with (first
    | (go_at_call 141;refine(bm.o _).mono ?_;rintro r w3 ⟨rfl,Z⟩;have J:=za (qa Z);have bs:w3.cell? ⟨cb,14,none⟩=some (.pointer (some ⟨nm,0,none⟩)):=(zf ((J.o.block _ (zb af.o)).trans af.o) 14 _ L.o.cells.nee).1;clear Z)
    | (go_at_call 140;refine(al.o w3 (by exact Q.o.trans (J.o.mono Q.o.size))).mono ?_;rintro r w4 ⟨rfl,aa⟩;have ak:=za ((Q.o.trans (J.o.mono Q.o.size)).trans (aa.mono (Q.o.trans (J.o.mono Q.o.size)).size));clear aa))
   all_goals go_wp2_with fail
   all_goals go_meet
   all_goals exact⟨rfl,rfl,ak.o⟩
  case rest =>
   obtain⟨rfl,rfl,aE⟩:=hcut;obtain⟨Y,hY⟩:∃ Y,Y=wc:=⟨_,rfl⟩
   subst hY;have H:=za aE;clear aE Q af am al;rcases ay.o with ⟨rfl,rfl,ag⟩ | ⟨rfl,bb,R,ys,ls,rfl,aO,ag,bt,aq,aK,aI⟩
   ·go_wp2_with fail;first | go_end0 | refine bodyPost_ret (results_none rfl _ _ _) rfl ?_
    rw [a5.o,ag];exact⟨rfl,a7.o.then_below H.o,L.o.below H.o⟩
   ·rcases az.o with ⟨rfl,rfl,ah⟩ | ⟨rfl,b4,E,xs,bf,rfl,av,ah,a9,ar,aL,aJ⟩
    ·exact absurd ah aV.o
    ·have aR:E≠R:=by
      intro e;subst e;have:=zkl a4.o (zf1 av) (zf1 aO) rfl;simp only [Prod.mk.injEq] at this;have h2:=this.2.1;unfold zj at h2;simp only [Prod.mk.injEq] at h2;omega
     have bi:=za aR;have a3:Hid (zn Y E xs):=(H.o.block _ (zb ar)).trans ar;have aZ:Hid (zn Y R ys):=(H.o.block _ (zb aq)).trans aq;have ao:=za aL;have S:=za aK;have bo:=za (aJ.below H.o);have bp:=za (aI.below H.o);have bd:=za av;have ax:=za a9;have ba:=za ag;have bc:=za ah;have aX:=za (L.o.below H.o);have bg:=za (be.o.below H.o (fun _ h=>h));have bj:Hid (jf (NdR Y A) LN nd):=bh.o.mono (fun a' _ b' hr=>⟨hr.1,hr.2.turn (O:=fun _=>False) (T:=[]) (.of_below H.o) (by simp) (by simp) (fun _ h=>h)⟩);clear aR ar aq aL aK aJ aI av aO ag ah a9 bt az ay;go_wp2_with fail;go_loopw [42,12] (fun ix _ wr=>∃ q:Nat,q≤4∧ix= .int .i64 q∧zg (fun x=>x=E) [zt] Y wr∧zn wr E (zdj ys q xs)∧zn wr R ys) (fun ix _ _=>4 - (intOf ix).toNat)
     case atStart=>exact⟨0,by omega,rfl,zg.refl _ _ _,a3.o,aZ.o⟩
     case round =>
      obtain⟨q,hq,rfl,ht,V,hl⟩:=hrel;by_cases aP:q < 4
      ·have hz:=zq8 (ys:=ys) ao.o q;have K:q < (zdj ys q xs).length:=by rw [hz.1];exact aP
       have ad:q < ys.length:=by rw [S.o.1];exact aP
       have c0:wr.cell? ⟨E,q*11,none⟩=some (.bool ((zdj ys q xs).getD q .no).there):=by
        have:=(V.cell hz.2 K (j:=0) (v:= .bool (zdj ys q xs)[q].there) (by omega) rfl).1;rw [zc6 K] at this;exact this
       obtain⟨c1,z1⟩:=V.cell hz.2 K (j:=1) (v:= .bool (zdj ys q xs)[q].fits) (by omega) rfl;rw [zc6 K] at c1;have d1:wr.cell? ⟨R,q*11+1,none⟩=some (.bool (ys.getD q .no).fits):=by
        have:=(hl.cell S.o.2 ad (j:=1) (v:= .bool ys[q].fits) (by omega) rfl).1;rw [zc6 ad] at this;exact this
       have au:=(zbn hz q).1;have aw:=(zbn S.o q).1;have b5:∀ n,(zaf (.pointer (some ⟨E,q*11+2,none⟩))).run Tryz.prog (wr.drewN n)= .ok (.agg (hv ((zdj ys q xs).getD q .no).hash)) (wr.drewN n):=fun n=>by
        refine qr (w:=wr.drewN n) ?_ au;have:=zn.hash (w:=wr.drewN n) (xs:=zdj ys q xs) (fb:=E) V hz.2 K;rw [zc6 K] at this;exact this
       have b6:∀ n,(zaf (.pointer (some ⟨R,q*11+2,none⟩))).run Tryz.prog (wr.drewN n)= .ok (.agg (hv (ys.getD q .no).hash)) (wr.drewN n):=fun n=>by
        refine qr (w:=wr.drewN n) ?_ aw;have:=zn.hash (w:=wr.drewN n) (xs:=ys) (fb:=R) hl S.o.2 ad;rw [zc6 ad] at this;exact this
       have aH:=fun w0=>zhr ((zdj ys q xs).getD q .no).hash (ys.getD q .no).hash au aw w0;have ae:Hid (zdj ys (q+1) xs=if zi2 ((zdj ys q xs).getD q .no) (ys.getD q .no) then (zdj ys q xs).set q { (zdj ys q xs).getD q .no with fits:=true } else zdj ys q xs):=rfl;have bq:Hid (({ (zdj ys q xs).getD q .no with fits:=true }:Px).ok):=⟨(zbn hz q).1,(zbn hz q).2⟩
       have aY:=za (fun n=>zn.set1 (w:=wr.drewN n) V hz.2 K (j:=1) (v:= .bool true) (x:={ (zdj ys q xs).getD q .no with fits:=true }) (by omega) bq.o (by rw [zc6 K];rfl));have a8:Hid (∀ n,zg (fun x=>x=E) [zt] Y ((wr.drewN n).setCell ⟨E,q*11+1,none⟩ (.bool true))∧zn ((wr.drewN n).setCell ⟨E,q*11+1,none⟩ (.bool true)) R ys):=fun n=>by
        have t1:=(ht.drewN n).set (o:=q*11+1) (.inl rfl) V (by simp) (.bool true);have t2:zg (fun x=>x=E) [zt] wr ((wr.drewN n).setCell ⟨E,q*11+1,none⟩ (.bool true)):=((zg.refl (fun x=>x=E) [zt] wr).drewN n).set (o:=q*11+1) (.inl rfl) V (by simp) (.bool true);exact⟨t1,t2.stay hl (fun e=>bi.o e.symm)⟩
       have HT:=za ht;have HF:=za V;have HL:=za hl;have i0:(0:Int)≤(q:Int):=by omega
       have i1:(q:Int) < 4:=by omega
       clear ht V hl hz K ad au aw;generalize bx:(zdj ys q xs).getD q .no=x at *
       generalize bz:ys.getD q .no=y at *
       clear bx bz;generalize zdj ys q xs=xq at *
       cases ha:x.there with
       | false =>
        rw [ha] at c0;go_wp2_with fail;go_quiet (fail);go_wp2_with fail;go_roundw
        case rel=>exact⟨q+1,by omega,by go_num,HT.o.drewN _,by rw [ae.o,if_neg (by unfold zi2;rw [ha];simp)];exact HF.o,HL.o⟩
        case measure=>simp [intOf];omega
       | true =>
        rw [ha] at c0;cases hb:y.fits with
        | false =>
         rw [hb] at d1;go_wp2_with fail;go_quiet (fail);go_wp2_with fail;go_roundw
         case rel=>exact⟨q+1,by omega,by go_num,HT.o.drewN _,by rw [ae.o,if_neg (by unfold zi2;rw [ha,hb];simp)];exact HF.o,HL.o⟩
         case measure=>simp [intOf];omega
        | true =>
         rw [hb] at d1;cases he:eqH x.hash y.hash with
         | false =>
          rw [he] at aH;go_wp2_with fail;go_quiet (fail);go_wp2_with fail;go_roundw
          case rel=>exact⟨q+1,by omega,by go_num,HT.o.drewN _,by rw [ae.o,if_neg (by unfold zi2;rw [ha,hb,he];simp)];exact HF.o,HL.o⟩
          case measure=>simp [intOf];omega
         | true =>
          rw [he] at aH;go_wp2_with fail;go_quiet (fail);go_wp2_with fail;go_roundw
          case rel=>exact⟨q+1,by omega,by go_num,(a8.o _).1,by rw [ae.o,if_pos (by unfold zi2;rw [ha,hb,he];rfl)];exact aY.o _,(a8.o _).2⟩
          case measure=>simp [intOf];omega
      ·obtain rfl:q=4:=by omega
       have hb:=z74 (bo.o.turn ht (by decide)) (bp.o.turn ht (by decide));rw [zr7 ao.o S.o] at V;have aA:zg A [zt] Y wr:=ht.mono (fun b hb=>by rw [hb];exact ax.o) (fun _ h=>h);go_wp2_with fail;first | go_end0 | refine bodyPost_ret (results_none rfl _ _ _) rfl ?_
       rw [a5.o,ba.o,bc.o];exact⟨rfl,(a7.o.then_below H.o).trans (aA.mono (fun _ h=> .inl h) (fun _ h=>h)),aX.o.setNd aA (zgs.setF bg.o bj.o a4.o bd.o ht a3.o V (z68 ao.o S.o) hb ax.o) (Mm.set_len _ _ _)⟩
end
section
attribute [local go_sem ↓] yv yl yy yo yj ym yx yk
theorem zws (f:Fl)(k:Nat):jl f k=f.set k { f.getD k .no with fits:=true }:=by
 unfold jl;apply List.ext_getElem?;intro i;rw [List.getElem?_modify,List.getElem?_set];by_cases h:k=i
 ·subst h;by_cases r:k < f.length
  ·simp [r,List.getD_eq_getElem?_getD]
  ·simp [r]
 ·simp [h]
def trC (n:Nat)(root:List UInt8):List Value:= .int .i64 n::root.map bv
theorem zln (W0:World)(O A OP:Nat→Prop)(cb nb db pm nm:Nat)(C:Array Value)(d:Dk)(room:Int)(pr:Mm)(size k old:Nat)(a7:size < 9223372036854775808)(h1:1≤old)(bm:old < 9223372036854775808)(root:List UInt8)(h8:root.length=8)(m:Ms Nt)(w:World)(aV:zdq W0)(bn:WdN m.needed)(bd:CS W0 w O A OP cb nb db pm nm C d room pr m k):
  Calls Tryz.prog 97 #[zo cb,.int .i64 size,.agg (trC old root).toArray] w fun r w'=>r= .returned (.tuple #[])∧zg A [zt] w w'∧CS W0 w' O A OP cb nb db pm nm C d room pr { m with needed:=zb8 size m.needed old root } k:=by
 obtain⟨be,cn,-⟩:=zcg old h1 (by omega);have bR:1≤old / 4 ^ lvl old:=Nat.div_pos (Nat.le_of_dvd h1 be) (Nat.pow_pos (by omega));have bS:old / 4 ^ lvl old≤old:=Nat.div_le_self _ _;obtain⟨J,hJ⟩:∃ J,J=old / 4 ^ lvl old - 1:=⟨_,rfl⟩
 have bc:((yd ((lvl old:Nat):Int) old:Nat):Int)=(J:Int)+1:=by unfold yd;rw [Int.toNat_natCast];omega
 have bw:=za bc;have bI:=za (fun w (hT:zdq w)=>zvr old (by omega) (by omega) w hT);have b0:=za (fun(x:Nat) (hx:x < 9223372036854775808) w=>zdw ((lvl old:Nat):Int) (by omega) (by omega) x hx w);have HQ:Hid (((Lib.ctz 64 old:Nat):Int) / 2=((lvl old:Nat):Int)):=by show _=_;unfold lvl;omega
 have bX:IntKind.u64.wrap (old:Int)=(old:Int):=by
  have h1:(old:Int) < 18446744073709551616:=by omega
  have h0:0≤(old:Int):=by omega
  simp [IntKind.wrap,IntKind.bits,IntKind.signed];omega
 have ag:J < 9223372036854775808:=by omega
 have bF:=za (zjf size a7 ((lvl old:Nat):Int) (by omega) (by omega) J ag);have bE:=za (fun w=>zbv size a7 ((lvl old:Nat):Int) (by omega) (by omega) J ag w);have ax:=za (fun(x:List UInt8) (hx:x.length=8) (m':Ms Nt) w0 (bW:WdN m'.needed) bM=>znx W0 O A OP cb nb db pm nm C d room pr size k a7 64 (lvl old) J x m' w0 (by omega) (by omega) ag hx bW bM);have aj:Hid (zb8 size m.needed old root=match m.needed.get (zj size ((lvl old:Nat):Int) J) with
  | none=>m.needed
  | some fl =>
   if J=0 then xg size 64 m.needed (lvl old) 0 root
   else if J=1 then
    (if yz (fl.getD 0 .no).hash (fl.getD 1 .no).hash=root then xg size 64 (m.needed.set (zj size ((lvl old:Nat):Int) 1) (jl fl 0)) (lvl old) 1 (fl.getD 1 .no).hash else m.needed)
   else xg size 64 m.needed (lvl old) J (fl.getD (J % 4) .no).hash):=by rw [hJ];rfl
 have b1:=za bd;have az:=za bn;have H8:=za h8;have bH:=za aV;have HN:Hid (old < 9223372036854775808∧J < 9223372036854775808):=⟨bm,ag⟩
 clear bd bn h8 aV hJ be bR bS bm h1 bc ag;generalize lvl old=L at *
 generalize Lib.ctz 64 old=Z at *
 unfold zo;go_enter Tryz.func97,Tryz.ntmps97;have aR:Below w.heap.size w (w.alloc (.cells (trC old root).toArray 95)):=ze w _;have a1:(w.alloc (.cells (trC old root).toArray 95)).heap[w.heap.size]?=some (.cells (trC old root).toArray 95 (0,0)):=heap_alloc_last _ _;have t0:(w.alloc (.cells (trC old root).toArray 95)).cell? ⟨w.heap.size,0,none⟩=some (.int .i64 old):=(zf a1 0 _ rfl).1;have aF:=za aR;have aO:=za a1;clear aR a1;go_wp2_with fail;clear bX;generalize w.alloc (.cells (trC old root).toArray 95)=W1 at *
 have HC:=za (b1.o.below aF.o);refine(bI.o W1 (bH.o.below HC.o.base)).mono ?_;rintro r w1 ⟨rfl,rfl⟩;have bp:wrap64 (L:Int)=(L:Int):=by unfold wrap64;omega
 go_wp2_with fail;rw [HQ.o,bp];refine(b0.o old HN.o.1 w1).mono ?_;rintro r w2 ⟨rfl,rfl⟩;rw [bw.o];have bY:wrap64 ((J:Int)+1 - 1)=(J:Int):=by have:=HN.o.2;unfold wrap64;omega
 have bo:wrap64 (J:Int)=(J:Int):=by have:=HN.o.2;unfold wrap64;omega
 obtain⟨LN,a5,a6,bl⟩:=HC.o.nee;obtain⟨a,b,aW,bg⟩:=zq6 a5 a6 (zj size (L:Int) J) bF.o;have aE:=za aW;have au:=za bg;have b8:=za a5;have bB:=za a6;have bC:=za bl;unfold zo at au;have ap:=za HC.o.cli;clear a5 a6 bl aW bg bp;go_wp2_with fail;rw [bo];clear bY bo;go_cut [8,9] from 21 to 32 (fun s8 s9 wx=>s8= .pointer a∧s9= .bool b∧Below w2.heap.size w2 wx)
 case first =>
  have cj:w2.cell? ⟨cb,14,none⟩=some (.pointer (some ⟨nm,0,none⟩)):=(zf ap.o 14 _ HC.o.cells.nee).1
  go_region_with (first
   | (go_at_call 141;refine(bE.o _).mono ?_;rintro r w3 ⟨rfl,aX⟩;have ai:=za (qa aX);have ck:w3.cell? ⟨cb,14,none⟩=some (.pointer (some ⟨nm,0,none⟩)):=(zf ((ai.o.block _ (zb ap.o)).trans ap.o) 14 _ HC.o.cells.nee).1;clear aX)
   | (go_at_call 140;refine(au.o w3 (by exact ai.o)).mono ?_;rintro r w4 ⟨rfl,aY⟩;have bt:=za (ai.o.trans (aY.mono ai.o.size));clear aY))
  all_goals go_wp2_with fail
  all_goals go_meet
  all_goals exact⟨rfl,rfl,bt.o⟩
 case rest =>
  obtain⟨rfl,rfl,ah⟩:=hcut;obtain⟨X,hX⟩:∃ X,X=wc:=⟨_,rfl⟩
  subst hX;have U:=za ah;have aQ:Hid (X.heap[w.heap.size]?=some (.cells (trC old root).toArray 95 (0,0))):=(ah.block _ (zb aO.o)).trans aO.o;have aq:=za (HC.o.below ah);have ay:Hid (zg A [zt] w X):=(zg.of_below aF.o).then_below ah;clear ah au t0;rcases aE.o with ⟨rfl,rfl,hg⟩ | ⟨rfl,bb,fb,xs,fl,rfl,bi,hg,hA,hf,Y,am⟩
  ·go_wp2_with fail;first | go_end0 | refine bodyPost_ret (results_none rfl _ _ _) rfl ?_
   rw [aj.o,hg];exact⟨rfl,ay.o,aq.o⟩
  ·have a2:zn X fb xs:=(U.o.block _ (zb hf)).trans hf;obtain⟨kk,a3⟩:∃ kk,kk=J % 4:=⟨_,rfl⟩
   have bT:(J:Int) % 4=(kk:Int):=by omega
   have bh:kk < 4:=by omega
   have a4:kk < xs.length:=by rw [Y.1];exact bh
   have K:0 < xs.length:=by rw [Y.1];omega
   have an:=(zbn Y kk).1;have cp:(zaf (.pointer (some ⟨fb,kk*11+2,none⟩))).run Tryz.prog X= .ok (.agg (hv (xs.getD kk .no).hash)) X:=by
    refine qr ?_ an;have:=zn.hash a2 Y.2 a4;rw [zc6 a4] at this;exact this
   have HG:Hid (∀ y:List UInt8,y.length=8→(zdk (.pointer (some ⟨X.heap.size,0,none⟩)) (.agg (hv y))).run Tryz.prog (X.alloc (.cells jo 92))= .ok () ((X.alloc (.cells jo 92)).setCells X.heap.size 0 (y.map bv))∧((X.alloc (.cells jo 92)).setCells X.heap.size 0 (y.map bv)).heap[X.heap.size]?=some (.cells (y.map bv).toArray 92 (0,0))∧Below X.heap.size X ((X.alloc (.cells jo 92)).setCells X.heap.size 0 (y.map bv))):=by
    intro y hy;have bf:(X.alloc (.cells jo 92)).heap[X.heap.size]?=some (.cells (xf.map bv).toArray 92 (0,0)):=heap_alloc_last _ _;have bP:=ji bf (ds:=y.map bv) (by simp [hy,xf]);exact⟨zbe (by have:=qw bf;simpa [xf] using this) hy,bP,zr (ze _ _) (Nat.le_refl _) _ _⟩
   obtain⟨bV,bs,ba⟩:=HG.o _ an;have cg:=za a3;have HF:=za a2;have Q:=za Y;have b2:=za (am.below U.o);have b7:=za bi;have av:=za hg;have HA:=za hA;have R:=za an;have W:=za bs;have I:=za ba;have aP:Hid ((xs.getD kk .no).hash=(fl.getD (J % 4) .no).hash):=by show _=_;rw [← a3];exact(am.2.2 kk bh).hash
   have bJ:Hid ((xs.getD 0 .no).hash=(fl.getD 0 .no).hash):=(am.2.2 0 (by omega)).hash;have aD:=za (zbn Y 0).1;have b6:Hid (∀ w0,zn w0 fb xs→(zaf (.pointer (some ⟨fb,2,none⟩))).run Tryz.prog w0= .ok (.agg (hv (xs.getD 0 .no).hash)) w0):=fun w0 bO=>by
    refine qr ?_ aD.o;have:=zn.hash bO Q.o.2 K;rw [zc6 K] at this;simpa using this
   clear a2 Y am bi hg hA hf a4 a3 HG an bs ba aE K;generalize (xs.getD kk .no).hash=xh at *
   generalize (xs.getD 0 .no).hash=aC at *
   have ar:Hid (zn ((X.alloc (.cells jo 92)).setCells X.heap.size 0 (xh.map bv)) fb xs):=(I.o.block _ (zb HF.o)).trans HF.o;have aH:=za (aq.o.below I.o);have aM:=za (ay.o.then_below I.o);have aw:Hid (((X.alloc (.cells jo 92)).setCells X.heap.size 0 (xh.map bv)).heap[w.heap.size]?=some (.cells (trC old root).toArray 95 (0,0))):=(I.o.block _ (zb aQ.o)).trans aQ.o;have cl:X.heap.size < ((X.alloc (.cells jo 92)).setCells X.heap.size 0 (xh.map bv)).heap.size:=zb W.o;have bk:(zaf (.pointer (some ⟨w.heap.size,1,none⟩))).run Tryz.prog ((X.alloc (.cells jo 92)).setCells X.heap.size 0 (xh.map bv))= .ok (.agg (hv root)) ((X.alloc (.cells jo 92)).setCells X.heap.size 0 (xh.map bv)):=by
    refine qr ?_ H8.o;intro j v a9;have:=y9 aw.o (1+j) v (by unfold trC;rw [Nat.add_comm,List.getElem?_cons_succ];exact a9);rw [Nat.zero_add] at this;exact this
   have bj:=qr (y9 W.o) R.o;by_cases j0:J=0
   ·have bZ:((J:Int)==0)=true:=by simp [j0]
    have J0:=za j0;clear j0;have a8:=qw W.o;rw [List.length_map,R.o] at a8;have bV:=zbe a8 H8.o;have bq:=ji W.o (ds:=root.map bv) (by rw [List.length_map,List.length_map,R.o,H8.o]);have a0:Below X.heap.size X (((X.alloc (.cells jo 92)).setCells X.heap.size 0 (xh.map bv)).setCells X.heap.size 0 (root.map bv)):=zr I.o (Nat.le_refl _) _ _;have cm:=qr (y9 bq) H8.o;have bx:=za (aq.o.below a0);have bG:=za (ay.o.then_below a0);have H:=za (ax.o root H8.o m _ az.o bx.o);unfold zo at H;clear a8 bq a0;go_wp2_with fail;refine H.o.mono ?_;rintro r w9 ⟨rfl,S,D⟩;have af:=za S;have ae:=za D;clear S D H;go_wp2_with fail;first | go_end0 | refine bodyPost_ret (results_none rfl _ _ _) rfl ?_
    have E:=aj.o;rw [av.o] at E;simp only [J0.out,if_true] at E;have D:=ae.o;rw [J0.out] at D;rw [E];exact⟨rfl,bG.o.trans (af.o.mono (fun _ h=> .inl h) (fun _ h=>h)),D⟩
   ·have bZ:((J:Int)==0)=false:=by simpa using (by omega:¬(J:Int)=0)
    by_cases j1:J=1
    ·have ca:((J:Int)==1)=true:=by simp [j1]
     have J1:=za j1;clear j1 j0;obtain⟨N,hN,aS,aU⟩:∃ N,N=yz aC xh∧N.length=8∧∀ w',Calls Tryz.prog 71 #[.agg (hv aC),.agg (hv xh)] w' fun r cd=>r= .returned (.agg (hv N))∧Below w'.heap.size w' cd:=⟨_,rfl,ql _ _,fun w'=>zay _ _ w' aD.o R.o⟩
     have bA:=za aU;have HN:=za hN;have cq:=fun w0=>zsd N root aS H8.o w0;clear aU hN aS;go_wp2_with fail;generalize (X.alloc (.cells jo 92)).setCells X.heap.size 0 (xh.map bv)=V at *
     clear bT;go_cut [58] from 49 to 57 (fun cc wx=>cc= .bool (!eqH N root)∧Below V.heap.size V wx)
     case first =>
      have l1:(zaf (.pointer (some ⟨fb,2,none⟩))).run Tryz.prog V.drew= .ok (.agg (hv aC)) V.drew:=b6.o V.drew ar.o;have l2:(zaf (.pointer (some ⟨X.heap.size,0,none⟩))).run Tryz.prog V.drew= .ok (.agg (hv xh)) V.drew:=qr (w:=V.drew) (y9 (w:=V.drew) W.o) R.o;have aJ:Hid (∀ w0,Below V.heap.size V w0→(zaf (.pointer (some ⟨w.heap.size,1,none⟩))).run Tryz.prog w0= .ok (.agg (hv root)) w0):=fun w0 bL=>by
       have bU:w0.heap[w.heap.size]?=some (.cells (trC old root).toArray 95 (0,0)):=(bL.block _ (zb aw.o)).trans aw.o;refine qr ?_ H8.o;intro j v a9;have:=y9 bU (1+j) v (by unfold trC;rw [Nat.add_comm,List.getElem?_cons_succ];exact a9);rw [Nat.zero_add] at this;exact this
      have l3:=aJ.o V.drew (Below.refl _ V).drew;clear bj bk
      go_region_with (go_at_call 71;refine(bA.o _).mono ?_;rintro r w5 ⟨rfl,aZ⟩;have aG:=za (qa aZ);have l5:=aJ.o w5 aG.o;clear aZ)
      all_goals go_wp2_with fail
      all_goals go_meet
      all_goals exact⟨rfl,aG.o⟩
     case rest =>
      obtain⟨rfl,ac⟩:=hcut;obtain⟨Z2,bK⟩:∃ Z2,Z2=wc:=⟨_,rfl⟩
      subst bK;have ao:=za ac;have ad:zn Z2 fb xs:=(ac.block _ (zb ar.o)).trans ar.o;have cf:=za ad;have aA:Z2.heap[X.heap.size]?=some (.cells (xh.map bv).toArray 92 (0,0)):=(ac.block _ (zb W.o)).trans W.o;have ci:=za aA;have aI:=za (aH.o.below ac);have aN:=za (aM.o.then_below ac);have E:=aj.o;rw [av.o] at E;simp only [J1.out,if_true,Nat.one_ne_zero,if_false] at E;have ak:=aP.o;rw [J1.out] at ak;simp only [Nat.reduceMod] at ak;rw [← bJ.o,← ak,← HN.o] at E;have aK:=za E;clear ac E bk bj ak;cases he:eqH N root with
      | false =>
       have bQ:¬ N=root:=by simpa [eqH] using he
       go_wp2_with fail;first | go_end0 | refine bodyPost_ret (results_none rfl _ _ _) rfl ?_
       rw [aK.o,if_neg bQ];exact⟨rfl,aN.o,aI.o⟩
      | true =>
       have bN:N=root:=by simpa [eqH] using he
       have K:0 < xs.length:=by rw [Q.o.1];omega
       obtain⟨c1,z1⟩:=ad.cell Q.o.2 K (j:=1) (v:= .bool xs[0].fits) (by omega) rfl;have aB:({ xs.getD 0 .no with fits:=true }:Px).ok:=⟨(zbn Q.o 0).1,(zbn Q.o 0).2⟩
       have al:=ad.set1 Q.o.2 K (j:=1) (v:= .bool true) (x:={ xs.getD 0 .no with fits:=true }) (by omega) aB (by rw [zc6 K];rfl);have aa:=(zg.refl (fun b=>b=fb) [zt] Z2).set (o:=0*11+1) (.inl rfl) ad (by simp) (.bool true);rw [zc6 K] at c1;simp only [Nat.zero_mul,Nat.zero_add] at c1 z1 al aa;have ce:=za al;have ch:=za aa;have br:(Z2.setCell ⟨fb,1,none⟩ (.bool true)).heap[X.heap.size]?=some (.cells (xh.map bv).toArray 92 (0,0)):=aa.keep aA (by decide);have co:=qr (y9 br) R.o;have b4:Hid (j9 Z2 xs fl):=(b2.o.below I.o).below ao.o;have b5:Hid (FOk (xs.set 0 { xs.getD 0 .no with fits:=true })):=⟨by rw [List.length_set];exact Q.o.1,zj1 Q.o.2 0 aB⟩
       have aL:Hid (zg A [zt] Z2 (Z2.setCell ⟨fb,1,none⟩ (.bool true))):=aa.mono (fun b hb=>by rw [hb];exact HA.o) (fun _ h=>h);have b3:Hid (j9 (Z2.setCell ⟨fb,1,none⟩ (.bool true)) (xs.set 0 { xs.getD 0 .no with fits:=true }) (jl fl 0)):=by
        have h1:=b4.o.turn aa (by decide);have h2:=h1.2.2 0 (by omega);have:=z5n h1 0 (z:={ xs.getD 0 .no with fits:=true }) (c:={ fl.getD 0 .no with fits:=true }) ⟨h2.there,rfl,h2.hash,h2.ent⟩;rw [zws];exact this
       have b9:Hid (zab Z2 A nm zbh LN):=((b8.o.below U.o (fun _ h=>h)).below I.o (fun _ h=>h)).below ao.o (fun _ h=>h);have bu:Hid (Below w2.heap.size w2 Z2):=(U.o.trans (I.o.mono U.o.size)).trans (ao.o.mono (U.o.trans (I.o.mono U.o.size)).size);have bD:Hid (jf (NdR Z2 A) LN m.needed):=bB.o.mono (fun a' _ b' hr=>⟨hr.1,hr.2.turn (O:=fun _=>False) (T:=[]) (.of_below bu.o) (by simp) (by simp) (fun _ h=>h)⟩);have bz:=za (aI.o.setNd aL.o (zgs.setF b9.o bD.o bC.o b7.o aa ad al b5.o b3.o HA.o) (Mm.set_len _ _ _));have H:=za (ax.o xh R.o _ _ (az.o.set _ _) bz.o);unfold zo at H;clear al aa br aB aA ad K;go_wp2_with fail;refine H.o.mono ?_;rintro r w9 ⟨rfl,S,D⟩;have af:=za S;have ae:=za D;clear S D H;go_wp2_with fail;first | go_end0 | refine bodyPost_ret (results_none rfl _ _ _) rfl ?_
       have D:=ae.o;rw [J1.out] at D;rw [aK.o,if_pos bN];exact⟨rfl,(aN.o.trans (aL.o.mono (fun _ h=> .inl h) (fun _ h=>h))).trans (af.o.mono (fun _ h=> .inl h) (fun _ h=>h)),D⟩
    ·have ca:((J:Int)==1)=false:=by simpa using (by omega:¬(J:Int)=1)
     have H:=za (ax.o xh R.o m _ az.o aH.o);unfold zo at H;go_wp2_with fail;refine H.o.mono ?_;rintro r w9 ⟨rfl,S,D⟩;have af:=za S;have ae:=za D;clear S D H;go_wp2_with fail;first | go_end0 | refine bodyPost_ret (results_none rfl _ _ _) rfl ?_
     have E:=aj.o;rw [av.o] at E;simp only [j0,j1,if_false] at E;rw [E,← aP.o];exact⟨rfl,aM.o.trans (af.o.mono (fun _ h=> .inl h) (fun _ h=>h)),ae.o⟩
end
end Go.Proofs.YtndkblnpbjffhaaGreatDoor
