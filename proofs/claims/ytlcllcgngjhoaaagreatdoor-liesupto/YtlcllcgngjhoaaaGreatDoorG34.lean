import Derived.Test.YtlcllcgngjhoaaaGreatDoorG33
set_option maxHeartbeats 8000000
set_option maxRecDepth 100000
set_option linter.all false
namespace Go.Proofs.YtlcllcgngjhoaaaGreatDoor
open Go.RowKit Go.Proofs.Tryz
variable {A:Nat→Prop}{k nm:Nat}{w:World}
section
attribute [local go_sem ↓] jy jn j4 jo ji jh j3 jm
def zrh (x y:Px):Bool:=x.there&&y.fits&&eqH x.hash y.hash
def zjz (b:List Px):Nat→List Px→List Px
 | 0,a=>a
 | k+1,a=>if zrh ((zjz b k a).getD k .no) (b.getD k .no) then (zjz b k a).set k { (zjz b k a).getD k .no with fits:=true } else zjz b k a
def z6r (c d:List Px):List Px:=List.zipWith (fun a b=>if zrh a b then { a with fits:=true } else a) c d
theorem z0o {b ys:List Px}(a:FOk b):∀ k,FOk (zjz ys k b)
 | 0=>a
 | k+1=>by
  have:=z0o (ys:=ys) a k;unfold zjz;split
  ·exact⟨by simp [this.1],ztn this.2 k ⟨(zhc this k).1,(zhc this k).2⟩⟩
  ·exact this
theorem z2g {e f:List Px}(o:FOk e)(p:FOk f):zjz f 4 e=z6r e f:=by
 obtain⟨a,b,c,d,rfl⟩:=zmi o.1;obtain⟨g,h,i,j,rfl⟩:=zmi p.1;simp only [zjz,z6r,List.zipWith_cons_cons,List.zipWith_nil_right];cases k:zrh a g<;>cases l:zrh b h<;>cases m:zrh c i<;>cases n:zrh d j<;>simp [k,l,m,n]
theorem ykj {b d:List Px}{f g:Fl}(h:zdj w b f)(p:zdj w d g):zdj w (z6r b d) (zj7 f g):=by
 obtain⟨l,e,c⟩:=h;obtain⟨m,i,j⟩:=p;refine⟨by simp [z6r,l,m],by simp [zj7,e,i],fun k a=>?_⟩;have n:(z6r b d).getD k .no=if zrh (b.getD k .no) (d.getD k .no) then { b.getD k .no with fits:=true } else b.getD k .no:=by
  unfold z6r;have q:k < b.length:=by omega
  have r:k < d.length:=by omega
  simp only [zl,zll,zt q,zt r,zc2]
 have o:zrh (b.getD k .no) (d.getD k .no)=((f.getD k .no).there&&(g.getD k .no).fits&&decide ((f.getD k .no).hash=(g.getD k .no).hash)):=by
  unfold zrh eqH;rw [(c k a).there,(j k a).fits,(c k a).hash,(j k a).hash]
 rw [n,ztu f g e i k a,o];split
 ·exact⟨(c k a).there,rfl,(c k a).hash,(c k a).ent⟩
 ·exact c k a
theorem ykk {b c:List Px}(a:FOk b)(d:FOk c):FOk (z6r b c):=by rw [← z2g a d];exact z0o a 4
theorem z0u {e:LsN}{n:Mm}(g:zen w A nm zgx e)(m:zbi (NdR w A) e n)(p:Pl)(o:zip p):∃(a:Option Addr) (b:Bool),
  ((b=false∧a=none∧n.get p=none)∨(b=true∧∃ q d i f,a=some ⟨d,0,none⟩∧e.get p=some (q,yx d)∧n.get p=some f∧A d∧yu w d i∧FOk i∧zdj w i f)) ∧
  ∀ c,Below w.heap.size w c→Calls prog 172 #[yx nm,plV p] c fun r y=>r= .returned (.tuple #[.pointer a,.bool b])∧Below c.heap.size c y:=by
 rcases zod.get m p with ⟨j,k⟩ | ⟨b,v,f,j,k,⟨d,i,rfl,s,t,x,u⟩,-⟩
 ·exact⟨none,false,.inl ⟨rfl,rfl,k⟩,fun c l=>z0w A nm zgx e _ o c (g.below l (fun _ h=>h)) j⟩
 ·exact⟨_,true,.inr ⟨rfl,b,d,i,f,rfl,j,k,s,t,x,u⟩,fun c l=>zv4 A nm zgx e _ o c (g.below l (fun _ h=>h)) b _ j⟩
theorem zjd {a:List Px}(b:k < a.length):a[k]=a.getD k .no:=by simp [zl,b]
theorem zul (W0:World)(O A OP:Nat→Prop)(W nb db pm nm:Nat)(C:Array Value)(d:Dk)(V:Int)(pr:Mm)(a k i:Nat)(S:a < 9223372036854775808)(hi:i < a)(c:zc)(h8:c.length=8)(m:Ms Nt)(w:World)(aY:WdN m.needed)(aj:(m.needed.get (zv a (-1) i)).isSome=true)(aR:CS W0 w O A OP W nb db pm nm C d V pr m k):
  Calls prog 131 #[yx W,.int .i64 a,.int .i64 i,.agg (hv c)] w fun r w'=>r= .returned (.tuple #[])∧zq A [xg] w w'∧CS W0 w' O A OP W nb db pm nm C d V pr { m with needed:=zc8 a m.needed i c } k:=by
 have s:i < 9223372036854775808:=by omega
 have be:=zf (zr1 a S (-1) (by omega) (by omega) i s);have bd:=zf (zr1 a S 0 (by omega) (by omega) i s);have aw:=zf (fun w=>zhu a S (-1) (by omega) (by omega) i s w);have av:=zf (fun w=>zhu a S 0 (by omega) (by omega) i s w);have aK:=zf (fun w0 aS=>zxk W0 O A OP W nb db pm nm C d V pr a k S 64 0 i c m w0 (by omega) (by omega) s h8 aY aS);have a2:=zf aR;have H8:=zf h8;have aZ:Hid ((zai a 64 m.needed 0 i c).get (zv a (-1) i)≠none):=by
  intro e;obtain⟨f,I⟩:=zjh.1 aj;have h1:=Mm.get_mem I;have h2:zv a (-1) i∈(zai a 64 m.needed 0 i c).map (·.1):=by rw [zfa];exact zeh h1
  obtain⟨y,hy,ey⟩:=yl.1 h2;exact Mm.get_none e y hy ey
 have aJ:Hid (zc8 a m.needed i c=match (zai a 64 m.needed 0 i c).get (zv a 0 i) with
  | none=>zai a 64 m.needed 0 i c
  | some ls=>match (zai a 64 m.needed 0 i c).get (zv a (-1) i) with
   | none=>zai a 64 m.needed 0 i c
   | some b=>(zai a 64 m.needed 0 i c).set (zv a (-1) i) (zj7 b ls)):=rfl
 clear aY aR h8 aj s;unfold yx;go_enter func131,ntmps131;have bl:(zez (.pointer (some ⟨w.heap.size,0,none⟩))).run prog (w.alloc (.cells (hv c) 110))= .ok (.agg (hv c)) (w.alloc (.cells (hv c) 110)):=za5 (j6 (cs:=c.map bv) (zg _ _)) H8.o;go_wp2_with fail;have aF:Hid (Below w.heap.size w (w.alloc (.cells (hv c) 110))):=zk w _;generalize w.alloc (.cells (hv c) 110)=W1 at *;have ax:=zf (aK.o W1 (a2.o.below aF.o));unfold yx at ax;refine ax.o.mono ?_;rintro r w2 ⟨rfl,aX,ak⟩;have aL:Hid (zq A [xg] w w2):=(zq.of_below aF.o).trans (aX.mono (fun _ h=> .inl h) (fun _ h=>h));have B:=zf ak;clear aX ak ax aK bl;generalize zai a 64 m.needed 0 i c=nd at *;obtain⟨LN,ad,ae,R⟩:=B.o.nee;obtain⟨a1,b1,ai,P⟩:=z0u ad ae (zv a (-1) i) be.o;obtain⟨a0,b0,ah,N⟩:=z0u ad ae (zv a 0 i) bd.o;have a7:=zf ad;have a9:=zf ae;have K:=zf R;clear ad ae R;have ag:=zf ai;have af:=zf ah;have au:=zf P;have ar:=zf N;clear ai ah P N;unfold yx at au ar;have J:=zf B.o.cli;go_wp2_with fail;go_cut [8,9] from 18 to 28 (fun s8 s9 wx=>s8= .pointer a1∧s9= .bool b1∧Below w2.heap.size w2 wx)
 case first =>
  have bj:w2.cell? ⟨W,14,none⟩=some (.pointer (some ⟨nm,0,none⟩)):=(zw J.o 14 _ B.o.cells.nee).1
  go_region_with (first
   | (go_at_call 173;refine(aw.o _).mono ?_;rintro r w3 ⟨rfl,L⟩;have t:=zf (zbb L);have aN:w3.cell? ⟨W,14,none⟩=some (.pointer (some ⟨nm,0,none⟩)):=(zw ((t.o.block _ (zi J.o)).trans J.o) 14 _ B.o.cells.nee).1;clear L)
   | (go_at_call 172;refine(au.o w3 (by exact t.o)).mono ?_;rintro r w4 ⟨rfl,M⟩;have aq:=zf (t.o.trans (M.mono t.o.size));clear M))
  all_goals go_wp2_with fail
  all_goals go_meet
  all_goals exact⟨rfl,rfl,aq.o⟩
 case rest =>
  obtain⟨rfl,rfl,az⟩:=hcut;obtain⟨X,hX⟩:∃ X,X=wc:=⟨_,rfl⟩;subst hX;have D:=zf az;have G:Hid (X.heap[W]?=some (.cells C zbx (0,0))):=(az.block _ (zi J.o)).trans J.o;clear az;go_wp2_with fail;go_cut [10,11] from 29 to 39 (fun bo bp wx=>bo= .pointer a0∧bp= .bool b0∧Below w2.heap.size w2 wx)
  case first =>
   have bj:X.cell? ⟨W,14,none⟩=some (.pointer (some ⟨nm,0,none⟩)):=(zw G.o 14 _ B.o.cells.nee).1
   go_region_with (first
    | (go_at_call 173;refine(av.o _).mono ?_;rintro r w3 ⟨rfl,L⟩;have t:=zf (zbb L);have aN:w3.cell? ⟨W,14,none⟩=some (.pointer (some ⟨nm,0,none⟩)):=(zw ((t.o.block _ (zi G.o)).trans G.o) 14 _ B.o.cells.nee).1;clear L)
    | (go_at_call 172;refine(ar.o w3 (by exact D.o.trans (t.o.mono D.o.size))).mono ?_;rintro r w4 ⟨rfl,M⟩;have aq:=zf ((D.o.trans (t.o.mono D.o.size)).trans (M.mono (D.o.trans (t.o.mono D.o.size)).size));clear M))
   all_goals go_wp2_with fail
   all_goals go_meet
   all_goals exact⟨rfl,rfl,aq.o⟩
  case rest =>
   obtain⟨rfl,rfl,aQ⟩:=hcut;obtain⟨Y,hY⟩:∃ Y,Y=wc:=⟨_,rfl⟩;subst hY;have p:=zf aQ;clear aQ D G au ar;rcases af.o with ⟨rfl,rfl,aa⟩ | ⟨rfl,bb,E,g,ls,rfl,ap,aa,bk,aA,an,al⟩
   ·go_wp2_with fail
    first | go_end0 | refine z8 (zcg rfl _ _ _) rfl ?_
    rw [aJ.o,aa];exact⟨rfl,aL.o.then_below p.o,B.o.below p.o⟩
   ·rcases ag.o with ⟨rfl,rfl,ab⟩ | ⟨rfl,bq,l,z,bf,rfl,Q,ab,aO,aB,ao,am⟩
    ·exact absurd ab aZ.o
    ·have aW:l≠E:=by
      intro e;subst e;have:=zs8 K.o (zm9 Q) (zm9 ap) rfl;simp only [ye] at this;have h2:=this.2.1;unfold zv at h2;simp only [ye] at h2;omega
     have ba:=zf aW;have aG:Hid (yu Y l z):=(p.o.block _ (zi aB)).trans aB;have a5:Hid (yu Y E g):=(p.o.block _ (zi aA)).trans aA;have ay:=zf ao;have H:=zf an;have bg:=zf (am.below p.o);have bh:=zf (al.below p.o);have a6:=zf Q;have aE:=zf aO;have aH:=zf aa;have aI:=zf ab;have a3:=zf (B.o.below p.o);have a8:=zf (a7.o.below p.o (fun _ h=>h));have bc:Hid (zbi (NdR Y A) LN nd):=a9.o.mono (fun a' _ b' hr=>⟨hr.1,hr.2.turn (O:=fun _=>False) (T:=[]) (.of_below p.o) (by simp) (by simp) (fun _ h=>h)⟩);clear aW aB aA ao an am al Q ap aa ab aO bk ag af;go_wp2_with fail;go_loopw [42,12] (fun ix _ wr=>∃ q:Nat,q≤4∧ix= .int .i64 q∧zq (fun x=>x=l) [xg] Y wr∧yu wr l (zjz g q z)∧yu wr E g) (fun ix _ _=>4 - (intOf ix).toNat)
     case atStart=>exact⟨0,by omega,rfl,zq.refl _ _ _,aG.o,a5.o⟩
     case round =>
      obtain⟨q,hq,rfl,ht,I,hl⟩:=hrel
      by_cases aV:q < 4
      ·have hz:=z0o (ys:=g) ay.o q;have u:q < (zjz g q z).length:=by rw [hz.1];exact aV
       have U:q < g.length:=by rw [H.o.1];exact aV
       have c0:wr.cell? ⟨l,q*11,none⟩=some (.bool ((zjz g q z).getD q .no).there):=by
        have:=(I.cell hz.2 u (j:=0) (v:= .bool (zjz g q z)[q].there) (by omega) rfl).1;rw [zjd u] at this;exact this
       obtain⟨c1,z1⟩:=I.cell hz.2 u (j:=1) (v:= .bool (zjz g q z)[q].fits) (by omega) rfl;rw [zjd u] at c1;have d1:wr.cell? ⟨E,q*11+1,none⟩=some (.bool (g.getD q .no).fits):=by
        have:=(hl.cell H.o.2 U (j:=1) (v:= .bool g[q].fits) (by omega) rfl).1;rw [zjd U] at this;exact this
       have aC:=(zhc hz q).1;have aD:=(zhc H.o q).1;have br:∀ n,(zez (.pointer (some ⟨l,q*11+2,none⟩))).run prog (wr.drewN n)= .ok (.agg (hv ((zjz g q z).getD q .no).hash)) (wr.drewN n):=fun n=>by
        refine za5 (w:=wr.drewN n) ?_ aC;have:=yu.hash (w:=wr.drewN n) (xs:=zjz g q z) (fb:=l) I hz.2 u;rw [zjd u] at this;exact this
       have bs:∀ n,(zez (.pointer (some ⟨E,q*11+2,none⟩))).run prog (wr.drewN n)= .ok (.agg (hv (g.getD q .no).hash)) (wr.drewN n):=fun n=>by
        refine za5 (w:=wr.drewN n) ?_ aD;have:=yu.hash (w:=wr.drewN n) (xs:=g) (fb:=E) hl H.o.2 U;rw [zjd U] at this;exact this
       have aU:=fun w0=>zoo ((zjz g q z).getD q .no).hash (g.getD q .no).hash aC aD w0;have F:Hid (zjz g (q+1) z=if zrh ((zjz g q z).getD q .no) (g.getD q .no) then (zjz g q z).set q { (zjz g q z).getD q .no with fits:=true } else zjz g q z):=rfl;have bi:Hid (({ (zjz g q z).getD q .no with fits:=true }:Px).ok):=⟨(zhc hz q).1,(zhc hz q).2⟩;have a4:=zf (fun n=>yu.set1 (w:=wr.drewN n) I hz.2 u (j:=1) (v:= .bool true) (x:={ (zjz g q z).getD q .no with fits:=true }) (by omega) bi.o (by rw [zjd u];rfl));have aM:Hid (∀ n,zq (fun x=>x=l) [xg] Y ((wr.drewN n).setCell ⟨l,q*11+1,none⟩ (.bool true))∧yu ((wr.drewN n).setCell ⟨l,q*11+1,none⟩ (.bool true)) E g):=fun n=>by
        have t1:=(ht.drewN n).set (o:=q*11+1) (.inl rfl) I (by simp) (.bool true);have t2:zq (fun x=>x=l) [xg] wr ((wr.drewN n).setCell ⟨l,q*11+1,none⟩ (.bool true)):=((zq.refl (fun x=>x=l) [xg] wr).drewN n).set (o:=q*11+1) (.inl rfl) I (by simp) (.bool true);exact⟨t1,t2.stay hl (fun e=>ba.o e.symm)⟩
       have HT:=zf ht;have HF:=zf I;have HL:=zf hl;have i0:(0:Int)≤(q:Int):=by omega
       have i1:(q:Int) < 4:=by omega
       clear ht I hl hz u U aC aD;generalize bm:(zjz g q z).getD q .no=x at *;generalize bn:g.getD q .no=y at *;clear bm bn;generalize zjz g q z=xq at *;cases ha:x.there with
       | false =>
        rw [ha] at c0;go_wp2_with fail
        go_quiet (fail)
        go_wp2_with fail
        go_roundw
        case rel=>exact⟨q+1,by omega,by go_num,HT.o.drewN _,by rw [F.o,if_neg (by unfold zrh;rw [ha];simp)];exact HF.o,HL.o⟩
        case measure=>simp [intOf];omega
       | true =>
        rw [ha] at c0;cases Z:y.fits with
        | false =>
         rw [Z] at d1;go_wp2_with fail
         go_quiet (fail)
         go_wp2_with fail
         go_roundw
         case rel=>exact⟨q+1,by omega,by go_num,HT.o.drewN _,by rw [F.o,if_neg (by unfold zrh;rw [ha,Z];simp)];exact HF.o,HL.o⟩
         case measure=>simp [intOf];omega
        | true =>
         rw [Z] at d1;cases he:eqH x.hash y.hash with
         | false =>
          rw [he] at aU;go_wp2_with fail
          go_quiet (fail)
          go_wp2_with fail
          go_roundw
          case rel=>exact⟨q+1,by omega,by go_num,HT.o.drewN _,by rw [F.o,if_neg (by unfold zrh;rw [ha,Z,he];simp)];exact HF.o,HL.o⟩
          case measure=>simp [intOf];omega
         | true =>
          rw [he] at aU;go_wp2_with fail
          go_quiet (fail)
          go_wp2_with fail
          go_roundw
          case rel=>exact⟨q+1,by omega,by go_num,(aM.o _).1,by rw [F.o,if_pos (by unfold zrh;rw [ha,Z,he];rfl)];exact a4.o _,(aM.o _).2⟩
          case measure=>simp [intOf];omega
      ·obtain rfl:q=4:=by omega
       have Z:=ykj (bg.o.turn ht (by decide)) (bh.o.turn ht (by decide));rw [z2g ay.o H.o] at I;have aP:zq A [xg] Y wr:=ht.mono (fun b Z=>by rw [Z];exact aE.o) (fun _ h=>h);go_wp2_with fail
       first | go_end0 | refine z8 (zcg rfl _ _ _) rfl ?_
       rw [aJ.o,aH.o,aI.o];exact⟨rfl,(aL.o.then_below p.o).trans (aP.mono (fun _ h=> .inl h) (fun _ h=>h)),a3.o.setNd aP (zod.setF a8.o bc.o K.o a6.o ht aG.o I (ykk ay.o H.o) Z aE.o) (Mm.set_len _ _ _)⟩
end
section
attribute [local go_sem ↓] jy jn j4 jo ji jh j3 jm
theorem z7c (f:Fl)(k:Nat):zby f k=f.set k { f.getD k .no with fits:=true }:=by
 unfold zby;apply List.ext_getElem?;intro i;rw [List.getElem?_modify,zqb]
 by_cases a:k=i
 ·subst a
  by_cases b:k < f.length
  ·simp [b,zl]
  ·simp [b]
 ·simp [a]
def trC (n:Nat)(a:zc):List Value:= .int .i64 n::a.map bv
theorem zum (W0:World)(O A OP:Nat→Prop)(cb nb db pm nm:Nat)(C:Array Value)(d:Dk)(ad:Int)(pr:Mm)(g k e:Nat)(aI:g < 9223372036854775808)(h1:1≤e)(am:e < 9223372036854775808)(f:zc)(h8:f.length=8)(m:Ms Nt)(w:World)(a6:zjx W0)(br:WdN m.needed)(be:CS W0 w O A OP cb nb db pm nm C d ad pr m k):
  Calls prog 120 #[yx cb,.int .i64 g,.agg (trC e f).toArray] w fun r w'=>r= .returned (.tuple #[])∧zq A [xg] w w'∧CS W0 w' O A OP cb nb db pm nm C d ad pr { m with needed:=zfy g m.needed e f } k:=by
 obtain⟨bg,b6,-⟩:=zg3 e h1 (by omega);have bW:1≤e / 4 ^ lvl e:=Nat.div_pos (Nat.le_of_dvd h1 bg) (jp (by omega));have bo:e / 4 ^ lvl e≤e:=zec _ _;obtain⟨J,hJ⟩:∃ J,J=e / 4 ^ lvl e - 1:=⟨_,rfl⟩;have bd:((qg ((lvl e:Nat):Int) e:Nat):Int)=(J:Int)+1:=by unfold qg;rw [yj];omega
 have bx:=zf bd;have bQ:=zf (fun w (hT:zjx w)=>z9n e (by omega) (by omega) w hT);have bB:=zf (fun(x:Nat) (hx:x < 9223372036854775808) w=>zj9 ((lvl e:Nat):Int) (by omega) (by omega) x hx w);have HQ:Hid (((Lib.ctz 64 e:Nat):Int) / 2=((lvl e:Nat):Int)):=by show _=_;unfold lvl;omega
 have bq:IntKind.u64.wrap (e:Int)=(e:Int):=by
  have h1:(e:Int) < 18446744073709551616:=by omega
  have h0:0≤(e:Int):=by omega
  simp [IntKind.wrap,IntKind.bits,IntKind.signed];omega
 have B:J < 9223372036854775808:=by omega
 have aX:=zf (zr1 g aI ((lvl e:Nat):Int) (by omega) (by omega) J B);have aW:=zf (fun w=>zhu g aI ((lvl e:Nat):Int) (by omega) (by omega) J B w);have W:=zf (fun(x:zc) (hx:x.length=8) (m':Ms Nt) K (bZ:WdN m'.needed) bf=>zxk W0 O A OP cb nb db pm nm C d ad pr g k aI 64 (lvl e) J x m' K (by omega) (by omega) B hx bZ bf);have af:Hid (zfy g m.needed e f=match m.needed.get (zv g ((lvl e:Nat):Int) J) with
  | none=>m.needed
  | some fl =>
   if J=0 then zai g 64 m.needed (lvl e) 0 f
   else if J=1 then
    (if jx (fl.getD 0 .no).hash (fl.getD 1 .no).hash=f then zai g 64 (m.needed.set (zv g ((lvl e:Nat):Int) 1) (zby fl 0)) (lvl e) 1 (fl.getD 1 .no).hash else m.needed)
   else zai g 64 m.needed (lvl e) J (fl.getD (J % 4) .no).hash):=by rw [hJ];rfl
 have bC:=zf be;have aA:=zf br;have H8:=zf h8;have bP:=zf a6;have HN:Hid (e < 9223372036854775808∧J < 9223372036854775808):=⟨am,B⟩;clear be br h8 a6 hJ bg bW bo am h1 bd B;generalize lvl e=L at *;generalize Lib.ctz 64 e=Z at *;unfold yx;go_enter func120,ntmps120;have a3:Below w.heap.size w (w.alloc (.cells (trC e f).toArray 112)):=zk w _;have aC:(w.alloc (.cells (trC e f).toArray 112)).heap[w.heap.size]?=some (.cells (trC e f).toArray 112 (0,0)):=zg _ _;have t0:(w.alloc (.cells (trC e f).toArray 112)).cell? ⟨w.heap.size,0,none⟩=some (.int .i64 e):=(zw aC 0 _ rfl).1;have aQ:=zf a3;have a0:=zf aC;clear a3 aC;go_wp2_with fail;clear bq;generalize w.alloc (.cells (trC e f).toArray 112)=W1 at *;have HC:=zf (bC.o.below aQ.o);refine(bQ.o W1 (bP.o.below HC.o.base)).mono ?_;rintro r w1 ⟨rfl,rfl⟩;have bs:wrap64 (L:Int)=(L:Int):=by unfold wrap64;omega
 go_wp2_with fail;rw [HQ.o,bs];refine(bB.o e HN.o.1 w1).mono ?_;rintro r w2 ⟨rfl,rfl⟩;rw [bx.o];have b0:wrap64 ((J:Int)+1 - 1)=(J:Int):=by have:=HN.o.2;unfold wrap64;omega
 have an:wrap64 (J:Int)=(J:Int):=by have:=HN.o.2;unfold wrap64;omega
 obtain⟨LN,aG,aH,ab⟩:=HC.o.nee;obtain⟨a,b,a7,al⟩:=z0u aG aH (zv g (L:Int) J) aX.o;have aP:=zf a7;have U:=zf al;have bJ:=zf aG;have bM:=zf aH;have ax:=zf ab;unfold yx at U;have ar:=zf HC.o.cli;clear aG aH ab a7 al bs;go_wp2_with fail;rw [an];clear b0 an;go_cut [8,9] from 21 to 32 (fun s8 s9 wx=>s8= .pointer a∧s9= .bool b∧Below w2.heap.size w2 wx)
 case first =>
  have cd:w2.cell? ⟨cb,14,none⟩=some (.pointer (some ⟨nm,0,none⟩)):=(zw ar.o 14 _ HC.o.cells.nee).1
  go_region_with (first
   | (go_at_call 173;refine(aW.o _).mono ?_;rintro r w3 ⟨rfl,a8⟩;have ae:=zf (zbb a8);have b5:w3.cell? ⟨cb,14,none⟩=some (.pointer (some ⟨nm,0,none⟩)):=(zw ((ae.o.block _ (zi ar.o)).trans ar.o) 14 _ HC.o.cells.nee).1;clear a8)
   | (go_at_call 172;refine(U.o w3 (by exact ae.o)).mono ?_;rintro r w4 ⟨rfl,a9⟩;have bw:=zf (ae.o.trans (a9.mono ae.o.size));clear a9))
  all_goals go_wp2_with fail
  all_goals go_meet
  all_goals exact⟨rfl,rfl,bw.o⟩
 case rest =>
  obtain⟨rfl,rfl,aa⟩:=hcut;obtain⟨X,hX⟩:∃ X,X=wc:=⟨_,rfl⟩;subst hX;have E:=zf aa;have a2:Hid (X.heap[w.heap.size]?=some (.cells (trC e f).toArray 112 (0,0))):=(aa.block _ (zi a0.o)).trans a0.o;have au:=zf (HC.o.below aa);have az:Hid (zq A [xg] w X):=(zq.of_below aQ.o).then_below aa;clear aa U t0;rcases aP.o with ⟨rfl,rfl,hg⟩ | ⟨rfl,bb,fb,p,fl,rfl,bk,hg,hA,hf,G,ah⟩
  ·go_wp2_with fail
   first | go_end0 | refine z8 (zcg rfl _ _ _) rfl ?_
   rw [af.o,hg];exact⟨rfl,az.o,au.o⟩
  ·have aD:yu X fb p:=(E.o.block _ (zi hf)).trans hf;obtain⟨kk,aE⟩:∃ kk,kk=J % 4:=⟨_,rfl⟩;have bp:(J:Int) % 4=(kk:Int):=by omega
   have bj:kk < 4:=by omega
   have aF:kk < p.length:=by rw [G.1];exact bj
   have s:0 < p.length:=by rw [G.1];omega
   have ai:=(zhc G kk).1;have ch:(zez (.pointer (some ⟨fb,kk*11+2,none⟩))).run prog X= .ok (.agg (hv (p.getD kk .no).hash)) X:=by
    refine za5 ?_ ai;have:=yu.hash aD G.2 aF;rw [zjd aF] at this;exact this
   have HG:Hid (∀ y:zc,y.length=8→(zj0 (.pointer (some ⟨X.heap.size,0,none⟩)) (.agg (hv y))).run prog (X.alloc (.cells zcf 110))= .ok () ((X.alloc (.cells zcf 110)).setCells X.heap.size 0 (y.map bv))∧((X.alloc (.cells zcf 110)).setCells X.heap.size 0 (y.map bv)).heap[X.heap.size]?=some (.cells (y.map bv).toArray 110 (0,0))∧Below X.heap.size X ((X.alloc (.cells zcf 110)).setCells X.heap.size 0 (y.map bv))):=by
    intro y hy;have bi:(X.alloc (.cells zcf 110)).heap[X.heap.size]?=some (.cells (vg.map bv).toArray 110 (0,0)):=zg _ _;have bV:=zb2 bi (ds:=y.map bv) (by simp [hy,vg]);exact⟨zgp (by have:=zb1 bi;simpa [vg] using this) hy,bV,xn (zk _ _) (zm _) _ _⟩
   obtain⟨bY,bu,bc⟩:=HG.o _ ai;have b9:=zf aE;have HF:=zf aD;have t:=zf G;have bD:=zf (ah.below E.o);have bI:=zf bk;have aw:=zf hg;have HA:=zf hA;have u:=zf ai;have F:=zf bu;have q:=zf bc;have a1:Hid ((p.getD kk .no).hash=(fl.getD (J % 4) .no).hash):=by show _=_;rw [← aE];exact(ah.2.2 kk bj).hash
   have bR:Hid ((p.getD 0 .no).hash=(fl.getD 0 .no).hash):=(ah.2.2 0 (by omega)).hash;have aO:=zf (zhc G 0).1;have bH:Hid (∀ K,yu K fb p→(zez (.pointer (some ⟨fb,2,none⟩))).run prog K= .ok (.agg (hv (p.getD 0 .no).hash)) K):=fun K bU=>by
    refine za5 ?_ aO.o;have:=yu.hash bU t.o.2 s;rw [zjd s] at this;simpa using this
   clear aD G ah bk hg hA hf aF aE HG ai bu bc aP s;generalize (p.getD kk .no).hash=M at *;generalize (p.getD 0 .no).hash=aN at *;have av:Hid (yu ((X.alloc (.cells zcf 110)).setCells X.heap.size 0 (M.map bv)) fb p):=(q.o.block _ (zi HF.o)).trans HF.o;have aS:=zf (au.o.below q.o);have aZ:=zf (az.o.then_below q.o);have ay:Hid (((X.alloc (.cells zcf 110)).setCells X.heap.size 0 (M.map bv)).heap[w.heap.size]?=some (.cells (trC e f).toArray 112 (0,0))):=(q.o.block _ (zi a2.o)).trans a2.o;have ce:X.heap.size < ((X.alloc (.cells zcf 110)).setCells X.heap.size 0 (M.map bv)).heap.size:=zi F.o;have bm:(zez (.pointer (some ⟨w.heap.size,1,none⟩))).run prog ((X.alloc (.cells zcf 110)).setCells X.heap.size 0 (M.map bv))= .ok (.agg (hv f)) ((X.alloc (.cells zcf 110)).setCells X.heap.size 0 (M.map bv)):=by
    refine za5 ?_ H8.o;intro j v aK;have:=j6 ay.o (1+j) v (by unfold trC;rw [zsk,zac];exact aK);rw [xk] at this;exact this
   have bl:=za5 (j6 F.o) u.o
   by_cases j0:J=0
   ·have b1:((J:Int)==0)=true:=by simp [j0]
    have J0:=zf j0;clear j0;have aJ:=zb1 F.o;rw [yi,u.o] at aJ;have bY:=zgp aJ H8.o;have bt:=zb2 F.o (ds:=f.map bv) (by rw [yi,yi,u.o,H8.o]);have aB:Below X.heap.size X (((X.alloc (.cells zcf 110)).setCells X.heap.size 0 (M.map bv)).setCells X.heap.size 0 (f.map bv)):=xn q.o (zm _) _ _;have cf:=za5 (j6 bt) H8.o;have bz:=zf (au.o.below aB);have bO:=zf (az.o.then_below aB);have n:=zf (W.o f H8.o m _ aA.o bz.o);unfold yx at n;clear aJ bt aB;go_wp2_with fail;refine n.o.mono ?_;rintro r w9 ⟨rfl,D,i⟩;have Y:=zf D;have S:=zf i;clear D i n;go_wp2_with fail
    first | go_end0 | refine z8 (zcg rfl _ _ _) rfl ?_
    have l:=af.o;rw [aw.o] at l;simp only [J0.out,if_true] at l;have i:=S.o;rw [J0.out] at i;rw [l];exact⟨rfl,bO.o.trans (Y.o.mono (fun _ h=> .inl h) (fun _ h=>h)),i⟩
   ·have b1:((J:Int)==0)=false:=by simpa using (by omega:¬(J:Int)=0)
    by_cases j1:J=1
    ·have b2:((J:Int)==1)=true:=by simp [j1]
     have J1:=zf j1;clear j1 j0;obtain⟨N,hN,a4,a5⟩:∃ N,N=jx aN M∧N.length=8∧∀ w',Calls prog 104 #[.agg (hv aN),.agg (hv M)] w' fun r b4=>r= .returned (.agg (hv N))∧Below w'.heap.size w' b4:=⟨_,rfl,vb _ _,fun w'=>zgd _ _ w' aO.o u.o⟩;have bL:=zf a5;have HN:=zf hN;have ci:=fun K=>z35 N f a4 H8.o K;clear a5 hN a4;go_wp2_with fail;generalize (X.alloc (.cells zcf 110)).setCells X.heap.size 0 (M.map bv)=V at *;clear bp;go_cut [58] from 49 to 57 (fun b3 wx=>b3= .bool (!eqH N f)∧Below V.heap.size V wx)
     case first =>
      have l1:(zez (.pointer (some ⟨fb,2,none⟩))).run prog V.drew= .ok (.agg (hv aN)) V.drew:=bH.o V.drew av.o;have l2:(zez (.pointer (some ⟨X.heap.size,0,none⟩))).run prog V.drew= .ok (.agg (hv M)) V.drew:=za5 (w:=V.drew) (j6 (w:=V.drew) F.o) u.o;have aV:Hid (∀ K,Below V.heap.size V K→(zez (.pointer (some ⟨w.heap.size,1,none⟩))).run prog K= .ok (.agg (hv f)) K):=fun K bT=>by
       have bX:K.heap[w.heap.size]?=some (.cells (trC e f).toArray 112 (0,0)):=(bT.block _ (zi ay.o)).trans ay.o;refine za5 ?_ H8.o;intro j v aK;have:=j6 bX (1+j) v (by unfold trC;rw [zsk,zac];exact aK);rw [xk] at this;exact this
      have l3:=aV.o V.drew (yf _ V).drew;clear bl bm
      go_region_with (go_at_call 104;refine(bL.o _).mono ?_;rintro r w5 ⟨rfl,ba⟩;have aR:=zf (zbb ba);have l5:=aV.o w5 aR.o;clear ba)
      all_goals go_wp2_with fail
      all_goals go_meet
      all_goals exact⟨rfl,aR.o⟩
     case rest =>
      obtain⟨rfl,Q⟩:=hcut;obtain⟨P,bS⟩:∃ P,P=wc:=⟨_,rfl⟩;subst bS;have aq:=zf Q;have R:yu P fb p:=(Q.block _ (zi av.o)).trans av.o;have b8:=zf R;have aL:P.heap[X.heap.size]?=some (.cells (M.map bv).toArray 110 (0,0)):=(Q.block _ (zi F.o)).trans F.o;have cc:=zf aL;have aU:=zf (aS.o.below Q);have ak:=zf (aZ.o.then_below Q);have l:=af.o;rw [aw.o] at l;simp only [J1.out,if_true,Nat.one_ne_zero,zd3] at l;have I:=a1.o;rw [J1.out] at I;simp only [Nat.reduceMod] at I;rw [← bR.o,← I,← HN.o] at l;have aj:=zf l;clear Q l bm bl I;cases he:eqH N f with
      | false =>
       have bn:¬ N=f:=by simpa [eqH] using he
       go_wp2_with fail
       first | go_end0 | refine z8 (zcg rfl _ _ _) rfl ?_
       rw [aj.o,if_neg bn];exact⟨rfl,ak.o,aU.o⟩
      | true =>
       have bh:N=f:=by simpa [eqH] using he
       have s:0 < p.length:=by rw [t.o.1];omega
       obtain⟨c1,z1⟩:=R.cell t.o.2 s (j:=1) (v:= .bool p[0].fits) (by omega) rfl;have aM:({ p.getD 0 .no with fits:=true }:Px).ok:=⟨(zhc t.o 0).1,(zhc t.o 0).2⟩;have ag:=R.set1 t.o.2 s (j:=1) (v:= .bool true) (x:={ p.getD 0 .no with fits:=true }) (by omega) aM (by rw [zjd s];rfl);have H:=(zq.refl (fun b=>b=fb) [xg] P).set (o:=0*11+1) (.inl rfl) R (by simp) (.bool true);rw [zjd s] at c1;simp only [zsn,xk] at c1 z1 ag H;have b7:=zf ag;have ca:=zf H;have ao:(P.setCell ⟨fb,1,none⟩ (.bool true)).heap[X.heap.size]?=some (.cells (M.map bv).toArray 110 (0,0)):=H.keep aL (by decide);have cg:=za5 (j6 ao) u.o;have bF:Hid (zdj P p fl):=(bD.o.below q.o).below aq.o;have bG:Hid (FOk (p.set 0 { p.getD 0 .no with fits:=true })):=⟨by rw [zg0];exact t.o.1,ztn t.o.2 0 aM⟩;have aY:Hid (zq A [xg] P (P.setCell ⟨fb,1,none⟩ (.bool true))):=H.mono (fun b hb=>by rw [hb];exact HA.o) (fun _ h=>h);have bE:Hid (zdj (P.setCell ⟨fb,1,none⟩ (.bool true)) (p.set 0 { p.getD 0 .no with fits:=true }) (zby fl 0)):=by
        have h1:=bF.o.turn H (by decide);have h2:=h1.2.2 0 (by omega);have:=yjp h1 0 (z:={ p.getD 0 .no with fits:=true }) (c:={ fl.getD 0 .no with fits:=true }) ⟨h2.there,rfl,h2.hash,h2.ent⟩;rw [z7c];exact this
       have bK:Hid (zen P A nm zgx LN):=((bJ.o.below E.o (fun _ h=>h)).below q.o (fun _ h=>h)).below aq.o (fun _ h=>h);have ap:Hid (Below w2.heap.size w2 P):=(E.o.trans (q.o.mono E.o.size)).trans (aq.o.mono (E.o.trans (q.o.mono E.o.size)).size);have bN:Hid (zbi (NdR P A) LN m.needed):=bM.o.mono (fun a' _ b' hr=>⟨hr.1,hr.2.turn (O:=fun _=>False) (T:=[]) (.of_below ap.o) (by simp) (by simp) (fun _ h=>h)⟩);have bA:=zf (aU.o.setNd aY.o (zod.setF bK.o bN.o ax.o bI.o H R ag bG.o bE.o HA.o) (Mm.set_len _ _ _));have n:=zf (W.o M u.o _ _ (aA.o.set _ _) bA.o);unfold yx at n;clear ag H ao aM aL R s;go_wp2_with fail;refine n.o.mono ?_;rintro r w9 ⟨rfl,D,i⟩;have Y:=zf D;have S:=zf i;clear D i n;go_wp2_with fail
       first | go_end0 | refine z8 (zcg rfl _ _ _) rfl ?_
       have i:=S.o;rw [J1.out] at i;rw [aj.o,if_pos bh];exact⟨rfl,(ak.o.trans (aY.o.mono (fun _ h=> .inl h) (fun _ h=>h))).trans (Y.o.mono (fun _ h=> .inl h) (fun _ h=>h)),i⟩
    ·have b2:((J:Int)==1)=false:=by simpa using (by omega:¬(J:Int)=1)
     have n:=zf (W.o M u.o m _ aA.o aS.o);unfold yx at n;go_wp2_with fail;refine n.o.mono ?_;rintro r w9 ⟨rfl,D,i⟩;have Y:=zf D;have S:=zf i;clear D i n;go_wp2_with fail
     first | go_end0 | refine z8 (zcg rfl _ _ _) rfl ?_
     have l:=af.o;rw [aw.o] at l;simp only [j0,j1,zd3] at l;rw [l,← a1.o];exact⟨rfl,aZ.o.trans (Y.o.mono (fun _ h=> .inl h) (fun _ h=>h)),S.o⟩
end
theorem z0v (u:FrameMode)(O:Nat→Prop)(k s d:Nat)(q:Int)(l:Ks)(o n:Option Addr)(w:World)(G:O k∧O s∧O d)(h:w.heap[k]?=some (.cells #[.int .i64 q,.map (some s),yx d] MeN (0,0)))
 (i:w.heap[d]?=some (.cells #[.int .i64 0,.int .i64 0,.int .i64 0,.pointer none,.pointer o,.pointer n] LkN (0,0))) (b:zb6 w s l) :
  CallsD prog 106 #[yx k] u w fun r M D=>M=u∧(r= .returned (.tuple #[])∧zq O [LkN] w D∧zen D O k q []∧D.heap.size=w.heap.size):=by
 obtain⟨p,A,j,f⟩:=b.clear underlying208 0;have B:p.heap.size=w.heap.size:=by
  obtain⟨es,c,J⟩:=b.isMap;have e:=A;simp [Builtin.clear_,zcu underlying208,zkw J,zkx _ J,Result.andThen] at e;rw [← e];simp
 have g:=(f.block k (zi h) (b.not h)).trans h;have a:=(f.block d (zi i) (b.not i)).trans i;have T:w.cell? ⟨k,1,none⟩=some (.map (some s)):=(zw h 1 _ rfl).1;have U:p.cell? ⟨k,2,none⟩=some (.pointer (some ⟨d,0,none⟩)):=(zw g 2 _ rfl).1;have P:p.cell? ⟨d,4,none⟩=some (.pointer o):=(zw a 4 _ rfl).1;have R:p.frozen? ⟨d,4,none⟩=false:=(zw a 4 _ rfl).2;have Q:p.cell? ⟨d,5,none⟩=some (.pointer n):=(zw a 5 _ rfl).1;have S:p.frozen? ⟨d,5,none⟩=false:=(zw a 5 _ rfl).2;have N:¬ d=k:=fun e=>by
  have I:some (Obj.cells _ _ _)=some (Obj.cells _ _ _):=a.symm.trans (by rw [e];exact g);simp only [zr,vw] at I;exact absurd I.2.1 (by decide)
 have K:¬ k=d:=fun e=>N e.symm;have y:=zf G;have v:=zf j;have F:Hid (zq O [LkN] w p):=(zq.refl O [LkN] w).map (.inl G.2.1) b f;have m:=zf (And.intro g a);have E:=zf B;unfold yx;clear G b h i j f g a B;refine callsD_of_wp func106 rfl ?_;simp only [ntmps106,xf,y9,jc,Nat.reduceAdd,Nat.reduceSub,Array.replicate_succ,Array.replicate_zero,List.push_toArray,List.append_toArray,zal,zak];go_wp2_with fail
 go_region_held3 (fun D=>D.cell? ⟨k,2,none⟩=some (.pointer (some ⟨d,0,none⟩))) (go_keep) (fail)
 rename_i t;clear t;go_wp2_with fail
 go_end0
 have z:=zav m.o.2 4 (.pointer (some ⟨d,0,none⟩));have H:=zav z 5 (.pointer (some ⟨d,0,none⟩));refine⟨rfl,((F.o.set (.inl y.o.2.2) m.o.2 (by simp) _).set (.inl y.o.2.2) z (by simp) _).drew,⟨s,d,fun _=>d,fun _=>d,⟨y.o.1,y.o.2.1,y.o.2.2,fun x C=>by simp at C⟩,?_,⟨H,fun x C=>by simp at C,zst d⟩,?_,fun x C=>by simp at C⟩,?_⟩
 ·show((p.setCell _ _).setCell _ _).heap[k]?=_;rw [yh _ _ _ _ K,yh _ _ _ _ K];exact m.o.1
 ·refine v.o.same ?_;show((p.setCell _ _).setCell _ _).heap[s]?=_;have L:s≠d:=fun e=>v.o.not m.o.2 (by rw [e]);rw [yh _ _ _ _ L,yh _ _ _ _ L]
 ·simp [World.setCell,World.drew,E.o]
theorem zf8 (u:FrameMode)(O:Nat→Prop)(b:Nat)(a:Int)(L:LsN)(w:World)(h:zen w O b a L):
  CallsD prog 106 #[yx b] u w fun r f c=>f=u∧(r= .returned (.tuple #[])∧zq O [LkN] w c∧zen c O b a []∧c.heap.size=w.heap.size):=by
 obtain⟨e,d,g,i,h⟩:=h;exact z0v u O b e d a L.ks _ _ w ⟨h.own.1,h.own.2.1,h.own.2.2.1⟩ h.mem h.ring.ends h.map
end Go.Proofs.YtlcllcgngjhoaaaGreatDoor
