import Derived.Test.YtfdbeldiomkdiaaGreatDoorG33
set_option maxHeartbeats 8000000
set_option maxRecDepth 100000
set_option linter.all false
namespace Go.Proofs.YtfdbeldiomkdiaaGreatDoor
open Go.RowKit Go.Proofs.Tryz
variable {A:Nat->Prop}{LN:Ek}{f:Fl}{k nm:Nat}{nd:Mm}{w:World}{xs ys:List Px}
section
attribute [local go_sem ↓] j9 jx ve jy ju jt vd jw
def Nd (x y:Px):Bool:=x.there&&y.fits&&Kh x.hash y.hash
def GI (b:List Px):Nat->List Px->List Px
 |0,a=>a
 |k+1,a=>if Nd ((GI b k a).getD k .no) (b.getD k .no) then (GI b k a).set k {(GI b k a).getD k .no with fits:=true} else GI b k a
def XP (c d:List Px):List Px:=List.zipWith (λa b=>if Nd a b then {a with fits:=true} else a) c d
def Ua {ys:List Px}(a:FR xs):∀k,FR (GI ys k xs)
 |0=>a
 |k+1=>by
  have:=Ua (ys:=ys) a k;unfold GI;split
  ·exact⟨by simp[this.1],OG this.2 k ⟨(EW this k).1,(EW this k).2⟩⟩
  ·exact this
def Vl (m:FR xs)(n:FR ys):GI ys 4 xs=XP xs ys:=by
 obtain⟨a,b,c,d,rfl⟩:=M0 m.1;obtain⟨e,f,g,h,rfl⟩:=M0 n.1;simp only[GI,XP,List.zipWith_cons_cons,List.zipWith_nil_right];cases i:Nd a e<;>cases j:Nd b f<;>cases k:Nd c g<;>cases l:Nd d h<;>simp[i,j,k,l]
def zjx {g:Fl}(h:C8 w xs f)(n:C8 w ys g):C8 w (XP xs ys) (GU f g):=by
 obtain⟨i,c,b⟩:=h;obtain⟨j,d,e⟩:=n;refine⟨by simp[XP,i,j],by simp[GU,c,d],λk a=>?_⟩;have l:(XP xs ys).getD k .no=if Nd (xs.getD k .no) (ys.getD k .no) then {xs.getD k .no with fits:=true} else xs.getD k .no:=by
  unfold XP;have o:k<xs.length:=by omega
  have p:k<ys.length:=by omega
  simp only[zj,IT,zo o,zo p,AX]
 have m:Nd (xs.getD k .no) (ys.getD k .no)=((f.getD k .no).there&&(g.getD k .no).fits&&decide ((f.getD k .no).hash=(g.getD k .no).hash)):=by
  unfold Nd Kh;rw[(b k a).there,(e k a).fits,(b k a).hash,(e k a).hash]
 rw[l,Lf f g c d k a,m];split
 ·exact⟨(b k a).there,rfl,(b k a).hash,(b k a).bA⟩
 ·exact b k a
def zjy (a:FR xs)(b:FR ys):FR (XP xs ys):=by rw[<- Vl a b];exact Ua a 4
def Uo (e:Dj w A nm FI LN)(l:AS (NdR w A) LN nd)(p:Pl)(m:FV p):∃(a:Option Addr) (b:Bool),
  ((b=false/\a=none/\nd.get p=none)\/(b=true/\∃n d g f,a=some ⟨d,0,none⟩/\LN.get p=some (n,yu d)/\nd.get p=some f/\A d/\xy w d g/\FR g/\C8 w g f)) /\
  ∀c,zc w c->Calls prog 228 #[yu nm,Fc p] c λr u=>r=.returned (.tuple #[.pointer a,.bool b])/\zc c u:=by
 rcases KX.get l p with ⟨i,j⟩|⟨b,v,f,i,j,⟨d,g,rfl,o,q,t,s⟩,-⟩
 ·exact⟨none,false,.inl ⟨rfl,rfl,j⟩,λc k=>Us A nm FI LN _ m c (e.below k (λ_ h=>h)) i⟩
 ·exact⟨_,true,.inr ⟨rfl,b,d,g,f,rfl,i,j,o,q,t,s⟩,λc k=>Q4 A nm FI LN _ m c (e.below k (λ_ h=>h)) b _ i⟩
def Gv (a:k<xs.length):xs[k]=xs.getD k .no:=by simp[zj,a]
def PG (W0:World)(O A OP:Nat->Prop)(cb nb db pm nm:Nat)(C:Array Value)(d:Dk)(V:Int)(pr:Mm)(a k i:Nat)(S:a<9223372036854775808)(hi:i<a)(c:zb)(h8:c.length=8)(m:Ms Nt)(w:World)(a6:WdN m.ag)(am:(m.ag.get (yd a (-1) i)).isSome=true)(aY:CS W0 w O A OP cb nb db pm nm C d V pr m k):
  Calls prog 235 #[yu cb,.int .i64 a,.int .i64 i,.agg (hv c)] w λr w'=>r=.returned (.tuple #[])/\zl A [qo] w w'/\CS W0 w' O A OP cb nb db pm nm C d V pr {m with ag:=AO a m.ag i c} k:=by
 have s:i<9223372036854775808:=by omega
 have bl:=ze (NA a S (-1) (by omega) (by omega) i s);have bk:=ze (NA a S 0 (by omega) (by omega) i s);have az:=ze (λw=>Fu a S (-1) (by omega) (by omega) i s w);have ay:=ze (λw=>Fu a S 0 (by omega) (by omega) i s w);have aQ:=ze (λw0 aZ=>R8 W0 O A OP cb nb db pm nm C d V pr a k S 64 0 i c m w0 (by omega) (by omega) s h8 a6 aZ);have a8:=ze aY;have H8:=ze h8;have a7:Hid ((Ac a 64 m.ag 0 i c).get (yd a (-1) i)≠none):=by
  intro e;obtain⟨f,I⟩:=M9.1 am;have h1:=Mm.get_mem I;have h2:yd a (-1) i∈(Ac a 64 m.ag 0 i c).map (·.1):=by rw[DH];exact Ck h1
  obtain⟨y,hy,ey⟩:=yi.1 h2;exact Mm.get_none e y hy ey
 have aP:Hid (AO a m.ag i c=match (Ac a 64 m.ag 0 i c).get (yd a 0 i)with
  |none=>Ac a 64 m.ag 0 i c
  |some ls=>match (Ac a 64 m.ag 0 i c).get (yd a (-1) i)with
   |none=>Ac a 64 m.ag 0 i c
   |some b=>(Ac a 64 m.ag 0 i c).set (yd a (-1) i) (GU b ls)):=rfl
 clear a6 aY h8 am s;unfold yu;go_enter func235,ntmps235;have bs:(DS (.pointer (some ⟨w.heap.size,0,none⟩))).run prog (w.alloc (.cells (hv c) 91))=.ok (.agg (hv c)) (w.alloc (.cells (hv c) 91)):=AN (vv (cs:=c.map bv) (zf _ _)) H8.o;go_wp2_with fail;have aK:Hid (zc w (w.alloc (.cells (hv c) 91))):=zi w _;generalize w.alloc (.cells (hv c) 91)=W1 at *;have aA:=ze (aQ.o W1 (a8.o.below aK.o));unfold yu at aA;refine aA.o.mono ?_;rintro r w2 ⟨rfl,a5,an⟩;have aR:Hid (zl A [qo] w w2):=(zl.aa aK.o).trans (a5.mono (λ_ h=>.inl h) (λ_ h=>h));have z:=ze an;clear a5 an aA aQ bs;generalize Ac a 64 m.ag 0 i c=nd at *;obtain⟨LN,ad,ae,R⟩:=z.o.aM;obtain⟨a1,b1,al,P⟩:=Uo ad ae (yd a (-1) i) bl.o;obtain⟨a0,b0,ak,N⟩:=Uo ad ae (yd a 0 i) bk.o;have be:=ze ad;have bh:=ze ae;have K:=ze R;clear ad ae R;have ai:=ze al;have af:=ze ak;have ax:=ze P;have aw:=ze N;clear al ak P N;unfold yu at ax aw;have J:=ze z.o.aC
 go_wp2
 go_cut [8,9] from 18 to 28 (λs8 s9 wx=>s8=.pointer a1/\s9=.bool b1/\zc w2 wx)
 case first =>
  have bq:=(zm J.o 14 _ z.o.cells.aM).1
  go_region_with (first
   |(go_at_call 229;refine(az.o _).mono ?_;rintro r w3 ⟨rfl,L⟩;have t:=ze (A6 L);have aU:=(zm ((t.o.block _ (zg J.o)).trans J.o) 14 _ z.o.cells.aM).1;clear L)
   |(go_at_call 228;refine(ax.o w3 (by exact t.o)).mono ?_;rintro r w4 ⟨rfl,M⟩;have av:=ze (t.o.trans (M.mono t.o.size));clear M))
  all_goals go_wp2_with fail
  all_goals go_meet
  all_goals exact⟨rfl,rfl,av.o⟩
 case rest =>
  obtain⟨rfl,rfl,aD⟩:=hcut;obtain⟨X,hX⟩:∃X,X=wc:=⟨_,rfl⟩;subst hX;have D:=ze aD;have F:=ze ((aD.block _ (zg J.o)).trans J.o);clear aD
  go_wp2
  go_cut [10,11] from 29 to 39 (λbw bx wx=>bw=.pointer a0/\bx=.bool b0/\zc w2 wx)
  case first =>
   have bq:=(zm F.o 14 _ z.o.cells.aM).1
   go_region_with (first
    |(go_at_call 229;refine(ay.o _).mono ?_;rintro r w3 ⟨rfl,L⟩;have t:=ze (A6 L);have aU:=(zm ((t.o.block _ (zg F.o)).trans F.o) 14 _ z.o.cells.aM).1;clear L)
    |(go_at_call 228;refine(aw.o w3 (by exact D.o.trans (t.o.mono D.o.size))).mono ?_;rintro r w4 ⟨rfl,M⟩;have av:=ze ((D.o.trans (t.o.mono D.o.size)).trans (M.mono (D.o.trans (t.o.mono D.o.size)).size));clear M))
   all_goals go_wp2_with fail
   all_goals go_meet
   all_goals exact⟨rfl,rfl,av.o⟩
  case rest =>
   obtain⟨rfl,rfl,aX⟩:=hcut;obtain⟨Y,hY⟩:∃Y,Y=wc:=⟨_,rfl⟩;subst hY;have p:=ze aX;clear aX D F ax aw;rcases af.o with ⟨rfl,rfl,Z⟩|⟨rfl,bb,H,g,ls,rfl,au,Z,br,aF,aq,ao⟩
   ·go_wp2_with fail
    first|go_end0|refine zv (BA rfl _ _ _) rfl ?_
    rw[aP.o,Z];exact⟨rfl,aR.o.ah p.o,z.o.below p.o⟩
   ·rcases ai.o with ⟨rfl,rfl,ab⟩|⟨rfl,bz,l,B,bf,rfl,Q,ab,aV,aG,ar,ap⟩
    ·exact absurd ab a7.o
    ·have a4:l≠H:=by
      intro e;subst e;have:=Oz K.o (Kn Q) (Kn au) rfl;simp only[xj]at this;have h2:=this.2.1;unfold yd at h2;simp only[xj]at h2;omega
     have bi:=ze a4;have aL:=ze ((p.o.block _ (zg aG)).trans aG);have bc:=ze ((p.o.block _ (zg aF)).trans aF);have aB:=ze ar;have G:=ze aq;have bm:=ze (ap.below p.o);have bo:=ze (ao.below p.o);have bd:=ze Q;have aJ:=ze aV;have aN:=ze Z;have aO:=ze ab;have a9:=ze (z.o.below p.o);have bg:=ze (be.o.below p.o (λ_ h=>h));have bj:Hid (AS (NdR Y A) LN nd):=bh.o.mono (λa' _ b' hr=>⟨hr.1,hr.2.aj (O:=λ_=>False) (T:=[]) (.aa p.o) (by simp) (by simp) (λ_ h=>h)⟩);clear a4 aG aF ar aq ap ao Q au Z ab aV br ai af
     go_wp2
     go_loopw [42,12] (λix _ wr=>∃q:Nat,q<=4/\ix=.int .i64 q/\zl (λx=>x=l) [qo] Y wr/\xy wr l (GI g q B)/\xy wr H g) (λix _ _=>4-(intOf ix).toNat)
     case atStart=>exact⟨0,by omega,rfl,zl.refl _ _ _,aL.o,bc.o⟩
     case round =>
      obtain⟨q,hq,rfl,ht,I,hl⟩:=hrel
      by_cases a3:q<4
      ·have hz:=Ua (ys:=g) aB.o q;have u:q<(GI g q B).length:=by rw[hz.1];exact a3
       have U:q<g.length:=by rw[G.o.1];exact a3
       have c0:wr.cell? ⟨l,q*11,none⟩=some (.bool ((GI g q B).getD q .no).there):=by
        have:=(I.cell hz.2 u (j:=0) (v:=.bool (GI g q B)[q].there) (by omega) rfl).1;rw[Gv u]at this;exact this
       obtain⟨c1,z1⟩:=I.cell hz.2 u (j:=1) (v:=.bool (GI g q B)[q].fits) (by omega) rfl;rw[Gv u]at c1;have d1:wr.cell? ⟨H,q*11+1,none⟩=some (.bool (g.getD q .no).fits):=by
        have:=(hl.cell G.o.2 U (j:=1) (v:=.bool g[q].fits) (by omega) rfl).1;rw[Gv U]at this;exact this
       have aH:=(EW hz q).1;have aI:=(EW G.o q).1;have bA:∀n,(DS (.pointer (some ⟨l,q*11+2,none⟩))).run prog (wr.drewN n)=.ok (.agg (hv ((GI g q B).getD q .no).hash)) (wr.drewN n):=λn=>by
        refine AN (w:=wr.drewN n) ?_ aH;have:=xy.hash (w:=wr.drewN n) (xs:=GI g q B) (fb:=l) I hz.2 u;rw[Gv u]at this;exact this
       have bB:∀n,(DS (.pointer (some ⟨H,q*11+2,none⟩))).run prog (wr.drewN n)=.ok (.agg (hv (g.getD q .no).hash)) (wr.drewN n):=λn=>by
        refine AN (w:=wr.drewN n) ?_ aI;have:=xy.hash (w:=wr.drewN n) (xs:=g) (fb:=H) hl G.o.2 U;rw[Gv U]at this;exact this
       have a2:=λw0=>Ln ((GI g q B).getD q .no).hash (g.getD q .no).hash aH aI w0;have E:Hid (GI g (q+1) B=if Nd ((GI g q B).getD q .no) (g.getD q .no) then (GI g q B).set q {(GI g q B).getD q .no with fits:=true} else GI g q B):=rfl;have bp:Hid (({(GI g q B).getD q .no with fits:=true}:Px).ok):=⟨(EW hz q).1,(EW hz q).2⟩;have ba:=ze (λn=>xy.aE (w:=wr.drewN n) I hz.2 u (j:=1) (v:=.bool true) (x:={(GI g q B).getD q .no with fits:=true}) (by omega) bp.o (by rw[Gv u];rfl));have aS:Hid (∀n,zl (λx=>x=l) [qo] Y ((wr.drewN n).setCell ⟨l,q*11+1,none⟩ (.bool true))/\xy ((wr.drewN n).setCell ⟨l,q*11+1,none⟩ (.bool true)) H g):=λn=>by
        have t1:=(ht.drewN n).set (o:=q*11+1) (.inl rfl) I (by simp) (.bool true);have t2:zl (λx=>x=l) [qo] wr ((wr.drewN n).setCell ⟨l,q*11+1,none⟩ (.bool true)):=((zl.refl (λx=>x=l) [qo] wr).drewN n).set (o:=q*11+1) (.inl rfl) I (by simp) (.bool true);exact⟨t1,t2.stay hl (λe=>bi.o e.symm)⟩
       have HT:=ze ht;have HF:=ze I;have HL:=ze hl;have i0:(0:Int)<=(q:Int):=by omega
       have i1:(q:Int)<4:=by omega
       clear ht I hl hz u U aH aI;generalize bt:(GI g q B).getD q .no=x at *;generalize bu:g.getD q .no=y at *;clear bt bu;generalize GI g q B=xq at *;cases ha:x.there with
       |false =>
        rw[ha]at c0
        go_wp2
        go_quiet (fail)
        go_wp2
        go_roundw
        case rel=>exact⟨q+1,by omega,by go_num,HT.o.drewN _,by rw[E.o,if_neg (by unfold Nd;rw[ha];simp)];exact HF.o,HL.o⟩
        case measure=>simp[intOf];omega
       |true =>
        rw[ha]at c0;cases W:y.fits with
        |false =>
         rw[W]at d1
         go_wp2
         go_quiet (fail)
         go_wp2
         go_roundw
         case rel=>exact⟨q+1,by omega,by go_num,HT.o.drewN _,by rw[E.o,if_neg (by unfold Nd;rw[ha,W];simp)];exact HF.o,HL.o⟩
         case measure=>simp[intOf];omega
        |true =>
         rw[W]at d1;cases he:Kh x.hash y.hash with
         |false =>
          rw[he]at a2
          go_wp2
          go_quiet (fail)
          go_wp2
          go_roundw
          case rel=>exact⟨q+1,by omega,by go_num,HT.o.drewN _,by rw[E.o,if_neg (by unfold Nd;rw[ha,W,he];simp)];exact HF.o,HL.o⟩
          case measure=>simp[intOf];omega
         |true =>
          rw[he]at a2
          go_wp2
          go_quiet (fail)
          go_wp2
          go_roundw
          case rel=>exact⟨q+1,by omega,by go_num,(aS.o _).1,by rw[E.o,if_pos (by unfold Nd;rw[ha,W,he];rfl)];exact ba.o _,(aS.o _).2⟩
          case measure=>simp[intOf];omega
      ·obtain rfl:q=4:=by omega
       have W:=zjx (bm.o.aj ht (by decide)) (bo.o.aj ht (by decide));rw[Vl aB.o G.o]at I;have aW:zl A [qo] Y wr:=ht.mono (λb W=>by rw[W];exact aJ.o) (λ_ h=>h);go_wp2_with fail
       first|go_end0|refine zv (BA rfl _ _ _) rfl ?_
       rw[aP.o,aN.o,aO.o];exact⟨rfl,(aR.o.ah p.o).trans (aW.mono (λ_ h=>.inl h) (λ_ h=>h)),a9.o.bM aW (KX.setF bg.o bj.o K.o bd.o ht aL.o I (zjy aB.o G.o) W aJ.o) (Mm.bn _ _ _)⟩
end
section
attribute [local go_sem ↓] j9 jx ve jy ju jt vd jw
def Yo (f:Fl)(k:Nat):Bl f k=f.set k {f.getD k .no with fits:=true}:=by
 unfold Bl;apply List.ext_getElem?;intro i;rw[List.getElem?_modify,Mu]
 by_cases a:k=i
 ·subst a
  by_cases b:k<f.length
  ·simp[b,zj]
  ·simp[b]
 ·simp[a]
def BN (n:Nat)(a:zb):List Value:=.int .i64 n::a.map bv
def PH (W0:World)(O A OP:Nat->Prop)(cb nb db pm nm:Nat)(C:Array Value)(d:Dk)(af:Int)(pr:Mm)(g k f:Nat)(aQ:g<9223372036854775808)(h1:1<=f)(ar:f<9223372036854775808)(e:zb)(h8:e.length=8)(m:Ms Nt)(w:World)(be:F0 W0)(bD:WdN m.ag)(bl:CS W0 w O A OP cb nb db pm nm C d af pr m k):
  Calls prog 191 #[yu cb,.int .i64 g,.agg (BN f e).toArray] w λr w'=>r=.returned (.tuple #[])/\zl A [qo] w w'/\CS W0 w' O A OP cb nb db pm nm C d af pr {m with ag:=F9 g m.ag f e} k:=by
 obtain⟨bo,cj,-⟩:=F7 f h1 (by omega);have b8:1<=f/4^Bg f:=Nat.div_pos (Nat.le_of_dvd h1 bo) (jp (by omega));have bz:f/4^Bg f<=f:=DL _ _;obtain⟨J,hJ⟩:∃J,J=f/4^Bg f-1:=⟨_,rfl⟩;have bk:((qx ((Bg f:Nat):Int) f:Nat):Int)=(J:Int)+1:=by unfold qx;rw[zz];omega
 have bJ:=ze bk;have b2:=ze (λw (hT:F0 w)=>Zr f (by omega) (by omega) w hT);have bN:=ze (λ(x:Nat) (hx:x<9223372036854775808) w=>GV ((Bg f:Nat):Int) (by omega) (by omega) x hx w);have HQ:Hid (((Lib.ctz 64 f:Nat):Int)/2=((Bg f:Nat):Int)):=by show _=_;unfold Bg;omega
 have bC:IntKind.u64.wrap (f:Int)=(f:Int):=by
  have h1:(f:Int)<18446744073709551616:=by omega
  have h0:0<=(f:Int):=by omega
  simp[IntKind.wrap,IntKind.bits,IntKind.signed];omega
 have B:J<9223372036854775808:=by omega
 have a4:=ze (NA g aQ ((Bg f:Nat):Int) (by omega) (by omega) J B);have a3:=ze (λw=>Fu g aQ ((Bg f:Nat):Int) (by omega) (by omega) J B w);have U:=ze (λ(x:zb) (hx:x.length=8) (m':Ms Nt) I (cc:WdN m'.ag) bm=>R8 W0 O A OP cb nb db pm nm C d af pr g k aQ 64 (Bg f) J x m' I (by omega) (by omega) B hx cc bm);have al:Hid (F9 g m.ag f e=match m.ag.get (yd g ((Bg f:Nat):Int) J)with
  |none=>m.ag
  |some fl =>
   if J=0 then Ac g 64 m.ag (Bg f) 0 e
   else if J=1 then
    (if vf (fl.getD 0 .no).hash (fl.getD 1 .no).hash=e then Ac g 64 (m.ag.set (yd g ((Bg f:Nat):Int) 1) (Bl fl 0)) (Bg f) 1 (fl.getD 1 .no).hash else m.ag)
   else Ac g 64 m.ag (Bg f) J (fl.getD (J%4) .no).hash):=by rw[hJ];rfl
 have bO:=ze bl;have aH:=ze bD;have H8:=ze h8;have b1:=ze be;have HN:Hid (f<9223372036854775808/\J<9223372036854775808):=⟨ar,B⟩;clear bl bD h8 be hJ bo b8 bz ar h1 bk B;generalize Bg f=L at *;generalize Lib.ctz 64 f=Z at *;unfold yu;go_enter func191,ntmps191;have ba:zc w (w.alloc (.cells (BN f e).toArray 120)):=zi w _;have aJ:(w.alloc (.cells (BN f e).toArray 120)).heap[w.heap.size]?=some (.cells (BN f e).toArray 120 (0,0)):=zf _ _;have t0:(w.alloc (.cells (BN f e).toArray 120)).cell? ⟨w.heap.size,0,none⟩=some (.int .i64 f):=(zm aJ 0 _ rfl).1;have aY:=ze ba;have a7:=ze aJ;clear ba aJ;go_wp2_with fail;clear bC;generalize w.alloc (.cells (BN f e).toArray 120)=W1 at *;have HC:=ze (bO.o.below aY.o);refine(b2.o W1 (b1.o.below HC.o.base)).mono ?_;rintro r w1 ⟨rfl,rfl⟩;have bE:wrap64 (L:Int)=(L:Int):=by unfold wrap64;omega
 go_wp2_with fail;rw[HQ.o,bE];refine(bN.o f HN.o.1 w1).mono ?_;rintro r w2 ⟨rfl,rfl⟩;rw[bJ.o];have cd:wrap64 ((J:Int)+1-1)=(J:Int):=by have:=HN.o.2;unfold wrap64;omega
 have au:wrap64 (J:Int)=(J:Int):=by have:=HN.o.2;unfold wrap64;omega
 obtain⟨LN,aO,aP,ae⟩:=HC.o.aM;obtain⟨a,b,bf,aq⟩:=Uo aO aP (yd g (L:Int) J) a4.o;have aX:=ze bf;have S:=ze aq;have bV:=ze aO;have bY:=ze aP;have aD:=ze ae;unfold yu at S;have ay:=ze HC.o.aC;clear aO aP ae bf aq bE;go_wp2_with fail;rw[au];clear cd au;go_cut [8,9] from 21 to 32 (λs8 s9 wx=>s8=.pointer a/\s9=.bool b/\zc w2 wx)
 case first =>
  have ck:w2.cell? ⟨cb,14,none⟩=some (.pointer (some ⟨nm,0,none⟩)):=(zm ay.o 14 _ HC.o.cells.aM).1
  go_region_with (first
   |(go_at_call 229;refine(a3.o _).mono ?_;rintro r w3 ⟨rfl,bg⟩;have ai:=ze (A6 bg);have ci:w3.cell? ⟨cb,14,none⟩=some (.pointer (some ⟨nm,0,none⟩)):=(zm ((ai.o.block _ (zg ay.o)).trans ay.o) 14 _ HC.o.cells.aM).1;clear bg)
   |(go_at_call 228;refine(S.o w3 (by exact ai.o)).mono ?_;rintro r w4 ⟨rfl,bh⟩;have bI:=ze (ai.o.trans (bh.mono ai.o.size));clear bh))
  all_goals go_wp2_with fail
  all_goals go_meet
  all_goals exact⟨rfl,rfl,bI.o⟩
 case rest =>
  obtain⟨rfl,rfl,ab⟩:=hcut;obtain⟨X,hX⟩:∃X,X=wc:=⟨_,rfl⟩;subst hX;have E:=ze ab;have a9:Hid (X.heap[w.heap.size]?=some (.cells (BN f e).toArray 120 (0,0))):=(ab.block _ (zg a7.o)).trans a7.o;have az:=ze (HC.o.below ab);have aG:Hid (zl A [qo] w X):=(zl.aa aY.o).ah ab;clear ab S t0;rcases aX.o with ⟨rfl,rfl,hg⟩|⟨rfl,bb,Y,p,fl,rfl,bt,hg,hA,hf,G,am⟩
  ·go_wp2_with fail
   first|go_end0|refine zv (BA rfl _ _ _) rfl ?_
   rw[al.o,hg];exact⟨rfl,aG.o,az.o⟩
  ·have aL:xy X Y p:=(E.o.block _ (zg hf)).trans hf;obtain⟨kk,bs⟩:∃kk,kk=J%4:=⟨_,rfl⟩;have bB:(J:Int)%4=(kk:Int):=by omega
   have br:kk<4:=by omega
   have aN:kk<p.length:=by rw[G.1];exact br
   have s:0<p.length:=by rw[G.1];omega
   have an:=(EW G kk).1;have co:(DS (.pointer (some ⟨Y,kk*11+2,none⟩))).run prog X=.ok (.agg (hv (p.getD kk .no).hash)) X:=by
    refine AN ?_ an;have:=xy.hash aL G.2 aN;rw[Gv aN]at this;exact this
   have HG:Hid (∀y:zb,y.length=8->(K4 (.pointer (some ⟨X.heap.size,0,none⟩)) (.agg (hv y))).run prog (X.alloc (.cells Dr 91))=.ok () ((X.alloc (.cells Dr 91)).setCells X.heap.size 0 (y.map bv))/\((X.alloc (.cells Dr 91)).setCells X.heap.size 0 (y.map bv)).heap[X.heap.size]?=some (.cells (y.map bv).toArray 91 (0,0))/\zc X ((X.alloc (.cells Dr 91)).setCells X.heap.size 0 (y.map bv))):=by
    intro y hy;have bq:(X.alloc (.cells Dr 91)).heap[X.heap.size]?=some (.cells (BE.map bv).toArray 91 (0,0)):=zf _ _;have b7:=Cd bq (ds:=y.map bv) (by simp[hy,BE]);exact⟨Gr (by have:=BG bq;simpa[BE]using this) hy,b7,xo (zi _ _) (zk _) _ _⟩
   obtain⟨ca,bG,bj⟩:=HG.o _ an;have HF:=ze aL;have t:=ze G;have bP:=ze (am.below E.o);have bU:=ze bt;have aB:=ze hg;have HA:=ze hA;have u:=ze an;have F:=ze bG;have q:=ze bj;have a8:Hid ((p.getD kk .no).hash=(fl.getD (J%4) .no).hash):=by show _=_;rw[<- bs];exact(am.2.2 kk br).hash
   have b3:Hid ((p.getD 0 .no).hash=(fl.getD 0 .no).hash):=(am.2.2 0 (by omega)).hash;have aW:=ze (EW G 0).1;have bT:Hid (∀I,xy I Y p->(DS (.pointer (some ⟨Y,2,none⟩))).run prog I=.ok (.agg (hv (p.getD 0 .no).hash)) I):=λI b6=>by
    refine AN ?_ aW.o;have:=xy.hash b6 t.o.2 s;rw[Gv s]at this;simpa using this
   clear aL G am bt hg hA hf aN bs HG an bG bj aX s;generalize (p.getD kk .no).hash=K at *;generalize (p.getD 0 .no).hash=aV at *;have aA:Hid (xy ((X.alloc (.cells Dr 91)).setCells X.heap.size 0 (K.map bv)) Y p):=(q.o.block _ (zg HF.o)).trans HF.o;have a0:=ze (az.o.below q.o);have a6:=ze (aG.o.ah q.o);have aF:Hid (((X.alloc (.cells Dr 91)).setCells X.heap.size 0 (K.map bv)).heap[w.heap.size]?=some (.cells (BN f e).toArray 120 (0,0))):=(q.o.block _ (zg a9.o)).trans a9.o;have cl:X.heap.size<((X.alloc (.cells Dr 91)).setCells X.heap.size 0 (K.map bv)).heap.size:=zg F.o;have bw:(DS (.pointer (some ⟨w.heap.size,1,none⟩))).run prog ((X.alloc (.cells Dr 91)).setCells X.heap.size 0 (K.map bv))=.ok (.agg (hv e)) ((X.alloc (.cells Dr 91)).setCells X.heap.size 0 (K.map bv)):=by
    refine AN ?_ H8.o;intro j v aS;have:=vv aF.o (1+j) v (by unfold BN;rw[NT,Aq];exact aS);rw[xk]at this;exact this
   have bu:=AN (vv F.o) u.o
   by_cases j0:J=0
   ·have ce:((J:Int)==0)=true:=by simp[j0]
    have J0:=ze j0;clear j0;have aR:=BG F.o;rw[yg,u.o]at aR;have ca:=Gr aR H8.o;have bF:=Cd F.o (ds:=e.map bv) (by rw[yg,yg,u.o,H8.o]);have aI:zc X (((X.alloc (.cells Dr 91)).setCells X.heap.size 0 (K.map bv)).setCells X.heap.size 0 (e.map bv)):=xo q.o (zk _) _ _;have cm:=AN (vv bF) H8.o;have bK:=ze (az.o.below aI);have b0:=ze (aG.o.ah aI);have n:=ze (U.o e H8.o m _ aH.o bK.o);unfold yu at n;clear aR bF aI;go_wp2_with fail;refine n.o.mono ?_;rintro r w9 ⟨rfl,D,i⟩;have W:=ze D;have R:=ze i;clear D i n;go_wp2_with fail
    first|go_end0|refine zv (BA rfl _ _ _) rfl ?_
    have l:=al.o;rw[aB.o]at l;simp only[J0.out,if_true]at l;have i:=R.o;rw[J0.out]at i;rw[l];exact⟨rfl,b0.o.trans (W.o.mono (λ_ h=>.inl h) (λ_ h=>h)),i⟩
   ·have ce:((J:Int)==0)=false:=by simpa using (by omega:¬(J:Int)=0)
    by_cases j1:J=1
    ·have cf:((J:Int)==1)=true:=by simp[j1]
     have J1:=ze j1;clear j1 j0;obtain⟨N,hN,bc,bd⟩:∃N,N=vf aV K/\N.length=8/\∀w',Calls prog 110 #[.agg (hv aV),.agg (hv K)] w' λr ch=>r=.returned (.agg (hv N))/\zc w' ch:=⟨_,rfl,vm _ _,λw'=>Ev _ _ w' aW.o u.o⟩;have bX:=ze bd;have HN:=ze hN;have cp:=λI=>QL N e bc H8.o I;clear bd hN bc;go_wp2_with fail;generalize (X.alloc (.cells Dr 91)).setCells X.heap.size 0 (K.map bv)=V at *;clear bB;go_cut [58] from 49 to 57 (λcg wx=>cg=.bool (!Kh N e)/\zc V wx)
     case first =>
      have l1:(DS (.pointer (some ⟨Y,2,none⟩))).run prog V.drew=.ok (.agg (hv aV)) V.drew:=bT.o V.drew aA.o;have l2:(DS (.pointer (some ⟨X.heap.size,0,none⟩))).run prog V.drew=.ok (.agg (hv K)) V.drew:=AN (w:=V.drew) (vv (w:=V.drew) F.o) u.o;have a2:Hid (∀I,zc V I->(DS (.pointer (some ⟨w.heap.size,1,none⟩))).run prog I=.ok (.agg (hv e)) I):=λI b5=>by
       have b9:I.heap[w.heap.size]?=some (.cells (BN f e).toArray 120 (0,0)):=(b5.block _ (zg aF.o)).trans aF.o;refine AN ?_ H8.o;intro j v aS;have:=vv b9 (1+j) v (by unfold BN;rw[NT,Aq];exact aS);rw[xk]at this;exact this
      have l3:=a2.o V.drew (zu _ V).drew;clear bu bw
      go_region_with (go_at_call 110;refine(bX.o _).mono ?_;rintro r w5 ⟨rfl,bi⟩;have aZ:=ze (A6 bi);have l5:=a2.o w5 aZ.o;clear bi)
      all_goals go_wp2_with fail
      all_goals go_meet
      all_goals exact⟨rfl,aZ.o⟩
     case rest =>
      obtain⟨rfl,P⟩:=hcut;obtain⟨M,b4⟩:∃M,M=wc:=⟨_,rfl⟩;subst b4;have ax:=ze P;have ad:xy M Y p:=(P.block _ (zg aA.o)).trans aA.o;have bH:M.heap[X.heap.size]?=some (.cells (K.map bv).toArray 91 (0,0)):=(P.block _ (zg F.o)).trans F.o;have a1:=ze (a0.o.below P);have ap:=ze (a6.o.ah P);have l:=al.o;rw[aB.o]at l;simp only[J1.out,if_true,Nat.one_ne_zero,CM]at l;have H:=a8.o;rw[J1.out]at H;simp only[Nat.reduceMod]at H;rw[<- b3.o,<- H,<- HN.o]at l;have ao:=ze l;clear P l bw bu H;cases he:Kh N e with
      |false =>
       have bx:¬N=e:=by simpa[Kh]using he
       go_wp2_with fail
       first|go_end0|refine zv (BA rfl _ _ _) rfl ?_
       rw[ao.o,if_neg bx];exact⟨rfl,ap.o,a1.o⟩
      |true =>
       have bp:N=e:=by simpa[Kh]using he
       have s:0<p.length:=by rw[t.o.1];omega
       obtain⟨c1,z1⟩:=ad.cell t.o.2 s (j:=1) (v:=.bool p[0].fits) (by omega) rfl;have aU:({p.getD 0 .no with fits:=true}:Px).ok:=⟨(EW t.o 0).1,(EW t.o 0).2⟩;have aK:=ad.aE t.o.2 s (j:=1) (v:=.bool true) (x:={p.getD 0 .no with fits:=true}) (by omega) aU (by rw[Gv s];rfl);have Q:=(zl.refl (λb=>b=Y) [qo] M).set (o:=0*11+1) (.inl rfl) ad (by simp) (.bool true);rw[Gv s]at c1;simp only[NV,xk]at c1 z1 aK Q;have av:(M.setCell ⟨Y,1,none⟩ (.bool true)).heap[X.heap.size]?=some (.cells (K.map bv).toArray 91 (0,0)):=Q.keep bH (by decide);have cn:=AN (vv av) u.o;have bR:Hid (C8 M p fl):=(bP.o.below q.o).below ax.o;have bS:Hid (FR (p.set 0 {p.getD 0 .no with fits:=true})):=⟨by rw[DJ];exact t.o.1,OG t.o.2 0 aU⟩;have a5:Hid (zl A [qo] M (M.setCell ⟨Y,1,none⟩ (.bool true))):=Q.mono (λb hb=>by rw[hb];exact HA.o) (λ_ h=>h);have bQ:Hid (C8 (M.setCell ⟨Y,1,none⟩ (.bool true)) (p.set 0 {p.getD 0 .no with fits:=true}) (Bl fl 0)):=by
        have h1:=bR.o.aj Q (by decide);have h2:=h1.2.2 0 (by omega);have:=zi0 h1 0 (z:={p.getD 0 .no with fits:=true}) (c:={fl.getD 0 .no with fits:=true}) ⟨h2.there,rfl,h2.hash,h2.bA⟩;rw[Yo];exact this
       have bW:Hid (Dj M A nm FI LN):=((bV.o.below E.o (λ_ h=>h)).below q.o (λ_ h=>h)).below ax.o (λ_ h=>h);have aw:Hid (zc w2 M):=(E.o.trans (q.o.mono E.o.size)).trans (ax.o.mono (E.o.trans (q.o.mono E.o.size)).size);have bZ:Hid (AS (NdR M A) LN m.ag):=bY.o.mono (λa' _ b' hr=>⟨hr.1,hr.2.aj (O:=λ_=>False) (T:=[]) (.aa aw.o) (by simp) (by simp) (λ_ h=>h)⟩);have bL:=ze (a1.o.bM a5.o (KX.setF bW.o bZ.o aD.o bU.o Q ad aK bS.o bQ.o HA.o) (Mm.bn _ _ _));have n:=ze (U.o K u.o _ _ (aH.o.set _ _) bL.o);unfold yu at n;clear aK Q av aU bH ad s;go_wp2_with fail;refine n.o.mono ?_;rintro r w9 ⟨rfl,D,i⟩;have W:=ze D;have R:=ze i;clear D i n;go_wp2_with fail
       first|go_end0|refine zv (BA rfl _ _ _) rfl ?_
       have i:=R.o;rw[J1.out]at i;rw[ao.o,if_pos bp];exact⟨rfl,(ap.o.trans (a5.o.mono (λ_ h=>.inl h) (λ_ h=>h))).trans (W.o.mono (λ_ h=>.inl h) (λ_ h=>h)),i⟩
    ·have cf:((J:Int)==1)=false:=by simpa using (by omega:¬(J:Int)=1)
     have n:=ze (U.o K u.o m _ aH.o a0.o);unfold yu at n;go_wp2_with fail;refine n.o.mono ?_;rintro r w9 ⟨rfl,D,i⟩;have W:=ze D;have R:=ze i;clear D i n;go_wp2_with fail
     first|go_end0|refine zv (BA rfl _ _ _) rfl ?_
     have l:=al.o;rw[aB.o]at l;simp only[j0,j1,CM]at l;rw[l,<- a8.o];exact⟨rfl,a6.o.trans (W.o.mono (λ_ h=>.inl h) (λ_ h=>h)),R.o⟩
end
def Uq (u:FrameMode)(O:Nat->Prop)(k s d:Nat)(q:Int)(l:Ks)(o n:Option Addr)(w:World)(G:O k/\O s/\O d)(h:w.heap[k]?=some (.cells #[.int .i64 q,.map (some s),yu d] MeN (0,0)))
 (i:w.heap[d]?=some (.cells #[.int .i64 0,.int .i64 0,.int .i64 0,.pointer none,.pointer o,.pointer n] FC (0,0))) (b:BC w s l) :
  CallsD prog 183 #[yu k] u w λr M D=>M=u/\(r=.returned (.tuple #[])/\zl O [FC] w D/\Dj D O k q []/\D.heap.size=w.heap.size):=by
 obtain⟨p,A,j,f⟩:=b.clear underlying290 0;have B:p.heap.size=w.heap.size:=by
  obtain⟨R,c,J⟩:=b.isMap;have e:=A;simp[Builtin.clear_,Cj underlying290,Ik J,Il _ J,Result.andThen]at e;rw[<- e];simp
 have g:=(f.block k (zg h) (b.not h)).trans h;have a:=(f.block d (zg i) (b.not i)).trans i;have U:w.cell? ⟨k,1,none⟩=some (.map (some s)):=(zm h 1 _ rfl).1;have V:p.cell? ⟨k,2,none⟩=some (.pointer (some ⟨d,0,none⟩)):=(zm g 2 _ rfl).1;have P:p.cell? ⟨d,4,none⟩=some (.pointer o):=(zm a 4 _ rfl).1;have S:p.frozen? ⟨d,4,none⟩=false:=(zm a 4 _ rfl).2;have Q:p.cell? ⟨d,5,none⟩=some (.pointer n):=(zm a 5 _ rfl).1;have T:p.frozen? ⟨d,5,none⟩=false:=(zm a 5 _ rfl).2;have N:¬d=k:=λe=>by
  have I:some (Obj.cells _ _ _)=some (Obj.cells _ _ _):=a.symm.trans (by rw[e];exact g);simp only[zn,An]at I;exact absurd I.2.1 (by decide)
 have K:¬k=d:=λe=>N e.symm;have y:=ze G;have v:=ze j;have F:Hid (zl O [FC] w p):=(zl.refl O [FC] w).map (.inl G.2.1) b f;have m:=ze (And.intro g a);have E:=ze B;unfold yu;clear G b h i j f g a B;refine callsD_of_wp func183 rfl ?_;simp only[ntmps183,ql,xf,jq,Nat.reduceAdd,Nat.reduceSub,Array.replicate_succ,Array.replicate_zero,List.push_toArray,List.append_toArray,Cn,A4]
 go_wp2
 go_region_held3 (λD=>D.cell? ⟨k,2,none⟩=some (.pointer (some ⟨d,0,none⟩))) (go_keep) (fail)
 rename_i t;clear t
 go_wp2
 go_end0
 have z:=Aw m.o.2 4 (.pointer (some ⟨d,0,none⟩));have H:=Aw z 5 (.pointer (some ⟨d,0,none⟩));refine⟨rfl,((F.o.set (.inl y.o.2.2) m.o.2 (by simp) _).set (.inl y.o.2.2) z (by simp) _).drew,⟨s,d,λ_=>d,λ_=>d,⟨y.o.1,y.o.2.1,y.o.2.2,λx C=>by simp at C⟩,?_,⟨H,λx C=>by simp at C,Oc d⟩,?_,λx C=>by simp at C⟩,?_⟩
 ·show((p.setCell _ _).setCell _ _).heap[k]?=_;rw[yh _ _ _ _ K,yh _ _ _ _ K];exact m.o.1
 ·refine v.o.same ?_;show((p.setCell _ _).setCell _ _).heap[s]?=_;have L:s≠d:=λe=>v.o.not m.o.2 (by rw[e]);rw[yh _ _ _ _ L,yh _ _ _ _ L]
 ·simp[World.setCell,World.drew,E.o]
def Pe (u:FrameMode)(O:Nat->Prop)(b:Nat)(a:Int)(L:Ek)(w:World)(h:Dj w O b a L):
  CallsD prog 183 #[yu b] u w λr f c=>f=u/\(r=.returned (.tuple #[])/\zl O [FC] w c/\Dj c O b a []/\c.heap.size=w.heap.size):=by
 obtain⟨e,d,g,i,h⟩:=h;exact Uq u O b e d a L.ks _ _ w ⟨h.own.1,h.own.2.1,h.own.2.2.1⟩ h.mem h.ring.ends h.map
variable {C:Array Value}{O OP:Nat->Prop}{W0 w':World}{cb db nb pm:Nat}{d:Dk}{pr:Mm}
section
attribute [local go_sem ↓] j9 jx ve jy ju jt vd jw
def CS.forget {a:Int}{m:Ms Nt}(h:CS W0 w O A OP cb nb db pm nm C d a pr m k)(c:zl A [FC] w w')(g:Dj w' A nm FI []):CS W0 w' O A OP cb nb db pm nm C d a pr {m with ag:=[]} k:=
 ⟨h.base.trans (c.below (λb f=>h.own b (.inr f)) h.base.size),h.own,h.apart,λb f=>zq (h.lt b f) c.size,h.aG.stay c (by decide) (by decide),h.al.aj c (by decide) (by decide) (by decide),h.st,h.bk,c.keep h.aC (by decide),h.cells,h.aV.stay c (λb f e=>h.aN b f (.inr e)) (by decide) (λ_ h=>h),h.aN,⟨[],g,.nil,by simp⟩,by have:=h.short;simp only[jq];omega⟩
def CS.mem {a:Int}{m:Ms Nt}(h:CS W0 w O A OP cb nb db pm nm C d a pr m k):∃L,Dj w A nm FI L:=by
 obtain⟨L,b,-⟩:=h.aM;exact⟨L,b⟩
def zbd (w:World):Calls prog 122 #[.slice none 0 0] w λr e=>r=.returned (.slice none 0 0)/\e=w:=by
 have q:∀(w:World) (a:Option Addr) (n c d b:Nat),(binOp .eql 94 (.slice a n c) (.slice none d b)).run prog w=.ok (.bool a.isNone) w:=λw a n c d b=>EZ w _ _ a n c d b underlying94;go_enter func122,ntmps122
 go_wp2
 go_ret;exact⟨rfl,rfl⟩
def zmo (B:Nat)(w:World)(v:Value)(l:zb):Prop:=(v=.slice none 0 0/\l=[])\/OB w B v l
def zbc (v:Value)(l:zb)(w:World)(h:Va w v l)(n:l.length<=1000000):Calls prog 122 #[v] w λr a=>∃x,r=.returned x/\zmo w.heap.size a x l/\zc w a:=by
 rcases h with ⟨rfl,rfl⟩|⟨g,b,C,q,rfl,c,k,i⟩
 ·refine(zbd w).mono ?_;rintro r a ⟨rfl,rfl⟩;exact⟨_,rfl,.inl ⟨rfl,rfl⟩,zu _ _⟩
 ·refine(J8 ⟨g,0,none⟩ l.length b l w rfl n (λj u d=>?_)).mono ?_
  ·rw[List.getElem?_map]at d;obtain⟨y,p,rfl⟩:=zx.1 d;obtain⟨m,e⟩:=qm.1 p;have:=i j m;rw[vp,xk];rw[<- e];simp[World.cell?,k,this]
  ·rintro r a ⟨x,rfl,o,f⟩;exact⟨x,rfl,.inr o,f⟩
def Oq (a:zb)(i n:Nat)(c:za)(b:zb):Bool:=P9 1001 a i n c b
def zmb (B:Nat)(a:World)(y:zb×za)(r:Ending):Prop:=∃x v,zmo B a x y.1/\Fj B a v y.2/\(∀p∈y.2,p.length=8)/\y.2.length<=65/\r=.returned (.tuple #[x,v,.nilIface])
abbrev Uh:List Nat:=[148,3,FC,qo,Gu]
end
end Go.Proofs.YtfdbeldiomkdiaaGreatDoor
