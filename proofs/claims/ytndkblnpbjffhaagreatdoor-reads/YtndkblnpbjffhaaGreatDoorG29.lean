import Derived.Test.YtndkblnpbjffhaaGreatDoorG28
set_option maxHeartbeats 4000000
set_option maxRecDepth 100000
open Go.RowKit
namespace Go.Proofs.YtndkblnpbjffhaaGreatDoor
section
attribute [local go_sem ↓] yv yl yy yo yj ym yx yk
structure NSt (d:Dk)(n:Nt):Prop where
 nf:d.fs.length≤1000000000
 fl:∀ f∈d.fs,f.2.length≤1000000000
 ly:∀ l∈n.lies,l.data.length≤1000000000
 ll:n.lies.length≤0
 fe:0≤n.fetches
 td:∀ t∈n.told,0≤t∧t≤n.fetches
theorem NSt.ok {d:Dk}{n:Nt}(h:NSt d n)(A:n.fetches < 4611686018427387904):NOk d n :=
 ⟨h.nf,h.fl,h.ly,h.ll,⟨h.fe,A⟩,fun t r=>⟨(h.td t r).1,by have:=(h.td t r).2;omega⟩⟩
theorem NSt.step {d:Dk}{n:Nt}(h:NSt d n)(p:List UInt8):NSt d (zu d.fs n p).2:=by
 have D:=h.fe;unfold zu
 split
 ·rename_i k H;refine⟨h.nf,h.fl,h.ly,h.ll,by show 0≤n.fetches+1;omega,fun t r=>?_⟩;simp only at r ⊢;rcases List.mem_or_eq_of_mem_set r with r | rfl
  ·have:=h.td t r;omega
  ·have E:0≤n.told.getD k 0∧n.told.getD k 0≤n.fetches:=by
    by_cases A:k < n.told.length
    ·rw [List.getD_eq_getElem?_getD,List.getElem?_eq_getElem A];exact h.td _ (List.getElem_mem A)
    ·rw [List.getD_eq_getElem?_getD,List.getElem?_eq_none (by omega)];exact⟨Int.le_refl _,D⟩
   omega
 ·split
  ·exact⟨h.nf,h.fl,h.ly,h.ll,by show 0≤n.fetches+1;omega,fun t r=>by have:=h.td t r;show 0≤t∧t≤n.fetches+1;omega⟩
  ·exact⟨h.nf,h.fl,h.ly,h.ll,by show 0≤n.fetches+1;omega,fun t r=>by have:=h.td t r;show 0≤t∧t≤n.fetches+1;omega⟩
theorem NSt.place {d:Dk}{n:Nt}(h:NSt d n)(p:Pl):NSt d (xm (zu d.fs) n p).2:=h.step _
theorem NSt.file {d:Dk}{n:Nt}(h:NSt d n)(p:Pl):NSt d (jw (zu d.fs) n p).2:=by
 cases hp:(xm (zu d.fs) n p).1 with
 | some f=>rw [zii hp];exact h.place p
 | none =>
  by_cases r:p.2.2=4
  ·rw [zhh hp r];exact h.place p
  ·rw [zih hp r];exact(h.place p).place _
theorem zh5 (fs:Fs)(n:Nt)(p:Pl):(xm (zu fs) n p).2.fetches=n.fetches+1:=zei fs n _
theorem ziz (fs:Fs)(n:Nt)(p:Pl):n.fetches+1≤(jw (zu fs) n p).2.fetches∧(jw (zu fs) n p).2.fetches≤n.fetches+2:=by
 have r:=zh5 fs n p;cases hp:(xm (zu fs) n p).1 with
 | some f=>rw [zii hp];simp only;omega
 | none =>
  by_cases h:p.2.2=4
  ·rw [zhh hp h];simp only;omega
  ·rw [zih hp h];have A:=zh5 fs (xm (zu fs) n p).2 (p.1,p.2.1,4);simp only;omega
theorem zxw (b k:Nat)(h0:0 < k)(h:k < 4)(w:World):(Instr.sliceAt 104 (.pointer (some ⟨b,0,none⟩)) (some (.int .i64 k)) none none).run Tryz.prog w= .ok (.slice (some ⟨b,k*11,none⟩) (4 - k) (4 - k)) w:=by
 match k,h0,h with
 | 1,_,_=>simp [go_sem,Tryz.underlying104]
 | 2,_,_=>simp [go_sem,Tryz.underlying104]
 | 3,_,_=>simp [go_sem,Tryz.underlying104]
theorem z72 {xs:List Px}(h:FOk xs){k:Nat}(A:k≤4):FOk (xs.take k++List.replicate (4 - k) .no):=by
 refine⟨by simp [h.1];omega,fun x r=>?_⟩;rcases List.mem_append.1 r with r | r
 ·exact h.2 x (List.mem_of_mem_take r)
 ·exact zvq _ x r
abbrev qh:Nat:=116
theorem z1x (Z:World)(I:Nat→Addr)(O:Nat→Prop)(nb db cb:Nat)(n:Nt)(d:Dk)(l A:Int)(k:Nat)(aB:0 < k)(hk:k≤4)(bb:A≤9223372036854775807)(w:World)(hW:Below Z.heap.size Z w)(hE:Env Z)(hS:ja Z I)
  (hO:∀ b,O b→Z.heap.size≤b) (be:NSt d n) (aZ:(jw (zu d.fs) n (l,A,(k:Int))).2.fetches < 4611686018427387904) (hD:zq w O db d) (hN:vi w O nb db n) (C:Array Value) (hc:w.heap[cb]?=some (.cells C qh (0,0))) (hC:C[2]?=some (znj nb)) :
  Calls Tryz.prog 197 #[zo cb,plV (l,A,k)] w fun r w'=>zg O nT w w'∧vi w' O nb db (jw (zu d.fs) n (l,A,k)).2∧yal I w.heap.size (qi l A k) w' (jw (zu d.fs) n (l,A,k)).1 r:=by
 have bx:=(ziz d.fs n (l,A,(k:Int))).1;have H0:Hid (Below w.heap.size w ((w.alloc (.cells #[.int .i64 l,.int .i64 A,.int .i64 k] 99)).alloc (.cells qt zt))∧((w.alloc (.cells #[.int .i64 l,.int .i64 A,.int .i64 k] 99)).alloc (.cells qt zt)).heap[w.heap.size]?=some (.cells #[.int .i64 l,.int .i64 A,.int .i64 k] 99 (0,0))∧zn ((w.alloc (.cells #[.int .i64 l,.int .i64 A,.int .i64 k] 99)).alloc (.cells qt zt)) (w.heap.size+1) Fx.no):=by
  refine⟨zz _ _ _,zc (heap_alloc_last _ _),?_⟩;have:=heap_alloc_last (w.alloc (.cells #[.int .i64 l,.int .i64 A,.int .i64 k] 99)) (.cells qt zt);rw [show(w.alloc (.cells #[.int .i64 l,.int .i64 A,.int .i64 k] 99)).heap.size=w.heap.size+1 by simp] at this;exact this
 have HW:=za hW;have HE:=za hE;have HS:=za hS;have HO:=za hO;have aM:=za be;have ay:=za aZ;have HD:=za hD;have HN:=za hN;have HC:=za hc;have aE:=za hC;have bd:n.fetches < 4611686018427387904:=by omega
 have bl:=za bd;clear hW hE hS hO be hD hN hc hC aZ bx bd;unfold plV;simp only;unfold zo;go_enter Tryz.func197,Tryz.ntmps197;go_wp2_with fail;generalize (w.alloc (.cells #[.int .i64 l,.int .i64 A,.int .i64 k] 99)).alloc (.cells qt zt)=W1 at *
 have a8:Below Z.heap.size Z W1:=HW.o.trans (H0.o.1.mono HW.o.size);have ar:zg O nT w W1:= .of_below H0.o.1;have aD:Hid (W1.heap[cb]?=some (.cells C qh (0,0))):=ar.keep HC.o (by decide);have HF:=za (zni Z I O nb db cb n d l A k aB hk bb W1 a8 HE.o HS.o HO.o (aM.o.ok bl.o) (HD.o.stay ar (by decide) (by decide)) (HN.o.below H0.o.1) (by obtain⟨x,-⟩:=zf aD.o 2 _ aE.o;exact x));have bo:=za ar;have bf:=za H0.o.1;have aN:=za H0.o.2;have b7:=za (zh5 d.fs n (l,A,(k:Int)));have bn:=za (aM.o.place (l,A,(k:Int)));have aR:=za a8;have az:Hid (∀ f,(xm (zu d.fs) n (l,A,(k:Int))).1=some f→jw (zu d.fs) n (l,A,(k:Int))=(some f,(xm (zu d.fs) n (l,A,(k:Int))).2)):=fun f h=>zii h;have a0:Hid ((xm (zu d.fs) n (l,A,(k:Int))).1=none→k=4→jw (zu d.fs) n (l,A,(k:Int))=(none,(xm (zu d.fs) n (l,A,(k:Int))).2)):=fun h h4=>zhh h (by show(k:Int)=4;omega);have a1:Hid ((xm (zu d.fs) n (l,A,(k:Int))).1=none→k≠4→jw (zu d.fs) n (l,A,(k:Int))=(((xm (zu d.fs) (xm (zu d.fs) n (l,A,(k:Int))).2 (l,A,4)).1).map (zg1 k),(xm (zu d.fs) (xm (zu d.fs) n (l,A,(k:Int))).2 (l,A,4)).2)):=fun h h4=>zih h (by show(k:Int)≠4;omega);unfold plV zo at HF;simp only at HF;generalize aW:qi l A k=pn at *
 generalize aS:jw (zu d.fs) n (l,A,(k:Int))=FM at *
 have Q:=za aS;have aq:=za aW;generalize bt:xm (zu d.fs) n (l,A,(k:Int))=PM at *
 obtain⟨o1,n1⟩:=PM;simp only at *
 clear bt aW aS H0 a8 ar;go_wp2_with fail;refine HF.o.mono ?_;rintro r H ⟨ac,aU,bz⟩;have aX:zg O nT w H:=bo.o.trans (ac.mono (fun _ h=> .inl h) (fun _ h=>h));have aP:=za aX;have b1:H.heap[w.heap.size]?=some (.cells #[.int .i64 l,.int .i64 A,.int .i64 k] 99 (0,0)):=ac.keep aN.o.1 (by decide);have aY:zn H (w.heap.size+1) Fx.no:=ac.keep aN.o.2 (by decide);have ap:=za b1;have ak:=za aY;have aK:=za aU;have Y:Hid (Below Z.heap.size Z H):=aR.o.trans (ac.below HO.o aR.o.size);have aF:Hid (H.heap[cb]?=some (.cells C qh (0,0))):=ac.keep aD.o (by decide);have HZ:Hid (w.heap.size≤W1.heap.size):=bf.o.size;have bB:w.heap.size+1 < H.heap.size:=zb aY;clear ac aU aX HF;have HG:Hid (∀ xs,FOk xs→(zcq (.pointer (some ⟨H.heap.size,0,none⟩)) (.agg (fcs xs).toArray)).run Tryz.prog (H.alloc (.cells qt zt))= .ok () ((H.alloc (.cells qt zt)).setCells H.heap.size 0 (fcs xs))∧zn ((H.alloc (.cells qt zt)).setCells H.heap.size 0 (fcs xs)) H.heap.size xs∧Below H.heap.size H ((H.alloc (.cells qt zt)).setCells H.heap.size 0 (fcs xs))):=by
  intro xs hx;have af:zn (H.alloc (.cells qt zt)) H.heap.size Fx.no:=heap_alloc_last _ _;exact⟨qj (xj af Fx.no_ok) hx.len (jp hx.2),qb af Fx.no_ok hx,zr (ze _ _) (Nat.le_refl _) _ _⟩
 rcases bz with ⟨xs,f,rfl,V,ah,rfl⟩ | ⟨rfl,g,aw,av,rfl⟩
 ·have hm:=az.o f rfl;subst hm;simp only;obtain⟨b2,K,ae⟩:=HG.o xs V;have ax:=za K;have E:=za ae;have R:=za V;have a7:=za ah;clear K ae V ah az a0 a1 HG;have ba:((H.alloc (.cells qt zt)).setCells H.heap.size 0 (fcs xs)).cell? ⟨6,0,none⟩=some (.iface 344 (.pointer (some (I 5)))):=by
   have a9:=Y.o.trans (E.o.mono Y.o.size);exact(HS.o.below a9).tile
  go_wp2_with fail;generalize (H.alloc (.cells qt zt)).setCells H.heap.size 0 (fcs xs)=S at *
  have W:S.heap[w.heap.size]?=some (.cells #[.int .i64 l,.int .i64 A,.int .i64 k] 99 (0,0)):=(E.o.block _ (zb ap.o)).trans ap.o;have K:zn S (w.heap.size+1) Fx.no:=(E.o.block _ (zb ak.o)).trans ak.o;have bc:=zad (y9 ax.o) R.o.len;have b3:=qj (xj K Fx.no_ok) R.o.len (jp R.o.2);have a5:=za (qb K Fx.no_ok R.o);have ad:=za (aP.o.then_below E.o);have a3:=za (ad.o.setCellsNew (Nat.le_succ w.heap.size) (fcs xs) 0);have J:=za ((zg.refl (fun b=>b=w.heap.size+1) [zt] _).setCells (.inl rfl) K (by simp) (fcs xs) 0);have ao:=za (aK.o.below E.o);have bq:=za (a7.o.below E.o);clear K W;refine(z91 (I 5) S).mono ?_;rintro r w6 ⟨rfl,rfl⟩;go_wp2_with fail;refine bodyPost_ret (v:= .tuple #[.agg (fcs xs).toArray,.nilIface]) (zv Tryz.results197 _ _ (w.heap.size+1) zt _ (0,0) _ rfl a5.o Tryz.underlying104 rfl (by rw [jt,List.size_toArray,R.o.len]) _ rfl) rfl ⟨a3.o,by rw [Q.o];exact ao.o.turn J.o (by decide) (by decide) (by decide),by rw [Q.o,aq.o];exact .inl ⟨xs,f,rfl,R.o,bq.o.turn J.o (by decide),rfl⟩⟩
 ·obtain⟨b2,K,ae⟩:=HG.o Fx.no Fx.no_ok;have ax:=za K;have E:=za ae;have aH:=za av;have aI:=za aw;clear K ae HG av aw az;have ba:((H.alloc (.cells qt zt)).setCells H.heap.size 0 (fcs Fx.no)).cell? ⟨6,0,none⟩=some (.iface 344 (.pointer (some (I 5)))):=by
   have a9:=Y.o.trans (E.o.mono Y.o.size);exact(HS.o.below a9).tile
  go_wp2_with fail;generalize (H.alloc (.cells qt zt)).setCells H.heap.size 0 (fcs Fx.no)=S at *
  have an:Hid (S.heap[g]?=some (.cells #[txv pn,j4 I 5] 141 (0,0))):=(E.o.block _ (zb aH.o)).trans aH.o;have W:S.heap[w.heap.size]?=some (.cells #[.int .i64 l,.int .i64 A,.int .i64 k] 99 (0,0)):=(E.o.block _ (zb ap.o)).trans ap.o;have al:Hid (zn S (w.heap.size+1) Fx.no):=(E.o.block _ (zb ak.o)).trans ak.o;have ad:=za (aP.o.then_below E.o);have ao:=za (aK.o.below E.o);have bg:Hid (S.heap[cb]?=some (.cells C qh (0,0))):=(E.o.block _ (zb aF.o)).trans aF.o;have bp:Hid (Below Z.heap.size Z S):=Y.o.trans (E.o.mono Y.o.size);have bh:Hid (zq S O db d):=HD.o.stay ad.o (by decide) (by decide);have p0:S.cell? ⟨w.heap.size,0,none⟩=some (.int .i64 l):=(zf W 0 _ rfl).1;have p1:S.cell? ⟨w.heap.size,1,none⟩=some (.int .i64 A):=(zf W 1 _ rfl).1;have p2:S.cell? ⟨w.heap.size,2,none⟩=some (.int .i64 k):=(zf W 2 _ rfl).1;have bm:=za W;clear W;by_cases h4:k=4
  ·have hm:=a0.o trivial h4;subst hm;have bC:S.cell? ⟨w.heap.size,2,none⟩=some (.int .i64 4):=by rw [p2,h4];rfl
   clear p2;have bc:=zad (y9 ax.o) Fx.no_ok.len;have b3:=qj (xj al.o Fx.no_ok) Fx.no_ok.len (jp Fx.no_ok.2);have a5:=za (qb al.o Fx.no_ok Fx.no_ok);have a3:=za (ad.o.setCellsNew (Nat.le_succ w.heap.size) (fcs Fx.no) 0);have J:=za ((zg.refl (fun b=>b=w.heap.size+1) [zt] _).setCells (.inl rfl) al.o (by simp) (fcs Fx.no) 0);refine(zqs g (I 5) S (by exact(zf an.o 1 _ rfl).1)).mono ?_;rintro r w6 ⟨rfl,rfl⟩;go_wp2_with fail;refine bodyPost_ret (v:= .tuple #[.agg (fcs Fx.no).toArray,qq g]) (zv Tryz.results197 _ _ (w.heap.size+1) zt _ (0,0) _ rfl a5.o Tryz.underlying104 rfl (by rw [jt,List.size_toArray,Fx.no_ok.len]) _ rfl) rfl ⟨a3.o,by rw [Q.o];exact ao.o.turn J.o (by decide) (by decide) (by decide),by rw [Q.o,aq.o];exact .inr ⟨rfl,g,Nat.le_trans HZ.o aI.o,J.o.keep an.o (by decide),rfl⟩⟩
  ·have hm:=a1.o trivial h4;subst hm;have b8:((k:Int)==4)=false:=by simpa using (by omega:¬(k:Int)=4)
   have b6:=za ay.o;have HF:=za (zni Z I O nb db cb n1 d l A 4 (by omega) (by omega) bb S bp.o HE.o HS.o HO.o (bn.o.ok (by have:=ay.o;have:=zh5 d.fs n1 (l,A,(4:Int));simp only at *;omega)) bh.o ao.o (by obtain⟨x,-⟩:=zf bg.o 2 _ aE.o;exact x));have X:Hid (0 < k∧k < 4):=⟨aB,by omega⟩
   clear ay a0 a1 aB hk h4;unfold plV zo at HF;simp only at HF;rw [show((4:Nat):Int)=4 from rfl] at HF;generalize bu:xm (zu d.fs) n1 (l,A,(4:Int))=bs at *
   clear bu;obtain⟨o2,n2⟩:=bs;simp only at *
   refine(zqs g (I 5) S (by exact(zf an.o 1 _ rfl).1)).mono ?_;rintro r w6 ⟨rfl,rfl⟩;go_wp2_with fail;refine HF.o.mono ?_;rintro r D ⟨ag,aV,b0⟩;have aQ:=za (ad.o.trans (ag.mono (fun _ h=> .inl h) (fun _ h=>h)));have aG:Hid (D.heap[g]?=some (.cells #[txv pn,j4 I 5] 141 (0,0))):=ag.keep an.o (by decide);have aO:Hid (D.heap[w.heap.size]?=some (.cells #[.int .i64 l,.int .i64 A,.int .i64 k] 99 (0,0))):=ag.keep bm.o (by decide);have am:Hid (zn D (w.heap.size+1) Fx.no):=ag.keep al.o (by decide);have aL:=za aV;clear ag aV p0 p1 p2 ba HF;have HG:Hid (∀ xs,FOk xs→(zcq (.pointer (some ⟨D.heap.size,0,none⟩)) (.agg (fcs xs).toArray)).run Tryz.prog (D.alloc (.cells qt zt))= .ok () ((D.alloc (.cells qt zt)).setCells D.heap.size 0 (fcs xs))∧zn ((D.alloc (.cells qt zt)).setCells D.heap.size 0 (fcs xs)) D.heap.size xs∧Below D.heap.size D ((D.alloc (.cells qt zt)).setCells D.heap.size 0 (fcs xs))):=by
    intro xs hx;have af:zn (D.alloc (.cells qt zt)) D.heap.size Fx.no:=heap_alloc_last _ _;exact⟨qj (xj af Fx.no_ok) hx.len (jp hx.2),qb af Fx.no_ok hx,zr (ze _ _) (Nat.le_refl _) _ _⟩
   rcases b0 with ⟨xs,f,rfl,V,ah,rfl⟩ | ⟨rfl,g2,aw,av,rfl⟩
   ·obtain⟨b4,au,U⟩:=HG.o xs V;have bi:=za au;have ai:=za U;have R:=za V;have a7:=za ah;have p2:((D.alloc (.cells qt zt)).setCells D.heap.size 0 (fcs xs)).cell? ⟨w.heap.size,2,none⟩=some (.int .i64 k):=(zf ((U.block _ (zb aO.o)).trans aO.o) 2 _ rfl).1;have aC:w.heap.size+1 < D.heap.size:=zb am.o;have bA:=zxw D.heap.size k X.o.1 X.o.2 ((D.alloc (.cells qt zt)).setCells D.heap.size 0 (fcs xs));have aA:=fun ty=>z1n R.o X.o.1 X.o.2 bi.o (4 - k) ty;have b9:=fun ty=>(aA ty).1;have bj:=za (aA 0).2;have aa:=z72 V (Nat.le_of_lt X.o.2);have aJ:=za aa;have bc:=zad (y9 bj.o) aa.len;have aj:Hid (Below D.heap.size D (((D.alloc (.cells qt zt)).setCells D.heap.size 0 (fcs xs)).setCells D.heap.size (k*11) (fcs (List.replicate (4 - k) .no)))):=zr ai.o (Nat.le_refl _) _ _;have L:zn (((D.alloc (.cells qt zt)).setCells D.heap.size 0 (fcs xs)).setCells D.heap.size (k*11) (fcs (List.replicate (4 - k) .no))) (w.heap.size+1) Fx.no:=(aj.o.block _ aC).trans am.o;have b5:=qj (xj L Fx.no_ok) aa.len (jp aa.2);have a6:=za (qb L Fx.no_ok aa);have J:=za ((zg.refl (fun b=>b=w.heap.size+1) [zt] _).setCells (.inl rfl) L (by simp) (fcs (xs.take k++List.replicate (4 - k) .no)) 0);have a4:=za ((aQ.o.then_below aj.o).setCellsNew (Nat.le_succ w.heap.size) (fcs (xs.take k++List.replicate (4 - k) .no)) 0);have a2:=za (aL.o.below aj.o);have br:=za (z70 (a7.o.below aj.o) (Nat.le_of_lt X.o.2));clear au U V ah HG aA aa L;go_wp2_with fail;refine bodyPost_ret (v:= .tuple #[.agg (fcs (xs.take k++List.replicate (4 - k) .no)).toArray,.nilIface]) (zv Tryz.results197 _ _ (w.heap.size+1) zt _ (0,0) _ rfl a6.o Tryz.underlying104 rfl (by rw [jt,List.size_toArray,aJ.o.len]) _ rfl) rfl ⟨a4.o,by rw [Q.o];exact a2.o.turn J.o (by decide) (by decide) (by decide),by rw [Q.o,aq.o];exact .inl ⟨_,_,rfl,aJ.o,br.o.turn J.o (by decide),rfl⟩⟩
   ·obtain⟨b4,au,U⟩:=HG.o Fx.no Fx.no_ok;have ai:=za U;have aC:w.heap.size+1 < D.heap.size:=zb am.o;have L:zn ((D.alloc (.cells qt zt)).setCells D.heap.size 0 (fcs Fx.no)) (w.heap.size+1) Fx.no:=(U.block _ aC).trans am.o;have b5:=qj (xj L Fx.no_ok) Fx.no_ok.len (jp Fx.no_ok.2);have a6:=za (qb L Fx.no_ok Fx.no_ok);have J:=za ((zg.refl (fun b=>b=w.heap.size+1) [zt] _).setCells (.inl rfl) L (by simp) (fcs Fx.no) 0);have a4:=za ((aQ.o.then_below ai.o).setCellsNew (Nat.le_succ w.heap.size) (fcs Fx.no) 0);have a2:=za (aL.o.below ai.o);have bk:Hid (((D.alloc (.cells qt zt)).setCells D.heap.size 0 (fcs Fx.no)).heap[g]?=some (.cells #[txv pn,j4 I 5] 141 (0,0))):=(U.block _ (zb aG.o)).trans aG.o;have bw:=fun w0=>zkj w0;rw [zrg] at bw;clear au U HG aw av L;unfold qq;go_wp2_with fail;refine bodyPost_ret (v:= .tuple #[.agg (fcs Fx.no).toArray,qq g]) (zv Tryz.results197 _ _ (w.heap.size+1) zt _ (0,0) _ rfl a6.o Tryz.underlying104 rfl (by rw [jt,List.size_toArray,Fx.no_ok.len]) _ rfl) rfl ⟨a4.o,by rw [Q.o];exact a2.o.turn J.o (by decide) (by decide) (by decide),by rw [Q.o,aq.o];exact .inr ⟨rfl,g,Nat.le_trans HZ.o aI.o,J.o.keep bk.o (by decide),rfl⟩⟩
end
theorem zts (O:Nat→Prop)(H R h:Nat)(room:Int)(l:Ks)(o n:Option Addr)(w:World)(hO:O H∧O R∧O h)(E:w.heap[H]?=some (.cells #[.int .i64 room,.map (some R),zo h] MeN (0,0)))
  (J:w.heap[h]?=some (.cells #[.int .i64 0,.int .i64 0,.int .i64 0,.pointer none,.pointer o,.pointer n] LkN (0,0))) (D:jq w R l) :
  Calls Tryz.prog 73 #[zo H] w fun r w'=>r= .returned (.tuple #[])∧zg O [LkN] w w'∧zab w' O H room []∧w'.heap.size=w.heap.size:=by
 obtain⟨Q,ae,W,K⟩:=D.clear Tryz.underlying167 0;have X:Q.heap.size=w.heap.size:=by
  obtain⟨es,c,hm⟩:=D.isMap;have e:=ae;simp [Builtin.clear_,run_underlying Tryz.underlying167,MapKept.run_getObj_map hm,MapKept.run_setObj_map _ hm,Result.andThen] at e;rw [← e];simp
 have L:=(K.block H (zb E) (D.not E)).trans E;have A:=(K.block h (zb J) (D.not J)).trans J;have m1:w.cell? ⟨H,1,none⟩=some (.map (some R)):=(zf E 1 _ rfl).1;have m2:Q.cell? ⟨H,2,none⟩=some (.pointer (some ⟨h,0,none⟩)):=(zf L 2 _ rfl).1;have e4:Q.cell? ⟨h,4,none⟩=some (.pointer o):=(zf A 4 _ rfl).1;have g4:Q.frozen? ⟨h,4,none⟩=false:=(zf A 4 _ rfl).2;have e5:Q.cell? ⟨h,5,none⟩=some (.pointer n):=(zf A 5 _ rfl).1;have g5:Q.frozen? ⟨h,5,none⟩=false:=(zf A 5 _ rfl).2;have z0:¬ h=H:=fun e=>by
  have h1:some (Obj.cells _ _ _)=some (Obj.cells _ _ _):=A.symm.trans (by rw [e];exact L);simp only [Option.some.injEq,Obj.cells.injEq] at h1;exact absurd h1.2.1 (by decide)
 have z1:¬ H=h:=fun e=>z0 e.symm;have U:=za hO;have S:=za W;have aa:Hid (zg O [LkN] w Q):=(zg.refl O [LkN] w).map (.inl hO.2.1) D K;have I:=za (And.intro L A);have Z:=za X;unfold zo;clear hO D E J W K L A X;go_enter Tryz.func73,Tryz.ntmps73;go_wp2_with fail;go_region_held3 (fun w'=>w'.cell? ⟨H,2,none⟩=some (.pointer (some ⟨h,0,none⟩))) (go_keep) (fail);rename_i ad;clear ad;go_wp2_with fail;go_end0;have V:=qo I.o.2 4 (.pointer (some ⟨h,0,none⟩));have ac:=qo V 5 (.pointer (some ⟨h,0,none⟩));refine⟨rfl,((aa.o.set (.inl U.o.2.2) I.o.2 (by simp) _).set (.inl U.o.2.2) V (by simp) _).drew,⟨R,h,fun _=>h,fun _=>h,⟨U.o.1,U.o.2.1,U.o.2.2,fun x Y=>by simp at Y⟩,?_,⟨ac,fun x Y=>by simp at Y,zks h⟩,?_,fun x Y=>by simp at Y⟩,?_⟩
 ·show((Q.setCell _ _).setCell _ _).heap[H]?=_;rw [heap_setCell_other _ _ _ _ z1,heap_setCell_other _ _ _ _ z1];exact I.o.1
 ·refine S.o.same ?_;show((Q.setCell _ _).setCell _ _).heap[R]?=_;have zh:R≠h:=fun e=>S.o.not I.o.2 (by rw [e]);rw [heap_setCell_other _ _ _ _ zh,heap_setCell_other _ _ _ _ zh]
 ·simp [World.setCell,World.drew,Z.o]
theorem z50 (room:Int)(w:World):
  Calls Tryz.prog 38 #[.int .i64 room] w fun r w'=>∃ K,r= .returned (zo K)∧Below w.heap.size w w'∧zab w' (fun k=>w.heap.size≤k∧k < w'.heap.size) K room []:=by
 have V:=@run_makeMap Tryz.prog;go_enter Tryz.func38,Tryz.ntmps38;go_wp2_with fail;have L:(w.alloc (.map #[] 0)).heap.size=w.heap.size+1:=by simp
 have h1:=heap_alloc_last w (.map #[] 0);have h2:=heap_alloc_last (w.alloc (.map #[] 0)) (.cells #[.int .i64 0,.int .i64 0,.int .i64 0,.pointer none,.pointer none,.pointer none] LkN);rw [L] at h2;have Q:((w.alloc (.map #[] 0)).alloc (.cells #[.int .i64 0,.int .i64 0,.int .i64 0,.pointer none,.pointer none,.pointer none] LkN)).heap.size=w.heap.size+1+1:=by simp
 have A:=heap_alloc_last ((w.alloc (.map #[] 0)).alloc (.cells #[.int .i64 0,.int .i64 0,.int .i64 0,.pointer none,.pointer none,.pointer none] LkN)) (.cells #[.int .i64 room,.map (some w.heap.size),.pointer (some ⟨w.heap.size+1,0,none⟩)] MeN);rw [Q] at A;have D:Below w.heap.size w (((w.alloc (.map #[] 0)).alloc (.cells #[.int .i64 0,.int .i64 0,.int .i64 0,.pointer none,.pointer none,.pointer none] LkN)).alloc (.cells #[.int .i64 room,.map (some w.heap.size),.pointer (some ⟨w.heap.size+1,0,none⟩)] MeN)):=jn _ _ _ _;refine(zts (fun k=>w.heap.size≤k) (w.heap.size+1+1) w.heap.size (w.heap.size+1) room [] none none _ ⟨by omega,by omega,by omega⟩ A (zc h2) (zhp (c:=0) (zc (zc h1)))).mono ?_;rintro r I ⟨rfl,J,hm,H⟩;have R:Hid (Below w.heap.size w I):=D.trans (J.below (fun _ h=>h) D.size);have S:Hid (zab I (fun k=>w.heap.size≤k∧k < I.heap.size) (w.heap.size+1+1) room []):=by
  obtain⟨E,U,nx,pv,h⟩:=hm;exact⟨E,U,nx,pv,⟨⟨h.own.1,zb h.mem⟩,⟨h.own.2.1,h.map.lt⟩,⟨h.own.2.2.1,zb h.ring.ends⟩,fun x W=>by simp at W⟩,h.mem,h.ring,h.map,h.ok⟩
 clear J hm D h1 h2 A L Q H;go_wp2_with fail;go_ret;exact⟨_,rfl,R.o,S.o⟩
end Go.Proofs.YtndkblnpbjffhaaGreatDoor
