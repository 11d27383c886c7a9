import Derived.Test.YtlcllcgngjhoaaaGreatDoorG28
set_option maxHeartbeats 8000000
set_option maxRecDepth 100000
set_option linter.all false
namespace Go.Proofs.YtlcllcgngjhoaaaGreatDoor
open Go.RowKit Go.Proofs.Tryz
variable {d:Dk}{k:Nat}
section
attribute [local go_sem ↓] jy jn j4 jo ji jh j3 jm
structure NSt (d:Dk)(n:Nt):Prop where
 nf:d.fs.length≤1000000000
 fl:∀ f∈d.fs,f.2.length≤1000000000
 ly:∀ l∈n.lies,l.data.length≤1000000000
 ll:n.lies.length≤1000000000
 fe:0≤n.fetches
 td:∀ t∈n.told,0≤t∧t≤n.fetches
theorem NSt.ok {n:Nt}(h:NSt d n)(b:n.fetches < 4611686018427387904):NOk d n :=
 ⟨h.nf,h.fl,h.ly,h.ll,⟨h.fe,b⟩,fun t a=>⟨(h.td t a).1,by have:=(h.td t a).2;omega⟩⟩
theorem NSt.step {n:Nt}(h:NSt d n)(p:zc):NSt d (yz d.fs n p).2:=by
 have c:=h.fe;unfold yz;split
 ·rename_i k f;refine⟨h.nf,h.fl,h.ly,h.ll,by show 0≤n.fetches+1;omega,fun t a=>?_⟩;simp only at a ⊢;rcases List.mem_or_eq_of_mem_set a with a | rfl
  ·have:=h.td t a;omega
  ·have e:0≤n.told.getD k 0∧n.told.getD k 0≤n.fetches:=by
    by_cases b:k < n.told.length
    ·rw [zl,zt b];exact h.td _ (yd b)
    ·rw [zl,zaz (by omega)];exact⟨zfg _,c⟩
   omega
 ·split
  ·exact⟨h.nf,h.fl,h.ly,h.ll,by show 0≤n.fetches+1;omega,fun t a=>by have:=h.td t a;show 0≤t∧t≤n.fetches+1;omega⟩
  ·exact⟨h.nf,h.fl,h.ly,h.ll,by show 0≤n.fetches+1;omega,fun t a=>by have:=h.td t a;show 0≤t∧t≤n.fetches+1;omega⟩
theorem NSt.place {n:Nt}(h:NSt d n)(p:Pl):NSt d (j7 (yz d.fs) n p).2:=h.step _
theorem NSt.file {n:Nt}(h:NSt d n)(p:Pl):NSt d (zb0 (yz d.fs) n p).2:=by
 cases a:(j7 (yz d.fs) n p).1 with
 | some f=>rw [zqx a];exact h.place p
 | none =>
  by_cases b:p.2.2=4
  ·rw [zop a b];exact h.place p
  ·rw [zqw a b];exact(h.place p).place _
theorem zpv (fs:Fs)(n:Nt)(p:Pl):(j7 (yz fs) n p).2.fetches=n.fetches+1:=zh6 fs n _
theorem zrm (fs:Fs)(n:Nt)(p:Pl):n.fetches+1≤(zb0 (yz fs) n p).2.fetches∧(zb0 (yz fs) n p).2.fetches≤n.fetches+2:=by
 have c:=zpv fs n p;cases a:(j7 (yz fs) n p).1 with
 | some f=>rw [zqx a];simp only;omega
 | none =>
  by_cases b:p.2.2=4
  ·rw [zop a b];simp only;omega
  ·rw [zqw a b];have d:=zpv fs (j7 (yz fs) n p).2 (p.1,p.2.1,4);simp only;omega
theorem z9f (b k:Nat)(h0:0 < k)(a:k < 4)(w:World):(Instr.sliceAt 154 (.pointer (some ⟨b,0,none⟩)) (some (.int .i64 k)) none none).run prog w= .ok (.slice (some ⟨b,k*11,none⟩) (4 - k) (4 - k)) w:=by
 match k,h0,a with
 | 1,_,_=>simp [go_sem,underlying154]
 | 2,_,_=>simp [go_sem,underlying154]
 | 3,_,_=>simp [go_sem,underlying154]
theorem ykt {b:List Px}(h:FOk b)(c:k≤4):FOk (b.take k++List.replicate (4 - k) .no):=by
 refine⟨by simp [h.1];omega,fun x a=>?_⟩;rcases yt.1 a with a | a
 ·exact h.2 x (qh a)
 ·exact z8w _ x a
abbrev zbx:Nat:=166
theorem yb7 (G:World)(m:Nat→Addr)(O:Nat→Prop)(nb db cb:Nat)(n:Nt)(d:Dk)(l a:Int)(k:Nat)(aw:0 < k)(hk:k≤4)(aV:a≤9223372036854775807)(w:World)(hW:Below G.heap.size G w)(hE:Env G)(hS:zbz G m)
 (hO:∀ b,O b→G.heap.size≤b) (aY:NSt d n) (ag:(zb0 (yz d.fs) n (l,a,(k:Int))).2.fetches < 4611686018427387904) (hD:yw w O db d) (hN:zdn w O nb db n) (C:Array Value) (hc:w.heap[cb]?=some (.cells C zbx (0,0))) (hC:C[2]?=some (zwm nb)) :
  Calls prog 181 #[yx cb,plV (l,a,k)] w fun r w'=>zq O nT w w'∧zdn w' O nb db (zb0 (yz d.fs) n (l,a,k)).2∧yn5 m w.heap.size (qq l a k) w' (zb0 (yz d.fs) n (l,a,k)).1 r:=by
 have bj:=(zrm d.fs n (l,a,(k:Int))).1;have H0:Hid (Below w.heap.size w ((w.alloc (.cells #[.int .i64 l,.int .i64 a,.int .i64 k] 150)).alloc (.cells za6 xg))∧((w.alloc (.cells #[.int .i64 l,.int .i64 a,.int .i64 k] 150)).alloc (.cells za6 xg)).heap[w.heap.size]?=some (.cells #[.int .i64 l,.int .i64 a,.int .i64 k] 150 (0,0))∧yu ((w.alloc (.cells #[.int .i64 l,.int .i64 a,.int .i64 k] 150)).alloc (.cells za6 xg)) (w.heap.size+1) Fx.no):=by
  refine⟨xu _ _ _,zj (zg _ _),?_⟩;have:=zg (w.alloc (.cells #[.int .i64 l,.int .i64 a,.int .i64 k] 150)) (.cells za6 xg);rw [show(w.alloc (.cells #[.int .i64 l,.int .i64 a,.int .i64 k] 150)).heap.size=w.heap.size+1 by simp] at this;exact this
 have HW:=zf hW;have HE:=zf hE;have HS:=zf hS;have HO:=zf hO;have aG:=zf aY;have J:=zf ag;have HD:=zf hD;have HN:=zf hN;have HC:=zf hc;have az:=zf hC;have aX:n.fetches < 4611686018427387904:=by omega
 have a9:=zf aX;clear hW hE hS hO aY hD hN hc hC ag bj aX;unfold plV;simp only;unfold yx;go_enter func181,ntmps181;go_wp2_with fail;generalize (w.alloc (.cells #[.int .i64 l,.int .i64 a,.int .i64 k] 150)).alloc (.cells za6 xg)=W1 at *;have ar:Below G.heap.size G W1:=HW.o.trans (H0.o.1.mono HW.o.size);have aa:zq O nT w W1:= .of_below H0.o.1;have ay:Hid (W1.heap[cb]?=some (.cells C zbx (0,0))):=aa.keep HC.o (by decide);have Q:=zf (zv3 G m O nb db cb n d l a k aw hk aV W1 ar HE.o HS.o HO.o (aG.o.ok a9.o) (HD.o.stay aa (by decide) (by decide)) (HN.o.below H0.o.1) (by obtain⟨x,-⟩:=zw ay.o 2 _ az.o;exact x));have bc:=zf aa;have a3:=zf H0.o.1;have aH:=zf H0.o.2;have bo:=zf (zpv d.fs n (l,a,(k:Int)));have bb:=zf (aG.o.place (l,a,(k:Int)));have aL:=zf ar;have ai:Hid (∀ f,(j7 (yz d.fs) n (l,a,(k:Int))).1=some f→zb0 (yz d.fs) n (l,a,(k:Int))=(some f,(j7 (yz d.fs) n (l,a,(k:Int))).2)):=fun f h=>zqx h;have aj:Hid ((j7 (yz d.fs) n (l,a,(k:Int))).1=none→k=4→zb0 (yz d.fs) n (l,a,(k:Int))=(none,(j7 (yz d.fs) n (l,a,(k:Int))).2)):=fun h h4=>zop h (by show(k:Int)=4;omega);have ak:Hid ((j7 (yz d.fs) n (l,a,(k:Int))).1=none→k≠4→zb0 (yz d.fs) n (l,a,(k:Int))=(((j7 (yz d.fs) (j7 (yz d.fs) n (l,a,(k:Int))).2 (l,a,4)).1).map (znw k),(j7 (yz d.fs) (j7 (yz d.fs) n (l,a,(k:Int))).2 (l,a,4)).2)):=fun h h4=>zqw h (by show(k:Int)≠4;omega);unfold plV yx at Q;simp only at Q;generalize aQ:qq l a k=pn at *;generalize aM:zb0 (yz d.fs) n (l,a,(k:Int))=FM at *;have t:=zf aM;have Z:=zf aQ;generalize bh:j7 (yz d.fs) n (l,a,(k:Int))=PM at *;obtain⟨o1,n1⟩:=PM;simp only at *;clear bh aQ aM H0 ar aa;go_wp2_with fail;refine Q.o.mono ?_;rintro r j ⟨I,aN,bk⟩;have aR:zq O nT w j:=bc.o.trans (I.mono (fun _ h=> .inl h) (fun _ h=>h));have aJ:=zf aR;have bm:j.heap[w.heap.size]?=some (.cells #[.int .i64 l,.int .i64 a,.int .i64 k] 150 (0,0)):=I.keep aH.o.1 (by decide);have aS:yu j (w.heap.size+1) Fx.no:=I.keep aH.o.2 (by decide);have Y:=zf bm;have T:=zf aS;have aE:=zf aN;have F:Hid (Below G.heap.size G j):=aL.o.trans (I.below HO.o aL.o.size);have af:Hid (j.heap[cb]?=some (.cells C zbx (0,0))):=I.keep ay.o (by decide);have HZ:Hid (w.heap.size≤W1.heap.size):=a3.o.size;have bs:w.heap.size+1 < j.heap.size:=zi aS;clear I aN aR Q;have V:Hid (∀ e,FOk e→(zi4 (.pointer (some ⟨j.heap.size,0,none⟩)) (.agg (vf e).toArray)).run prog (j.alloc (.cells za6 xg))= .ok () ((j.alloc (.cells za6 xg)).setCells j.heap.size 0 (vf e))∧yu ((j.alloc (.cells za6 xg)).setCells j.heap.size 0 (vf e)) j.heap.size e∧Below j.heap.size j ((j.alloc (.cells za6 xg)).setCells j.heap.size 0 (vf e))):=by
  intro e hx;have M:yu (j.alloc (.cells za6 xg)) j.heap.size Fx.no:=zg _ _;exact⟨zax (vp M Fx.no_ok) hx.len (zcl hx.2),zap M Fx.no_ok hx,xn (zk _ _) (zm _) _ _⟩
 rcases bk with ⟨e,f,rfl,A,P,rfl⟩ | ⟨rfl,g,ae,ad,rfl⟩
 ·have hm:=ai.o f rfl;subst hm;simp only;obtain⟨aZ,q,L⟩:=V.o e A;have ah:=zf q;have i:=zf L;have u:=zf A;have aq:=zf P;clear q L A P ai aj ak V;have aU:((j.alloc (.cells za6 xg)).setCells j.heap.size 0 (vf e)).cell? ⟨6,0,none⟩=some (.iface 364 (.pointer (some (m 5)))):=by
   have au:=F.o.trans (i.o.mono F.o.size);exact(HS.o.below au).tile
  go_wp2_with fail;generalize (j.alloc (.cells za6 xg)).setCells j.heap.size 0 (vf e)=y at *;have B:y.heap[w.heap.size]?=some (.cells #[.int .i64 l,.int .i64 a,.int .i64 k] 150 (0,0)):=(i.o.block _ (zi Y.o)).trans Y.o;have q:yu y (w.heap.size+1) Fx.no:=(i.o.block _ (zi T.o)).trans T.o;have aW:=ze0 (j6 ah.o) u.o.len;have a0:=zax (vp q Fx.no_ok) u.o.len (zcl u.o.2);have ao:=zf (zap q Fx.no_ok u.o);have K:=zf (aJ.o.then_below i.o);have am:=zf (K.o.setCellsNew (vk w.heap.size) (vf e) 0);have p:=zf ((zq.refl (fun b=>b=w.heap.size+1) [xg] _).setCells (.inl rfl) q (by simp) (vf e) 0);have X:=zf (aE.o.below i.o);have be:=zf (aq.o.below i.o);clear q B;refine(ynd (m 5) y).mono ?_;rintro r w6 ⟨rfl,rfl⟩;go_wp2_with fail;refine z8 (v:= .tuple #[.agg (vf e).toArray,.nilIface]) (qa results181 _ _ (w.heap.size+1) xg _ (0,0) _ rfl ao.o underlying154 rfl (by rw [zcs,xf,u.o.len]) _ rfl) rfl ⟨am.o,by rw [t.o];exact X.o.turn p.o (by decide) (by decide) (by decide),by rw [t.o,Z.o];exact .inl ⟨e,f,rfl,u.o,be.o.turn p.o (by decide),rfl⟩⟩
 ·obtain⟨aZ,q,L⟩:=V.o Fx.no Fx.no_ok;have ah:=zf q;have i:=zf L;have aB:=zf ad;have aC:=zf ae;clear q L V ad ae ai;have aU:((j.alloc (.cells za6 xg)).setCells j.heap.size 0 (vf Fx.no)).cell? ⟨6,0,none⟩=some (.iface 364 (.pointer (some (m 5)))):=by
   have au:=F.o.trans (i.o.mono F.o.size);exact(HS.o.below au).tile
  go_wp2_with fail;generalize (j.alloc (.cells za6 xg)).setCells j.heap.size 0 (vf Fx.no)=y at *;have W:Hid (y.heap[g]?=some (.cells #[qo pn,zd2 m 5] 179 (0,0))):=(i.o.block _ (zi aB.o)).trans aB.o;have B:y.heap[w.heap.size]?=some (.cells #[.int .i64 l,.int .i64 a,.int .i64 k] 150 (0,0)):=(i.o.block _ (zi Y.o)).trans Y.o;have U:Hid (yu y (w.heap.size+1) Fx.no):=(i.o.block _ (zi T.o)).trans T.o;have K:=zf (aJ.o.then_below i.o);have X:=zf (aE.o.below i.o);have a4:Hid (y.heap[cb]?=some (.cells C zbx (0,0))):=(i.o.block _ (zi af.o)).trans af.o;have bd:Hid (Below G.heap.size G y):=F.o.trans (i.o.mono F.o.size);have a5:Hid (yw y O db d):=HD.o.stay K.o (by decide) (by decide);have p0:y.cell? ⟨w.heap.size,0,none⟩=some (.int .i64 l):=(zw B 0 _ rfl).1;have p1:y.cell? ⟨w.heap.size,1,none⟩=some (.int .i64 a):=(zw B 1 _ rfl).1;have p2:y.cell? ⟨w.heap.size,2,none⟩=some (.int .i64 k):=(zw B 2 _ rfl).1;have ba:=zf B;clear B
  by_cases h4:k=4
  ·have hm:=aj.o trivial h4;subst hm;have bt:y.cell? ⟨w.heap.size,2,none⟩=some (.int .i64 4):=by rw [p2,h4];rfl
   clear p2;have aW:=ze0 (j6 ah.o) Fx.no_ok.len;have a0:=zax (vp U.o Fx.no_ok) Fx.no_ok.len (zcl Fx.no_ok.2);have ao:=zf (zap U.o Fx.no_ok Fx.no_ok);have am:=zf (K.o.setCellsNew (vk w.heap.size) (vf Fx.no) 0);have p:=zf ((zq.refl (fun b=>b=w.heap.size+1) [xg] _).setCells (.inl rfl) U.o (by simp) (vf Fx.no) 0);refine(z00 g (m 5) y (by exact(zw W.o 1 _ rfl).1)).mono ?_;rintro r w6 ⟨rfl,rfl⟩;go_wp2_with fail;refine z8 (v:= .tuple #[.agg (vf Fx.no).toArray,za7 g]) (qa results181 _ _ (w.heap.size+1) xg _ (0,0) _ rfl ao.o underlying154 rfl (by rw [zcs,xf,Fx.no_ok.len]) _ rfl) rfl ⟨am.o,by rw [t.o];exact X.o.turn p.o (by decide) (by decide) (by decide),by rw [t.o,Z.o];exact .inr ⟨rfl,g,zu HZ.o aC.o,p.o.keep W.o (by decide),rfl⟩⟩
  ·have hm:=ak.o trivial h4;subst hm;have bp:((k:Int)==4)=false:=by simpa using (by omega:¬(k:Int)=4)
   have bn:=zf J.o;have Q:=zf (zv3 G m O nb db cb n1 d l a 4 (by omega) (by omega) aV y bd.o HE.o HS.o HO.o (bb.o.ok (by have:=J.o;have:=zpv d.fs n1 (l,a,(4:Int));simp only at *;omega)) a5.o X.o (by obtain⟨x,-⟩:=zw a4.o 2 _ az.o;exact x));have E:Hid (0 < k∧k < 4):=⟨aw,by omega⟩;clear J aj ak aw hk h4;unfold plV yx at Q;simp only at Q;rw [show((4:Nat):Int)=4 from rfl] at Q;generalize aP:j7 (yz d.fs) n1 (l,a,(4:Int))=bg at *;clear aP;obtain⟨o2,n2⟩:=bg;simp only at *;refine(z00 g (m 5) y (by exact(zw W.o 1 _ rfl).1)).mono ?_;rintro r w6 ⟨rfl,rfl⟩;go_wp2_with fail;refine Q.o.mono ?_;rintro r c ⟨N,aO,bl⟩;have aK:=zf (K.o.trans (N.mono (fun _ h=> .inl h) (fun _ h=>h)));have aA:Hid (c.heap[g]?=some (.cells #[qo pn,zd2 m 5] 179 (0,0))):=N.keep W.o (by decide);have aI:Hid (c.heap[w.heap.size]?=some (.cells #[.int .i64 l,.int .i64 a,.int .i64 k] 150 (0,0))):=N.keep ba.o (by decide);have D:Hid (yu c (w.heap.size+1) Fx.no):=N.keep U.o (by decide);have aF:=zf aO;clear N aO p0 p1 p2 aU Q;have V:Hid (∀ e,FOk e→(zi4 (.pointer (some ⟨c.heap.size,0,none⟩)) (.agg (vf e).toArray)).run prog (c.alloc (.cells za6 xg))= .ok () ((c.alloc (.cells za6 xg)).setCells c.heap.size 0 (vf e))∧yu ((c.alloc (.cells za6 xg)).setCells c.heap.size 0 (vf e)) c.heap.size e∧Below c.heap.size c ((c.alloc (.cells za6 xg)).setCells c.heap.size 0 (vf e))):=by
    intro e hx;have M:yu (c.alloc (.cells za6 xg)) c.heap.size Fx.no:=zg _ _;exact⟨zax (vp M Fx.no_ok) hx.len (zcl hx.2),zap M Fx.no_ok hx,xn (zk _ _) (zm _) _ _⟩
   rcases bl with ⟨e,f,rfl,A,P,rfl⟩ | ⟨rfl,g2,ae,ad,rfl⟩
   ·obtain⟨a1,ab,z⟩:=V.o e A;have a6:=zf ab;have R:=zf z;have u:=zf A;have aq:=zf P;have p2:((c.alloc (.cells za6 xg)).setCells c.heap.size 0 (vf e)).cell? ⟨w.heap.size,2,none⟩=some (.int .i64 k):=(zw ((z.block _ (zi aI.o)).trans aI.o) 2 _ rfl).1;have ax:w.heap.size+1 < c.heap.size:=zi D.o;have br:=z9f c.heap.size k E.o.1 E.o.2 ((c.alloc (.cells za6 xg)).setCells c.heap.size 0 (vf e));have av:=fun ty=>ybs u.o E.o.1 E.o.2 a6.o (4 - k) ty;have bq:=fun ty=>(av ty).1;have a7:=zf (av 0).2;have H:=ykt A (z15 E.o.2);have aD:=zf H;have aW:=ze0 (j6 a7.o) H.len;have S:Hid (Below c.heap.size c (((c.alloc (.cells za6 xg)).setCells c.heap.size 0 (vf e)).setCells c.heap.size (k*11) (vf (List.replicate (4 - k) .no)))):=xn R.o (zm _) _ _;have s:yu (((c.alloc (.cells za6 xg)).setCells c.heap.size 0 (vf e)).setCells c.heap.size (k*11) (vf (List.replicate (4 - k) .no))) (w.heap.size+1) Fx.no:=(S.o.block _ ax).trans D.o;have a2:=zax (vp s Fx.no_ok) H.len (zcl H.2);have ap:=zf (zap s Fx.no_ok H);have p:=zf ((zq.refl (fun b=>b=w.heap.size+1) [xg] _).setCells (.inl rfl) s (by simp) (vf (e.take k++List.replicate (4 - k) .no)) 0);have an:=zf ((aK.o.then_below S.o).setCellsNew (vk w.heap.size) (vf (e.take k++List.replicate (4 - k) .no)) 0);have al:=zf (aF.o.below S.o);have bf:=zf (yks (aq.o.below S.o) (z15 E.o.2));clear ab z A P V av H s;go_wp2_with fail;refine z8 (v:= .tuple #[.agg (vf (e.take k++List.replicate (4 - k) .no)).toArray,.nilIface]) (qa results181 _ _ (w.heap.size+1) xg _ (0,0) _ rfl ap.o underlying154 rfl (by rw [zcs,xf,aD.o.len]) _ rfl) rfl ⟨an.o,by rw [t.o];exact al.o.turn p.o (by decide) (by decide) (by decide),by rw [t.o,Z.o];exact .inl ⟨_,_,rfl,aD.o,bf.o.turn p.o (by decide),rfl⟩⟩
   ·obtain⟨a1,ab,z⟩:=V.o Fx.no Fx.no_ok;have R:=zf z;have ax:w.heap.size+1 < c.heap.size:=zi D.o;have s:yu ((c.alloc (.cells za6 xg)).setCells c.heap.size 0 (vf Fx.no)) (w.heap.size+1) Fx.no:=(z.block _ ax).trans D.o;have a2:=zax (vp s Fx.no_ok) Fx.no_ok.len (zcl Fx.no_ok.2);have ap:=zf (zap s Fx.no_ok Fx.no_ok);have p:=zf ((zq.refl (fun b=>b=w.heap.size+1) [xg] _).setCells (.inl rfl) s (by simp) (vf Fx.no) 0);have an:=zf ((aK.o.then_below R.o).setCellsNew (vk w.heap.size) (vf Fx.no) 0);have al:=zf (aF.o.below R.o);have a8:Hid (((c.alloc (.cells za6 xg)).setCells c.heap.size 0 (vf Fx.no)).heap[g]?=some (.cells #[qo pn,zd2 m 5] 179 (0,0))):=(z.block _ (zi aA.o)).trans aA.o;have bi:=fun w0=>zsq w0;rw [z08] at bi;clear ab z V ae ad s;unfold za7;go_wp2_with fail;refine z8 (v:= .tuple #[.agg (vf Fx.no).toArray,za7 g]) (qa results181 _ _ (w.heap.size+1) xg _ (0,0) _ rfl ap.o underlying154 rfl (by rw [zcs,xf,Fx.no_ok.len]) _ rfl) rfl ⟨an.o,by rw [t.o];exact al.o.turn p.o (by decide) (by decide) (by decide),by rw [t.o,Z.o];exact .inr ⟨rfl,g,zu HZ.o aC.o,p.o.keep a8.o (by decide),rfl⟩⟩
end
theorem z3d (O:Nat→Prop)(k s d:Nat)(q:Int)(l:Ks)(o n:Option Addr)(w:World)(F:O k∧O s∧O d)(h:w.heap[k]?=some (.cells #[.int .i64 q,.map (some s),yx d] MeN (0,0)))
 (i:w.heap[d]?=some (.cells #[.int .i64 0,.int .i64 0,.int .i64 0,.pointer none,.pointer o,.pointer n] LkN (0,0))) (b:zb6 w s l) :
  Calls prog 106 #[yx k] w fun r C=>r= .returned (.tuple #[])∧zq O [LkN] w C∧zen C O k q []∧C.heap.size=w.heap.size:=by
 obtain⟨p,z,j,f⟩:=b.clear underlying208 0;have A:p.heap.size=w.heap.size:=by
  obtain⟨es,c,I⟩:=b.isMap;have e:=z;simp [Builtin.clear_,zcu underlying208,zkw I,zkx _ I,Result.andThen] at e;rw [← e];simp
 have g:=(f.block k (zi h) (b.not h)).trans h;have a:=(f.block d (zi i) (b.not i)).trans i;have R:w.cell? ⟨k,1,none⟩=some (.map (some s)):=(zw h 1 _ rfl).1;have S:p.cell? ⟨k,2,none⟩=some (.pointer (some ⟨d,0,none⟩)):=(zw g 2 _ rfl).1;have M:p.cell? ⟨d,4,none⟩=some (.pointer o):=(zw a 4 _ rfl).1;have P:p.frozen? ⟨d,4,none⟩=false:=(zw a 4 _ rfl).2;have N:p.cell? ⟨d,5,none⟩=some (.pointer n):=(zw a 5 _ rfl).1;have Q:p.frozen? ⟨d,5,none⟩=false:=(zw a 5 _ rfl).2;have L:¬ d=k:=fun e=>by
  have H:some (Obj.cells _ _ _)=some (Obj.cells _ _ _):=a.symm.trans (by rw [e];exact g);simp only [zr,vw] at H;exact absurd H.2.1 (by decide)
 have J:¬ k=d:=fun e=>L e.symm;have v:=zf F;have u:=zf j;have E:Hid (zq O [LkN] w p):=(zq.refl O [LkN] w).map (.inl F.2.1) b f;have m:=zf (And.intro g a);have D:=zf A;unfold yx;clear F b h i j f g a A;go_enter func106,ntmps106;go_wp2_with fail
 go_region_held3 (fun C=>C.cell? ⟨k,2,none⟩=some (.pointer (some ⟨d,0,none⟩))) (go_keep) (fail)
 rename_i t;clear t;go_wp2_with fail
 go_end0
 have y:=zav m.o.2 4 (.pointer (some ⟨d,0,none⟩));have G:=zav y 5 (.pointer (some ⟨d,0,none⟩));refine⟨rfl,((E.o.set (.inl v.o.2.2) m.o.2 (by simp) _).set (.inl v.o.2.2) y (by simp) _).drew,⟨s,d,fun _=>d,fun _=>d,⟨v.o.1,v.o.2.1,v.o.2.2,fun x B=>by simp at B⟩,?_,⟨G,fun x B=>by simp at B,zst d⟩,?_,fun x B=>by simp at B⟩,?_⟩
 ·show((p.setCell _ _).setCell _ _).heap[k]?=_;rw [yh _ _ _ _ J,yh _ _ _ _ J];exact m.o.1
 ·refine u.o.same ?_;show((p.setCell _ _).setCell _ _).heap[s]?=_;have K:s≠d:=fun e=>u.o.not m.o.2 (by rw [e]);rw [yh _ _ _ _ K,yh _ _ _ _ K]
 ·simp [World.setCell,World.drew,D.o]
theorem yh6 (a:Int)(w:World):
  Calls prog 77 #[.int .i64 a] w fun r i=>∃ p,r= .returned (yx p)∧Below w.heap.size w i∧zen i (fun k=>w.heap.size≤k∧k < i.heap.size) p a []:=by
 have y:=@run_makeMap prog;go_enter func77,ntmps77;go_wp2_with fail;have q:(w.alloc (.map #[] 0)).heap.size=w.heap.size+1:=by simp
 have l:=zg w (.map #[] 0);have b:=zg (w.alloc (.map #[] 0)) (.cells #[.int .i64 0,.int .i64 0,.int .i64 0,.pointer none,.pointer none,.pointer none] LkN);rw [q] at b;have s:((w.alloc (.map #[] 0)).alloc (.cells #[.int .i64 0,.int .i64 0,.int .i64 0,.pointer none,.pointer none,.pointer none] LkN)).heap.size=w.heap.size+1+1:=by simp
 have d:=zg ((w.alloc (.map #[] 0)).alloc (.cells #[.int .i64 0,.int .i64 0,.int .i64 0,.pointer none,.pointer none,.pointer none] LkN)) (.cells #[.int .i64 a,.map (some w.heap.size),.pointer (some ⟨w.heap.size+1,0,none⟩)] MeN);rw [s] at d;have e:Below w.heap.size w (((w.alloc (.map #[] 0)).alloc (.cells #[.int .i64 0,.int .i64 0,.int .i64 0,.pointer none,.pointer none,.pointer none] LkN)).alloc (.cells #[.int .i64 a,.map (some w.heap.size),.pointer (some ⟨w.heap.size+1,0,none⟩)] MeN)):=zca _ _ _ _;refine(z3d (fun k=>w.heap.size≤k) (w.heap.size+1+1) w.heap.size (w.heap.size+1) a [] none none _ ⟨by omega,by omega,by omega⟩ d (zj b) (zo4 (c:=0) (zj (zj l)))).mono ?_;rintro r j ⟨rfl,n,m,g⟩;have t:Hid (Below w.heap.size w j):=e.trans (n.below (fun _ h=>h) e.size);have u:Hid (zen j (fun k=>w.heap.size≤k∧k < j.heap.size) (w.heap.size+1+1) a []):=by
  obtain⟨f,v,A,B,h⟩:=m;exact⟨f,v,A,B,⟨⟨h.own.1,zi h.mem⟩,⟨h.own.2.1,h.map.lt⟩,⟨h.own.2.2.1,zi h.ring.ends⟩,fun x z=>by simp at z⟩,h.mem,h.ring,h.map,h.ok⟩
 clear n m e l b d q s g;go_wp2_with fail;go_ret;exact⟨_,rfl,t.o,u.o⟩
variable {b:Nat}{ds:List Value}{t:TypeId}{w:World}
section
attribute [local go_sem ↓] jy jn j4 jo ji jh j3 jm
def zn1 (xs:List Px):Option (zc):=match xs with
 | [a,b,c,d]=>if a.fits&&b.fits&&c.fits&&d.fits then some (jx (jx a.hash b.hash) (jx c.hash d.hash)) else none
 | _=>none
def yms (a:List Px)(k:Nat):Prop:=∀ j,j < k→(a.getD j .no).fits=true
theorem yeb {e:List Px}(h:e.length=4)(f:yms e 4):zn1 e=some (jx (jx (e.getD 0 .no).hash (e.getD 1 .no).hash) (jx (e.getD 2 .no).hash (e.getD 3 .no).hash)):=by
 obtain⟨a,b,c,d,rfl⟩:=zmi h;have h0:=f 0 (by omega);have g:=f 1 (by omega);have i:=f 2 (by omega);have j:=f 3 (by omega);simp at h0 g i j;simp [zn1,h0,g,i,j]
theorem yjf {f:List Px}(h:f.length=4)(g:k < 4)(e:(f.getD k .no).fits=false):zn1 f=none:=by
 obtain⟨a,b,c,d,rfl⟩:=zmi h
 match k,g with
 | 0,_=>simp at e;simp [zn1,e]
 | 1,_=>simp at e;simp [zn1,e]
 | 2,_=>simp at e;simp [zn1,e]
 | 3,_=>simp at e;simp [zn1,e]
theorem zb1 {cs:List Value}(h:w.heap[b]?=some (.cells cs.toArray t (0,0))):w.there b 0 cs.length:=by
 intro j a;have:=zw h (0+j) (cs[j]'a) (by rw [xk,jw];exact zt _);exact⟨by rw [this.1];rfl,this.2⟩
theorem zb2 {cs:List Value}(h:w.heap[b]?=some (.cells cs.toArray t (0,0)))(a:ds.length=cs.length):(w.setCells b 0 ds).heap[b]?=some (.cells ds.toArray t (0,0)):=by
 rw [zfs ds 0 h (by omega),a];simp
abbrev zcf:Array Value:=#[.int .u8 0,.int .u8 0,.int .u8 0,.int .u8 0,.int .u8 0,.int .u8 0,.int .u8 0,.int .u8 0]
def yfv (parts:Array (Nat×Value)):Sem Value:=Instr.build 110 parts
theorem zoj (parts:Array (Nat×Value)):Instr.build 110 parts=yfv parts:=rfl
theorem zsr (w:World):(yfv #[]).run prog w= .ok (.agg (hv vg)) w:=by kernel_rfl
attribute [local go_sem ↓] zoj
theorem ycf (g:List Px)(A:FOk g)(w:World):
  Calls prog 219 #[.agg (vf g).toArray] w fun r e=>Below w.heap.size w e∧((∃ h,zn1 g=some h∧r= .returned (.tuple #[.agg (hv h),.bool true]))∨(zn1 g=none∧r= .returned (.tuple #[.agg (hv vg),.bool false]))):=by
 have q:=zf A;clear A;go_enter func219,ntmps219;go_wp2_with fail;have m:Hid (Below w.heap.size w ((w.alloc (.cells (vf g).toArray xg)).alloc (.cells zcf zrf))∧yu ((w.alloc (.cells (vf g).toArray xg)).alloc (.cells zcf zrf)) w.heap.size g∧((w.alloc (.cells (vf g).toArray xg)).alloc (.cells zcf zrf)).heap[w.heap.size+1]?=some (.cells (vg.map bv).toArray zrf (0,0))):=by
  refine⟨xu _ _ _,zj (zg _ _),?_⟩;have:=zg (w.alloc (.cells (vf g).toArray xg)) (.cells zcf zrf);rw [show(w.alloc (.cells (vf g).toArray xg)).heap.size=w.heap.size+1 by simp] at this;exact this
 generalize (w.alloc (.cells (vf g).toArray xg)).alloc (.cells zcf zrf)=W0 at *;go_loopw [5] (fun i wr=>∃ k:Nat,k≤4∧i= .int .i64 k∧yms g k∧wr=W0) (fun i _=>4 - (intOf i).toNat)
 case atStart=>exact⟨0,by omega,rfl,fun j hj=>by omega,rfl⟩
 case round =>
  obtain⟨k,hk,rfl,l,rfl⟩:=hrel
  by_cases I:k < 4
  ·have H:k < g.length:=by rw [q.o.1];exact I
   have hg:g.getD k .no=g[k]:=by rw [zl,zt H];rfl
   have c1:wr.cell? ⟨w.heap.size,k*11+1,none⟩=some (.bool (g[k]).fits):=(m.o.2.1.cell q.o.2 H (j:=1) (by omega) rfl).1;have i0:(0:Int)≤(k:Int):=by omega
   have i1:(k:Int) < 4:=by omega
   have T:=zf hg;have M:=zf l;have J:(zj0 (.pointer (some ⟨w.heap.size+1,0,none⟩)) (.agg (hv vg))).run prog wr= .ok () (wr.setCells (w.heap.size+1) 0 (vg.map bv)):=zgp (zb1 m.o.2.2) rfl;have HW:=zf (zb2 (ds:=vg.map bv) m.o.2.2 rfl);have HB:=zf (xn m.o.1 (vk w.heap.size) (vg.map bv) 0);have aa:=zsr wr;clear hg l;generalize g[k]=z at *;cases t:z.fits with
   | true =>
    rw [t] at c1;go_wp2_with fail
    go_roundw
    case rel=>exact⟨k+1,by omega,by go_num,fun j hj=>by
     rcases qu j k with h | h
     ·exact M.o j h
     ·obtain rfl:j=k:=by omega
      rw [T.o];exact t,by first | rfl | trivial⟩
    case measure=>simp [intOf];omega
   | false =>
    rw [t] at c1;go_wp2_with fail;refine z8 (v:= .tuple #[.agg (hv vg),.bool false]) (qa results219 _ _ (w.heap.size+1) zrf _ (0,0) _ rfl HW.o underlying110 rfl zm8 _ rfl) rfl ⟨HB.o,.inr ⟨yjf q.o.1 I (by rw [T.o];exact t),rfl⟩⟩
  ·obtain rfl:k=4:=by omega
   have O:=zf (yeb q.o.1 l);obtain⟨a,b,c,d,s⟩:=zmi q.o.1;have HE:=zf s;have Y:=(q.o.2 a (by rw [s];simp)).1;have Z:=(q.o.2 b (by rw [s];simp)).1;have c8:=(q.o.2 c (by rw [s];simp)).1;have d8:=(q.o.2 d (by rw [s];simp)).1;have V:Hid (∀ e,yu e w.heap.size g→((zez (.pointer (some ⟨w.heap.size,2,none⟩))).run prog e= .ok (.agg (hv a.hash)) e∧(zez (.pointer (some ⟨w.heap.size,13,none⟩))).run prog e= .ok (.agg (hv b.hash)) e∧(zez (.pointer (some ⟨w.heap.size,24,none⟩))).run prog e= .ok (.agg (hv c.hash)) e∧(zez (.pointer (some ⟨w.heap.size,35,none⟩))).run prog e= .ok (.agg (hv d.hash)) e)):=by
    intro e G;rw [s] at G;have A:∀ x∈[a,b,c,d],x.ok:=by rw [← s];exact q.o.2
    exact⟨za5 (G.hash A (k:=0) (by simp)) Y,za5 (G.hash A (k:=1) (by simp)) Z,za5 (G.hash A (k:=2) (by simp)) c8,za5 (G.hash A (k:=3) (by simp)) d8⟩
   have C:Hid (∃ N,N=jx a.hash b.hash∧N.length=8∧∀ e,Calls prog 104 #[.agg (hv a.hash),.agg (hv b.hash)] e fun r p=>r= .returned (.agg (hv N))∧Below e.heap.size e p):=⟨_,rfl,vb _ _,fun e=>zgd _ _ e Y Z⟩;have D:Hid (∃ N,N=jx c.hash d.hash∧N.length=8∧∀ e,Calls prog 104 #[.agg (hv c.hash),.agg (hv d.hash)] e fun r p=>r= .returned (.agg (hv N))∧Below e.heap.size e p):=⟨_,rfl,vb _ _,fun e=>zgd _ _ e c8 d8⟩;obtain⟨W,e1,l1,k1⟩:=C.o;obtain⟨X,e2,l2,k2⟩:=D.o;have E:Hid (∃ N,N=jx W X∧N.length=8∧∀ e,Calls prog 104 #[.agg (hv W),.agg (hv X)] e fun r p=>r= .returned (.agg (hv N))∧Below e.heap.size e p):=⟨_,rfl,vb _ _,fun e=>zgd _ _ e l1 l2⟩;obtain⟨F,e3,l3,k3⟩:=E.o;have K1:=zf k1;have K2:=zf k2;have K3:=zf k3;have R:=zf l3;rw [s] at O;have P:Hid (zn1 g=some F):=by
    show _=_;rw [s,e3,e2,e1];exact O.o
   clear O k1 k2 k3 e1 e2 e3 l1 l2 l3 C D E;have Q:Hid (∀ e,Below wr.heap.size wr e→∀ h:zc,h.length=8→(zj0 (.pointer (some ⟨w.heap.size+1,0,none⟩)) (.agg (hv h))).run prog e= .ok () (e.setCells (w.heap.size+1) 0 (h.map bv))):=by
    intro e n h S;have:=(n.block _ (zi m.o.2.2)).trans m.o.2.2;exact zgp (zb1 this) S
   have K:Hid (∀ e,Below wr.heap.size wr e→∀ h:zc,h.length=8→(e.setCells (w.heap.size+1) 0 (h.map bv)).heap[w.heap.size+1]?=some (.cells (hv h) zrf (0,0))∧Below w.heap.size w (e.setCells (w.heap.size+1) 0 (h.map bv))):=by
    intro e n h S;have:=(n.block _ (zi m.o.2.2)).trans m.o.2.2;exact⟨zb2 this (by simp [S,vg]),xn (m.o.1.trans (n.mono m.o.1.size)) (vk _) _ _⟩
   have B:Hid (∀ e,Below wr.heap.size wr e→yu e w.heap.size g):=fun e n=>(n.block _ (zi m.o.2.1)).trans m.o.2.1;have L:Hid (∀ e,Below wr.heap.size wr e→∀ h,yu (e.setCells (w.heap.size+1) 0 h) w.heap.size g):=by
    intro e n h;show(e.setCells _ _ _).heap[w.heap.size]?=_;rw [zar _ _ (by omega)];exact B.o e n
   have f:Below wr.heap.size wr wr.drew:=(yf _ _).drew;clear s l;go_wp2_with fail
   go_region_held3 (fun e=>(zez (.pointer (some ⟨w.heap.size,2,none⟩))).run prog e= .ok (.agg (hv a.hash)) e∧(zez (.pointer (some ⟨w.heap.size,13,none⟩))).run prog e= .ok (.agg (hv b.hash)) e∧(zez (.pointer (some ⟨w.heap.size,24,none⟩))).run prog e= .ok (.agg (hv c.hash)) e∧(zez (.pointer (some ⟨w.heap.size,35,none⟩))).run prog e= .ok (.agg (hv d.hash)) e) (first | exact V.o _ (B.o _ f) | exact V.o _ (L.o _ f _)) (first
    | (go_at_call 104;(first | refine(K1.out _).mono ?_ | refine(K2.out _).mono ?_ | refine(K3.out _).mono ?_);rintro r w1 ⟨rfl,n⟩;have u:=f.trans (n.mono f.size);clear f n;have f:=u;clear u;have J:=Q.o _ f F R.out))
   rename_i y;clear y;have U:=zf (K.o _ f F R.out);clear f J;go_wp2_with fail;refine z8 (v:= .tuple #[.agg (hv F),.bool true]) (qa results219 _ _ (w.heap.size+1) zrf _ (0,0) _ rfl U.o.1 underlying110 rfl (by rw [zm8];simp [hv,R.out]) _ rfl) rfl ⟨U.o.2,.inl ⟨F,P.o,rfl⟩⟩
end
end Go.Proofs.YtlcllcgngjhoaaaGreatDoor
