import Derived.Test.YtinhekmmdlhfkaaGreatDoorG40
import Derived.Test.YtinhekmmdlhfkaaGreatDoorG42
import Derived.Test.YtinhekmmdlhfkaaGreatDoorG21
namespace Go.Proofs.YtinhekmmdlhfkaaGreatDoor
section
open Go.RowKit
set_option maxRecDepth 100000
def zvl (at_:Nat→Addr)(w:World)(e:Value)(t:Int×List UInt8):Prop :=
 (e= .nilIface∧t=(0,[]))∨(e=jo at_ 1∧t=(2,[]))∨(e=jo at_ 2∧t=(3,[]))∨(e=jo at_ 3∧t=(4,[]))∨(e=jo at_ 4∧t=(5,[])) ∨
 (∃ p g,e=xm g∧w.heap[g]?=some (.cells #[txv p,jo at_ 5] 115 (0,0))∧t=(6,p))
def zh1 (t:Int×List UInt8):Value:= .agg #[.int .i64 t.1,.string ⟨t.2.toArray⟩]
theorem zvl.turn {at_:Nat→Addr}{w w':World}{N:Nat→Prop}{T:List Nat}{e:Value}{t:Int×List UInt8}(h:zvl at_ w e t)(ht:zf N T w w')(hT:115∉T):zvl at_ w' e t:=by
 rcases h with h | h | h | h | h | ⟨p,g,h1,h2,h3⟩
 ·exact .inl h
 ·exact .inr (.inl h)
 ·exact .inr (.inr (.inl h))
 ·exact .inr (.inr (.inr (.inl h)))
 ·exact .inr (.inr (.inr (.inr (.inl h))))
 ·exact .inr (.inr (.inr (.inr (.inr ⟨p,g,h1,ht.keep h2 hT,h3⟩))))
theorem zt3 (at_:Nat→Addr)(w:World)(hs:qm w at_)(e:Value)(t:Int×List UInt8)(h:zvl at_ w e t):
  Calls Tryz.prog 27 #[e] w fun r w'=>r= .returned (zh1 t)∧Below w.heap.size w w':=by
 rcases h with ⟨rfl,rfl⟩ | ⟨rfl,rfl⟩ | ⟨rfl,rfl⟩ | ⟨rfl,rfl⟩ | ⟨rfl,rfl⟩ | ⟨p,g,rfl,h2,rfl⟩
 ·exact zjy at_ w hs
 ·exact z2c at_ w hs
 ·exact zr9 at_ w hs
 ·exact z41 at_ w hs
 ·exact zs1 at_ w hs
 ·exact zwe at_ g p w hs h2
def erT (e:Er):Int×List UInt8:=(e.n,e.p)
def za6 (o:Sum Er (List (List UInt8))):List (List UInt8)×(Int×List UInt8):=match o with
 | .inl e=>([],erT e)
 | .inr ps=>(ps,(0,[]))
theorem zdc (B:Nat)(w:World):zbh B w (.slice none 0 0) []:=⟨rfl,.inl ⟨rfl,rfl⟩⟩
theorem z8e.tell {at_:Nat→Addr}{B:Nat}{w':World}{o:Sum Er (List (List UInt8))}{r:Ending}(h:z8e at_ B w' o r):∃ v e,r= .returned (.tuple #[v,e])∧zbh B w' v (za6 o).1∧(∀ p∈(za6 o).1,p.length=8)∧zvl at_ w' e (za6 o).2:=by
 rcases h with (⟨ps,v,rfl,h2,h3,h4⟩ | ⟨p,g,rfl,h2,h3⟩ | ⟨rfl,h2⟩ | ⟨rfl,h2⟩) | ⟨rfl,h2⟩
 ·exact⟨v,_,h4,h2,h3,.inl ⟨rfl,rfl⟩⟩
 ·exact⟨_,_,h3,zdc _ _,by simp [za6],.inr (.inr (.inr (.inr (.inr ⟨p,g,rfl,h2,rfl⟩))))⟩
 ·exact⟨_,_,h2,zdc _ _,by simp [za6],.inr (.inr (.inr (.inr (.inl ⟨rfl,rfl⟩))))⟩
 ·exact⟨_,_,h2,zdc _ _,by simp [za6],.inr (.inr (.inr (.inl ⟨rfl,rfl⟩)))⟩
 ·exact⟨_,_,h2,zdc _ _,by simp [za6],.inr (.inr (.inl ⟨rfl,rfl⟩))⟩
def zd2 (o:Sum Er (List UInt8×List (List UInt8))):List UInt8×List (List UInt8)×(Int×List UInt8):=match o with
 | .inl e=>([],[],erT e)
 | .inr x=>(x.1,x.2,(0,[]))
theorem zgv.tell {at_:Nat→Addr}{B:Nat}{w':World}{o:Sum Er (List UInt8×List (List UInt8))}{r:Ending}(h:zgv at_ B w' o r):∃ x v e,r= .returned (.tuple #[x,v,e])∧z5k B w' x (zd2 o).1∧zbh B w' v (zd2 o).2.1∧(∀ p∈(zd2 o).2.1,p.length=8)∧zvl at_ w' e (zd2 o).2.2:=by
 rcases h with ⟨e,ps,x,v,rfl,h2,h3,h4,h5⟩ | ⟨p,g,rfl,h2,h3⟩ | ⟨rfl,h2⟩
 ·exact⟨x,v,_,h5,h2,h3,h4,.inl ⟨rfl,rfl⟩⟩
 ·exact⟨_,_,_,h3,.inl ⟨rfl,rfl⟩,zdc _ _,by simp [zd2],.inr (.inr (.inr (.inr (.inr ⟨p,g,rfl,h2,rfl⟩))))⟩
 ·exact⟨_,_,_,h2,.inl ⟨rfl,rfl⟩,zdc _ _,by simp [zd2],.inr (.inr (.inr (.inr (.inl ⟨rfl,rfl⟩))))⟩
theorem CR.since {W0 w w0 w1:World}{O A OP:Nat→Prop}{cb nb db pm nm:Nat}{d:Dk}{c':Cl}{n':Nt}{P:(Nat→Prop)→Prop}(h:CR W0 w0 w1 O A OP cb nb db pm nm d c' n' P)(hb:Below w.heap.size w w0):CR W0 w w1 O A OP cb nb db pm nm d c' n' P:=by
 obtain⟨A',OP',hA,hO,hpv,hp⟩:=h.rest
 have hs:=hb.size
 exact⟨(zf.of_below hb).trans (h.turn.mono (fun _ h=> .inl h) (fun _ h=>h)),⟨A',OP',⟨hA.1,fun b hb'=>(hA.2 b hb').imp id (fun h=>⟨by omega,h.2⟩)⟩,⟨hO.1,fun b hb'=>(hO.2 b hb').imp id (fun h=>⟨by omega,h.2⟩)⟩,hpv,hp⟩,h.sh⟩
theorem Pv.below {W0 w w':World}{O A OP:Nat→Prop}{cb nb pm nm:Nat}{c:Cl}(h:Pv W0 w O A OP cb nb pm nm c)(hb:Below w.heap.size w w'):Pv W0 w' O A OP cb nb pm nm c :=
 h.other (N:=fun _=>False) (T:=[]) (.of_below hb) (fun _ _ h=>h) (by simp)
theorem Sh.below {W0 w w':World}{O:Nat→Prop}{nb db:Nat}{d:Dk}{n:Nt}(h:Sh W0 w O nb db d n)(hb:Below w.heap.size w w'):Sh W0 w' O nb db d n :=
 h.past (G:=fun _=>False) (T:=[]) (.of_below hb) (fun _ h=>h.elim) (by simp) (by simp) (by simp) (by simp) (by simp)
abbrev TPc:Nat:=83
def zz8 (w:World)(pb cb:Nat):Prop:=w.heap[pb]?=some (.cells #[zt cb] TPc (0,0))
theorem zg6 {W:World}{B:Nat}(h:zcj B W)(u v:Value):zf (fun k=>k=B) [29] W ((W.setCell ⟨B,0,none⟩ u).setCell ⟨B,1,none⟩ v):=by
 have t1:zf (fun k=>k=B) [29] W (W.setCell ⟨B,0,none⟩ u):=zf.set (O:=fun k=>k=B) (T:=[29]) (zf.refl _ _ _) (.inl rfl) h (by simp) u
 exact zf.set (O:=fun k=>k=B) (T:=[29]) t1 (.inl rfl) (qj h 0 u) (by simp) v
theorem zoe {W:World}{B:Nat}(h:zcj B W):zhu (fun k=>k=B) [29] W:=fun k hk=>by
 subst hk
 exact⟨_,_,_,h,by simp⟩
end
section
set_option maxHeartbeats 4000000
open Go.RowKit
set_option maxRecDepth 100000
attribute [local go_sem ↓] zay zae
theorem zyf {σ:Type}{fe:σ→List UInt8→(List UInt8×Bool)×σ}{inc:List UInt8→Nat→Nat→List (List UInt8)→List UInt8→Bool}(c:Cl)(s:σ)(i:Nat):(zd2 (jd fe inc c s i).1).2.1.length≤65:=by
 cases hn:xu fe c.proved c.size ⟨s,[]⟩ (-1) i with
 | mk o m =>
  cases o with
  | inl p=>rw [zlo hn];simp [zd2]
  | inr own =>
   cases hr:yh fe c.proved c.size m (xp 64 0 c.size i) with
   | mk o2 m2 =>
    cases o2 with
    | inl p=>rw [zlh hn hr];simp [zd2]
    | inr ps =>
     cases hi:inc own.hash i c.size ps c.root with
     | false=>rw [zle hn hr hi];simp [zd2]
     | true =>
      rw [zlj hn hr hi]
      show ps.length≤65
      have:=zfj hr
      have:=za3 64 0 c.size i
      omega
theorem zv1 {σ:Type}{fe:σ→List UInt8→(List UInt8×Bool)×σ}{con:Nat→Nat→List UInt8→List UInt8→List (List UInt8)→Bool}(c:Cl)(s:σ)(n:Nat)(r:List UInt8):(za6 (qi fe con c s n r).1).1.length≤65:=by
 rcases Nat.lt_or_ge n c.size with h | h
 ·rw [zfi h];simp [za6]
 ·by_cases e:n=c.size
  ·by_cases e2:r=c.root
   ·rw [zec e e2];simp [za6]
   ·rw [zc3 e e2];simp [za6]
  ·by_cases e0:c.size=0
   ·rw [zed (by omega) e0];simp [za6]
   ·cases hr:yh fe c.proved n ⟨s,[]⟩ (xr 64 c.size 0 n true) with
    | mk o m =>
     cases o with
     | inl p=>rw [zjd (by omega) e0 hr];simp [za6]
     | inr ps =>
      cases hc:con c.size n c.root r ps with
      | false=>rw [ziw (by omega) e0 hr hc];simp [za6]
      | true =>
       rw [zi8 (by omega) e0 hr hc]
       show ps.length≤65
       have:=zfj hr
       have:=za2 64 c.size 0 n true
       omega
theorem zr1 {σ:Type}{fe:σ→List UInt8→(List UInt8×Bool)×σ}{con:Nat→Nat→List UInt8→List UInt8→List (List UInt8)→Bool}(c:Cl)(s:σ)(o:Option (Nat×List UInt8)):(za6 (zdp fe con c s o).1).1.length≤65:=by
 cases o with
 | none=>simp [zdp,za6]
 | some x =>
  obtain⟨n,r⟩:=x
  have h:=zv1 (fe:=fe) (con:=con) c s n r
  unfold zdp
  simp only
  generalize qi fe con c s n r=P at *
  obtain⟨o,pr,s1⟩:=P
  cases o with
  | inl e=>simp [za6]
  | inr ps=>exact h
theorem zsz (db:Nat)(w:World):Calls Tryz.prog 17 #[vv db] w fun r w'=>r= .returned (zt w.heap.size)∧Below w.heap.size w w'∧j5 w' (fun k=>k=w.heap.size) w.heap.size db ⟨[],[],0⟩:=by
 unfold vv
 go_enter Tryz.func17,Tryz.ntmps17
 go_wp2_with fail
 go_ret
 exact⟨rfl,ze _ _,.slice none 0 0,.slice none 0 0,rfl,heap_alloc_last _ _,⟨none,0,rfl,.inl rfl⟩,⟨none,0,rfl,.inl rfl⟩,rfl⟩
theorem zxv (W0:World)(O:Nat→Prop)(nb:Nat)(key:List UInt8)(room:Int)(w:World)(hb0:W0.heap.size≤w.heap.size)(hO:∀ b,O b→b < w.heap.size):
  Calls Tryz.prog 16 #[zt nb,txv key,.int .i64 room] w fun r w'=>∃(pb cb pm nm:Nat) (A OP:Nat→Prop),r= .returned (zt pb)∧Below w.heap.size w w'∧w.heap.size≤pb∧pb < w'.heap.size∧(∀ k,A k∨OP k∨k=cb→w.heap.size≤k∧k < pb)∧zz8 w' pb cb∧Pv W0 w' O A OP cb nb pm nm ⟨key,0,qb 0 [],room,[]⟩:=by
 have HN:=za (z1p W0 O nb key room w hb0 hO)
 clear hO
 unfold txv znk at HN
 unfold txv zt
 go_enter Tryz.func16,Tryz.ntmps16
 go_wp2_with fail
 refine HN.o.mono ?_
 rintro r w1 ⟨cb,pm,nm,A,OP,rfl,hb,h1,h2,hpv⟩
 have HB:=za hb
 have HPV:=za hpv
 have H2:=za h2
 clear hb hpv h2 HN
 unfold zt
 go_wp2_with fail
 go_ret
 refine⟨w1.heap.size,cb,pm,nm,A,OP,rfl,HB.o.alloc HB.o.size _,HB.o.size,by simp,fun k hk=>?_,heap_alloc_last _ _,HPV.o.below (ze _ _)⟩
 refine⟨?_,(HPV.o.own k hk).2.1⟩
 rcases hk with hk | hk | rfl
 ·exact H2.o k (.inl hk)
 ·exact H2.o k (.inr hk)
 ·exact h1
theorem Pv.trusted {W0 w w':World}{O A OP:Nat→Prop}{cb nb pm nm:Nat}{c:Cl}(h:Pv W0 w O A OP cb nb pm nm c)(ht:zf (fun b=>b=cb) [qw] w w')(he:w'.heap[cb]?=w.heap[cb]?):Pv W0 w' O A OP cb nb pm nm c:=by
 obtain⟨C,hC,hB⟩:=h.cli
 exact⟨fun b hb=>⟨(h.own b hb).1,Nat.lt_of_lt_of_le (h.own b hb).2.1 ht.size,(h.own b hb).2.2⟩,h.sep,h.cbA,h.cbP,⟨C,he.trans hC,hB⟩,h.prv.stay ht (fun b hb e=>h.cbP (by rw [← e];exact hb)) (by decide) (fun _ h=>h),h.nee.stay ht (fun b hb e=>h.cbA (by rw [← e];exact hb)) (fun _ h=>h)⟩
theorem zqd (W0:World)(O A OP:Nat→Prop)(cb nb pm nm:Nat)(c:Cl)(pb:Nat)(w:World)(h:Pv W0 w O A OP cb nb pm nm c)(hp:zz8 w pb cb):
  Calls Tryz.prog 19 #[zt pb] w fun r w'=>r= .returned (.tuple #[.int .i64 c.size,txv c.root])∧zf (fun b=>b=cb) [qw] w w'∧w'.heap[cb]?=w.heap[cb]?:=by
 have HT:=za (ztm W0 O A OP cb nb pm nm c w h)
 have c0:=(zg hp 0 _ rfl).1
 obtain⟨C,hC,hB⟩:=h.cli
 have H8:Hid (c.root.length=8):=hB.num.r8
 have HCB:Hid (w.heap[cb]?=some (.cells C qw (0,0))):=hC
 clear h hp hC hB
 unfold zt at c0 HT ⊢
 go_enter Tryz.func19,Tryz.ntmps19
 go_wp2_with fail
 refine HT.o.mono ?_
 rintro r w2 ⟨rfl,ht2,hc2⟩
 have hr2:(w2.alloc (.cells #[.int .i64 0,.int .u8 0,.int .u8 0,.int .u8 0,.int .u8 0,.int .u8 0,.int .u8 0,.int .u8 0,.int .u8 0] 93)).heap[w2.heap.size]?=some (.cells (trC 0 xd).toArray 93 (0,0)):=heap_alloc_last _ _
 have hst:(ze6 (.pointer (some ⟨w2.heap.size,0,none⟩)) (.agg (trC c.size c.root).toArray)).run Tryz.prog (w2.alloc (.cells #[.int .i64 0,.int .u8 0,.int .u8 0,.int .u8 0,.int .u8 0,.int .u8 0,.int .u8 0,.int .u8 0,.int .u8 0] 93))= .ok () ((w2.alloc (.cells #[.int .i64 0,.int .u8 0,.int .u8 0,.int .u8 0,.int .u8 0,.int .u8 0,.int .u8 0,.int .u8 0,.int .u8 0] 93)).setCells w2.heap.size 0 (trC c.size c.root)):=zdd (jb hr2) H8.o
 have hr3:=qz hr2 (ds:=trC c.size c.root) (by rw [zb7 _ H8.o];rfl)
 have k0:=(zg hr3 0 (.int .i64 c.size) rfl).1
 have HT3:Hid (zf (fun b=>b=cb) [qw] w ((w2.alloc (.cells #[.int .i64 0,.int .u8 0,.int .u8 0,.int .u8 0,.int .u8 0,.int .u8 0,.int .u8 0,.int .u8 0,.int .u8 0] 93)).setCells w2.heap.size 0 (trC c.size c.root))):=(ht2.then_below (ze _ _)).setCellsNew ht2.size _ _
 have HC3:Hid (((w2.alloc (.cells #[.int .i64 0,.int .u8 0,.int .u8 0,.int .u8 0,.int .u8 0,.int .u8 0,.int .u8 0,.int .u8 0,.int .u8 0] 93)).setCells w2.heap.size 0 (trC c.size c.root)).heap[cb]?=w.heap[cb]?):=by
  show _=_
  have h1:w2.heap[cb]?=some (.cells C qw (0,0)):=hc2.trans HCB.o
  rw [xy _ _ (by have:=zb h1;omega),zc h1,HCB.o]
 have hcv:=zm1 ((w2.alloc (.cells #[.int .i64 0,.int .u8 0,.int .u8 0,.int .u8 0,.int .u8 0,.int .u8 0,.int .u8 0,.int .u8 0,.int .u8 0] 93)).setCells w2.heap.size 0 (trC c.size c.root)).drew w2.heap.size 1 8 8 c.root H8.o (by have h:=zl2 hr3;have h':World.rangeAt (World.drew _) _ _ _:=h;simpa [hv] using h')
 unfold txt at hcv
 clear ht2 hc2 hr2 hr3 c0 HT
 generalize (w2.alloc (.cells #[.int .i64 0,.int .u8 0,.int .u8 0,.int .u8 0,.int .u8 0,.int .u8 0,.int .u8 0,.int .u8 0,.int .u8 0] 93)).setCells w2.heap.size 0 (trC c.size c.root)=V at *
 go_wp2_with fail
 go_region
 all_goals go_wp2_with fail
 all_goals go_ret2
 all_goals exact⟨rfl,HT3.o.drew,HC3.o⟩
theorem z40 (W0:World)(at_:Nat→Addr)(O A OP:Nat→Prop)(cb nb db pm nm:Nat)(d:Dk)(c:Cl)(n:Nt)(pb:Nat)(w:World)(hE:Env W0)(hS:qm W0 at_)(hTb:zdn W0)(h:Pv W0 w O A OP cb nb pm nm c)(hs:Sh W0 w O nb db d n)(hp:zz8 w pb cb)(hf:n.fetches+20000 < 4611686018427387904)(hsz:c.size < 9223372036854775808)(hkl:c.key.length≤9223372036854775807)(htl:(zq d.fs n cpP).1.1.length≤1048576)(hpl:c.proved.length≤100000000000)(hwf:WfM c.proved):
  Calls Tryz.prog 18 #[zt pb] w fun r w'=>∃ o,zkx c.key (zq d.fs n cpP).1 o∧CR W0 w w' O A OP cb nb db pm nm d (zdp (zq d.fs) za5 c (zq d.fs n cpP).2 o).2.1 (zdp (zq d.fs) za5 c (zq d.fs n cpP).2 o).2.2 (fun _=>True)∧∃ x,r= .returned (.tuple #[x,zh1 (za6 (zdp (zq d.fs) za5 c (zq d.fs n cpP).2 o).1).2])∧w'.ownsRow w.heap.size 9 1 x (za6 (zdp (zq d.fs) za5 c (zq d.fs n cpP).2 o).1).1.length ((za6 (zdp (zq d.fs) za5 c (zq d.fs n cpP).2 o).1).1.map txt)∧∀ p∈(za6 (zdp (zq d.fs) za5 c (zq d.fs n cpP).2 o).1).1,p.length=8:=by
 have hb1:Below w.heap.size w (w.alloc (.cells #[.int .i64 0,.string ⟨#[]⟩] 29)):=ze _ _
 have HB1:=za hb1
 have HW:Hid (W0.heap.size≤w.heap.size):=hs.base.size
 have HU:=za (zu6 W0 at_ O A OP cb nb db pm nm d c n _ hE hS hTb (h.below hb1) (hs.below hb1) hf hsz hkl htl hpl hwf)
 have HR1:Hid (zcj w.heap.size (w.alloc (.cells #[.int .i64 0,.string ⟨#[]⟩] 29))):=heap_alloc_last _ _
 have c0:=(zg (zc (o:= .cells #[.int .i64 0,.string ⟨#[]⟩] 29) hp) 0 _ rfl).1
 have HS:=za hS
 clear h hs hp hb1 hE hS hTb hpl hwf hf hsz hkl htl
 unfold zt at c0 HU ⊢
 go_enter Tryz.func18,Tryz.ntmps18
 go_wp2_with fail
 generalize w.alloc (.cells #[.int .i64 0,.string ⟨#[]⟩] 29)=W1 at *
 refine HU.o.mono ?_
 rintro r w2 ⟨o,hchk,hcr,hres⟩
 have HCHK:=za hchk
 have hlen:=zr1 (fe:=zq d.fs) (con:=za5) c (zq d.fs n cpP).2 o
 obtain⟨u,c',n',hU⟩:∃ u c' n',zdp (zq d.fs) za5 c (zq d.fs n cpP).2 o=(u,c',n'):=⟨_,_,_,rfl⟩
 rw [hU] at hcr hres hlen
 have hlen':(za6 u).1.length≤65:=hlen
 have HUE:=za hU
 obtain⟨v,e,rfl,hown,h8,herr⟩:=hres.tell
 have HCR:=za (hcr.since HB1.o)
 have HR2:=za (HR1.o.turn hcr.turn (by decide))
 have HOWN:=za hown
 have HERR:=za herr
 have H8:=za h8
 have HTX:=za (zid W1.heap.size v (za6 u).1 w2 (by omega) h8 hown)
 clear hchk hU hcr hres hown herr hlen hlen' HU c0 h8
 go_wp2_with fail
 refine HTX.o.mono ?_
 rintro r w3 ⟨x,rfl,ht3,hx3⟩
 have HB1':=za HB1.o.size
 have HCR3:=za (HCR.o.past (P':=fun _=>True) ht3 (zj6 HOWN.o) (fun k hk=>Nat.le_trans HB1'.o (zik HOWN.o k hk)) HW.o (by decide) (by decide) (by decide) (by decide) (by decide) (by decide) (by decide) (by decide) (by decide) (by decide) (.inl (by decide)) (fun _ _=>trivial))
 have HR3:=za (HR2.o.turn ht3 (by decide))
 have HERR3:=za (HERR.o.turn ht3 (by decide))
 have HX3:Hid (w3.ownsRow w.heap.size 9 1 x (za6 u).1.length ((za6 u).1.map txt)):=zdu hx3 HCR.o.turn.size
 clear ht3 hx3 HTX HOWN HCR HR2 HERR
 go_wp2_with fail
 refine(zt3 at_ w3 (yz HS.o HCR3.o.sh.base) e _ HERR3.o).mono ?_
 rintro r w4 ⟨rfl,hb4⟩
 have HCR4:=za (HCR3.o.below HW.o hb4)
 have HR4:=za (HR3.o.below hb4)
 have HX4:=za (yd HX3.o hb4)
 obtain⟨q0,z0⟩:=zg HR4.o 0 _ rfl
 obtain⟨q1,z1⟩:=zg HR4.o 1 _ rfl
 clear hb4 HCR3 HR3 HX3 HERR3
 unfold zh1
 go_wp2_with fail
 refine bodyPost_ret (v:= .tuple #[x,.agg #[.int .i64 (za6 u).2.1,.string ⟨(za6 u).2.2.toArray⟩]]) (yy Tryz.results18 _ _ w.heap.size 29 _ (0,0) _ rfl (jr HR4.o _ _ rfl) Tryz.underlying29 rfl (by kernel_rfl) _ rfl) rfl ?_
 refine⟨o,HCHK.o,?_⟩
 rw [HUE.o]
 refine⟨HCR4.o.past (zg6 HR4.o _ _) (zoe HR4.o) (fun k hk=>by omega) HW.o (by decide) (by decide) (by decide) (by decide) (by decide) (by decide) (by decide) (by decide) (by decide) (by decide) (.inl (by decide)) (fun _ h=>h),x,rfl,zo HX4.o (zg6 HR4.o _ _) (by decide),H8.o⟩
theorem zd8 {P:Program}{fn:Func}{p u1 u2 u3:Tmp}{ty:TypeId}(h:fn.results=#[.tmp u1,.tmp u2,.tmp u3,.cell p ty])(tmps:Array Value)(w:World)(g:Nat)(t:TypeId)(cs:Array Value)(fr:Nat×Nat)(d:TypeDesc)
  (hp:tmps.getD p undef= .pointer (some ⟨g,0,none⟩)) (hg:w.heap[g]?=some (.cells cs t fr))
  (hu:P.underlying ty=some d) (hd:(match d with | .struct _ | .array _ _=>true | _=>false)=true) (hi:(P.info? ty).map (·.size)=some cs.size) (x1 x2 x3:Value) (h1:tmps.getD u1 undef=x1) (h2:tmps.getD u2 undef=x2) (h3:tmps.getD u3 undef=x3) :
  (results fn tmps).run P w= .ok (.tuple #[x1,x2,x3,.agg cs]) w:=by
 have hl:=run_loadVar_row (P:=P) w g t ty cs fr d hg hu hd hi
 simp only [Array.getD_eq_getD_getElem?] at hp h1 h2 h3
 simp [results,h,hp,h1,h2,h3,asAddr,hl]
abbrev zgq:Obj:= .cells #[.int .i64 0,.string ⟨#[]⟩] 29
theorem z1n {w:World}{B:Nat}{x:Value}{l:List UInt8}(h:OB w B x l):∃ g cap cur,x= .slice (some ⟨g,0,none⟩) l.length cap∧B≤g∧w.heap[g]?=some (.cells cur 5 (0,0))∧w.rangeAt g 0 (hv l).toList∧w.there g 0 l.length:=by
 rcases h.1.2 with h0 | ⟨g,cap,cur,e,hB,hg,hn,hm,hs,ht⟩
 ·exact absurd h0.1 h.2
 ·refine⟨g,cap,cur,e,hB,hg,fun j v hj=>?_,fun j hj=>?_⟩
  ·rw [Nat.zero_add,cell_of_row _ _ _ _ _ _ hg]
   have hj':j < l.length:=by
    have:=(List.getElem?_eq_some_iff.1 hj).1
    simpa [hv] using this
   have e2:(cur.toList.take (l.length*1))[j]?=some v:=by
    rw [ht]
    simpa [hv] using hj
   rw [List.getElem?_take,if_pos (by omega)] at e2
   simpa using e2
  ·rw [Nat.zero_add]
   refine⟨?_,by simp [World.frozen?,hg]⟩
   rw [cell_of_row _ _ _ _ _ _ hg]
   have:j < cur.size:=by rw [hs];omega
   simp [this]
def z9r (w':World)(B:Nat)(e0:List UInt8)(ps:List (List UInt8))(t:Int×List UInt8)(nl:Bool)(r:Ending):Prop :=
 ∃ nn x,r= .returned (.tuple #[txv e0,.bool nn,x,zh1 t])∧(nn=true→e0=[])∧(nl=true→nn=true)∧w'.ownsRow B 9 1 x ps.length (ps.map txt)∧∀ p∈ps,p.length=8
theorem zu8 (W0:World)(at_:Nat→Addr)(O A OP:Nat→Prop)(cb nb db pm nm:Nat)(d:Dk)(c':Cl)(n':Nt)(pb:Nat)(i:Int)(w:World)(e0:List UInt8)(ps:List (List UInt8))(t:Int×List UInt8)(nl:Bool)(hS:qm W0 at_)(hW:W0.heap.size≤w.heap.size)(hp:zz8 w pb cb)(hlen:ps.length≤65)
  (hrd:Calls Tryz.prog 35 #[zt cb,.int .i64 i] (w.alloc zgq) fun r w2=>CR W0 (w.alloc zgq) w2 O A OP cb nb db pm nm d c' n' (zls w2 pm c'.room c'.proved r)∧∃ x v e,r= .returned (.tuple #[x,v,e])∧z5k (w.alloc zgq).heap.size w2 x e0∧zbh (w.alloc zgq).heap.size w2 v ps∧(∀ p∈ps,p.length=8)∧zvl at_ w2 e t∧(nl=true→x= .slice none 0 0)) :
  Calls Tryz.prog 20 #[zt pb,.int .i64 i] w fun r w'=>CR W0 w w' O A OP cb nb db pm nm d c' n' (fun _=>True)∧z9r w' w.heap.size e0 ps t nl r:=by
 have HB1:Hid (Below w.heap.size w (w.alloc zgq)):=ze _ _
 have HW:=za hW
 have HRD:=za hrd
 have HR1:Hid (zcj w.heap.size (w.alloc zgq)):=heap_alloc_last _ _
 have c0:=(zg (zc (o:=zgq) hp) 0 _ rfl).1
 have HS:=za hS
 clear hp hS hW hrd
 unfold zt at c0 HRD ⊢
 go_enter Tryz.func20,Tryz.ntmps20
 go_wp2_with fail
 generalize w.alloc zgq=W1 at *
 refine HRD.o.mono ?_
 rintro r w2 ⟨hcr,x,v,e,rfl,hent,hown,h8,herr,hnl⟩
 have HCR:=za (hcr.since HB1.o)
 have HR2:=za (HR1.o.turn hcr.turn (by decide))
 have HOWN:=za hown
 have HERR:=za herr
 have H8:=za h8
 have HB1':=za HB1.o.size
 have heq:∀(w:World) (a:Option Addr) (n c n' c':Nat),(binOp .eql 76 (.slice a n c) (.slice none n' c')).run Tryz.prog w= .ok (.bool a.isNone) w:=fun w a n c n' c'=>Lib.run_eql_slice_nil w _ _ a n c n' c' Tryz.underlying76
 have FIN:Hid (∀(X:World) (nn:Bool) (x':Value),CR W0 w X O A OP cb nb db pm nm d c' n' (fun _=>True)→zcj w.heap.size X→X.ownsRow w.heap.size 9 1 x' ps.length (ps.map txt)→CR W0 w ((X.setCell ⟨w.heap.size,0,none⟩ (.int .i64 t.1)).setCell ⟨w.heap.size,1,none⟩ (.string ⟨t.2.toArray⟩)) O A OP cb nb db pm nm d c' n' (fun _=>True)∧((X.setCell ⟨w.heap.size,0,none⟩ (.int .i64 t.1)).setCell ⟨w.heap.size,1,none⟩ (.string ⟨t.2.toArray⟩)).ownsRow w.heap.size 9 1 x' ps.length (ps.map txt)):=fun X nn x' hc hr hx =>
  ⟨hc.past (zg6 hr _ _) (zoe hr) (fun k hk=>by omega) HW.o (by decide) (by decide) (by decide) (by decide) (by decide) (by decide) (by decide) (by decide) (by decide) (by decide) (.inl (by decide)) (fun _ h=>h),zo hx (zg6 hr _ _) (by decide)⟩
 clear hcr hown herr HRD c0 h8
 rcases hent with ⟨rfl,rfl⟩ | hob
 ·have HCRa:=za (HCR.o.weak (P':=fun _=>True) (fun _ _=>trivial))
  have HTX:=za (zid W1.heap.size v ps w2 (by omega) H8.o HOWN.o)
  have hcv:=z18 w2
  have hclr:=fun ty=>zvi (P:=Tryz.prog) w2 76 5 ty Tryz.underlying76 none 0
  clear HCR hnl
  go_wp2_with fail
  refine HTX.o.mono ?_
  rintro r w3 ⟨x,rfl,ht3,hx3⟩
  have HCR3:=za (HCRa.o.past (P':=fun _=>True) ht3 (zj6 HOWN.o) (fun k hk=>Nat.le_trans HB1'.o (zik HOWN.o k hk)) HW.o (by decide) (by decide) (by decide) (by decide) (by decide) (by decide) (by decide) (by decide) (by decide) (by decide) (.inl (by decide)) (fun _ _=>trivial))
  have HR3:=za (HR2.o.turn ht3 (by decide))
  have HERR3:=za (HERR.o.turn ht3 (by decide))
  have HX3:Hid (w3.ownsRow w.heap.size 9 1 x ps.length (ps.map txt)):=zdu hx3 HCRa.o.turn.size
  clear ht3 hx3 HTX HOWN HCRa HR2 HERR hclr
  go_wp2_with fail
  refine(zt3 at_ w3 (yz HS.o HCR3.o.sh.base) e _ HERR3.o).mono ?_
  rintro r w4 ⟨rfl,hb4⟩
  have HCR4:=za (HCR3.o.below HW.o hb4)
  have HR4:=za (HR3.o.below hb4)
  have HX4:=za (yd HX3.o hb4)
  obtain⟨q0,z0⟩:=zg HR4.o 0 _ rfl
  obtain⟨q1,z1⟩:=zg HR4.o 1 _ rfl
  clear hb4 HCR3 HR3 HX3 HERR3
  unfold zh1
  go_wp2_with fail
  refine bodyPost_ret (v:= .tuple #[.string ⟨#[]⟩,.bool true,x,.agg #[.int .i64 t.1,.string ⟨t.2.toArray⟩]]) (zd8 Tryz.results20 _ _ w.heap.size 29 _ (0,0) _ rfl (jr HR4.o _ _ rfl) Tryz.underlying29 rfl (by kernel_rfl) _ _ _ rfl rfl rfl) rfl ?_
  obtain⟨g1,g2⟩:=FIN.out w4 true x HCR4.o HR4.o HX4.o
  exact⟨g1,true,x,rfl,fun _=>rfl,fun _=>rfl,g2,H8.o⟩
 ·obtain⟨g,cap,cur,rfl,hB,hg,hrg,hth⟩:=z1n hob
  have hnn:nl=true→False:=fun h=>by have:=hnl h;simp at this
  have HNN:=za hnn
  have hcv:=zm1 w2 g 0 cap e0.length e0 rfl hrg
  have hcl:=fun ty=>zrr (P:=Tryz.prog) w2 76 5 ty (.int .u8 0) Tryz.underlying76 zrn rfl rfl g e0.length cap hth
  have htc:zf (fun k=>k=g) [5] w2 (w2.setCells g 0 (List.replicate e0.length (.int .u8 0))):=zf.cells_old (O:=fun k=>k=g) (T:=[5]) (zf.refl _ _ _) rfl (.inl ⟨cur,_,_,hg,by simp⟩) _ _
  have hoc:zhu (fun k=>k=g) [5] w2:=fun k hk=>by subst hk;exact⟨cur,_,_,hg,by simp⟩
  have HCRa:=za (HCR.o.past (P':=fun _=>True) htc hoc (fun k hk=>by subst hk;exact Nat.le_trans HB1'.o hB) HW.o (by decide) (by decide) (by decide) (by decide) (by decide) (by decide) (by decide) (by decide) (by decide) (by decide) (.inr (fun OP' hP=>zi4.clear (hP _ _ _ rfl) htc (fun k hk=>by subst hk;rfl))) (fun _ _=>trivial))
  have HOWN2:Hid (zbh W1.heap.size (w2.setCells g 0 (List.replicate e0.length (.int .u8 0))) v ps):=zo HOWN.o htc (by decide)
  have HR2b:=za (HR2.o.turn htc (by decide))
  have HERR2:=za (HERR.o.turn htc (by decide))
  have HTX:=za (zid W1.heap.size v ps _ (by omega) H8.o HOWN2.o)
  clear HCR hnl hnn hob hB hg hrg hth htc hoc HOWN HR2 HERR
  unfold txt at hcv
  generalize w2.setCells g 0 (List.replicate e0.length (.int .u8 0))=Y at *
  go_wp2_with fail
  refine HTX.o.mono ?_
  rintro r w3 ⟨x,rfl,ht3,hx3⟩
  have HCR3:=za (HCRa.o.past (P':=fun _=>True) ht3 (zj6 HOWN2.o) (fun k hk=>Nat.le_trans HB1'.o (zik HOWN2.o k hk)) HW.o (by decide) (by decide) (by decide) (by decide) (by decide) (by decide) (by decide) (by decide) (by decide) (by decide) (.inl (by decide)) (fun _ _=>trivial))
  have HR3:=za (HR2b.o.turn ht3 (by decide))
  have HERR3:=za (HERR2.o.turn ht3 (by decide))
  have HX3:Hid (w3.ownsRow w.heap.size 9 1 x ps.length (ps.map txt)):=zdu hx3 HCRa.o.turn.size
  clear ht3 hx3 HTX HOWN2 HCRa HR2b HERR2 hcl hcv
  go_wp2_with fail
  refine(zt3 at_ w3 (yz HS.o HCR3.o.sh.base) e _ HERR3.o).mono ?_
  rintro r w4 ⟨rfl,hb4⟩
  have HCR4:=za (HCR3.o.below HW.o hb4)
  have HR4:=za (HR3.o.below hb4)
  have HX4:=za (yd HX3.o hb4)
  obtain⟨q0,z0⟩:=zg HR4.o 0 _ rfl
  obtain⟨q1,z1⟩:=zg HR4.o 1 _ rfl
  clear hb4 HCR3 HR3 HX3 HERR3
  unfold zh1
  go_wp2_with fail
  refine bodyPost_ret (v:= .tuple #[.string ⟨e0.toArray⟩,.bool false,x,.agg #[.int .i64 t.1,.string ⟨t.2.toArray⟩]]) (zd8 Tryz.results20 _ _ w.heap.size 29 _ (0,0) _ rfl (jr HR4.o _ _ rfl) Tryz.underlying29 rfl (by kernel_rfl) _ _ _ rfl rfl rfl) rfl ?_
  obtain⟨g1,g2⟩:=FIN.out w4 false x HCR4.o HR4.o HX4.o
  exact⟨g1,false,x,rfl,fun h=>by simp at h,fun h=>(HNN.o h).elim,g2,H8.o⟩
theorem zv0 {σ:Type}{fe:σ→List UInt8→(List UInt8×Bool)×σ}{inc:List UInt8→Nat→Nat→List (List UInt8)→List UInt8→Bool}(c:Cl)(s:σ)(i:Nat):(jd fe inc c s i).2.1.room=c.room:=by
 rw [zo8]
end
end Go.Proofs.YtinhekmmdlhfkaaGreatDoor
