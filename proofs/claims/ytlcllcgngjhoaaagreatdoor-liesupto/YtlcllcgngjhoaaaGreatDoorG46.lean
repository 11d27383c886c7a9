import Derived.Test.YtlcllcgngjhoaaaGreatDoorG45
set_option maxHeartbeats 8000000
set_option maxRecDepth 100000
set_option linter.all false
namespace Go.Proofs.YtlcllcgngjhoaaaGreatDoor
open Go.RowKit Go.Proofs.Tryz
variable {A O OP:Nat→Prop}{B cb nb nm pm:Nat}{W0 w w':World}{c:Cl}{l:zc}{x:Value}
section
attribute [local go_sem ↓] zgb ze4
theorem ydx {σ:Type}{fe:σ→zc→(zc×Bool)×σ}{inc:zc→Nat→Nat→za→zc→Bool}(c:Cl)(s:σ)(i:Nat):(zhi (zbd fe inc c s i).1).2.1.length≤65:=by
 cases a:zaq fe c.proved c.size ⟨s,[]⟩ (-1) i with
 | mk o m =>
  cases o with
  | inl p=>rw [zux a];simp [zhi]
  | inr d =>
   cases b:qx fe c.proved c.size m (qz 64 0 c.size i) with
   | mk f g =>
    cases f with
    | inl p=>rw [zuy a b];simp [zhi]
    | inr ps =>
     cases e:inc d.hash i c.size ps c.root with
     | false=>rw [zuz a b e];simp [zhi]
     | true =>
      rw [zu0 a b e];show ps.length≤65;have:=znk b;have:=zcx 64 0 c.size i;omega
theorem z8f {σ:Type}{fe:σ→zc→(zc×Bool)×σ}{con:Nat→Nat→zc→zc→za→Bool}(c:Cl)(s:σ)(n:Nat)(r:zc):(ze9 (vt fe con c s n r).1).1.length≤65:=by
 rcases qu n c.size with h | h
 ·rw [znc h];simp [ze9]
 ·by_cases e:n=c.size
  ·by_cases d:r=c.root
   ·rw [zlw e d];simp [ze9]
   ·rw [zkc e d];simp [ze9]
  ·by_cases a:c.size=0
   ·rw [zlx (by omega) a];simp [ze9]
   ·cases b:qx fe c.proved n ⟨s,[]⟩ (qk 64 c.size 0 n true) with
    | mk o m =>
     cases o with
     | inl p=>rw [zr2 (by omega) a b];simp [ze9]
     | inr ps =>
      cases f:con c.size n c.root r ps with
      | false=>rw [zr3 (by omega) a b f];simp [ze9]
      | true =>
       rw [zr4 (by omega) a b f];show ps.length≤65;have:=znk b;have:=zdd 64 c.size 0 n true;omega
theorem z5z {σ:Type}{fe:σ→zc→(zc×Bool)×σ}{con:Nat→Nat→zc→zc→za→Bool}(c:Cl)(s:σ)(o:Option (Nat×zc)):(ze9 (zi8 fe con c s o).1).1.length≤65:=by
 cases o with
 | none=>simp [zi8,ze9]
 | some x =>
  obtain⟨n,r⟩:=x;have h:=z8f (fe:=fe) (con:=con) c s n r;unfold zi8;simp only;generalize vt fe con c s n r=P at *;obtain⟨o,a,b⟩:=P;cases o with
  | inl e=>simp [ze9]
  | inr ps=>exact h
theorem zt7 (a:Nat)(w:World):Calls prog 14 #[zdp a] w fun r b=>r= .returned (yx w.heap.size)∧Below w.heap.size w b∧zdn b (fun k=>k=w.heap.size) w.heap.size a ⟨[],[],0⟩:=by
 unfold zdp;go_enter func14,ntmps14;go_wp2_with fail;go_ret;exact⟨rfl,zk _ _,.slice none 0 0,.slice none 0 0,rfl,zg _ _,⟨none,0,rfl,.inl rfl⟩,⟨none,0,rfl,.inl rfl⟩,rfl⟩
theorem ydo (n:World)(O:Nat→Prop)(q:Nat)(c:zc)(a:Int)(w:World)(p:n.heap.size≤w.heap.size)(x:∀ b,O b→b < w.heap.size):
  Calls prog 15 #[yx q,qo c,.int .i64 a] w fun r j=>∃(h f t s:Nat) (A i:Nat→Prop),r= .returned (yx h)∧Below w.heap.size w j∧w.heap.size≤h∧h < j.heap.size∧(∀ k,A k∨i k∨k=f→w.heap.size≤k∧k < h)∧ybb j h f∧Pv n j O A i f q t s ⟨c,0,zaf 0 [],a,[]⟩:=by
 have m:=zf (yh5 n O q c a w p x);clear x;unfold qo zwm at m;unfold qo yx;go_enter func15,ntmps15;go_wp2_with fail;refine m.o.mono ?_;rintro r B ⟨f,t,s,A,i,rfl,y,z,v,g⟩;have l:=zf y;have e:=zf g;have u:=zf v;clear y g v m;unfold yx;go_wp2_with fail;go_ret;refine⟨B.heap.size,f,t,s,A,i,rfl,l.o.alloc l.o.size _,l.o.size,by simp,fun k d=>?_,zg _ _,e.o.below (zk _ _)⟩;refine⟨?_,(e.o.own k d).2.1⟩;rcases d with d | d | rfl
 ·exact u.o k (.inl d)
 ·exact u.o k (.inr d)
 ·exact z
theorem Pv.trusted (h:Pv W0 w O A OP cb nb pm nm c)(d:zq (fun b=>b=cb) [zbx] w w')(i:w'.heap[cb]?=w.heap[cb]?):Pv W0 w' O A OP cb nb pm nm c:=by
 obtain⟨C,g,f⟩:=h.cli;exact⟨fun b a=>⟨(h.own b a).1,zx (h.own b a).2.1 d.size,(h.own b a).2.2⟩,h.sep,h.cbA,h.cbP,⟨C,i.trans g,f⟩,h.prv.stay d (fun b a e=>h.cbP (by rw [← e];exact a)) (by decide) (fun _ h=>h),h.nee.stay d (fun b a e=>h.cbA (by rw [← e];exact a)) (fun _ h=>h)⟩
theorem z1e (s:World)(O A q:Nat→Prop)(d z E B:Nat)(c:Cl)(D:Nat)(w:World)(h:Pv s w O A q d z E B c)(y:ybb w D d):
  Calls prog 21 #[yx D] w fun r F=>r= .returned (.tuple #[.int .i64 c.size,qo c.root])∧zq (fun b=>b=d) [zbx] w F∧F.heap[d]?=w.heap[d]?:=by
 have m:=zf (z5v s O A q d z E B c w h);have t:=(zw y 0 _ rfl).1;obtain⟨C,x,v⟩:=h.cli;have k:Hid (c.root.length=8):=v.num.r8;have i:Hid (w.heap[d]?=some (.cells C zbx (0,0))):=x;clear h y x v;unfold yx at t m ⊢;go_enter func21,ntmps21;go_wp2_with fail;refine m.o.mono ?_;rintro r a ⟨rfl,g,j⟩;have e:(a.alloc (.cells #[.int .i64 0,.int .u8 0,.int .u8 0,.int .u8 0,.int .u8 0,.int .u8 0,.int .u8 0,.int .u8 0,.int .u8 0] 112)).heap[a.heap.size]?=some (.cells (trC 0 vg).toArray 112 (0,0)):=zg _ _;have H:(zno (.pointer (some ⟨a.heap.size,0,none⟩)) (.agg (trC c.size c.root).toArray)).run prog (a.alloc (.cells #[.int .i64 0,.int .u8 0,.int .u8 0,.int .u8 0,.int .u8 0,.int .u8 0,.int .u8 0,.int .u8 0,.int .u8 0] 112))= .ok () ((a.alloc (.cells #[.int .i64 0,.int .u8 0,.int .u8 0,.int .u8 0,.int .u8 0,.int .u8 0,.int .u8 0,.int .u8 0,.int .u8 0] 112)).setCells a.heap.size 0 (trC c.size c.root)):=zkr (zb1 e) k.o;have f:=zb2 e (ds:=trC c.size c.root) (by rw [zh9 _ k.o];rfl);have I:=(zw f 0 (.int .i64 c.size) rfl).1;have n:Hid (zq (fun b=>b=d) [zbx] w ((a.alloc (.cells #[.int .i64 0,.int .u8 0,.int .u8 0,.int .u8 0,.int .u8 0,.int .u8 0,.int .u8 0,.int .u8 0,.int .u8 0] 112)).setCells a.heap.size 0 (trC c.size c.root))):=(g.then_below (zk _ _)).setCellsNew g.size _ _;have l:Hid (((a.alloc (.cells #[.int .i64 0,.int .u8 0,.int .u8 0,.int .u8 0,.int .u8 0,.int .u8 0,.int .u8 0,.int .u8 0,.int .u8 0] 112)).setCells a.heap.size 0 (trC c.size c.root)).heap[d]?=w.heap[d]?):=by
  show _=_;have u:a.heap[d]?=some (.cells C zbx (0,0)):=j.trans i.o;rw [zar _ _ (by have:=zi u;omega),zj u,i.o]
 have p:=zvt ((a.alloc (.cells #[.int .i64 0,.int .u8 0,.int .u8 0,.int .u8 0,.int .u8 0,.int .u8 0,.int .u8 0,.int .u8 0,.int .u8 0] 112)).setCells a.heap.size 0 (trC c.size c.root)).drew a.heap.size 1 8 8 c.root k.o (by have h:=zxv f;have G:World.rangeAt (World.drew _) _ _ _:=h;simpa [hv] using G);unfold txt at p;clear g j e f t m;generalize (a.alloc (.cells #[.int .i64 0,.int .u8 0,.int .u8 0,.int .u8 0,.int .u8 0,.int .u8 0,.int .u8 0,.int .u8 0,.int .u8 0] 112)).setCells a.heap.size 0 (trC c.size c.root)=V at *;go_wp2_with fail
 go_region
 all_goals go_wp2_with fail
 all_goals go_ret2
 all_goals exact⟨rfl,n.o.drew,l.o⟩
theorem yiz (z:World)(E:Nat→Addr)(O A OP:Nat→Prop)(W X db pm nm:Nat)(d:Dk)(c:Cl)(n:Nt)(pb:Nat)(w:World)(hE:Env z)(hS:zbz z E)(P:zjx z)(h:Pv z w O A OP W X pm nm c)(hs:Sh z w O X db d n)(hp:ybb w pb W)(hf:n.fetches+20000 < 4611686018427387904)(S:c.size < 9223372036854775808)(Q:c.key.length≤9223372036854775807)(T:(yz d.fs n cpP).1.1.length≤1048576)(R:c.proved.length≤100000000000)(U:WfM c.proved):
  Calls prog 19 #[yx pb] w fun r w'=>∃ o,zkt c.key (yz d.fs n cpP).1 o∧CR z w w' O A OP W X db pm nm d (zi8 (yz d.fs) zc7 c (yz d.fs n cpP).2 o).2.1 (zi8 (yz d.fs) zc7 c (yz d.fs n cpP).2 o).2.2 (fun _=>True)∧∃ x,r= .returned (.tuple #[x,zl0 (ze9 (zi8 (yz d.fs) zc7 c (yz d.fs n cpP).2 o).1).2])∧w'.ownsRow w.heap.size 9 1 x (ze9 (zi8 (yz d.fs) zc7 c (yz d.fs n cpP).2 o).1).1.length ((ze9 (zi8 (yz d.fs) zc7 c (yz d.fs n cpP).2 o).1).1.map txt)∧∀ p∈(ze9 (zi8 (yz d.fs) zc7 c (yz d.fs n cpP).2 o).1).1,p.length=8:=by
 have m:Below w.heap.size w (w.alloc (.cells #[.int .i64 0,.string ⟨#[]⟩] 52)):=zk _ _;have G:=zf m;have HW:Hid (z.heap.size≤w.heap.size):=hs.base.size;have Z:=zf (z9o z E O A OP W X db pm nm d c n _ hE hS P (h.below m) (hs.below m) hf S Q T R U);have Y:Hid (zkz w.heap.size (w.alloc (.cells #[.int .i64 0,.string ⟨#[]⟩] 52))):=zg _ _;have c0:=(zw (zj (o:= .cells #[.int .i64 0,.string ⟨#[]⟩] 52) hp) 0 _ rfl).1;have HS:=zf hS;clear h hs hp m hE hS P R U hf S Q T;unfold yx at c0 Z ⊢;go_enter func19,ntmps19;go_wp2_with fail;generalize w.alloc (.cells #[.int .i64 0,.string ⟨#[]⟩] 52)=W1 at *;refine Z.o.mono ?_;rintro r w2 ⟨o,B,s,l⟩;have I:=zf B;have i:=z5z (fe:=yz d.fs) (con:=zc7) c (yz d.fs n cpP).2 o;obtain⟨u,c',n',hU⟩:∃ u c' n',zi8 (yz d.fs) zc7 c (yz d.fs n cpP).2 o=(u,c',n'):=⟨_,_,_,rfl⟩;rw [hU] at s l i;have F:(ze9 u).1.length≤65:=i;have aa:=zf hU;obtain⟨v,e,rfl,j,h8,C⟩:=l.tell;have D:=zf (s.since G.o);have K:=zf (Y.o.turn s.turn (by decide));have g:=zf j;have y:=zf C;have H8:=zf h8;have M:=zf (zq7 W1.heap.size v (ze9 u).1 w2 (by omega) h8 j);clear B hU s l j C i F Z c0 h8;go_wp2_with fail;refine M.o.mono ?_;rintro r w3 ⟨x,rfl,t,V⟩;have H:=zf G.o.size;have b:=zf (D.o.past (P':=fun _=>True) t (ztd g.o) (fun k hk=>zu H.o (zq3 g.o k hk)) HW.o (by decide) (by decide) (by decide) (by decide) (by decide) (by decide) (by decide) (by decide) (by decide) (by decide) (.inl (by decide)) (fun _ _=>trivial));have L:=zf (K.o.turn t (by decide));have f:=zf (y.o.turn t (by decide));have N:Hid (w3.ownsRow w.heap.size 9 1 x (ze9 u).1.length ((ze9 u).1.map txt)):=zk7 V D.o.turn.size;clear t V M g D K y;go_wp2_with fail;refine(z7z E w3 (zdt HS.o b.o.sh.base) e _ f.o).mono ?_;rintro r w4 ⟨rfl,q⟩;have J:=zf (b.o.below HW.o q);have a:=zf (L.o.below q);have ab:=zf (ym N.o q);obtain⟨q0,z0⟩:=zw a.o 0 _ rfl;obtain⟨q1,z1⟩:=zw a.o 1 _ rfl;clear q b L N f;unfold zl0;go_wp2_with fail;refine z8 (v:= .tuple #[x,.agg #[.int .i64 (ze9 u).2.1,.string ⟨(ze9 u).2.2.toArray⟩]]) (zdw results19 _ _ w.heap.size 52 _ (0,0) _ rfl (zg9 a.o _ _ rfl) underlying52 rfl (by kernel_rfl) _ rfl) rfl ?_;refine⟨o,I.o,?_⟩;rw [aa.o];refine⟨J.o.past (zp2 a.o _ _) (zz9 a.o) (fun k hk=>by omega) HW.o (by decide) (by decide) (by decide) (by decide) (by decide) (by decide) (by decide) (by decide) (by decide) (by decide) (.inl (by decide)) (fun _ h=>h),x,rfl,zo ab.o (zp2 a.o _ _) (by decide),H8.o⟩
theorem zly {P:Program}{fn:Func}{p u1 u2 u3:Tmp}{ty:TypeId}(h:fn.results=#[.tmp u1,.tmp u2,.tmp u3,.cell p ty])(tmps:Array Value)(w:World)(g:Nat)(t:TypeId)(cs:Array Value)(fr:Nat×Nat)(d:TypeDesc)
  (hp:tmps.getD p undef= .pointer (some ⟨g,0,none⟩)) (hg:w.heap[g]?=some (.cells cs t fr))
  (hu:P.underlying ty=some d) (hd:(match d with | .struct _ | .array _ _=>true | _=>false)=true) (hi:(P.info? ty).map (·.size)=some cs.size) (x1 x2 x3:Value) (h1:tmps.getD u1 undef=x1) (h2:tmps.getD u2 undef=x2) (h3:tmps.getD u3 undef=x3) :
  (results fn tmps).run P w= .ok (.tuple #[x1,x2,x3,.agg cs]) w:=by
 have a:=zdi (P:=P) w g t ty cs fr d hg hu hd hi;simp only [zau] at hp h1 h2 h3;simp [results,h,hp,h1,h2,h3,asAddr,a]
abbrev zpi:Obj:= .cells #[.int .i64 0,.string ⟨#[]⟩] 52
theorem yid (h:OB w B x l):∃ g b a,x= .slice (some ⟨g,0,none⟩) l.length b∧B≤g∧w.heap[g]?=some (.cells a 5 (0,0))∧w.rangeAt g 0 (hv l).toList∧w.there g 0 l.length:=by
 rcases h.1.2 with h0 | ⟨g,b,a,e,i,c,p,o,m,n⟩
 ·exact absurd h0.1 h.2
 ·refine⟨g,b,a,e,i,c,fun j v d=>?_,fun j d=>?_⟩
  ·rw [xk,yq _ _ _ _ _ _ c];have k:j < l.length:=by
    have:=(xy.1 d).1;simpa [hv] using this
   have f:(a.toList.take (l.length*1))[j]?=some v:=by
    rw [n];simpa [hv] using d
   rw [qj,if_pos (by omega)] at f;simpa using f
  ·rw [xk];refine⟨?_,by simp [World.frozen?,c]⟩;rw [yq _ _ _ _ _ _ c];have:j < a.size:=by rw [m];omega
   simp [this]
def yov (d:World)(B:Nat)(b:zc)(ps:za)(t:Int×zc)(c:Bool)(r:Ending):Prop :=
 ∃ a x,r= .returned (.tuple #[qo b,.bool a,x,zl0 t])∧(a=true→b=[])∧(c=true→a=true)∧d.ownsRow B 9 1 x ps.length (ps.map txt)∧∀ p∈ps,p.length=8
theorem z8c (W0:World)(N:Nat→Addr)(O A OP:Nat→Prop)(cb nb db pm nm:Nat)(d:Dk)(J:Cl)(V:Nt)(pb:Nat)(i:Int)(w:World)(Q:zc)(ps:za)(t:Int×zc)(nl:Bool)(hS:zbz W0 N)(hW:W0.heap.size≤w.heap.size)(hp:ybb w pb cb)(av:ps.length≤65)
 (an:Calls prog 58 #[yx cb,.int .i64 i] (w.alloc zpi) fun r y=>CR W0 (w.alloc zpi) y O A OP cb nb db pm nm d J V (zu7 y pm J.room J.proved r)∧∃ x v e,r= .returned (.tuple #[x,v,e])∧ykb (w.alloc zpi).heap.size y x Q∧zg1 (w.alloc zpi).heap.size y v ps∧(∀ p∈ps,p.length=8)∧z6g N y e t∧(nl=true→x= .slice none 0 0)) :
  Calls prog 26 #[yx pb,.int .i64 i] w fun r w'=>CR W0 w w' O A OP cb nb db pm nm d J V (fun _=>True)∧yov w' w.heap.size Q ps t nl r:=by
 have af:Hid (Below w.heap.size w (w.alloc zpi)):=zk _ _;have HW:=zf hW;have W:=zf an;have ar:Hid (zkz w.heap.size (w.alloc zpi)):=zg _ _;have c0:=(zw (zj (o:=zpi) hp) 0 _ rfl).1;have HS:=zf hS;clear hp hS hW an;unfold yx at c0 W ⊢;go_enter func26,ntmps26;go_wp2_with fail;generalize w.alloc zpi=W1 at *;refine W.o.mono ?_;rintro r y ⟨aa,x,v,e,rfl,aj,U,h8,S,ad⟩;have L:=zf (aa.since af.o);have M:=zf (ar.o.turn aa.turn (by decide));have l:=zf U;have z:=zf S;have H8:=zf h8;have C:=zf af.o.size;have ax:∀(w:World) (a:Option Addr) (n c V J:Nat),(binOp .eql 114 (.slice a n c) (.slice none V J)).run prog w= .ok (.bool a.isNone) w:=fun w a n c V J=>zhf w _ _ a n c V J underlying114;have ae:Hid (∀(X:World) (nn:Bool) (x':Value),CR W0 w X O A OP cb nb db pm nm d J V (fun _=>True)→zkz w.heap.size X→X.ownsRow w.heap.size 9 1 x' ps.length (ps.map txt)→CR W0 w ((X.setCell ⟨w.heap.size,0,none⟩ (.int .i64 t.1)).setCell ⟨w.heap.size,1,none⟩ (.string ⟨t.2.toArray⟩)) O A OP cb nb db pm nm d J V (fun _=>True)∧((X.setCell ⟨w.heap.size,0,none⟩ (.int .i64 t.1)).setCell ⟨w.heap.size,1,none⟩ (.string ⟨t.2.toArray⟩)).ownsRow w.heap.size 9 1 x' ps.length (ps.map txt)):=fun X nn x' hc hr hx =>
  ⟨hc.past (zp2 hr _ _) (zz9 hr) (fun k K=>by omega) HW.o (by decide) (by decide) (by decide) (by decide) (by decide) (by decide) (by decide) (by decide) (by decide) (by decide) (.inl (by decide)) (fun _ h=>h),zo hx (zp2 hr _ _) (by decide)⟩
 clear aa U S W c0 h8;rcases aj with ⟨rfl,rfl⟩ | al
 ·have f:=zf (L.o.weak (P':=fun _=>True) (fun _ _=>trivial));have G:=zf (zq7 W1.heap.size v ps y (by omega) H8.o l.o);have ab:=yf8 y;have ai:=fun ty=>z60 (P:=prog) y 114 5 ty underlying114 none 0;clear L ad;go_wp2_with fail;refine G.o.mono ?_;rintro r w3 ⟨x,rfl,u,I⟩;have b:=zf (f.o.past (P':=fun _=>True) u (ztd l.o) (fun k K=>zu C.o (zq3 l.o k K)) HW.o (by decide) (by decide) (by decide) (by decide) (by decide) (by decide) (by decide) (by decide) (by decide) (by decide) (.inl (by decide)) (fun _ _=>trivial));have F:=zf (M.o.turn u (by decide));have j:=zf (z.o.turn u (by decide));have H:Hid (w3.ownsRow w.heap.size 9 1 x ps.length (ps.map txt)):=zk7 I f.o.turn.size;clear u I G l f M z ai;go_wp2_with fail;refine(z7z N w3 (zdt HS.o b.o.sh.base) e _ j.o).mono ?_;rintro r w4 ⟨rfl,s⟩;have D:=zf (b.o.below HW.o s);have q:=zf (F.o.below s);have Z:=zf (ym H.o s);obtain⟨q0,z0⟩:=zw q.o 0 _ rfl;obtain⟨q1,z1⟩:=zw q.o 1 _ rfl;clear s b F H j;unfold zl0;go_wp2_with fail;refine z8 (v:= .tuple #[.string ⟨#[]⟩,.bool true,x,.agg #[.int .i64 t.1,.string ⟨t.2.toArray⟩]]) (zly results26 _ _ w.heap.size 52 _ (0,0) _ rfl (zg9 q.o _ _ rfl) underlying52 rfl (by kernel_rfl) _ _ _ rfl rfl rfl) rfl ?_;obtain⟨g1,g2⟩:=ae.out w4 true x D.o q.o Z.o;exact⟨g1,true,x,rfl,fun _=>rfl,fun _=>rfl,g2,H8.o⟩
 ·obtain⟨g,ag,ah,rfl,hB,hg,ao,ap⟩:=yid al;have ak:nl=true→False:=fun h=>by have:=ad h;simp at this
  have aq:=zf ak;have ab:=zvt y g 0 ag Q.length Q rfl ao;have au:=fun ty=>z2u (P:=prog) y 114 5 ty (.int .u8 0) underlying114 z6b rfl rfl g Q.length ag ap;have B:zq (fun k=>k=g) [5] y (y.setCells g 0 (List.replicate Q.length (.int .u8 0))):=zq.cells_old (O:=fun k=>k=g) (T:=[5]) (zq.refl _ _ _) rfl (.inl ⟨ah,_,_,hg,by simp⟩) _ _;have am:zqe (fun k=>k=g) [5] y:=fun k K=>by subst K;exact⟨ah,_,_,hg,by simp⟩
  have f:=zf (L.o.past (P':=fun _=>True) B am (fun k K=>by subst K;exact zu C.o hB) HW.o (by decide) (by decide) (by decide) (by decide) (by decide) (by decide) (by decide) (by decide) (by decide) (by decide) (.inr (fun aw hP=>zrd.clear (hP _ _ _ rfl) B (fun k K=>by subst K;rfl))) (fun _ _=>trivial));have m:Hid (zg1 W1.heap.size (y.setCells g 0 (List.replicate Q.length (.int .u8 0))) v ps):=zo l.o B (by decide);have R:=zf (M.o.turn B (by decide));have E:=zf (z.o.turn B (by decide));have G:=zf (zq7 W1.heap.size v ps _ (by omega) H8.o m.o);clear L ad ak al hB hg ao ap B am l M z;unfold txt at ab;generalize y.setCells g 0 (List.replicate Q.length (.int .u8 0))=Y at *;go_wp2_with fail;refine G.o.mono ?_;rintro r w3 ⟨x,rfl,u,I⟩;have b:=zf (f.o.past (P':=fun _=>True) u (ztd m.o) (fun k K=>zu C.o (zq3 m.o k K)) HW.o (by decide) (by decide) (by decide) (by decide) (by decide) (by decide) (by decide) (by decide) (by decide) (by decide) (.inl (by decide)) (fun _ _=>trivial));have F:=zf (R.o.turn u (by decide));have j:=zf (E.o.turn u (by decide));have H:Hid (w3.ownsRow w.heap.size 9 1 x ps.length (ps.map txt)):=zk7 I f.o.turn.size;clear u I G m f R E au ab;go_wp2_with fail;refine(z7z N w3 (zdt HS.o b.o.sh.base) e _ j.o).mono ?_;rintro r w4 ⟨rfl,s⟩;have D:=zf (b.o.below HW.o s);have q:=zf (F.o.below s);have Z:=zf (ym H.o s);obtain⟨q0,z0⟩:=zw q.o 0 _ rfl;obtain⟨q1,z1⟩:=zw q.o 1 _ rfl;clear s b F H j;unfold zl0;go_wp2_with fail;refine z8 (v:= .tuple #[.string ⟨Q.toArray⟩,.bool false,x,.agg #[.int .i64 t.1,.string ⟨t.2.toArray⟩]]) (zly results26 _ _ w.heap.size 52 _ (0,0) _ rfl (zg9 q.o _ _ rfl) underlying52 rfl (by kernel_rfl) _ _ _ rfl rfl rfl) rfl ?_;obtain⟨g1,g2⟩:=ae.out w4 false x D.o q.o Z.o;exact⟨g1,false,x,rfl,fun h=>by simp at h,fun h=>(aq.o h).elim,g2,H8.o⟩
theorem z8i {σ:Type}{fe:σ→zc→(zc×Bool)×σ}{inc:zc→Nat→Nat→za→zc→Bool}(c:Cl)(s:σ)(i:Nat):(zbd fe inc c s i).2.1.room=c.room:=by
 rw [zzu]
end
theorem z81 (f:Nat):∀ a:za,a.length≤f→zaf (f+1) a=zaf f a:=by
 induction f with
 | zero=>intro a h;rw [ze1 _ _ (by omega),ze1 _ _ (by omega)]
 | succ f c =>
  intro a h
  by_cases h0:a.length=0
  ·rw [ze1 _ _ h0,ze1 _ _ h0]
  by_cases b:a.length=1
  ·rw [zi0 _ _ b,zi0 _ _ b]
  obtain⟨d,e,g⟩:=vz a.length (by omega);rw [zdl (f+1) a (by omega),zdl f a (by omega),c (a.take (yo a.length)) (by simp;omega),c (a.drop (yo a.length)) (by simp;omega)]
theorem zjf (P:za)(R:zc):(P++[R]).dropLast=P:=by simp
theorem zp1 (P:za)(R:zc):(P++[R]).getLastD []=R:=by simp [List.getLastD_eq_getLast?]
theorem zu2 (P:za)(R:zc):(P++[R]).length≠0:=by simp
theorem yis (f:Nat):∀(a:za) (i:Nat),1≤a.length→(ze3 f a i).length+1≤a.length:=by
 induction f with
 | zero=>intro a i h;simpa [ze3] using h
 | succ f c =>
  intro a i h
  by_cases d:a.length≤1
  ·rw [zkk _ _ _ d];simpa using h
  obtain⟨e,g,j⟩:=vz a.length (by omega)
  by_cases b:i < yo a.length
  ·rw [zk8 _ _ _ (by omega) b];have:=c (a.take (yo a.length)) i (by simp;omega);simp at this ⊢;omega
  ·rw [zjo _ _ _ (by omega) b];have:=c (a.drop (yo a.length)) (i - yo a.length) (by simp;omega);simp at this ⊢;omega
theorem yjc (z:zc)(f:Nat):∀(a:za) (i:Nat),1≤a.length→a.length≤f→i < a.length →
  zbe z f (zae (a.getD i [])) i a.length (ze3 f a i)=(zaf f a,true):=by
 induction f with
 | zero=>intro a i j k;omega
 | succ f g =>
  intro a i j m n
  by_cases h:a.length=1
  ·rw [zkk _ _ _ (by omega),h,zlb,zi0 _ _ h];obtain rfl:i=0:=by omega
   match a,h with
   | [l],_=>simp
  obtain⟨o,p,q⟩:=vz a.length (by omega)
  by_cases b:i < yo a.length
  ·rw [zk8 _ _ _ (by omega) b,ziz _ _ _ _ _ _ h (zu2 _ _) b,zjf,zp1];have e:=g (a.take (yo a.length)) i (by simp;omega) (by simp;omega) (by simp;omega);have c:(a.take (yo a.length)).getD i []=a.getD i []:=by simp [zl,b]
   have d:(a.take (yo a.length)).length=yo a.length:=by simp;omega
   rw [c,d] at e;rw [e,zdl _ _ (by omega)]
  ·rw [zjo _ _ _ (by omega) b,zhj _ _ _ _ _ _ h (zu2 _ _) b,zjf,zp1];have e:=g (a.drop (yo a.length)) (i - yo a.length) (by simp;omega) (by simp;omega) (by simp;omega);have c:(a.drop (yo a.length)).getD (i - yo a.length) []=a.getD i []:=by
    simp only [zl,zeu];rw [show yo a.length+(i - yo a.length)=i by omega]
   have d:(a.drop (yo a.length)).length=a.length - yo a.length:=by simp
   rw [c,d] at e;rw [e,zdl _ _ (by omega)]
theorem ylw (f:Nat):∀(m:Nat) (a:za) (whole:Bool),1≤m→m≤a.length→(zpa f m a whole).length≤a.length:=by
 induction f with
 | zero=>intro m a whole h e;simp [zpa]
 | succ f d =>
  intro m a whole h e
  by_cases b:m=a.length
  ·subst b;cases whole with
   | true=>rw [znd];simp
   | false=>rw [zr5];simpa using h
  obtain⟨g,i,j⟩:=vz a.length (by omega)
  by_cases c:m≤yo a.length
  ·rw [ztj _ _ _ _ b c];have:=d m (a.take (yo a.length)) whole h (by simp;omega);simp at this ⊢;omega
  ·rw [zq5 _ _ _ _ b c];have:=d (m - yo a.length) (a.drop (yo a.length)) false (by omega) (by simp;omega);simp at this ⊢;omega
theorem yjl (z a:zc)(f:Nat):∀(m:Nat) (b:za) (whole:Bool),1≤m→m≤b.length→b.length≤f→(whole=true→a=zaf f (b.take m)) →
  j2 z a f m b.length (zpa f m b whole) whole=(zaf f (b.take m),zaf f b,true):=by
 induction f with
 | zero=>intro m b whole k p t;omega
 | succ f l =>
  intro m b whole k p u h
  by_cases d:m=b.length
  ·subst d;cases whole with
   | true=>rw [znd,zhl,jg] ;rw [jg] at h;rw [← h rfl];simp
   | false=>rw [zr5,zi3 _ _ _ _ _ (by simp),jg];simp
  obtain⟨v,s,w⟩:=vz b.length (by omega)
  by_cases c:m≤yo b.length
  ·rw [ztj _ _ _ _ d c,zi2 _ _ _ _ _ _ _ d (zu2 _ _) c,zjf,zp1];have j:(b.take (yo b.length)).take m=b.take m:=by rw [zkv,zjv c]
   have g:(b.take (yo b.length)).length=yo b.length:=by simp;omega
   have es:zaf (f+1) (b.take m)=zaf f (b.take m):=z81 f _ (by simp;omega);have e:=l m (b.take (yo b.length)) whole k (by omega) (by omega) (fun r=>by rw [j,← es];exact h r);rw [j,g] at e;rw [e,es,zdl f b (by omega)]
  ·rw [zq5 _ _ _ _ d c,zhk _ _ _ _ _ _ _ d (zu2 _ _) c,zjf,zp1];have g:(b.drop (yo b.length)).length=b.length - yo b.length:=by simp
   have e:=l (m - yo b.length) (b.drop (yo b.length)) false (by omega) (by omega) (by omega) (by simp);rw [g] at e;have q:(b.take m).length=m:=by simp;omega
   have i:yo m=yo b.length:=by
    unfold yo at c s ⊢;refine(yhd m _ (by omega) ?_).symm;rw [qy];omega
   have n:(b.take m).take (yo b.length)=b.take (yo b.length):=by rw [zkv,zjv (by omega)]
   have o:(b.take m).drop (yo b.length)=(b.drop (yo b.length)).take (m - yo b.length):=by rw [zvb]
   rw [e,zdl f b (by omega),zdl f (b.take m) (by omega),q,i,n,o]
variable {j new t':Nat}
section
theorem yd0 (z a:zc):∀(f g i n:Nat) (ps:za),ps.length < f→ps.length < g→zbe z f a i n ps=zbe z g a i n ps:=by
 intro f
 induction f with
 | zero=>intro g i n ps h;omega
 | succ f e =>
  intro g i n ps k l;obtain⟨g,rfl⟩:∃ j,g=j+1:=⟨g - 1,by omega⟩;unfold zbe
  by_cases c:n=1
  ·rw [if_pos c,if_pos c]
  rw [if_neg c,if_neg c]
  by_cases h0:ps.length=0
  ·rw [if_pos h0,if_pos h0]
  rw [if_neg h0,if_neg h0];have d:ps.dropLast.length < f:=by simp;omega
  have b:ps.dropLast.length < g:=by simp;omega
  rw [e g i (yo n) _ d b,e g (i - yo n) (n - yo n) _ d b]
theorem yeh (z a:zc):∀(f g m n:Nat) (ps:za) (whole:Bool),ps.length < f→ps.length < g→j2 z a f m n ps whole=j2 z a g m n ps whole:=by
 intro f
 induction f with
 | zero=>intro g m n ps whole h;omega
 | succ f e =>
  intro g m n ps whole j k;obtain⟨g,rfl⟩:∃ i,g=i+1:=⟨g - 1,by omega⟩;unfold j2
  by_cases c:m=n
  ·rw [if_pos c,if_pos c]
  rw [if_neg c,if_neg c]
  by_cases h0:ps.length=0
  ·rw [if_pos h0,if_pos h0]
  rw [if_neg h0,if_neg h0];have d:ps.dropLast.length < f:=by simp;omega
  have b:ps.dropLast.length < g:=by simp;omega
  rw [e g m (yo n) _ whole d b,e g (m - yo n) (n - yo n) _ false d b]
def zgt (es:za)(a i:Nat):za:=(qz 64 0 a i).map fun s=>qm (run es s)
def zt3 (es:za)(b a:Nat):za:=(qk 64 b 0 a true).map fun s=>qm (run es s)
theorem z5f (es:za)(n:Nat):run es (0,n)=es.take n:=by simp [run]
theorem zwy (es:za)(a i g:Nat)(h:a≤es.length)(d:a < 2 ^ 63)(c:i < a)(b:a≤g):ze3 g (es.take a) i=zgt es a i:=by
 have:=z4k es 64 g 0 a i (by omega) b (by omega) (by omega) (by omega);rw [z5f,z17] at this;exact this
theorem yip (es:za)(b a g:Nat)(h:a≤es.length)(e:a < 2 ^ 63)(h0:0 < b)(d:b≤a)(c:a≤g):zpa g b (es.take a) true=zt3 es b a:=by
 have:=z4j es 64 g b 0 a true (by omega) c (by omega) (by omega) (by omega);rw [z5f,z17] at this;exact this
theorem ztg (es:za)(a i:Nat):(zgt es a i).length≤64:=by
 unfold zgt;rw [yi];exact zcx 64 0 a i
theorem ydg (es:za)(b a:Nat):(zt3 es b a).length≤65:=by
 unfold zt3;rw [yi];exact zdd 64 b 0 a true
theorem zxs {es:za}{n:Nat}(h:n≤es.length):(es.take n).length=n:=by simp;omega
theorem yg8 (z:zc)(es:za)(a i:Nat)(h:a≤es.length)(g:a < 2 ^ 63)(c:i < a):zbe z 1001 (zae (es.getD i [])) i a (zgt es a i)=(qm (es.take a),true):=by
 have d:=zxs h;have b:=yjc z a (es.take a) i (by omega) (by omega) (by omega);have f:=yis a (es.take a) i (by omega);rw [zwy es a i a h g c (zm _)] at b f;have j:=ztg es a i;rw [yd0 z _ 1001 a i a _ (by omega) (by omega)];rw [d] at b;have e:(es.take a).getD i []=es.getD i []:=by
  rw [zl,zl,qj,if_pos c]
 rw [e] at b;rw [b];unfold qm;rw [d]
theorem yf7 (z:zc)(es:za)(b a:Nat)(h:a≤es.length)(l:a < 2 ^ 63)(h0:0 < b)(k:b≤a):j2 z (qm (es.take b)) 1001 b a (zt3 es b a) true=(qm (es.take b),qm (es.take a),true):=by
 have i:=zxs h;have d:(es.take a).take b=es.take b:=by rw [zkv];congr 1;omega
 have j:(es.take b).length=b:=zxs (by omega);have e:zaf (a+1) (es.take b)=qm (es.take b):=zep _ _ _ (by omega) (by omega);have f:zaf (a+1) (es.take a)=qm (es.take a):=zep _ _ _ (by omega) (by omega);have c:=yjl z (qm (es.take b)) (a+1) b (es.take a) true (by omega) (by omega) (by omega) (fun _=>by rw [d,e]);have g:=ylw (a+1) b (es.take a) true (by omega) (by omega);rw [yip es b a (a+1) h l h0 k (by omega)] at c g;have m:=ydg es b a;rw [yeh z _ 1001 (a+1) b a _ true (by omega) (by omega)];rw [i,d,e,f] at c;exact c
section
variable {σ : Type} {fe : σ → zc → (zc × Bool) × σ}
theorem zwl (b:σ→Int)(y:∀ s p,b (fe s p).2=b s+1){c:Mm}{d:Nat}{m n:Ms σ}{l:Int}{o:Sum (zc) Pc}(h:zaq fe c d m l j=(o,n)):
  b n.net≤b m.net+2∧n.needed.length≤m.needed.length+1:=by
 have i:∀ s p,b (j7 fe s p).2=b s+1:=fun s p=>y s _;have g:∀(a:Mm) p f,(a.drop p++[(p,f)]).length≤a.length+1:=fun a p f=>by
  have:=zcp (fun x:Pl×Fl=>!decide (x.1=p)) a;simp only [zy,y9,jc];unfold Mm.drop;omega
 have k:∀ s p,b (zb0 fe s p).2≤b s+2:=by
  intro s p;have e:=i s p;unfold zb0;cases v:j7 fe s p with
  | mk o u =>
   rw [v] at e;simp only at e;cases o with
   | some f=>simp only;omega
   | none =>
    simp only;split
    ·simp only;omega
    ·have q:=i u (p.1,p.2.1,4);cases w:j7 fe u (p.1,p.2.1,4) with
     | mk A B =>
      rw [w] at q;simp only at q;cases A<;>simp only<;>omega
 unfold zaq at h
 by_cases t:((j9 c m.needed (zv d l j)).getD (j % 4) .no).there=true
 ·rw [if_pos t] at h;simp only [ye] at h;obtain⟨-,rfl⟩:=h;exact⟨by simp only;omega,g _ _ _⟩
 ·rw [if_neg t] at h;have e:=k m.net (zv d l j);cases z:zb0 fe m.net (zv d l j) with
  | mk o s =>
   rw [z] at h e;cases o with
   | none =>
    simp only [ye] at h;obtain⟨-,rfl⟩:=h;simp only at *;exact⟨e,by omega⟩
   | some r =>
    simp only [ye] at h;obtain⟨-,rfl⟩:=h;simp only at *;exact⟨e,g _ _ _⟩
theorem zc3.cost {b:Mm}{c:Nat}{m d:Ms σ}{ps:List (Pl×Nat)}(h:zc3 fe b c m ps d)(a:σ→Int)(f:∀ s p,a (fe s p).2=a s+1):a d.net≤a m.net+2*(ps.length:Int)∧d.needed.length≤m.needed.length+ps.length:=by
 induction h using zc3.ind with
 | nil m=>exact⟨by simp,by simp⟩
 | cons g e _ i =>
  have:=zwl a f e;simp only [y9];omega
theorem ylz (a:Int)(m:Mm)(p:Pl)(f:Fl):(m.put a p f).length≤m.length+1:=by
 have:=zcp (fun x:Pl×Fl=>!decide (x.1=p)) m;unfold Mm.put Mm.drop;split
 ·simp only [List.length_tail,zy,y9,jc];omega
 ·simp only [zy,y9,jc];omega
theorem zh7 (a:Int):∀(c b:Mm),(jl a b c).length≤b.length+c.length
 | [],b=>by simp [jl]
 | x::c,b=>by
  have d:=zh7 a c (b.put a x.1 (zqy x.2));have e:=ylz a b x.1 (zqy x.2);show(jl a (b.put a x.1 (zqy x.2)) c).length≤_;simp only [y9];omega
end
structure CI (es:za)(c:Cl)(t:Nat):Prop where
 le:c.size≤es.length
 gd:GdM (zfx es) c.proved
 ins:InS c.size c.proved
 rt:c.root=qm (es.take c.size)
 room:ykf c.room c.proved
 len:c.proved.length≤10000*t
theorem CI.more {es:za}{t:Nat}(h:CI es c t)(a:za):CI (es++a) c t :=
 ⟨by have:=h.le;simp;omega,h.gd.weak (fun _ _ _ b=>z9l b a),h.ins,by rw [vh h.le];exact h.rt,h.room,h.len⟩
theorem CI.later {es:za}{t:Nat}(h:CI es c t)(a:t≤t'):CI es c t':=⟨h.le,h.gd,h.ins,h.rt,h.room,by have:=h.len;omega⟩
theorem ym2 (es:za)(b:zc)(a:Int):CI es ⟨b,0,qm [],a,[]⟩ 0 :=
 ⟨yv _,ze8 _,fun x c=>by simp at c,by simp,⟨fun _=>rfl,fun _=>by simp⟩,by simp⟩
section
variable {fs : Fs} {es : za} {c : Cl} {n : Nt} {t i : Nat}
theorem ykq (inc:zc→Nat→Nat→za→zc→Bool)(f:∀ a i,a≤es.length→i < a→inc (zae (es.getD i [])) i a (zgt es a i) (qm (es.take a))=true)(j:∀ e∈es,e.length≤20)(l:es.length < 4 ^ 21)(b:zf1 fs es c.size)(y:n.lies=[])(h:CI es c t)(q:i < c.size):
  ∃ m,zc3 (yz fs) c.proved c.size ⟨n,[]⟩ (zw5 c.size i) m∧m.net.lies=[]∧n.fetches≤m.net.fetches∧m.net.fetches≤n.fetches+17000 ∧
   zbd (yz fs) inc c n i=(.inr (es.getD i [],zgt es c.size i),{ c with proved:=jl c.room c.proved (zc8 c.size m.needed i (zae (es.getD i []))) },m.net) ∧
   CI es { c with proved:=jl c.room c.proved (zc8 c.size m.needed i (zae (es.getD i []))) } (t+1):=by
 have o:=z0a (fs:=fs) j h.le (zcy h.le l) b;have k:=o.lt;obtain⟨m,g,s,u,v,w⟩:=z8k o h.gd h.ins y q inc (by rw [h.rt];exact f c.size i h.le q);have p:=g.cost (fun x:Nt=>x.fetches) (zh6 fs);have d:=g.cnt (fun x:Nt=>x.fetches) (zh6 fs);have r:(zw5 c.size i).length≤8401:=by
  have:=zth c.size i k;unfold zw5;simp only [y9];omega
 simp only at p d;refine⟨m,g,s,d,by omega,u,h.le,v,w,h.rt,h.room.remember _,?_⟩;have e:=congrArg List.length (zkd c.size m.needed i (zae (es.getD i [])));simp only [yi] at e;have:=zh7 c.room (zc8 c.size m.needed i (zae (es.getD i []))) c.proved;have:=h.len;have:=p.2;simp only [jc] at this;simp only;omega
theorem ybo (con:Nat→Nat→zc→zc→za→Bool)(g:∀ a b,0 < a→a≤b→b≤es.length→con a b (qm (es.take a)) (qm (es.take b)) (zt3 es a b)=true)(l:∀ e∈es,e.length≤20)(p:es.length < 4 ^ 21)(f:zf1 fs es new)(w:n.lies=[])(h:CI es c t)(o:c.size≤new)(j:new≤es.length):
  ∃ d k,zi8 (yz fs) con c n (some (new,qm (es.take new)))=(.inr (if 0 < c.size∧c.size < new then zt3 es c.size new else []),d,k)∧(d.key=c.key∧d.size=new∧d.room=c.room)∧CI es d (t+1)∧k.lies=[]∧n.fetches≤k.fetches∧k.fetches≤n.fetches+17000:=by
 have s:=z0a (fs:=fs) l j (zcy j p) f;have m:=s.lt;obtain⟨D,E,e,q,r,B,C⟩:=z4q (c:=c) s h.gd h.ins w h.rt o con (fun h0 F=>by rw [h.rt];exact g c.size new h0 o j);refine⟨{ c with size:=new,root:=qm (es.take new),proved:=D },E,?_,⟨rfl,rfl,rfl⟩,?_⟩
 ·unfold zi8;simp only;rw [e]
  rfl
 ·rcases C with ⟨rfl,rfl⟩ | ⟨z,y,rfl,rfl,h0⟩
  ·exact⟨⟨j,q,r,rfl,h.room,by have:=h.len;simp only;omega⟩,w,zfg _,by omega⟩
  ·have u:=y.cost (fun x:Nt=>x.fetches) (zh6 fs);have i:=y.cnt (fun x:Nt=>x.fetches) (zh6 fs);have v:=ztf c.size new m h0 o;simp only at u i;have A:=congrArg List.length (zke new z.needed c.size c.root);simp only [yi] at A;have:=zh7 c.room (zfy new z.needed c.size c.root) c.proved;have:=h.len;have:=u.2;simp only [jc] at this;exact⟨⟨j,q,r,rfl,h.room.remember _,by simp only;omega⟩,B,i,by omega⟩
end
end
end Go.Proofs.YtlcllcgngjhoaaaGreatDoor
