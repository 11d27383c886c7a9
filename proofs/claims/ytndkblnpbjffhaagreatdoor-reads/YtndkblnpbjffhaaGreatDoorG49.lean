import Derived.Test.YtndkblnpbjffhaaGreatDoorG48
set_option maxHeartbeats 4000000
set_option maxRecDepth 100000
open Go.RowKit
namespace Go.Proofs.YtndkblnpbjffhaaGreatDoor
section
attribute [local go_sem ↓] za2 zah
theorem zzg {σ:Type}{fe:σ→List UInt8→(List UInt8×Bool)×σ}{inc:List UInt8→Nat→Nat→List (List UInt8)→List UInt8→Bool}(c:Cl)(s:σ)(i:Nat):(zgl (jd fe inc c s i).1).2.1.length≤65:=by
 cases hn:qu fe c.proved c.size ⟨s,[]⟩ (-1) i with
 | mk o m =>
  cases o with
  | inl p=>rw [zly hn];simp [zgl]
  | inr own =>
   cases hr:yh fe c.proved c.size m (xy 64 0 c.size i) with
   | mk o2 m2 =>
    cases o2 with
    | inl p=>rw [zlq hn hr];simp [zgl]
    | inr ps =>
     cases hi:inc own.hash i c.size ps c.root with
     | false=>rw [zl0 hn hr hi];simp [zgl]
     | true =>
      rw [zl2 hn hr hi];show ps.length≤65;have:=zfx hr;have:=zaw 64 0 c.size i;omega
theorem zxk {σ:Type}{fe:σ→List UInt8→(List UInt8×Bool)×σ}{con:Nat→Nat→List UInt8→List UInt8→List (List UInt8)→Bool}(c:Cl)(s:σ)(n:Nat)(r:List UInt8):(zb7 (qv fe con c s n r).1).1.length≤65:=by
 rcases Nat.lt_or_ge n c.size with h | h
 ·rw [zgc h];simp [zb7]
 ·by_cases e:n=c.size
  ·by_cases D:r=c.root
   ·rw [zes e D];simp [zb7]
   ·rw [zdz e D];simp [zb7]
  ·by_cases A:c.size=0
   ·rw [ze1 (by omega) A];simp [zb7]
   ·cases hr:yh fe c.proved n ⟨s,[]⟩ (qd 64 c.size 0 n true) with
    | mk o m =>
     cases o with
     | inl p=>rw [zjr (by omega) A hr];simp [zb7]
     | inr ps =>
      cases hc:con c.size n c.root r ps with
      | false=>rw [zjn (by omega) A hr hc];simp [zb7]
      | true =>
       rw [zjw (by omega) A hr hc];show ps.length≤65;have:=zfx hr;have:=za4 64 c.size 0 n true;omega
theorem z4e {σ:Type}{fe:σ→List UInt8→(List UInt8×Bool)×σ}{con:Nat→Nat→List UInt8→List UInt8→List (List UInt8)→Bool}(c:Cl)(s:σ)(o:Option (Nat×List UInt8)):(zb7 (zgq fe con c s o).1).1.length≤65:=by
 cases o with
 | none=>simp [zgq,zb7]
 | some x =>
  obtain⟨n,r⟩:=x;have h:=zxk (fe:=fe) (con:=con) c s n r;unfold zgq;simp only;generalize qv fe con c s n r=P at *
  obtain⟨o,A,D⟩:=P;cases o with
  | inl e=>simp [zb7]
  | inr ps=>exact h
theorem zu2 (h:Nat)(w:World):Calls Tryz.prog 9 #[vr h] w fun r w'=>r= .returned (zo w.heap.size)∧Below w.heap.size w w'∧vi w' (fun k=>k=w.heap.size) w.heap.size h ⟨[],[],0⟩:=by
 unfold vr;go_enter Tryz.func9,Tryz.ntmps9;go_wp2_with fail;go_ret;exact⟨rfl,ze _ _,.slice none 0 0,.slice none 0 0,rfl,heap_alloc_last _ _,⟨none,0,rfl,.inl rfl⟩,⟨none,0,rfl,.inl rfl⟩,rfl⟩
theorem z0r (key:List UInt8)(room:Int)(w:World):
  Calls Tryz.prog 5 #[.pointer none,txv key,.int .i64 room] w fun r w'=>∃(E cb H nm:Nat),r= .returned (zo E)∧Below w.heap.size w w'∧w.heap.size≤cb∧w.heap.size≤E∧zgz w' E cb∧w'.heap[cb]?=some (.cells (zxc .nilIface key 0 (xe 0 []) H nm).toArray qh (0,0)):=by
 have D:=za (zt7 .nilIface (.inl rfl) key room w);unfold txv at D ⊢;go_enter Tryz.func5,Tryz.ntmps5;go_wp2_with fail;refine D.o.mono ?_;rintro r L ⟨cb,H,nm,A,Q,rfl,I,h1,h2,-,-,-,-,J⟩;have h:=za I;have K:=za J;clear I J D;unfold zo;go_wp2_with fail;go_ret;exact⟨L.heap.size,cb,H,nm,rfl,h.o.alloc h.o.size _,h2,h.o.size,heap_alloc_last _ _,zc K.o⟩
theorem zpa (L:World)(O:Nat→Prop)(R:Nat)(key:List UInt8)(room:Int)(w:World)(Q:L.heap.size≤w.heap.size)(V:∀ b,O b→b < w.heap.size):
  Calls Tryz.prog 5 #[zo R,txv key,.int .i64 room] w fun r w'=>∃(H cb S nm:Nat) (A I:Nat→Prop),r= .returned (zo H)∧Below w.heap.size w w'∧w.heap.size≤H∧H < w'.heap.size∧(∀ k,A k∨I k∨k=cb→w.heap.size≤k∧k < H)∧zgz w' H cb∧Pv L w' O A I cb R S nm ⟨key,0,xe 0 [],room,[]⟩:=by
 have K:=za (z2r L O R key room w Q V);clear V;unfold txv znj at K;unfold txv zo;go_enter Tryz.func5,Tryz.ntmps5;go_wp2_with fail;refine K.o.mono ?_;rintro r X ⟨cb,S,nm,A,I,rfl,W,h1,h2,E⟩;have J:=za W;have D:=za E;have U:=za h2;clear W E h2 K;unfold zo;go_wp2_with fail;go_ret;refine⟨X.heap.size,cb,S,nm,A,I,rfl,J.o.alloc J.o.size _,J.o.size,by simp,fun k h=>?_,heap_alloc_last _ _,D.o.below (ze _ _)⟩;refine⟨?_,(D.o.own k h).2.1⟩;rcases h with h | h | rfl
 ·exact U.o k (.inl h)
 ·exact U.o k (.inr h)
 ·exact h1
theorem Pv.trusted {H w w':World}{O A E:Nat→Prop}{cb I J nm:Nat}{c:Cl}(h:Pv H w O A E cb I J nm c)(D:zg (fun b=>b=cb) [qh] w w')(Q:w'.heap[cb]?=w.heap[cb]?):Pv H w' O A E cb I J nm c:=by
 obtain⟨C,L,K⟩:=h.cli;exact⟨fun b r=>⟨(h.own b r).1,Nat.lt_of_lt_of_le (h.own b r).2.1 D.size,(h.own b r).2.2⟩,h.sep,h.cbA,h.cbP,⟨C,Q.trans L,K⟩,h.prv.stay D (fun b r e=>h.cbP (by rw [← e];exact r)) (by decide) (fun _ h=>h),h.nee.stay D (fun b r e=>h.cbA (by rw [← e];exact r)) (fun _ h=>h)⟩
theorem zq4 (X:World)(O A W:Nat→Prop)(cb nb pm nm:Nat)(c:Cl)(pb:Nat)(w:World)(h:Pv X w O A W cb nb pm nm c)(hp:zgz w pb cb):
  Calls Tryz.prog 34 #[zo pb] w fun r w'=>r= .returned (.tuple #[.int .i64 c.size,txv c.root])∧zg (fun b=>b=cb) [qh] w w'∧w'.heap[cb]?=w.heap[cb]?:=by
 have R:=za (ztw X O A W cb nb pm nm c w h);have Y:=(zf hp 0 _ rfl).1;obtain⟨C,hC,Z⟩:=h.cli;have L:Hid (c.root.length=8):=Z.num.r8;have J:Hid (w.heap[cb]?=some (.cells C qh (0,0))):=hC;clear h hp hC Z;unfold zo at Y R ⊢;go_enter Tryz.func34,Tryz.ntmps34;go_wp2_with fail;refine R.o.mono ?_;rintro r D ⟨rfl,I,K⟩;have E:(D.alloc (.cells #[.int .i64 0,.int .u8 0,.int .u8 0,.int .u8 0,.int .u8 0,.int .u8 0,.int .u8 0,.int .u8 0,.int .u8 0] 95)).heap[D.heap.size]?=some (.cells (trC 0 xf).toArray 95 (0,0)):=heap_alloc_last _ _;have aa:(zeg (.pointer (some ⟨D.heap.size,0,none⟩)) (.agg (trC c.size c.root).toArray)).run Tryz.prog (D.alloc (.cells #[.int .i64 0,.int .u8 0,.int .u8 0,.int .u8 0,.int .u8 0,.int .u8 0,.int .u8 0,.int .u8 0,.int .u8 0] 95))= .ok () ((D.alloc (.cells #[.int .i64 0,.int .u8 0,.int .u8 0,.int .u8 0,.int .u8 0,.int .u8 0,.int .u8 0,.int .u8 0,.int .u8 0] 95)).setCells D.heap.size 0 (trC c.size c.root)):=zbz (qw E) L.o;have H:=ji E (ds:=trC c.size c.root) (by rw [zca _ L.o];rfl);have k0:=(zf H 0 (.int .i64 c.size) rfl).1;have S:Hid (zg (fun b=>b=cb) [qh] w ((D.alloc (.cells #[.int .i64 0,.int .u8 0,.int .u8 0,.int .u8 0,.int .u8 0,.int .u8 0,.int .u8 0,.int .u8 0,.int .u8 0] 95)).setCells D.heap.size 0 (trC c.size c.root))):=(I.then_below (ze _ _)).setCellsNew I.size _ _;have Q:Hid (((D.alloc (.cells #[.int .i64 0,.int .u8 0,.int .u8 0,.int .u8 0,.int .u8 0,.int .u8 0,.int .u8 0,.int .u8 0,.int .u8 0] 95)).setCells D.heap.size 0 (trC c.size c.root)).heap[cb]?=w.heap[cb]?):=by
  show _=_;have h1:D.heap[cb]?=some (.cells C qh (0,0)):=K.trans J.o;rw [qc _ _ (by have:=zb h1;omega),zc h1,J.o]
 have U:=zm2 ((D.alloc (.cells #[.int .i64 0,.int .u8 0,.int .u8 0,.int .u8 0,.int .u8 0,.int .u8 0,.int .u8 0,.int .u8 0,.int .u8 0] 95)).setCells D.heap.size 0 (trC c.size c.root)).drew D.heap.size 1 8 8 c.root L.o (by have h:=zm6 H;have h':World.rangeAt (World.drew _) _ _ _:=h;simpa [hv] using h');unfold txt at U;clear I K E H Y R;generalize (D.alloc (.cells #[.int .i64 0,.int .u8 0,.int .u8 0,.int .u8 0,.int .u8 0,.int .u8 0,.int .u8 0,.int .u8 0,.int .u8 0] 95)).setCells D.heap.size 0 (trC c.size c.root)=V at *
 go_wp2_with fail;go_region;all_goals go_wp2_with fail
 all_goals go_ret2
 all_goals exact⟨rfl,S.o.drew,Q.o⟩
theorem zsp (K:World)(S:Nat→Addr)(O A OP:Nat→Prop)(cb nb db pm nm:Nat)(d:Dk)(c:Cl)(n:Nt)(pb:Nat)(w:World)(hE:Env K)(hS:ja K S)(af:zdq K)(h:Pv K w O A OP cb nb pm nm c)(hs:Sh K w O nb db d n)(hp:zgz w pb cb)(hf:n.fetches+20000 < 4611686018427387904)(ak:c.size < 9223372036854775808)(ai:c.key.length≤2097152)(al:(zu d.fs n cpP).1.1.length≤1048576)(aj:c.proved.length≤100000000000)(am:WfM c.proved):
  Calls Tryz.prog 8 #[zo pb] w fun r w'=>∃ o,zl8 c.key (zu d.fs n cpP).1 o∧CR K w w' O A OP cb nb db pm nm d (zgq (zu d.fs) zcd c (zu d.fs n cpP).2 o).2.1 (zgq (zu d.fs) zcd c (zu d.fs n cpP).2 o).2.2 (fun _=>True)∧∃ x,r= .returned (.tuple #[x,zgk (zb7 (zgq (zu d.fs) zcd c (zu d.fs n cpP).2 o).1).2])∧w'.ownsRow w.heap.size 9 1 x (zb7 (zgq (zu d.fs) zcd c (zu d.fs n cpP).2 o).1).1.length ((zb7 (zgq (zu d.fs) zcd c (zu d.fs n cpP).2 o).1).1.map txt):=by
 have E:Below w.heap.size w (w.alloc (.cells #[.int .i64 0,.string ⟨#[]⟩] 31)):=ze _ _;have X:=za E;have HW:Hid (K.heap.size≤w.heap.size):=hs.base.size;have HU:=za (zwx K S O A OP cb nb db pm nm d c n _ hE hS af (h.below E) (hs.below E) hf ak ai al aj am);have ar:Hid (zch w.heap.size (w.alloc (.cells #[.int .i64 0,.string ⟨#[]⟩] 31))):=heap_alloc_last _ _;have c0:=(zf (zc (o:= .cells #[.int .i64 0,.string ⟨#[]⟩] 31) hp) 0 _ rfl).1;have HS:=za hS;clear h hs hp E hE hS af aj am hf ak ai al;unfold zo at c0 HU ⊢;go_enter Tryz.func8,Tryz.ntmps8;go_wp2_with fail;generalize w.alloc (.cells #[.int .i64 0,.string ⟨#[]⟩] 31)=W1 at *
 refine HU.o.mono ?_;rintro r w2 ⟨o,ag,I,W⟩;have ap:=za ag;have U:=z4e (fe:=zu d.fs) (con:=zcd) c (zu d.fs n cpP).2 o;obtain⟨u,c',n',hU⟩:∃ u c' n',zgq (zu d.fs) zcd c (zu d.fs n cpP).2 o=(u,c',n'):=⟨_,_,_,rfl⟩
 rw [hU] at I W U;have aw:(zb7 u).1.length≤65:=U;have au:=za hU;obtain⟨v,e,rfl,V,h8,ah⟩:=W.tell;have L:=za (I.since X.o);have aa:=za (ar.o.turn I.turn (by decide));have R:=za V;have Y:=za ah;have ad:=za (zfw W1.heap.size v (zb7 u).1 w2 (by omega) h8 V);clear ag hU I W V ah U aw HU c0 h8;go_wp2_with fail;refine ad.o.mono ?_;rintro r w3 ⟨x,rfl,J,an⟩;have ao:=za X.o.size;have Q:=za (L.o.past (P':=fun _=>True) J (zki R.o) (fun k hk=>Nat.le_trans ao.o (ziw R.o k hk)) HW.o (by decide) (by decide) (by decide) (by decide) (by decide) (by decide) (by decide) (by decide) (by decide) (by decide) (.inl (by decide)) (fun _ _=>trivial));have ac:=za (aa.o.turn J (by decide));have Z:=za (Y.o.turn J (by decide));have ae:Hid (w3.ownsRow w.heap.size 9 1 x (zb7 u).1.length ((zb7 u).1.map txt)):=zcb an L.o.turn.size;clear J an ad R L aa Y;go_wp2_with fail;refine(zrm S w3 (j5 HS.o Q.o.sh.base) e _ Z.o).mono ?_;rintro r w4 ⟨rfl,H⟩;have aq:=za (Q.o.below HW.o H);have D:=za (ac.o.below H);have av:=za (zy ae.o H);obtain⟨q0,z0⟩:=zf D.o 0 _ rfl;obtain⟨q1,z1⟩:=zf D.o 1 _ rfl;clear H Q ac ae Z;unfold zgk;go_wp2_with fail;refine bodyPost_ret (v:= .tuple #[x,.agg #[.int .i64 (zb7 u).2.1,.string ⟨(zb7 u).2.2.toArray⟩]]) (j3 Tryz.results8 _ _ w.heap.size 31 _ (0,0) _ rfl (zal D.o _ _ rfl) Tryz.underlying31 rfl (by kernel_rfl) _ rfl) rfl ?_;refine⟨o,ap.o,?_⟩;rw [au.o];refine⟨aq.o.past (zd1 D.o _ _) (zoz D.o) (fun k hk=>by omega) HW.o (by decide) (by decide) (by decide) (by decide) (by decide) (by decide) (by decide) (by decide) (by decide) (by decide) (.inl (by decide)) (fun _ h=>h),x,rfl,zi av.o (zd1 D.o _ _) (by decide)⟩
theorem zet {P:Program}{A:Func}{p I J u3:Tmp}{r:TypeId}(h:A.results=#[.tmp I,.tmp J,.tmp u3,.cell p r])(tmps:Array Value)(w:World)(g:Nat)(t:TypeId)(cs:Array Value)(D:Nat×Nat)(d:TypeDesc)
  (H:tmps.getD p undef= .pointer (some ⟨g,0,none⟩)) (S:w.heap[g]?=some (.cells cs t D))
  (hu:P.underlying r=some d) (R:(match d with | .struct _ | .array _ _=>true | _=>false)=true) (U:(P.info? r).map (·.size)=some cs.size) (K L Q:Value) (h1:tmps.getD I undef=K) (h2:tmps.getD J undef=L) (E:tmps.getD u3 undef=Q) :
  (results A tmps).run P w= .ok (.tuple #[K,L,Q,.agg cs]) w:=by
 have V:=run_loadVar_row (P:=P) w g t r cs D d S hu R U;simp only [Array.getD_eq_getD_getElem?] at H h1 h2 E;simp [results,h,H,h1,h2,E,asAddr,V]
theorem CR.fresh_nil {J w H:World}{O A I:Nat→Prop}{cb Q K E nm:Nat}{d:Dk}{c':Cl}{L:Nt}{P:(Nat→Prop)→Prop}{v e:Value}(h:CR J w H O A I cb Q K E nm d c' L P):CR J w H O A I cb Q K E nm d c' L (zj7 H E c'.room c'.proved (.returned (.tuple #[.slice none 0 0,v,e]))):=by
 obtain⟨R,D,S,U,r,-⟩:=h.rest;exact⟨h.turn,⟨R,D,S,U,r,zf3 r.prv⟩,h.sh⟩
abbrev zeb:Obj:= .cells #[.int .i64 0,.string ⟨#[]⟩] 31
theorem z4y {w:World}{B:Nat}{x:Value}{l:List UInt8}(h:OB w B x l):∃ g A r,x= .slice (some ⟨g,0,none⟩) l.length A∧B≤g∧w.heap[g]?=some (.cells r 5 (0,0))∧w.rangeAt g 0 (hv l).toList∧w.there g 0 l.length:=by
 rcases h.1.2 with h0 | ⟨g,A,r,e,I,D,Q,hm,K,L⟩
 ·exact absurd h0.1 h.2
 ·refine⟨g,A,r,e,I,D,fun j v E=>?_,fun j E=>?_⟩
  ·rw [Nat.zero_add,cell_of_row _ _ _ _ _ _ D];have J:j < l.length:=by
    have:=(List.getElem?_eq_some_iff.1 E).1;simpa [hv] using this
   have H:(r.toList.take (l.length*1))[j]?=some v:=by
    rw [L];simpa [hv] using E
   rw [List.getElem?_take,if_pos (by omega)] at H;simpa using H
  ·rw [Nat.zero_add];refine⟨?_,by simp [World.frozen?,D]⟩;rw [cell_of_row _ _ _ _ _ _ D];have:j < r.size:=by rw [K];omega
   simp [this]
def yaq (w':World)(B:Nat)(A:List UInt8)(D:List (List UInt8))(t:Int×List UInt8)(nl:Bool)(r:Ending):Prop :=
 ∃ h x,r= .returned (.tuple #[txv A,.bool h,x,zgk t])∧(h=true→A=[])∧(nl=true→h=true)∧w'.ownsRow B 9 1 x D.length (D.map txt)
theorem zms (W0:World)(af:Nat→Addr)(O A OP:Nat→Prop)(cb nb db pm nm:Nat)(d:Dk)(c':Cl)(n':Nt)(pb:Nat)(i:Int)(w:World)(e0:List UInt8)(L:List (List UInt8))(t:Int×List UInt8)(nl:Bool)(hS:ja W0 af)(hW:W0.heap.size≤w.heap.size)(hp:zgz w pb cb)(aA:L.length≤65)
  (a0:Calls Tryz.prog 64 #[zo cb,.int .i64 i] (w.alloc zeb) fun r I=>CR W0 (w.alloc zeb) I O A OP cb nb db pm nm d c' n' (zj7 I pm c'.room c'.proved r)∧∃ x v e,r= .returned (.tuple #[x,v,e])∧z8y (w.alloc zeb).heap.size I x e0∧zbl (w.alloc zeb).heap.size I v L∧(∀ p∈L,p.length=8)∧zve af I e t∧(nl=true→x= .slice none 0 0)) :
  Calls Tryz.prog 32 #[zo pb,.int .i64 i] w fun r w'=>CR W0 w w' O A OP cb nb db pm nm d c' n' (fun _=>True)∧yaq w' w.heap.size e0 L t nl r:=by
 have ao:Hid (Below w.heap.size w (w.alloc zeb)):=ze _ _;have HW:=za hW;have ai:=za a0;have a4:Hid (zch w.heap.size (w.alloc zeb)):=heap_alloc_last _ _;have c0:=(zf (zc (o:=zeb) hp) 0 _ rfl).1;have HS:=za hS;clear hp hS hW a0;unfold zo at c0 ai ⊢;go_enter Tryz.func32,Tryz.ntmps32;go_wp2_with fail;generalize w.alloc zeb=W1 at *
 refine ai.o.mono ?_;rintro r I ⟨ak,x,v,e,rfl,a7,az,h8,av,am⟩;have aa:=za (ak.since ao.o);have ae:=za (a4.o.turn ak.turn (by decide));have Q:=za az;have ac:=za av;have H8:=za h8;have ag:=za ao.o.size;have a9:∀(w:World) (a:Option Addr) (n c n' c':Nat),(binOp .eql 100 (.slice a n c) (.slice none n' c')).run Tryz.prog w= .ok (.bool a.isNone) w:=fun w a n c n' c'=>Lib.run_eql_slice_nil w _ _ a n c n' c' Tryz.underlying100;have an:Hid (∀(X:World) (nn:Bool) (x':Value),CR W0 w X O A OP cb nb db pm nm d c' n' (fun _=>True)→zch w.heap.size X→X.ownsRow w.heap.size 9 1 x' L.length (L.map txt)→CR W0 w ((X.setCell ⟨w.heap.size,0,none⟩ (.int .i64 t.1)).setCell ⟨w.heap.size,1,none⟩ (.string ⟨t.2.toArray⟩)) O A OP cb nb db pm nm d c' n' (fun _=>True)∧((X.setCell ⟨w.heap.size,0,none⟩ (.int .i64 t.1)).setCell ⟨w.heap.size,1,none⟩ (.string ⟨t.2.toArray⟩)).ownsRow w.heap.size 9 1 x' L.length (L.map txt)):=fun X nn x' hc hr hx =>
  ⟨hc.past (zd1 hr _ _) (zoz hr) (fun k hk=>by omega) HW.o (by decide) (by decide) (by decide) (by decide) (by decide) (by decide) (by decide) (by decide) (by decide) (by decide) (.inl (by decide)) (fun _ h=>h),zi hx (zd1 hr _ _) (by decide)⟩
 clear ak az av ai c0 h8;rcases a7 with ⟨rfl,rfl⟩ | ax
 ·have K:=za (aa.o.weak (P':=fun _=>True) (fun _ _=>trivial));have V:=za (zfw W1.heap.size v L I (by omega) H8.o Q.o);have al:=zuc I;have a6:=fun ty=>zvm (P:=Tryz.prog) I 100 5 ty Tryz.underlying100 none 0;clear aa am;go_wp2_with fail;refine V.o.mono ?_;rintro r w3 ⟨x,rfl,H,Z⟩;have J:=za (K.o.past (P':=fun _=>True) H (zki Q.o) (fun k hk=>Nat.le_trans ag.o (ziw Q.o k hk)) HW.o (by decide) (by decide) (by decide) (by decide) (by decide) (by decide) (by decide) (by decide) (by decide) (by decide) (.inl (by decide)) (fun _ _=>trivial));have U:=za (ae.o.turn H (by decide));have S:=za (ac.o.turn H (by decide));have W:Hid (w3.ownsRow w.heap.size 9 1 x L.length (L.map txt)):=zcb Z K.o.turn.size;clear H Z V Q K ae ac a6;go_wp2_with fail;refine(zrm af w3 (j5 HS.o J.o.sh.base) e _ S.o).mono ?_;rintro r w4 ⟨rfl,E⟩;have ah:=za (J.o.below HW.o E);have D:=za (U.o.below E);have aj:=za (zy W.o E);obtain⟨q0,z0⟩:=zf D.o 0 _ rfl;obtain⟨q1,z1⟩:=zf D.o 1 _ rfl;clear E J U W S;unfold zgk;go_wp2_with fail;refine bodyPost_ret (v:= .tuple #[.string ⟨#[]⟩,.bool true,x,.agg #[.int .i64 t.1,.string ⟨t.2.toArray⟩]]) (zet Tryz.results32 _ _ w.heap.size 31 _ (0,0) _ rfl (zal D.o _ _ rfl) Tryz.underlying31 rfl (by kernel_rfl) _ _ _ rfl rfl rfl) rfl ?_;obtain⟨g1,g2⟩:=an.out w4 true x ah.o D.o aj.o;exact⟨g1,true,x,rfl,fun _=>rfl,fun _=>rfl,g2⟩
 ·obtain⟨g,ar,au,rfl,hB,hg,a1,a2⟩:=z4y ax;have aw:nl=true→False:=fun h=>by have:=am h;simp at this
  have a3:=za aw;have al:=zm2 I g 0 ar e0.length e0 rfl a1;have a5:=fun ty=>zuz (P:=Tryz.prog) I 100 5 ty (.int .u8 0) Tryz.underlying100 zru rfl rfl g e0.length ar a2;have R:zg (fun k=>k=g) [5] I (I.setCells g 0 (List.replicate e0.length (.int .u8 0))):=zg.cells_old (O:=fun k=>k=g) (T:=[5]) (zg.refl _ _ _) rfl (.inl ⟨au,_,_,hg,by simp⟩) _ _;have ay:zej (fun k=>k=g) [5] I:=fun k hk=>by subst hk;exact⟨au,_,_,hg,by simp⟩
  have K:=za (aa.o.past (P':=fun _=>True) R ay (fun k hk=>by subst hk;exact Nat.le_trans ag.o hB) HW.o (by decide) (by decide) (by decide) (by decide) (by decide) (by decide) (by decide) (by decide) (by decide) (by decide) (.inr (fun a8 hP=>zi1.clear (hP _ _ _ rfl) R (fun k hk=>by subst hk;rfl))) (fun _ _=>trivial));have ad:Hid (zbl W1.heap.size (I.setCells g 0 (List.replicate e0.length (.int .u8 0))) v L):=zi Q.o R (by decide);have aq:=za (ae.o.turn R (by decide));have ap:=za (ac.o.turn R (by decide));have V:=za (zfw W1.heap.size v L _ (by omega) H8.o ad.o);clear aa am aw ax hB hg a1 a2 R ay Q ae ac;unfold txt at al;generalize I.setCells g 0 (List.replicate e0.length (.int .u8 0))=Y at *
  go_wp2_with fail;refine V.o.mono ?_;rintro r w3 ⟨x,rfl,H,Z⟩;have J:=za (K.o.past (P':=fun _=>True) H (zki ad.o) (fun k hk=>Nat.le_trans ag.o (ziw ad.o k hk)) HW.o (by decide) (by decide) (by decide) (by decide) (by decide) (by decide) (by decide) (by decide) (by decide) (by decide) (.inl (by decide)) (fun _ _=>trivial));have U:=za (aq.o.turn H (by decide));have S:=za (ap.o.turn H (by decide));have W:Hid (w3.ownsRow w.heap.size 9 1 x L.length (L.map txt)):=zcb Z K.o.turn.size;clear H Z V ad K aq ap a5 al;go_wp2_with fail;refine(zrm af w3 (j5 HS.o J.o.sh.base) e _ S.o).mono ?_;rintro r w4 ⟨rfl,E⟩;have ah:=za (J.o.below HW.o E);have D:=za (U.o.below E);have aj:=za (zy W.o E);obtain⟨q0,z0⟩:=zf D.o 0 _ rfl;obtain⟨q1,z1⟩:=zf D.o 1 _ rfl;clear E J U W S;unfold zgk;go_wp2_with fail;refine bodyPost_ret (v:= .tuple #[.string ⟨e0.toArray⟩,.bool false,x,.agg #[.int .i64 t.1,.string ⟨t.2.toArray⟩]]) (zet Tryz.results32 _ _ w.heap.size 31 _ (0,0) _ rfl (zal D.o _ _ rfl) Tryz.underlying31 rfl (by kernel_rfl) _ _ _ rfl rfl rfl) rfl ?_;obtain⟨g1,g2⟩:=an.out w4 false x ah.o D.o aj.o;exact⟨g1,false,x,rfl,fun h=>by simp at h,fun h=>(a3.o h).elim,g2⟩
theorem zxb {σ:Type}{fe:σ→List UInt8→(List UInt8×Bool)×σ}{inc:List UInt8→Nat→Nat→List (List UInt8)→List UInt8→Bool}(c:Cl)(s:σ)(i:Nat):(jd fe inc c s i).2.1.room=c.room:=by
 rw [zpc]
theorem zsj (E:World)(H:Nat→Addr)(O A K:Nat→Prop)(cb J L S nm:Nat)(d:Dk)(c:Cl)(n:Nt)(i:Nat)(pb:Nat)(w:World)(hE:Env E)(hS:ja E H)(V:zdq E)(h:Pv E w O A K cb J S nm c)(hs:Sh E w O J L d n)(hp:zgz w pb cb)(hf:n.fetches+20000 < 4611686018427387904)(Z:c.size < 9223372036854775808)(hi:i < c.size)
  (W:∀ p m',qu (zu d.fs) c.proved c.size ⟨n,[]⟩ (-1) i=(.inr p,m')→p.entry.length≤1000000) (X:c.proved.length≤100000000000) (aa:WfM c.proved) :
  Calls Tryz.prog 32 #[zo pb,.int .i64 i] w fun r w'=>CR E w w' O A K cb J L S nm d (jd (zu d.fs) zav c n i).2.1 (jd (zu d.fs) zav c n i).2.2 (fun _=>True)∧∃ Q x,r= .returned (.tuple #[txv (zgl (jd (zu d.fs) zav c n i).1).1,.bool Q,x,zgk (zgl (jd (zu d.fs) zav c n i).1).2.2])∧(Q=true→(zgl (jd (zu d.fs) zav c n i).1).1=[])∧w'.ownsRow w.heap.size 9 1 x (zgl (jd (zu d.fs) zav c n i).1).2.1.length ((zgl (jd (zu d.fs) zav c n i).1).2.1.map txt):=by
 have I:Below w.heap.size w (w.alloc zeb):=ze _ _;have hr:=z7e E H O A K cb J L S nm d c n i _ hE hS V (h.below I) (hs.below I) hf Z hi W X aa;have hk:=zxb (fe:=zu d.fs) (inc:=zav) c n i;have hl:=zzg (fe:=zu d.fs) (inc:=zav) c n i;generalize jd (zu d.fs) zav c n i=R at *
 obtain⟨o,c',n'⟩:=R;simp only at *
 refine(zms E H O A K cb J L S nm d c' n' pb (i:Int) w (zgl o).1 (zgl o).2.1 (zgl o).2.2 false hS hs.base.size hp hl (hr.mono ?_)).mono ?_
 ·rintro r w2 ⟨D,Y⟩;obtain⟨x,v,e,rfl,h1,h2,U,h4⟩:=Y.tell;rw [← hk] at D;exact⟨D,x,v,e,rfl,h1,h2,U,h4,fun h=>by simp at h⟩
 ·rintro r w' ⟨D,Q,x,h1,h2,-,U⟩;exact⟨D,Q,x,h1,h2,U⟩
theorem zzu (H:World)(D:Nat→Addr)(O A K:Nat→Prop)(cb J L Q nm:Nat)(d:Dk)(c:Cl)(n:Nt)(i:Int)(S:Nat)(w:World)(U:ja H D)(h:Pv H w O A K cb J Q nm c)(V:Sh H w O J L d n)(Z:zgz w S cb)(X:n.fetches < 4611686018427387904)(Y:i < 0∨(c.size:Int)≤i):
  Calls Tryz.prog 32 #[zo S,.int .i64 i] w fun r w'=>CR H w w' O A K cb J L Q nm d c n (fun _=>True)∧∃ x,r= .returned (.tuple #[txv [],.bool true,x,zgk (2,[])])∧w'.ownsRow w.heap.size 9 1 x 0 []:=by
 have I:Below w.heap.size w (w.alloc zeb):=ze _ _;refine(zms H D O A K cb J L Q nm d c n S i w [] [] (2,[]) true U V.base.size Z (by simp) ((z2w H D O A K cb J L Q nm d c n i _ U (h.below I) (V.below I) X Y).mono ?_)).mono ?_
 ·rintro r w2 ⟨E,rfl⟩;exact⟨E.fresh_nil,_,_,_,rfl,.inl ⟨rfl,rfl⟩,zcx _ _,by simp,.inr (.inl ⟨rfl,rfl⟩),fun _=>rfl⟩
 ·rintro r w' ⟨E,nn,x,h1,-,h2,W⟩;have R:=h2 rfl;subst R;exact⟨E,x,h1,W⟩
end
end Go.Proofs.YtndkblnpbjffhaaGreatDoor
