import Derived.Test.YtlcllcgngjhoaaaGreatDoorG41
set_option maxHeartbeats 8000000
set_option maxRecDepth 100000
set_option linter.all false
namespace Go.Proofs.YtlcllcgngjhoaaaGreatDoor
open Go.RowKit Go.Proofs.Tryz
theorem ydp (O:Nat→Prop)(W:World)(n:Nat→Addr)(hE:Env W)(t:zbz W n)(s:∀ k,O k→W.heap.size≤k)(q V z:Nat)(d:Dk)(l:Lg)(w:World)(hn:d.fs.length+(zah l.es l.put).length≤900000000)(he:l.es.length≤1000000)(j:l.put≤l.es.length)(E:∀ e∈l.es,e.length≤20)(K:l.key.length≤9223372036854775807)(J:Below W.heap.size W w)(U:zmx w V z)(h:yw w O q d)(hL:za9 w O q z l)(i:l.live=true)(x:(zd4 (zah l.es l.put) (zbp l.es.length (qm l.es) l.key) d).1=none):
  Calls prog 37 #[.pointer (some ⟨V,0,none⟩)] w fun r g=>zq O pT w g ∧
   ((l.live=false∧r= .returned (.tuple #[.int .i64 0,told 7])∧Below w.heap.size w g) ∨
    (l.live=true∧(zd4 (zah l.es l.put) (zbp l.es.length (qm l.es) l.key) d).1=none∧r= .returned (.tuple #[.int .i64 (l.es.length:Int),told 0])∧yw g (jz O w g) q (zd4 (zah l.es l.put) (zbp l.es.length (qm l.es) l.key) d).2∧za9 g (jz O w g) q z { l with put:=l.es.length }) ∨
    (l.live=true∧∃ p,(zd4 (zah l.es l.put) (zbp l.es.length (qm l.es) l.key) d).1=some p∧r= .returned (.tuple #[.int .i64 0,yjy 8 p])∧yw g (jz O w g) q (zd4 (zah l.es l.put) (zbp l.es.length (qm l.es) l.key) d).2∧za9 g (jz O w g) q z { l with live:=false })):=by
 have Q:∀ o,(w.alloc o).cell? ⟨V,0,none⟩=some (.pointer (some ⟨z,0,none⟩)):=fun o=>by
  rw [yp _ _ ⟨_,0,none⟩ (zi U)];exact(zw U 0 _ rfl).1
 have c:Below w.heap.size w (w.alloc (.cells #[.int .i64 0,.string ⟨#[]⟩] 52)):=zk _ _;have f:=z4t O W n hE t s q z d l (w.alloc (.cells #[.int .i64 0,.string ⟨#[]⟩] 52)) hn he j E K (J.trans (c.mono J.size)) (h.stay (O1:=fun _=>False) (T:=[]) (.of_below c) (by simp) (by simp)) (hL.stay (O1:=fun _=>False) (T:=[]) (.of_below c) (by simp) (by simp) (by simp));generalize zd4 (zah l.es l.put) (zbp l.es.length (qm l.es) l.key) d=pr at f x ⊢;have B:=zf i;have M:=zf x;clear i x;have Y:=zf J;have HO:=zf s;have HS:=zf t;have F:zq O pT w (w.alloc (.cells #[.int .i64 0,.string ⟨#[]⟩] 52)):=(zq.refl _ _ _).alloc _;have N:Hid (zkz w.heap.size (w.alloc (.cells #[.int .i64 0,.string ⟨#[]⟩] 52))):=zg _ _;have C:=zf F;have aa:=zf c;clear h hL E J s hE t U hn he j K F c;go_enter func37,ntmps37;go_wp2_with fail;refine f.mono ?_;clear f Q;generalize w.alloc (.cells #[.int .i64 0,.string ⟨#[]⟩] 52)=w0 at *;rintro r A ⟨y,H⟩;have D:Hid (zq O pT w A):=C.o.trans (y.mono (fun _ h=> .inl h) (fun _ h=>h));have P:Hid (zkz w.heap.size A):=N.o.turn y (by decide);have L:Hid (Below W.heap.size W A):=Y.o.trans (D.o.below HO.o Y.o.size);have Z:Hid (∀ k,jz O w0 A k→jz O w A k):=fun k K=>by
  rcases K with h | h
  ·exact .inl h
  ·exact .inr ⟨zu C.o.size h.1,h.2⟩
 clear y;rcases H with ⟨a,rfl,hb⟩ | ⟨a,G,rfl,R,S⟩ | ⟨a,p,e,I,rfl,ab,R,S⟩
 ·rw [B.o] at a;simp at a
 ·have HD:=zf (R.mono Z.o);have HL:=zf (S.mono Z.o);have X:=zf (And.intro a G);clear R S a G;go_wp2_with fail;refine(z09 n A (zdt HS.o L.o)).mono ?_;rintro r w3 ⟨rfl,u⟩;have m:=zf u;have b:=zf (P.o.below u);obtain⟨c0,z0⟩:=zw b.o 0 _ rfl;obtain⟨c1,z1⟩:=zw b.o 1 _ rfl;clear u;unfold told;go_wp2_with fail;exact z8 (v:= .tuple #[.int .i64 (l.es.length:Int),.agg #[.int .i64 0,.string ⟨([]:zc).toArray⟩]]) (zdw results37 _ _ w.heap.size 52 _ (0,0) _ rfl (zg9 b.o _ _ rfl) underlying52 rfl (by kernel_rfl) _ rfl) rfl ⟨zle (D.o.then_below m.o),.inr (.inl ⟨X.o.1,X.o.2,rfl,(HD.o.later m.o).sets2 b.o,(HL.o.later m.o).sets2 b.o⟩)⟩
 ·rw [M.o] at I;simp at I
variable {db wb:Nat}{ev lv:Value}{w:World}
theorem ye9 {x:Wd}(h:WAt w wb db lv ev x)(b:Bool):
  WAt (w.setCell ⟨wb,6,none⟩ (.bool b)) wb db lv ev { x with foreign:=b }∧zq (fun k=>k=wb) [42] w (w.setCell ⟨wb,6,none⟩ (.bool b)) :=
 ⟨(z9v h).2.2.2.2 b,(zq.refl (fun k=>k=wb) [42] w).set (.inl rfl) h (by simp) _⟩
theorem yfa {x:Wd}(h:WAt w wb db lv ev x)(m:Int):
  WAt (w.setCell ⟨wb,4,none⟩ (.int .i64 m)) wb db lv ev { x with published:=m }∧zq (fun k=>k=wb) [42] w (w.setCell ⟨wb,4,none⟩ (.int .i64 m)) :=
 ⟨(z9v h).2.2.1 m,(zq.refl (fun k=>k=wb) [42] w).set (.inl rfl) h (by simp) _⟩
theorem zyi (O:Nat→Prop)(W:World)(cg:Nat→Addr)(hE:Env W)(ci:zbz W cg)(z C:Nat)(lv ev:Value)(x:Wd)(d:Dk)(s:List Nat)(n:Nat)(w:World)(bA:∀ k,O k→W.heap.size≤k∧k < w.heap.size)(hW:Below W.heap.size W w)(hn:n≤4100)(hO:O z)(es:za)(m:Nat)(h:zj2 w O z C lv ev x d s n es m)(cr:x.failed=false)(bI:zcw d)(bG:zgk d.fs (j8 es))(c0:zc)(ck:c0=cpT x es):
  Calls prog 12 #[.pointer (some ⟨z,0,none⟩)] w fun r w'=>r= .returned (.bool true)∧zq O aT w w'∧(∀ k,jz O w w' k→W.heap.size≤k∧k < w'.heap.size)∧∃ c6 cY d',zj2 w' (jz O w w') z C c6 cY { x with foreign:=false,published:=(es.length:Int) } d' s (n+1) es es.length∧zcw d'∧zk0 (j8 es) c0 d.fs d'.fs∧je d'.fs cpF=some c0∧∀ f∈j8 es,je d'.fs f.1=some f.2:=by
 obtain⟨cq,aO,hd,B,X,lb,rfl,ch,cz,bb,L,cA,ad⟩:=h;have bU:=zf cr;have cN:=zf bG;have bP:=zf ck;have b7:=zf (bI.pub (zah es m) (cpT x es));have cO:=zf (ydt (c:=cpT x es) (put:=m) bI B.apart B.turned (by have:=zpl ad;have:=B.small;omega) bG);clear cr bI bG ck;have D:=zf B;have cd:=zf aO;have HD:=zf hd;have b0:=zf bA;have bj:Hid (∀ k,O k→W.heap.size≤k):=fun k P=>(bA k P).1;have HW:=zf hW;have bS:=zf hE;have b6:=zf ci;have HO:=zf hO;have cH:=zf cq;have b1:=zf cz;have aR:=zf bb;have a2:=zf L;have b5:=zf cA;have u:=zf ad;have bZ:=zf ch;have dm:=ygh aO hd;have dh:es.length≤40000:=by have:=zpl ad;have:=B.small;omega
 have c5:=z5t es m;have l:Hid (d.fs.length+(zah es m).length≤800000000):=by have:=B.count;show _≤_;omega
 obtain⟨⟨c0,-⟩,-⟩:=zns aO;obtain⟨ea,ec,rfl⟩:=qr L;clear aO hd B bA hW hE ci hO cq cz bb L cA ad ch c5;go_enter func12,ntmps12;go_wp2_with fail;refine(ziv O C z d w (by have:=l.out;omega) HD.o c0).mono ?_;rintro r w2 ⟨v2,av,rfl,cx,co,aK,cv⟩;have aG:=zf cx;have aZ:=zf cv;have H:zq O [] w w2:= .of_below aK;have a4:Hid (WAt w2 z C (.pointer (some ⟨X,0,none⟩)) (.slice ea es.length ec) x):=H.keep cd.o (by simp);have cF:Hid (yw w2 O C d):=HD.o.stay H (by simp) (by simp);have aS:Hid (zmx w2 X lb):=H.keep b1.o (by simp);have bi:=zf (aR.o.stay H (by simp) (by simp) (by simp));have bo:=zf (zo a2.o H (by simp));have bw:Hid (Below W.heap.size W w2):=HW.o.trans (aK.mono HW.o.size);have bM:=zf aK;obtain⟨-,-,⟨d2,-⟩,-⟩:=zns a4.o;obtain⟨va,vc,he,-⟩:=id co;subst he;clear cx co aK cv H c0 HD cd b1 aR a2;go_wp2_with fail;refine(ydp O W cg bS.o b6.o bj.o C X lb d _ w2 (by have:=l.out;show d.fs.length+(zah es m).length≤_;omega) (by show es.length≤_;omega) u.o.le u.o.short (by have:=D.o.key;show x.key.length≤_;omega) bw.o aS.o cF.o bi.o (by show(!x.failed)=true;rw [bU.o];rfl) cO.o).mono ?_;rintro r v ⟨S,bd⟩;have dj:=zf S;have ar:Hid (WAt v z C (.pointer (some ⟨X,0,none⟩)) (.slice ea es.length ec) x):=S.keep a4.o (by decide);have aU:Hid (zmx v X lb):=S.keep aS.o (by decide);have am:=zf (zo bo.o S (by decide));have dk:Hid (Below W.heap.size W v):=bw.o.trans (S.below bj.o bw.o.size);have b9:Hid (zq O aT w v):=(zq.of_below bM.o).trans (S.mono (fun _ h=> .inl h) (by decide));have a1:=zf (zo aZ.o S (by decide));obtain⟨⟨g0,-⟩,-⟩:=zns ar.o;have c3:=g0;unfold zdp at g0;have a0:∀ o,(v.alloc o).cell? ⟨z,0,none⟩=some (.pointer (some ⟨C,0,none⟩)):=fun o=>by rw [yp _ _ ⟨z,0,none⟩ (yg g0)];exact g0
 clear S d2
 by_cases aN:x.failed=true
 ·rw [bU.o] at aN;simp at aN
 ·have R:x.failed=false:=by simpa using aN
  have bT:=zf R;have b3:=zf (fun hc=>ylx (x':=x) hn D.o u.o R aG.o hc rfl);have bc:(zd4 (zah es m) (cpT x es) d).2.fs.length≤800000001:=by have:=z4s (zah es m) (cpT x es) d;have:=l.out;omega
  have aW:=zf bc;obtain⟨nv,b,pv,af,N,hr,cm,cu,aA⟩:∃(nv b:Int) (pv:zc) (af:Nat) (N:Bool),r= .returned (.tuple #[.int .i64 nv,.agg #[.int .i64 b,.string ⟨pv.toArray⟩]])∧yw v (jz O w2 v) C (zd4 (zah es m) (cpT x es) d).2∧za9 v (jz O w2 v) C lb { key:=x.key,es:=es,put:=af,live:=N }∧(((zd4 (zah es m) (cpT x es) d).1=none∧nv=es.length∧b=0∧af=es.length∧N=true)∨((zd4 (zah es m) (cpT x es) d).1=some pv∧nv=0∧b=8∧af=m∧N=false)):=by
   rcases bd with ⟨h,-⟩ | ⟨-,h1,h2,h3,h4⟩ | ⟨-,p,h1,h2,h3,h4⟩
   ·simp [R] at h
   ·exact⟨_,0,[],es.length,true,h2,h3,by rw [R] at h4;exact h4,.inl ⟨h1,rfl,rfl,rfl,rfl⟩⟩
   ·exact⟨_,8,p,m,false,h2,h3,h4,.inr ⟨h1,rfl,rfl,rfl,rfl⟩⟩
  subst hr;generalize zd4 (zah es m) (cpT x es) d=pd at *;have bf:=zf cm;have bX:=zf cu;have bQ:=zf aA;clear bd aN R cm cu aA bc;have aw:zq O [] v (v.alloc (.cells #[.int .i64 b,.string ⟨pv.toArray⟩] 52)):= .of_below (zk v _);have b8:=zf aw;have bg:=zf (bf.o.stay aw (by simp) (by simp));have bN:Hid ((v.alloc (.cells #[.int .i64 b,.string ⟨pv.toArray⟩] 52)).heap[v.heap.size]?=some (.cells #[.int .i64 b,.string ⟨pv.toArray⟩] 52 (0,0))):=zg _ _;clear aw;go_wp2_with fail;refine(ylb (jz O w2 v) C pd.2 _ (by exact bg.o)).mono ?_;rintro r ds ⟨rfl,rfl⟩;go_wp2_with fail;refine(ziv (jz O w2 v) C z pd.2 _ (by have:=aW.o;omega) (by exact bg.o) (by exact a0 _)).mono ?_;rintro r Z ⟨v5,M,rfl,cy,cp,az,cw⟩;obtain⟨dn,dp,he,-⟩:=id cp;subst he;have aL:Below v.heap.size v Z:=(zk v _).trans (az.mono (zk v _).size);have bO:Hid (Z.heap[v.heap.size]?=some (.cells #[.int .i64 b,.string ⟨pv.toArray⟩] 52 (0,0))):=(zq.of_below (O:=O) (T:=[]) az).keep bN.o (by simp);have A:zq O [] v Z:= .of_below aL;have a3:Hid (zq O aT w Z):=b9.o.then_below aL;have au:Hid (WAt Z z C (.pointer (some ⟨X,0,none⟩)) (.slice ea es.length ec) x):=A.keep ar.o (by simp);have bz:Hid (∀ k,jz O w2 v k→jz O w Z k):=fun k P=>by
   rcases P with P | P
   ·exact .inl P
   ·exact .inr ⟨zu bM.o.size P.1,zx P.2 aL.size⟩
  have bR:Hid (yw Z (jz O w Z) C pd.2):=(bf.o.stay A (by simp) (by simp)).mono bz.o;have bY:=zf ((bX.o.stay A (by simp) (by simp) (by simp)).mono bz.o);have aV:Hid (zmx Z X lb):=A.keep aU.o (by simp);have U:=zf (zo am.o A (by simp));have al:=zf (zo a1.o A (by simp));have aX:=zf cw;have aH:=zf cy;obtain⟨⟨k0,-⟩,⟨k1,-⟩,⟨k2,-⟩,⟨k3,-⟩,⟨k4,-⟩,⟨k5,-⟩,-⟩:=zns au.o;rw [bT.o] at k5;generalize v.heap.size=c9 at *;clear cy cp aL az cw A g0 c3 a0 k0 k1 k2 k4 b8 bg bN bf bX aU am a1 aZ ar bz;go_wp2_with fail;refine(z1i _ es Z (by omega) u.o.short (zha U.o)).mono ?_;rintro r w6 ⟨v6,rfl,bC,bH⟩;obtain⟨wa,wc,he⟩:=qr bH;subst he;have a7:zq O [] Z w6:= .of_below bC;have an:=zf bH;have aY:=zf (zo al.o a7 (by simp));have bJ:Hid ((j8 es).length≤1000000000):=by have:=z9r es;show _≤_;omega
  have cj:Hid (av.length≤1000000000):=by have:=l.out;show _≤_;rw [aG.o.length_eq];omega
  have bB:Hid (M.length≤1000000000):=by have:=aW.o;show _≤_;rw [aH.o.length_eq];omega
  have be:=zf bC;clear k3 k5 bH bC a7;go_wp2_with fail;refine(ybq _ _ av (j8 es) w6 cj.out bJ.out (zf9 aY.o) (zf9 an.o)).mono ?_;rintro r Q ⟨rfl,bD⟩;have ab:Below Z.heap.size Z Q:=be.o.trans (bD.mono be.o.size);have a8:zq O [] w6 Q:= .of_below bD;have j:zq O [] Z Q:= .of_below ab;have ca:Hid (zq O aT w Q):=a3.o.then_below ab;have a5:Hid (WAt Q z C (.pointer (some ⟨X,0,none⟩)) (.slice ea es.length ec) x):=j.keep au.o (by simp);have aF:∀ k,jz O w Z k→jz O w Q k:=fun k P=>jz.more ab.size k P;have cG:Hid (yw Q (jz O w Q) C pd.2):=(bR.o.stay j (by simp) (by simp)).mono aF;have cM:=zf ((bY.o.stay j (by simp) (by simp) (by simp)).mono aF);have aa:Hid (Q.heap[c9]?=some (.cells #[.int .i64 b,.string ⟨pv.toArray⟩] 52 (0,0))):=j.keep bO.o (by simp);have b2:Hid (zmx Q X lb):=j.keep aV.o (by simp);have t:=zf (zo U.o j (by simp));have F:=zf (zo al.o j (by simp));have E:=zf (zo aX.o j (by simp));have G:=zf (zo an.o a8 (by simp));obtain⟨⟨k0,-⟩,⟨k1,-⟩,⟨k2,-⟩,⟨k3,-⟩,⟨k4,f4⟩,⟨k5,f5⟩,⟨k6,f6⟩⟩:=zns a5.o;clear ab a8 j aF bD bR bY aV U al aX an aY be au a3;cases aM:zfv av (j8 es) with
  | true =>
   have:zfv av (j8 es)=false:=ybp (fun q y hy=>by rw [zgm D.o.apart aG.o];exact cN.o q y hy);rw [this] at aM;simp at aM
  | false =>
   have cf:=zf (ye9 a5.o false);obtain⟨aC,aD,aB,a9⟩:=b3.o aM;have ag:=zf aC;have V:=zf aD;have aj:=zf aB;have aQ:=zf a9;have ah:zq (fun k=>k=z) [42] Q (Q.setCell ⟨z,6,none⟩ (.bool false)):=cf.o.2;have cb:=zf ah;have dd:=zf (zo F.o ah (by decide));have da:=zf (zo E.o ah (by decide));have df:=zf (zo G.o ah (by decide));have bp:=zf (zo t.o ah (by decide));clear aM aC aD aB a9 ah b3;go_wp2_with fail;refine(zg7 _ es _ (by omega) u.o.short (zha (by exact bp.o))).mono ?_;rintro r w9 ⟨rfl,bE⟩;have ai:zq (fun k=>k=z) [42] Q w9:=cb.o.then_below bE;have cc:=zf ai;have de:=zf (zo F.o ai (by decide));have dc:=zf (zo E.o ai (by decide));have dg:=zf (zo G.o ai (by decide));have cU:=zf (zo t.o ai (by decide));have a6:Hid (WAt w9 z C (.pointer (some ⟨X,0,none⟩)) (.slice ea es.length ec) { x with foreign:=false }):=(zq.of_below (O:=O) (T:=[]) bE).keep cf.o.1 (by simp);obtain⟨⟨m0,-⟩,⟨m1,-⟩,⟨m2,-⟩,⟨m3,-⟩,⟨m4,g4⟩,⟨m5,g5⟩,⟨m6,g6⟩⟩:=zns a6.o;simp only at m1 m4 m5;clear bE ai k0 k1 k2 k3 k4 f4 k5 f5 k6 f6;unfold qo at m1;have b4:Hid ((qm es).length=8):=yd9 es;have di:Hid (zbp es.length (qm es) x.key=cpT x es):=rfl
   go_upto_region 12 with fail
   go_cut [10] from 71 to 81 (fun c7 wx=>c7= .string ⟨(cpT x es).toArray⟩∧Below w9.heap.size w9 wx)
   case first =>
    have cK:Hid (x.key.length≤2097152):=by have:=D.o.key;show _≤_;omega
    clear D u b0 bj HW bS b6 HO cH b5 bZ bQ ag V aj aQ l
    go_region_with (go_at_call 41;refine(zua (es.length:Int) (by omega) (by omega) (qm es) x.key b4.o cK.o w9.drew).mono ?_;rintro r dq ⟨rfl,K⟩;have bL:=zf K;clear K)
    all_goals go_wp2_with fail
    all_goals go_meet
    all_goals exact⟨rfl,(show Below w9.heap.size w9 w9.drew from ⟨rfl,rfl,rfl,zm _,fun _ _=>rfl⟩).trans (bL.o.mono (zm _))⟩
   case rest =>
    obtain⟨rfl,K⟩:=hcut;have i:zq (fun k=>k=z) [42] Q wc:=cc.o.then_below K;have bs:=zf i;have cQ:=zf (zo F.o i (by decide));have cP:=zf (zo E.o i (by decide));have cV:=zf (zo G.o i (by decide));have cB:=zf (zo t.o i (by decide));have ap:Hid (WAt wc z C (.pointer (some ⟨X,0,none⟩)) (.slice ea es.length ec) { x with foreign:=false }):=(zq.of_below (O:=O) (T:=[]) K).keep a6.o (by simp);obtain⟨⟨k0,-⟩,⟨k1,-⟩,⟨k2,-⟩,⟨k3,-⟩,⟨k4,f4⟩,⟨k5,f5⟩,⟨k6,f6⟩⟩:=zns ap.o;simp only at k1 k4 k5;have cZ:=i;obtain⟨p0,-⟩:=zw (i.keep aa.o (by decide)) 0 _ rfl;obtain⟨p1,-⟩:=zw (i.keep aa.o (by decide)) 1 _ rfl;clear K i m0 m1 m2 m3 m4 g4 m5 g5 m6 g6 b4;generalize cpT x es=c at *;rcases aQ.o with ⟨e,c1,l1,l2⟩ | ⟨⟨p,e,hp⟩,hh⟩
    ·clear cZ;have cL:=zf l1;have ba:pd.2.hit=false:=c1.2;rw [ba];have cE:=zf c1;have bW:=zf l2;rcases bQ.o with ⟨h1,rfl,rfl,rfl,rfl⟩ | ⟨h1,-⟩
     rotate_left
     ·rw [e] at h1;simp at h1
     have ae:je M cpF=some c:=by rw [zgm ag.o.apart aH.o];exact l1
     obtain⟨k,P⟩:∃ k,ixF M cpF=some k:=by
      cases e5:ixF M cpF with
      | none=>rw [(zci e5).1] at ae;simp at ae
      | some k=>exact⟨k,rfl⟩
     obtain⟨c4,-,bF,-⟩:=zb8 P;have ct:ixI M cpF=k:=by unfold ixI;rw [P]
     have cs:M[k].2=c:=by rw [ae] at bF;simpa using bF.symm
     have cJ:=zf ct;have cI:=zf cs;have bh:=zf (z7g aG.o aH.o D.o.apart ag.o.apart aj.o V.o);have aJ:=zf (z5p aH.o ag.o.apart l2);have ce:=zf (yfa ap.o (es.length:Int));have I:zq (fun k=>k=z) [42] Q (wc.setCell ⟨z,4,none⟩ (.int .i64 (es.length:Int))):=bs.o.trans (ce.o.2.mono (fun _ h=> .inl h) (fun _ h=>h));have bt:=zf I;have bn:=zf (zo F.o I (by decide));have ak:=zf (zo E.o I (by decide));have bq:=zf (zo G.o I (by decide));have cC:=zf (zo t.o I (by decide));clear e h1 c1 l1 l2 ba ae P bF ct cs I;go_wp2_with fail;refine(zck _ M cpF _ bB.out (zf9 (by exact ak.o))).mono ?_;rintro r dr ⟨rfl,rfl⟩;rw [cJ.o];go_wp2_with fail;refine(yhf _ _ _ av M (j8 es) c _ cj.out bB.out bJ.out (zf9 (by exact bn.o)) (zf9 (by exact ak.o)) (zf9 (by exact bq.o))).mono ?_;rintro r bK ⟨rfl,ax⟩;rw [bh.o];have J:zq (fun k=>k=z) [42] Q bK:=bt.o.then_below ax;have bu:=zf J;have cR:=zf (zo F.o J (by decide));have bl:=zf (zo E.o J (by decide));have br:=zf (zo G.o J (by decide));have cD:=zf (zo t.o J (by decide));have bx:Hid (WAt bK z C (.pointer (some ⟨X,0,none⟩)) (.slice ea es.length ec) { x with foreign:=false,published:=(es.length:Int) }):=(zq.of_below (O:=O) (T:=[]) ax).keep ce.o.1 (by simp);clear ax J k0 k1 k2 k3 k4 f4 k5 f5 k6 f6;go_wp2_with fail;refine(yet _ _ M (j8 es) bK bB.out bJ.out (zf9 bl.o) (zf9 br.o)).mono ?_;rintro r Y ⟨rfl,ay⟩;rw [aJ.o];have a:zq (fun k=>k=z) [42] Q Y:=bu.o.then_below ay;have cX:=zf a;have cS:=zf (zo F.o a (by decide));have bm:=zf (zo E.o a (by decide));have cW:=zf (zo G.o a (by decide));have aI:=zf (zo t.o a (by decide));have aq:Hid (WAt Y z C (.pointer (some ⟨X,0,none⟩)) (.slice ea es.length ec) { x with foreign:=false,published:=(es.length:Int) }):=(zq.of_below (O:=O) (T:=[]) ay).keep bx.o (by simp);have aE:∀ k,jz O w Q k→jz O w Y k:=fun k P=>jz.more a.size k P;have aP:Hid (yw Y (jz O w Y) C pd.2):=(cG.o.stay a (by decide) (by decide)).mono aE;have bV:=zf ((cM.o.stay a (by decide) (by decide) (by decide)).mono aE);have bk:Hid (zmx Y X lb):=a.keep b2.o (by decide);obtain⟨⟨m0,-⟩,⟨m1,-⟩,⟨m2,-⟩,⟨m3,-⟩,⟨m4,g4⟩,⟨m5,g5⟩,⟨m6,g6⟩⟩:=zns aq.o;unfold zdp at m0;obtain⟨q0,-⟩:=zw (a.keep aa.o (by decide)) 0 _ rfl;obtain⟨q1,-⟩:=zw (a.keep aa.o (by decide)) 1 _ rfl;obtain⟨fv,-,cn,-⟩:=id aP.o;obtain⟨-,-,-,-,-,-,-,⟨t7,-⟩⟩:=zlg cn;rw [ag.o.turned] at t7;obtain⟨-,-,L⟩:=(zf9 bm.o).at;obtain⟨fb,fo,c2,cl⟩:=L (by omega);subst c2;obtain⟨-,y1⟩:=cl k c4;rw [cI.o] at y1;unfold qo at y1;have ao:Hid (zq O aT w Y):=ca.o.trans (a.mono (fun k P=> .inl (by rw [P];exact HO.o)) (by decide));have dl:decide ((k:Int) < 0)=false:=by simp
     clear ay a aE cn cl L;go_wp2_with fail
     all_goals go_ret
     all_goals
      refine⟨by first | rfl | simp,ao.o,zyl HW.o.size b0.o ao.o.size,_,_,pd.2,⟨rfl,aq.o,aP.o,z4c ag.o rfl rfl rfl,X,lb,rfl,.inl bZ.o,bk.o,by have h:=bV.o;rw [show true=!x.failed by rw [bT.o];rfl] at h;exact h,aI.o,fun g hg=> .inl (b5.o g hg),⟨u.o.short,u.o.ins,zm _,fun _=>⟨cE.o,fun f hf=>bW.o f (by rw [jg] at hf;exact hf)⟩⟩⟩,b7.o,by rw [bP.o];exact V.o,by rw [bP.o];exact cL.o,bW.o⟩
    ·rw [b7.o.2.2] at hh;simp at hh
variable {d d':Dk}
theorem zcw.calm (h:zcw d):zp4 d:=⟨h.2.1,h.2.2⟩
theorem zcw.bad (h:zcw d):bad d=false:=by
 unfold Go.Proofs.YtlcllcgngjhoaaaGreatDoor.bad zag;rw [h.2.1,if_neg (by simp),if_neg (by have:=h.1;omega)]
 rfl
theorem zcw.tk (h:zcw d)(e:tk d'=tk d):zcw d':=by
 unfold Go.Proofs.YtlcllcgngjhoaaaGreatDoor.tk at e;simp only [ye] at e;obtain⟨-,a,b,c⟩:=e;rw [a,h.1,h.2.1] at b;rw [a,h.1,h.2.2] at c;exact⟨a.trans h.1,by simpa using b,by simpa using c⟩
theorem yoj (O:Nat→Prop)(k y:Nat)(d:Dk)(w:World)(i:zcw d)(b:d.fs=[])(h:yw w O k d)(C:w.cell? ⟨y,0,none⟩=some (stV k true)):
  Calls prog 96 #[.pointer (some ⟨y,0,none⟩)] w fun r B=>r= .returned .nilIface∧zq O dT1 w B∧yw B O k (jb d):=by
 have s:=zf (z3w O k y d cpF w (by rw [b];simp) (by rw [b];simp) h C);have l:=zf i.bad;have p:=zf b;have q:∀(w:World) (a:Option Addr) (n c z u:Nat),(binOp .eql 114 (.slice a n c) (.slice none z u)).run prog w= .ok (.bool a.isNone) w:=fun w a n c z u=>zhf w _ _ a n c z u underlying114;clear h i b;unfold qo cpF at s;go_enter func96,ntmps96;go_wp2_with fail;refine s.o.mono ?_;rintro r D ⟨v,e,rfl,g,j,f,hv⟩;obtain rfl:e= .nilIface:=by
  rcases g with ⟨-,h⟩ | ⟨h,-⟩
  ·exact h
  ·rw [l.o] at h;simp at h
 obtain rfl:v= .slice none 0 0:=by
  rcases hv with ⟨-,x,A,-⟩ | ⟨-,h⟩
  ·rw [p.o] at A;simp [je] at A
  ·exact h
 have t:=zf j;have m:=zf f;clear g j f hv s;go_wp2_with fail;go_ret;exact⟨rfl,t.o,m.o⟩
theorem yki (O:Nat→Prop)(W:World)(J:Env W)(s:∀ k,O k→W.heap.size≤k)(F I:Nat)(d:Dk)(w:World)(j:zcw d)(b:d.fs=[])(K:Below W.heap.size W w)(h:yw w O F d)(E:Array Value)(i:w.heap[I]?=some (.cells E 196 (0,0)))(A:E[0]?=some (stV F true))(B:E[2]?=some (.slice none 0 0)):
  Calls prog 97 #[.pointer (some ⟨I,0,none⟩)] w fun r N=>r= .returned .nilIface∧∃ q,zq O dT1 w N∧yw N O F q∧q.fs=d.fs∧tk q=tk d:=by
 have p:=zf (z9t O W J s F I d 0 0 w (by rw [b];simp) (by rw [b];simp) (by omega) (by omega) j.calm K h E i A);have H:=zf j;have G:=zf b;have Q:=(zw i 2 _ B).1;clear h j b K J s i A B;go_enter func97,ntmps97;go_wp2_with fail;go_loopw [3,4,5,6,7,8,9] (fun _ _ _ _ _ _ _ wr=>wr=w) (fun _ _ _ _ _ _ _ _=>0)
 case atStart=>rfl
 case round =>
  obtain rfl:=hrel;go_wp2_with fail;refine p.o.mono ?_;rintro r P ⟨q,n,v,e,rfl,C,u,z,f,a⟩;have c:=H.o.tk f;have g:e= .nilIface∧((wdF (je d.fs) 0 0=none∧n=0∧v= .slice none 0 0)∨(wdF (je d.fs) 0 0=some n∧∃ x,je d.fs (qq (-1) ((0:Nat):Int) n)=some x∧Bq P v x)):=by
   rcases a with ⟨L,-⟩ | h
   ·rw [c.2.2] at L;simp at L
   ·exact h.2
  clear a;obtain⟨rfl,a⟩:=g;obtain⟨rfl,rfl⟩:n=0∧v= .slice none 0 0:=by
   rcases a with ⟨-,h⟩ | ⟨M,-⟩
   ·exact h
   ·rw [G.o,show wdF (je []) 0 0=none by decide] at M;simp at M
  have D:=zf (And.intro C (And.intro u (And.intro z f)));have m:=zf (z0e 0 (.slice none 0 0) none P (.inr ⟨rfl,rfl⟩));clear C u z f a c p Q;go_wp2_with fail;refine m.o.mono ?_;rintro r S ⟨t,a⟩;obtain rfl:r= .returned (.tuple #[.slice none 0 0,.bool false]):=by
   rcases a with ⟨es,y,R,-⟩ | ⟨-,h⟩
   ·simp [zn3] at R
   ·exact h
  have l:=zf t;clear t a m;go_wp2_with fail;go_ret;exact⟨rfl,q,D.o.1.then_below l.o,D.o.2.1.stay (zq.of_below (O:=O) (T:=[]) l.o) (by simp) (by simp),D.o.2.2.1,D.o.2.2.2⟩
theorem yoh (O:Nat→Prop)(W:World)(N:Env W)(y:∀ k,O k→W.heap.size≤k)(b:Nat)(d:Dk)(a:zc)(w:World)(n:zcw d)(l:d.fs=[])(P:Below W.heap.size W w)(h:yw w O b d):
  Calls prog 67 #[.iface 39 (.pointer (some ⟨b,0,none⟩)),.string ⟨a.toArray⟩] w fun r D=>∃(i:Dk) (K:Nat),r= .returned (.tuple #[.pointer (some ⟨K,0,none⟩),.nilIface])∧zq O dT1 w D∧yw D O b i∧i.fs=[]∧tk i=tk d∧w.heap.size≤K∧za9 D (jz O w D) b K { key:=a,es:=[],put:=0,live:=true }:=by
 have j:Below w.heap.size w (w.alloc (.cells #[.iface 39 (.pointer (some ⟨b,0,none⟩)),.string ⟨a.toArray⟩,.slice none 0 0,.int .i64 0] 196)):=zk _ _;have m:(w.alloc (.cells #[.iface 39 (.pointer (some ⟨b,0,none⟩)),.string ⟨a.toArray⟩,.slice none 0 0,.int .i64 0] 196)).heap[w.heap.size]?=some (.cells #[.iface 39 (.pointer (some ⟨b,0,none⟩)),.string ⟨a.toArray⟩,.slice none 0 0,.int .i64 0] 196 (0,0)):=zg _ _;have v:=zf (yoj O b w.heap.size d (w.alloc (.cells #[.iface 39 (.pointer (some ⟨b,0,none⟩)),.string ⟨a.toArray⟩,.slice none 0 0,.int .i64 0] 196)) n l (h.stay (zq.of_below (O:=O) (T:=[]) j) (by simp) (by simp)) (zw m 0 _ rfl).1);have H:=zf m;have E:=zf j;have I:=zf n;have u:=zf l;have M:=zf P;have G:=zf N;have L:=zf y;clear j m h n l P N y;go_enter func67,ntmps67;go_wp2_with fail;generalize (w.alloc (.cells #[.iface 39 (.pointer (some ⟨b,0,none⟩)),.string ⟨a.toArray⟩,.slice none 0 0,.int .i64 0] 196))=S at *;refine v.o.mono ?_;rintro r Q ⟨rfl,p,z⟩;have x:Hid (zq O dT1 w Q):=(zq.of_below E.o).trans (p.mono (fun _ h=> .inl h) (fun _ h=>h));have c:=zf (p.keep H.o (by decide));have s:=zf (yki O W G.o L.o b w.heap.size (jb d) Q I.o.enter ((jf d).trans u.o) (M.o.trans (x.o.below L.o M.o.size)) z _ c.o rfl rfl);clear p z v;go_wp2_with fail;refine s.o.mono ?_;rintro r R ⟨rfl,i,q,A,B,C⟩;have J:Hid (zq O dT1 w R):=x.o.trans (q.mono (fun _ h=> .inl h) (fun _ h=>h));have F:=zf A;have t:Hid (i.fs=[]∧tk i=tk d):=⟨B.trans ((jf d).trans u.o),C.trans (zpm d)⟩;have f:=zf (q.keep c.o (by decide));clear q A B C s;go_wp2_with fail
 go_ret2
 exact⟨i,w.heap.size,rfl,J.o,F.o,t.o.1,t.o.2,zm _,.slice none 0 0,.inr ⟨zm _,zi f.o⟩,f.o,OBs.nil _ _,fun g e=>by simp [Value.ownBlock] at e⟩
theorem ynk (O:Nat→Prop)(W:World)(B:Nat→Addr)(X:Env W)(C:zbz W B)(m:∀ k,O k→W.heap.size≤k)(s:Nat)(d:Dk)(p:zc)(w:World)(J:zcw d)(F:d.fs=[])(L:Below W.heap.size W w)(h:yw w O s d):
  Calls prog 35 #[.pointer (some ⟨s,0,none⟩),.string ⟨p.toArray⟩] w fun r t=>∃(q:Dk) (U i:Nat),r= .returned (.tuple #[.pointer (some ⟨U,0,none⟩),.agg #[.int .i64 0,.string ⟨#[]⟩]])∧zq O dT1 w t∧yw t (jz O w t) s q∧q.fs=[]∧tk q=tk d∧w.heap.size≤U∧zmx t U i∧za9 t (jz O w t) s i { key:=p,es:=[],put:=0,live:=true }:=by
 have f:Below w.heap.size w (w.alloc (.cells #[.int .i64 0,.string ⟨#[]⟩] 52)):=zk _ _;have c:=yoh O W X m s d p (w.alloc (.cells #[.int .i64 0,.string ⟨#[]⟩] 52)) J F (L.trans (f.mono L.size)) (h.stay (O1:=fun _=>False) (T:=[]) (.of_below f) (by simp) (by simp));have V:=zf L;have Z:=zf m;have HS:=zf C;have u:=zf f;have Q:Hid (zkz w.heap.size (w.alloc (.cells #[.int .i64 0,.string ⟨#[]⟩] 52))):=zg _ _;clear h L m X C f J F;go_enter func35,ntmps35;go_wp2_with fail;refine c.mono ?_;clear c;generalize w.alloc (.cells #[.int .i64 0,.string ⟨#[]⟩] 52)=w0 at *;rintro r a ⟨q,i,rfl,n,D,E,G,S,H⟩;have l:Hid (zq O dT1 w a):=(zq.of_below u.o).trans (n.mono (fun _ h=> .inl h) (fun _ h=>h));have A:Hid (zkz w.heap.size a):=Q.o.turn n (by decide);have x:Hid (Below W.heap.size W a):=V.o.trans (l.o.below Z.o V.o.size);have HX:Hid (∀ k,jz O w0 a k→jz O w a k):=fun k hk=>by
  rcases hk with h | h
  ·exact .inl h
  ·exact .inr ⟨zu u.o.size h.1,h.2⟩
 have M:Hid (yw a (jz O w a) s q):=D.mono (fun _ h=> .inl h);have y:=zf (And.intro E G);have K:=zf l.o.size;have N:=zf (H.mono HX.o);clear n D E G S H;go_wp2_with fail;have e:Hid (Below a.heap.size a (a.alloc (.cells #[.pointer (some ⟨i,0,none⟩)] 137))):=zk _ _;have z:Hid (zmx (a.alloc (.cells #[.pointer (some ⟨i,0,none⟩)] 137)) a.heap.size i):=zg _ _;generalize a.alloc (.cells #[.pointer (some ⟨i,0,none⟩)] 137)=wa at *;have R:=zf (A.o.below e.o);refine(z09 B wa (zdt HS.o (x.o.trans (e.o.mono x.o.size)))).mono ?_;rintro r Y ⟨rfl,g⟩;have j:Hid (Below a.heap.size a Y):=e.o.trans (g.mono e.o.size);have b:=zf (R.o.below g);have P:Hid (zmx Y a.heap.size i):=(g.block _ (zi z.o)).trans z.o;obtain⟨c0,z0⟩:=zw b.o 0 _ rfl;obtain⟨c1,z1⟩:=zw b.o 1 _ rfl;clear g;unfold told;go_wp2_with fail;have I:a.heap.size≠w.heap.size:=by have:=zi A.o;omega
 refine z8 (v:= .tuple #[.pointer (some ⟨a.heap.size,0,none⟩),.agg #[.int .i64 0,.string ⟨([]:zc).toArray⟩]]) (zdw results35 _ _ w.heap.size 52 _ (0,0) _ rfl (zg9 b.o _ _ rfl) underlying52 rfl (by kernel_rfl) _ rfl) rfl ⟨q,a.heap.size,i,rfl,zle (l.o.then_below j.o),(M.o.later j.o).sets2 b.o,y.o.1,y.o.2,K.out,?_,(N.o.later j.o).sets2 b.o⟩;unfold zmx;rw [yh _ _ _ _ (by exact I),yh _ _ _ _ (by exact I)];exact P.o
theorem yl7 (v:Value)(w:World)(h:Fss w v []):
  Calls prog 66 #[v,.slice none 0 0] w fun r x=>r= .returned (.tuple #[.slice none 0 0,.bool false])∧Below w.heap.size w x:=by
 have s:=zf h;obtain⟨y,n,rfl,e,-⟩:=h;clear e;go_enter func66,ntmps66;go_wp2_with fail;go_loopw [8] (fun i wr=>∃ k:Nat,k≤4∧i= .int .i64 k∧Below w.heap.size w wr) (fun i _=>(intOf i).toNat)
 case atStart=>exact⟨4,by omega,rfl,yf _ _⟩
 case round =>
  obtain⟨k,t,rfl,d⟩:=hrel;have j:=zf d;clear d
  by_cases u:0 < k
  ·go_wp2_with fail;refine(zjq (-1) ((0:Nat):Int) k (by omega) wr).mono ?_;rintro r q ⟨rfl,c⟩;have b:Hid (Below w.heap.size w q):=j.o.trans (c.mono j.o.size);have m:=zf (s.o.below b.o);obtain⟨g,f⟩:∃ g,qq (-1) ((0:Nat):Int) (k:Int)=g:=⟨_,rfl⟩;rw [f];clear c f;go_wp2_with fail;refine(zck _ [] g q (by simp) m.o).mono ?_;rintro r z ⟨rfl,rfl⟩;have p:ixI [] g=-1:=rfl;rw [p];have a:(k:Int) - 1=((k - 1:Nat):Int):=by omega
   have l:=zf a;clear a p;go_wp2_with fail
   go_round
   case rel=>exact⟨k - 1,by omega,congrArg (Value.int .i64) l.o,b.o⟩
   case measure=>simp [intOf];omega
  ·obtain rfl:k=0:=by omega
   go_wp2_with fail
   go_ret2
   exact⟨rfl,j.o⟩
theorem z8q (v:Value)(t:zc)(w:World)(h:Fss w v []):
  Calls prog 34 #[v,qo t] w fun r B=>Below w.heap.size w B∧∃ x,r= .returned (.tuple #[x,.int .i64 0,.int .i64 0,.string ⟨#[]⟩])∧B.ownsRow w.heap.size 9 1 x 0 []:=by
 have E:=zf h;obtain⟨J,y,rfl,l,-⟩:=h;clear l;unfold qo;go_enter func34,ntmps34;go_wp2_with fail;refine(zjp ⟨#[]⟩ w (by unfold maxLen;simp [ByteArray.size])).mono ?_;rintro r G ⟨rfl,d⟩;have f:=zf d;have i:=zf (E.o.below d);clear d;unfold txt;go_wp2_with fail;refine(zck _ [] cpF G (by simp) i.o).mono ?_;rintro r H ⟨rfl,rfl⟩;have z:ixI [] cpF=-1:=rfl;rw [z];clear z;go_wp2_with fail;go_loopw [12,13] (fun s F wr=>s= .slice none 0 0∧F= .int .i64 0∧wr=H) (fun _ _ _=>0)
 case atStart=>exact⟨rfl,rfl,rfl⟩
 case round =>
  obtain⟨rfl,rfl,rfl⟩:=hrel;go_wp2_with fail;refine(zg7 (.slice none 0 0) [] wr (by simp) (by simp) (Tss.nil _)).mono ?_;rintro r C ⟨rfl,e⟩;have g:Hid (Below w.heap.size w C):=f.o.trans (e.mono f.o.size);have n:=zf (i.o.below e);clear e;have q:Hid (qm []=hash []):=ze1 _ _ rfl;rw [q.o];generalize hash []=R at *;go_wp2_with fail;go_loopw [12] (fun s u=>s= .slice none 0 0∧u=C) (fun _ _=>0)
  case atStart=>exact⟨rfl,rfl⟩
  case round =>
   obtain⟨rfl,rfl⟩:=hrel;go_wp2_with fail;refine(yl7 _ wr n.o).mono ?_;rintro r D ⟨rfl,k⟩;have c:Hid (Below w.heap.size w D):=g.o.trans (k.mono g.o.size);have j:Hid (D.ownsRow w.heap.size 9 1 (.slice none 0 0) ([]:za).length (([]:za).map qo)):=⟨rfl,.inl ⟨rfl,rfl⟩⟩;clear k;go_wp2_with (at_builtin;refine ybc _ rfl _ _ rfl w.heap.size c.o.size _ [] rfl j.o _ [] rfl (Tss.nil _) (by simp) ?_;intro A I b a;have m:Hid (Below w.heap.size w I):=c.o.grown a c.o.size (vq j.o);have p:=zf b;clear b a);refine z8 (v:= .tuple #[A,.int .i64 0,.int .i64 0,.string ⟨#[]⟩]) ?_ rfl ⟨m.o,A,rfl,p.o⟩;simp [results,results34,go_sem]
end Go.Proofs.YtlcllcgngjhoaaaGreatDoor
