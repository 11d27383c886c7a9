import Derived.Test.YtlcllcgngjhoaaaGreatDoorG42
import Derived.Conc.MuLone
import Derived.Test.YtlcllcgngjhoaaaGreatDoorG37
set_option maxHeartbeats 8000000
set_option maxRecDepth 100000
set_option linter.all false
namespace Go.Proofs.YtlcllcgngjhoaaaGreatDoor
open Go.RowKit Go.Proofs.Tryz
def vr:=@Array.getElem?_setIfInBounds_ne
def zdr:=@Array.getElem?_setIfInBounds_self_of_lt
variable {B B' db k wb:Nat}{C:Array Value}{O:Nat→Prop}{d:Dk}{e:TypeId}{ev lv v:Value}{w w3 w4 wx:World}{xs:List Value}
def zr0 (d:Dk):Dk:={ d with failAt:=0,dead:=false,hit:=false }
def PO0 (O:Nat→Prop)(g:Nat)(d:Dk)(e:zc)(w b:World)(a:Option Addr):Prop :=
 ∃(c:Dk) (f h:Nat),zq O dT1 w b∧yw b (jz O w b) g c∧c.fs=[]∧tk c=tk d∧a=some ⟨f,0,none⟩∧w.heap.size≤f∧zmx b f h∧za9 b (jz O w b) g h { key:=e,es:=[],put:=0,live:=true }
theorem PO0.shift {g:zc}{a:Option Addr}(h:PO0 O db d g w w4 a)(i:Below w3.heap.size w3 w)(f:zq (fun k=>w3.heap.size≤k) [52] w4 wx):PO0 O db d g w3 wx a:=by
 obtain⟨l,u,t,s,q,r,c,m,n,o,p⟩:=h;have j:∀ k,jz O w w4 k→jz O w3 wx k:=fun k c=>by
  rcases c with c | c
  ·exact .inl c
  ·exact .inr ⟨zu i.size c.1,zx c.2 f.size⟩
 have b:zq O dT1 w3 w4:=(zq.of_below i).trans (s.mono (fun _ h=> .inl h) (fun _ h=>h));refine⟨l,u,t,⟨f.os.trans b.os,f.tape.trans b.tape,f.output.trans b.output,zu b.size f.size,fun k c=>?_⟩,(q.stay f (by decide) (by decide)).mono j,r,c,m,zu i.size n,f.keep o (by decide),(p.stay f (by decide) (by decide) (by decide)).mono j⟩;rcases f.block k (zx c b.size) with e | ⟨e,-⟩
 ·rw [e];exact b.block k c
 ·omega
theorem PO0.after {b:zc}{a:Option Addr}(h:PO0 O db d b w w4 a)(c:Below w3.heap.size w3 w)(o:Obj):PO0 O db d b w3 (w4.alloc o) a:=h.shift c (zq.of_below (zk w4 o))
theorem PO0.sets {b:zc}{a:Option Addr}(h:PO0 O db d b w w4 a)(e:Below w3.heap.size w3 w)(c:w4.heap[w3.heap.size]?=some (.cells C 52 (0,0)))(u v:Value):PO0 O db d b w3 ((w4.setCell ⟨w3.heap.size,0,none⟩ u).setCell ⟨w3.heap.size,1,none⟩ v) a :=
 h.shift e (((zq.refl _ _ w4).set (.inl (zm _)) c (by simp) _).set (.inl (zm _)) (zav c 0 _) (by simp) _)
theorem yol {x:Wd}(h:WAt w wb db lv ev x)(u e:Value)(m:Int):
  WAt ((((w.setCell ⟨wb,2,none⟩ u).setCell ⟨wb,5,none⟩ (.bool false)).setCell ⟨wb,3,none⟩ e).setCell ⟨wb,4,none⟩ (.int .i64 m)) wb db u e { key:=x.key,published:=m,failed:=false,foreign:=x.foreign } ∧
  zq (fun k=>k=wb) [42] w ((((w.setCell ⟨wb,2,none⟩ u).setCell ⟨wb,5,none⟩ (.bool false)).setCell ⟨wb,3,none⟩ e).setCell ⟨wb,4,none⟩ (.int .i64 m)):=by
 have a:=(z9v h).1 u;have b:=(z9v a).2.2.2.1 false;have c:=(z9v b).2.1 e;have d:=(z9v c).2.2.1 m;exact⟨d,(((((zq.refl (fun k=>k=wb) [42] w).set (.inl rfl) h (by simp) _).set (.inl rfl) a (by simp) _).set (.inl rfl) b (by simp) _).set (.inl rfl) c (by simp) _)⟩
theorem ydd {n:Nat}(h:w.ownsRow B e k v n xs)(a:B'≤B):w.ownsRow B' e k v n xs:=zq4 h a
theorem ynv (O:Nat→Prop)(W:World)(aR:Nat→Addr)(hE:Env W)(aW:zbz W aR)(t i:Nat)(lv ev:Value)(x:Wd)(d:Dk)(s:List Nat)(n:Nat)(w:World)(az:∀ k,O k→W.heap.size≤k∧k < w.heap.size)(hW:Below W.heap.size W w)(hn:n≤4200)(hO:O t)(h:yff w O t i lv ev x d s n)(a9:d.fs=[]):
  Calls prog 11 #[.pointer (some ⟨t,0,none⟩)] w fun r S=>r= .returned (.bool true)∧zq O aT w S∧(∀ k,jz O w S k→W.heap.size≤k∧k < S.heap.size)∧∃ br bo y,zj2 S (jz O w S) t i br bo { key:=x.key,published:=((0:Nat):Int),failed:=false,foreign:=x.foreign } y s n [] 0∧zcw y∧y.fs=[]:=by
 obtain⟨a8,Z,hd,M,-⟩:=h;have z:=zf a9;clear a9;have E:=zf M;have bn:=zf Z;have HD:=zf hd;have aq:=zf az;have ap:Hid (∀ k,O k→W.heap.size≤k):=fun k c=>(az k c).1;have HW:=zf hW;have aF:=zf hE;have aK:=zf aW;have HO:=zf hO;have aH:=zf a8;have bu:=ygh Z hd;have m:Hid (d.fs.length≤800000000):=by have:=M.count;show _≤_;omega
 obtain⟨⟨c0,-⟩,-⟩:=zns Z;unfold zdp at c0;clear Z hd M az hW hE aW hO a8;go_enter func11,ntmps11;go_wp2_with fail;refine(yhz O i d w HD.o).mono ?_;rintro r w1 ⟨rfl,X,aY⟩;have aL:=zf X;have I:Hid (WAt w1 t i lv ev x):=X.keep bn.o (by decide);have ak:Hid (yw w1 O i (zr0 d)):=aY;obtain⟨⟨d0,-⟩,-⟩:=zns I.o;have aX:=d0;unfold zdp at d0;have aO:Hid (Below W.heap.size W w1):=HW.o.trans (X.below ap.o HW.o.size);clear X aY c0;go_wp2_with fail;refine(ziv O i t (zr0 d) w1 (by have:=m.out;show d.fs.length≤_;omega) ak.o aX).mono ?_;rintro r w2 ⟨v2,aS,rfl,bb,aA,L,-⟩;have aI:Hid (aS.Perm d.fs):=bb;have an:=zf aA;have au:Hid (zq O dT1 w w2):=aL.o.then_below L;have J:Hid (WAt w2 t i lv ev x):=(zq.of_below (O:=O) (T:=[]) L).keep I.o (by simp);have aD:Hid (yw w2 O i (zr0 d)):=ak.o.stay (zq.of_below (O:=O) (T:=[]) L) (by simp) (by simp);have aP:Hid (Below W.heap.size W w2):=aO.o.trans (L.mono aO.o.size);obtain⟨-,⟨d1,-⟩,-⟩:=zns J.o;unfold qo at d1;obtain⟨va,vc,he,-⟩:=id aA;subst he;clear bb aA L d0 aX aL ak I;go_wp2_with fail;obtain rfl:aS=[]:=by have h:=aI.o;rw [z.o] at h;exact h.eq_nil
 refine(z8q _ x.key w2 an.o).mono ?_;rintro r b ⟨A,bt,rfl,N⟩;have F:=zf N;obtain⟨ea,ec,he⟩:=qr N;subst he;have U:Hid (zq O dT1 w b):=au.o.then_below A;have v:Hid (WAt b t i lv ev x):=(zq.of_below (O:=O) (T:=[]) A).keep J.o (by simp);have al:Hid (yw b O i (zr0 d)):=aD.o.stay (zq.of_below (O:=O) (T:=[]) A) (by simp) (by simp);have av:Hid (Below W.heap.size W b):=aP.o.trans (A.mono aP.o.size);have aG:=zf (an.o.below A);obtain⟨⟨e0,-⟩,⟨e1,-⟩,-⟩:=zns v.o;unfold zdp at e0;unfold qo at e1;have Q:Hid (w.heap.size≤w2.heap.size):=au.o.size;clear N A d1 au aD J an;have a0:∀ o,(b.alloc o).cell? ⟨t,0,none⟩=some (.pointer (some ⟨i,0,none⟩)):=fun o=>by rw [yp _ _ ⟨t,0,none⟩ (yg e0)];exact e0
 have a1:∀ o,(b.alloc o).cell? ⟨t,1,none⟩=some (.string ⟨x.key.toArray⟩):=fun o=>by rw [yp _ _ ⟨t,1,none⟩ (yg e1)];exact e1
 have ax:Hid (Below b.heap.size b b.drew):=(yf _ _).drew;have ay:Hid (∀ o,Below b.heap.size b (b.alloc o).drew):=fun o=>(zk _ _).drew;have ar:Hid (∀ S,Below b.heap.size b S→Calls prog 35 #[.pointer (some ⟨i,0,none⟩),.string ⟨x.key.toArray⟩] S fun r bh=>∃ a,r= .returned (.tuple #[.pointer a,.agg #[.int .i64 0,.string ⟨#[]⟩]])∧PO0 O i (zr0 d) x.key S bh a):=fun S hb=>(ynk O W aR aF.o aK.o ap.o i (zr0 d) x.key S ⟨rfl,rfl,rfl⟩ z.o (av.o.trans (hb.mono av.o.size)) (al.o.stay (zq.of_below (O:=O) (T:=[]) hb) (by simp) (by simp))).mono (by
  rintro r bh ⟨y,pb,lb,rfl,h1,h2,h3,h4,h5,h6,h7⟩;exact⟨_,rfl,y,pb,lb,h1,h2,h3,h4,rfl,h5,h6,h7⟩)
 go_upto_region 4 with fail
 go_cut [8,9] from 30 to 41 (fun s8 s9 wx=>∃(a:Option Addr) (B:Nat),s8= .pointer a∧s9= .pointer (some ⟨B,0,none⟩)∧b.heap.size≤B∧wx.heap[B]?=some (.cells #[.int .i64 0,.string ⟨([]:zc).toArray⟩] 52 (0,0))∧PO0 O i (zr0 d) x.key b wx a)
 case first =>
  clear E aq ap HW aF aK HO aH m aI F U av al aG Q z
  go_region_with (first
   | (go_at_call 35;refine(ar.o b.drew ax.out).mono ?_;rintro r w4 ⟨a,rfl,p⟩;have HP:=zf p;clear p)
   | (go_at_call 35;refine(ar.o (b.alloc (.cells #[.int .i64 0,.string ⟨#[]⟩] 52)).drew (ay.out _)).mono ?_;rintro r w4 ⟨a,rfl,p⟩;have HP:=zf p;have V:w4.heap[b.heap.size]?=some (.cells #[.int .i64 0,.string ⟨#[]⟩] 52 (0,0)):=(by obtain⟨-,-,-,aB,-⟩:=p;exact aB.keep (zg b _) (by decide));obtain⟨x0,z0⟩:=zw V 0 _ rfl;obtain⟨x1,z1⟩:=zw V 1 _ rfl;have bj:=zf V;clear V p))
  all_goals go_wp2_with fail
  all_goals go_meet
  all_goals first
   | (have hN:=bj.o;exact⟨a,b.heap.size,rfl,rfl,zm _,zg9 hN 0 [] rfl,HP.o.sets (ay.out _) hN _ _⟩)
   | exact⟨a,w4.heap.size,rfl,rfl,(by obtain⟨-,-,-,aB,-⟩:=HP.o;exact aB.size),zg _ _,HP.o.after ax.out _⟩
 case rest =>
 obtain⟨pa,B,rfl,rfl,bp,aV,p⟩:=hcut;obtain⟨y,pb,lb,R,aZ,ah,Y,rfl,bd,be,ai⟩:=p;clear a0 a1 ax ay ar;have af:Hid (zcw y):=zcw.tk (d:=zr0 d) ⟨rfl,rfl,rfl⟩ Y;have bm:Hid (y.turned=false):=(zz6 Y).trans E.o.turned;have u:Hid (y.fs=d.fs):=ah.trans z.o.symm;have bf:y.turned=d.turned:=zz6 (e:=zr0 d) Y;have bi:Hid (Num n { key:=x.key,published:=((0:Nat):Int),failed:=false,foreign:=x.foreign } y s):=z4c E.o rfl u.o bf;have aM:Hid (zq O aT w wc):=(U.o.mono (fun _ h=>h) (by decide)).trans (R.mono (fun _ h=> .inl h) (by decide));have K:Hid (WAt wc t i lv ev x):=R.keep v.o (by decide);have am:=zf aZ;have aj:=zf aV;have G:Hid (wc.ownsRow w2.heap.size 9 1 (.slice ea 0 ec) 0 []):=zo F.o R (by decide);have bq:Hid (b.heap.size≤wc.heap.size):=R.size;have P:Hid (w.heap.size≤b.heap.size):=U.o.size;have bs:¬ B=t:=by have:=zi v.o;omega
 obtain⟨⟨g0,-⟩,-⟩:=zns K.o;clear R aZ ah Y bf e0 e1 U al v F aG aV bp;have a6:∀ k,jz O b wc k→jz O w wc k:=fun k c=>by
  rcases c with c | c
  ·exact .inl c
  ·exact .inr ⟨by have:=P.out;omega,c.2⟩
 have aQ:=zf a6;clear a6;have aJ:=zf be;have ab:=zf ai;have bl:=zf bd;clear be ai bd;go_wp2_with fail;refine(ziv (jz O b wc) i t y wc (by have:=m.out;rw [u.o];omega) am.o g0).mono ?_;rintro r w5 ⟨v5,aU,rfl,bc,a7,C,-⟩;obtain⟨n0,-⟩:=zw ((zq.of_below (O:=O) (T:=[]) C).keep aj.o (by simp)) 0 _ rfl;obtain⟨n1,-⟩:=zw ((zq.of_below (O:=O) (T:=[]) C).keep aj.o (by simp)) 1 _ rfl;have bk:Hid (aU.Perm d.fs):=by rw [← u.o];exact bc
 obtain⟨bw,bx,he,-⟩:=id a7;subst he;have ba:aU.length=0:=by rw [bk.o.length_eq,z.o];rfl
 rw [ba];have aN:Hid (zq O aT w w5):=aM.o.then_below C;have l:zq O [] wc w5:= .of_below C;have ag:Hid (WAt w5 t i lv ev x):=l.keep K.o (by simp);have aE:Hid (yw w5 (jz O w wc) i y):=(am.o.stay l (by simp) (by simp)).mono aQ.o;have ad:Hid (zmx w5 pb lb):=l.keep aJ.o (by simp);have ao:=zf ((ab.o.stay l (by simp) (by simp) (by simp)).mono aQ.o);have H:=zf (zo G.o l (by simp));have aC:Hid (wc.heap.size≤w5.heap.size):=C.size;have aw:=zf (yol ag.o (.pointer (some ⟨pb,0,none⟩)) (.slice ea 0 ec) ((0:Nat):Int));obtain⟨⟨k0,-⟩,⟨k1,-⟩,⟨k2,f2⟩,⟨k3,f3⟩,⟨k4,f4⟩,⟨k5,f5⟩,-⟩:=zns ag.o;obtain⟨fv,-,a5,-⟩:=id aE.o;obtain⟨-,-,-,-,-,-,-,⟨t7,-⟩⟩:=zlg a5;rw [bm.o] at t7;have ae:=zf (aw.o.2.keep ad.o (by decide));have D:=zf (ao.o.stay aw.o.2 (by decide) (by decide) (by decide));unfold zdp at k0;clear bc a7 C ba l a5 g0 K aj am aJ ab G aM;go_wp2_with fail;refine(yds _ i pb lb _ _ (by exact ae.o) (by exact D.o)).mono ?_;rintro r w9 ⟨rfl,rfl⟩;go_wp2_with fail;go_ret;have aa:=aw.o;have q:∀(W1:World) a1 a2 a3 a4 u1 u2 u3 u4,(((((W1.setCell a1 u1).setCell a2 u2).setCell a3 u3).setCell a4 u4)).heap.size=W1.heap.size:=fun W1 a1 a2 a3 a4 u1 u2 u3 u4=>by simp [World.setCell]
 have bg:∀(W1:World) a1 a2 a3 a4 u1 u2 u3 u4,W1.heap.size=w5.heap.size→∀ k,jz O w wc k→jz O w (((((W1.setCell a1 u1).setCell a2 u2).setCell a3 u3).setCell a4 u4)) k:=fun W1 a1 a2 a3 a4 u1 u2 u3 u4 e k c=>by
  rcases c with c | c
  ·exact .inl c
  ·exact .inr ⟨c.1,by rw [q,e];have:=aC.out;omega⟩
 refine⟨by first | rfl | simp,aN.o.trans (aa.2.mono (fun k c=> .inl (by rw [c];exact HO.o)) (by decide)),fun k c=>?_,_,_,y,⟨aH.o,aa.1,(aE.o.stay aa.2 (by decide) (by decide)).mono (bg _ _ _ _ _ _ _ _ _ rfl),bi.o,pb,lb,rfl,?_,ae.o,D.o.mono (bg _ _ _ _ _ _ _ _ _ rfl),zo (ydd H.o (yv _)) aa.2 (by decide),fun g hg=>?_,⟨fun e he=>by simp at he,fun j hj=>by simp at hj,yv _,fun _=>⟨af.o.calm,fun f hf=>absurd hf (by rw [List.take_zero];exact z57)⟩⟩⟩,af.o,u.o.trans z.o⟩
 ·rw [q];rcases c with c | c
  ·exact⟨(aq.o k c).1,zx (aq.o k c).2 aN.o.size⟩
  ·rw [q] at c;exact⟨zu HW.o.size c.1,c.2⟩
 ·refine .inr ⟨by have:=bl.o;have:=P.out;omega,?_⟩;rw [q];exact zi ad.o
 ·have:=H.o.lt g hg;refine .inr ⟨by have:=Q.out;omega,?_⟩;rw [q];exact this.2
theorem zxg (O:Nat→Prop)(W:World)(b:Nat→Addr)(E:Env W)(t:zbz W b)(o p n:Nat)(es:za)(z:Nat)(a:zc)(d:Dk)(w:World)(G:Below W.heap.size W w)(J:n≤4100)(h:RP W.heap.size w O o p n es z a d):
  Calls prog 12 #[.pointer (some ⟨o,0,none⟩)] w fun r m=>r= .returned (.bool true)∧zq O aT w m∧∃ c,RP W.heap.size m (jz O w m) o p (n+1) es es.length a c∧∀ s,s≤es.length→zf1 d.fs es s→zf1 c.fs es s:=by
 obtain⟨L,C,s,A,i⟩:=h.full;have I:es.length≤1000000:=by
  obtain⟨-,-,-,j,N,M,-,-,-,-,-,-,g⟩:=i;have:=zpl g;have:=j.small;omega
 refine(zyi O W b E t o p L C _ d s n w h.own G J h.hwb es A i rfl h.still (h.since.noClash I) (zbp es.length (qm es) a) rfl).mono ?_;rintro r m ⟨rfl,F,l,y,q,c,v,x,B,u,e⟩;have D:zf1 c.fs es es.length:=fun f i=>e f (by rw [jg] at i;exact i);refine⟨rfl,F,c,⟨.inl h.hwb,l,⟨y,q,s,es.length,v⟩,x,h.since.went B,zm _,.inr ⟨by rw [jg];exact u,D⟩⟩,fun k H K=>?_⟩;have:=K.went (more:=[]) B H
 rwa [za3] at this
variable {O':Nat→Prop}{b pub':Nat}{d':Dk}{es':za}{w' w0:World}
theorem ygz {c:zc}(n:c.length≤1048576)(m:WAt w b (b+1) (.pointer none) (.slice none 0 0) { key:=c,published:=0,failed:=false,foreign:=false })(j:yw w O (b+1) { dk0 with fs:=zl3 [] [] }):
  yff w (fun k=>O k∧k < w.heap.size) b (b+1) (.pointer none) (.slice none 0 0) { key:=c,published:=0,failed:=false,foreign:=false } { dk0 with fs:=[] } [] 0:=by
 refine⟨rfl,m,?_,⟨by simp [zff],fun f d=>by simp at d,by simp,z2c [],by simp,by show c.length≤_;omega,rfl⟩,.inl rfl⟩;obtain⟨i,a,h,d,l⟩:=j;exact⟨i,⟨a,zi h⟩,h,d,fun g e=>⟨l g e,(d.lt g e).2⟩⟩
theorem RP.wide {n:Nat}{es:za}{b:Nat}{a:zc}(h:RP B w O wb db n es b a d)(e:∀ k,O k→O' k)(i:∀ k,O' k→B≤k∧k < w.heap.size):RP B w O' wb db n es b a d:=by
 obtain⟨j,f,s,c,g⟩:=h.full;exact⟨e _ h.hwb,i,⟨j,f,s,c,g.mono e⟩,h.still,h.since,h.chk⟩
theorem ynn {b:zc}{s:List Nat}(e:O wb)(g:∀ k,O k→B≤k∧k < w.heap.size)(h:zj2 w O wb db lv ev { key:=b,published:=((0:Nat):Int),failed:=false,foreign:=false } d s 0 [] 0)(c:zcw d)(a:d.fs=[]):RP B w O wb db 0 [] 0 b d :=
 ⟨e,g,⟨lv,ev,s,0,h⟩,c,fun q x f=>by rw [a] at f;simp [je] at f,zm _,.inl ⟨by rw [a];rfl,rfl⟩⟩
theorem RP.facts {n:Nat}{es:za}{p:Nat}{o:zc}(h:RP B w O wb db n es p o d)(C:n≤4100):∃ r u q,WAt w wb db r (.slice u es.length q) { key:=o,published:=(p:Int),failed:=false,foreign:=false }∧yw w O db d∧w.ownsRow 0 9 1 (.slice u es.length q) es.length (es.map qo)∧es.length≤q∧es.length≤40000∧(∀ e∈es,e.length≤20)∧d.fs.length≤800000000∧(∀ f∈d.fs,f.2.length≤1048576)∧zff d.fs∧(u=none→q=0):=by
 obtain⟨r,A,s,z,y,m,v,a,E,D,-,-,-,-,k,-,c⟩:=h.full;have j:es.length≤40000:=by have:=zpl c;have:=a.small;omega
 have i:d.fs.length≤800000000:=by have:=a.count;omega
 have b:=k;rcases k.2 with ⟨rfl,h0⟩ | ⟨g,t,x,rfl,-,-,l,-⟩
 ·exact⟨r,none,es.length,by rw [h0];exact m,v,by rw [h0] at b ⊢;exact b,zm _,j,c.short,i,a.data,a.apart,fun _=>h0⟩
 ·exact⟨r,_,t,m,v,b,l,j,c.short,i,a.data,a.apart,fun e=>by simp at e⟩
def RPs (B:Nat)(c w:World)(f e n:Nat)(es:za)(b:Nat)(a:zc)(d:Dk):Prop :=
 Below c.heap.size c w∧RP B w (fun g=>c.heap.size≤g∧g < w.heap.size) f e n es b a d
theorem RPs.next {n f:Nat}{es:za}{c:Nat}{b:zc}(h:RPs B w0 w wb db n es c b d)(i:B≤w0.heap.size)(e:zq (fun g=>w0.heap.size≤g∧g < w.heap.size) aT w w')(j:RP B w' (jz (fun g=>w0.heap.size≤g∧g < w.heap.size) w w') wb db f es' pub' b d'):RPs B w0 w' wb db f es' pub' b d':=by
 refine⟨h.1.trans (e.below (fun g a=>a.1) h.1.size),j.wide (fun g a=>?_) (fun g a=>⟨zu i a.1,a.2⟩)⟩;have k:=e.size;have h0:=h.1.size;rcases a with a | a<;>omega
theorem yji (O:Nat→Prop)(W:World)(a:Nat→Addr)(m:zbz W a)(j k n:Nat)(es:za)(f:Nat)(e:zc)(d:Dk)(t:zc)(w:World)(x:Below W.heap.size W w)(z:n≤4200)(C:t.length≤20)(h:RP W.heap.size w O j k n es f e d):
  Calls prog 13 #[.pointer (some ⟨j,0,none⟩),.string ⟨t.toArray⟩] w fun r i=>r= .returned (.bool true)∧zq O aT w i∧RP W.heap.size i (jz O w i) j k (n+1) (es++[t]) f e d:=by
 obtain⟨A,u,s,g,y⟩:=h.full;refine(z1w O W a m j k A u _ d s n t w h.own x z (by omega) h.hwb es g y).mono ?_;rintro r i ⟨rfl,v,c⟩;refine⟨rfl,v,?_⟩;rcases c with ⟨q | q,-⟩ | ⟨-,b,p,l,B,o⟩
 ·omega
 ·simp at q
 ·exact⟨.inl h.hwb,b,⟨p,l,B,g,o⟩,h.still,h.since.more [t],h.chk.more [t]⟩
theorem zz3 (W:World)(q:Nat→Addr)(hE:Env W)(ab:zbz W q)(v:Value)(es:za)(m:Nat)(c:zc)(w:World)(hW:Below W.heap.size W w)(hk:c.length≤1048576)(he:es.length≤100)(Z:∀ e∈es,e.length≤20)(h:Sss w v (es.map tb)):
  Calls prog 6 #[v,.int .i64 m,qo c] w fun r w'=>∃ d,r= .returned (.pointer (some ⟨w.heap.size,0,none⟩))∧RPs W.heap.size w w' w.heap.size (w.heap.size+1) 210 es es.length c d:=by
 have O:=zf hE;have y:=zf ab;have u:=zf hW;have ai:=zf Z;have P:=zf (ye6 (.slice none 0 0) [] c w (by simp) ⟨none,0,rfl,zm _,.inl rfl⟩);obtain⟨a,ak,rfl,ad,D⟩:=h;simp only [yi] at ad D ⊢;have H:=zf D;clear D hE ab hW Z;unfold qo at P ⊢;go_enter func6,ntmps6;go_wp2_with fail;refine P.o.mono ?_;rintro r S ⟨rfl,Q,l,af⟩;have aj:Hid (Below W.heap.size W S):=u.o.trans (Q.mono u.o.size);have N:=zf Q;have ah:=ygz (by omega) l af;have aa:∀ k,(w.heap.size≤k∧k < S.heap.size)→W.heap.size≤k∧k < S.heap.size:=fun k hk=>⟨zu u.o.size hk.1,hk.2⟩
 have T:=zf (ynv (fun k=>w.heap.size≤k∧k < S.heap.size) W q O.o y.o w.heap.size (w.heap.size+1) _ _ _ _ [] 0 S aa aj.o (by omega) ⟨zm _,zi l⟩ ah rfl);have X:Hid (w.heap.size < S.heap.size):=zi l;clear Q l af ah aa P;go_wp2_with fail;refine T.o.mono ?_;rintro r w4 ⟨rfl,R,A,ao,al,d0,ag,M,K⟩;have U:Hid (RPs W.heap.size w w4 w.heap.size (w.heap.size+1) 0 [] 0 c d0):=by
  refine⟨N.o.trans (R.below (fun g L=>L.1) N.o.size),(ynn (.inl ⟨zm _,X.o⟩) A ag M K).wide (fun g L=>?_) (fun g L=>⟨zu u.o.size L.1,L.2⟩)⟩;have hs:=R.size;have:=N.o.size;rcases L with L | L<;>omega
 clear R A ag M K T;go_wp2_with fail;go_loopw [8,9] (fun o i wr=>∃(k s:Nat) (d:Dk),k≤es.length∧o= .bool true∧i= .int .i64 k∧RPs W.heap.size w wr w.heap.size (w.heap.size+1) (2*k) (es.take k) s c d) (fun _ i _=>es.length - (intOf i).toNat)
 case atStart=>exact⟨0,0,d0,yv _,rfl,rfl,U.o⟩
 case round =>
  obtain⟨k,s,d,am,rfl,rfl,hr⟩:=hrel;have x:=zf hr;have n:Hid (Below W.heap.size W wr):=u.o.trans (hr.1.mono u.o.size);clear hr U
  by_cases z:k < es.length
  ·obtain⟨b,G,rfl,ae⟩:∃ b G,a=some ⟨b,G,none⟩∧∀ i (h:i < es.length),w.cell? ⟨b,G+i,none⟩=some (.string ⟨es[i].toArray⟩):=by
    rcases H.o with h | ⟨b,G,h1,h2⟩
    ·have h0:es=[]:=by simpa using h
     rw [h0] at z;simp at z
    ·exact⟨b,G,h1,fun j hj=>(h2 j hj).trans (by rw [za4];rfl)⟩
   have HY:=zf (ae k z);have J:=zf (ai.o _ (yd z));have V:Hid (es.take (k+1)=es.take k++[es[k]]):=qf z;clear ae;generalize es[k]=t at *
   by_cases hm:k=m
   ·subst hm;go_wp2_with fail;refine(zxg _ W q O.o y.o w.heap.size (w.heap.size+1) (2*k) (es.take k) s c d wr n.o (by omega) x.o.2).mono ?_;rintro r w5 ⟨rfl,E,d5,B,-⟩;have f:=zf (x.o.next u.o.size E B);have Y:Hid (Below W.heap.size W w5):=u.o.trans (f.o.1.mono u.o.size);have y5:=(f.o.1.cell (p:=⟨b,_,none⟩) (yg HY.o)).trans HY.o;clear E B x n;go_wp2_with fail;refine(yji _ W q y.o w.heap.size (w.heap.size+1) (2*k+1) (es.take k) _ c d5 t w5 Y.o (by omega) J.o f.o.2).mono ?_;rintro r w6 ⟨rfl,F,C⟩;have I:=zf (f.o.next u.o.size F C);clear F C f Y y5;go_wp2_with fail
    go_roundw
    case rel=>exact⟨k+1,_,d5,by omega,rfl,by go_num,by rw [V.o];exact I.o⟩
    case measure=>simp [intOf];omega
   ·have an:((k:Int)==(m:Int))=false:=yk.2 (by omega);have y5:=(x.o.1.cell (p:=⟨b,_,none⟩) (yg HY.o)).trans HY.o;go_wp2_with fail
    all_goals
     refine(yji _ W q y.o w.heap.size (w.heap.size+1) (2*k) (es.take k) s c d t wr n.o (by omega) J.o x.o.2).mono ?_;rintro r w6 ⟨rfl,F,C⟩;have I:=zf (x.o.next u.o.size F C);clear F C x n y5;go_wp2_with fail
     go_roundw
     case rel=>exact⟨k+1,s,d,by omega,rfl,by go_num,by rw [V.o];exact⟨I.o.1,I.o.2.later (by omega)⟩⟩
     case measure=>simp [intOf];omega
  ·obtain rfl:k=es.length:=by omega
   rw [jg] at x;go_wp2_with fail;refine(zxg _ W q O.o y.o w.heap.size (w.heap.size+1) (2*es.length) es s c d wr n.o (by omega) x.o.2).mono ?_;rintro r w5 ⟨rfl,E,d5,B,-⟩;have f:=zf (x.o.next u.o.size E B);clear E B x n;go_wp2_with fail;go_ret;exact⟨d5,rfl,f.o.1,f.o.2.later (by omega)⟩
abbrev ynh:Go.Conc.Locks.MuLink:={ lock:=81,unlock:=82,ilock:=109,iunlock:=110,lockSlow:=157,unlockSlow:=160,disable:=153,enable:=155,acquire:=156,relMerge:=158,cas32:=154,add32:=159,tMutex:=164,tIMutex:=162,tPMutex:=216,tPIMutex:=269,tPI32:=271,tUP:=235,tNoCopy:=159,tU32:=160 }
theorem ymw:Go.Conc.Locks.MuLib prog ynh :=
 ⟨func81,func82,func109,func110,func153,func155,func156,func158,func154,func159,
  underlying162,runUnderlying162,sizeOf162,isAgg162,zeroValue162,
  underlying164,runUnderlying164,sizeOf164,isAgg164,zeroValue164,
  underlying216,runUnderlying216,sizeOf216,isAgg216,zeroValue216,
  underlying269,runUnderlying269,sizeOf269,isAgg269,zeroValue269,
  underlying271,runUnderlying271,sizeOf271,isAgg271,zeroValue271,
  underlying235,runUnderlying235,sizeOf235,isAgg235,zeroValue235,
  underlying159,runUnderlying159,sizeOf159,isAgg159,zeroValue159,
  underlying21,runUnderlying21,sizeOf21,isAgg21,zeroValue21,(by kernel_rfl)⟩
theorem zwh (a:Addr)(w:World)(b:w.cell? a=some (.int .i32 0))(c:w.frozen? a=false):Calls prog 81 #[.pointer (some a)] w fun e d=>e= .returned (.tuple #[])∧d=w.setCell a (.int .i32 1):=Go.MuLone.lock_free ymw a w b c
theorem zi7 (a:Addr)(u:FrameMode)(w:World)(b:w.cell? a=some (.int .i32 1))(c:w.frozen? a=false):CallsD prog 82 #[.pointer (some a)] u w fun e d f=>d=u∧(e= .returned (.tuple #[])∧f=w.setCell a (.int .i32 0)):=Go.MuLone.unlock_deferred ymw a u w b c
variable {A OP:Nat→Prop}{C':Array Value}{W0:World}{c:Cl}{cb i nb nm pm:Nat}
section
attribute [local go_sem ↓] jy jn j4 jo ji jh j3 jm zgb ze4
structure CBl (C:Array Value)(nb pm nm:Nat)(c:Cl):Prop where
 ccs:CCs C nb pm nm
 mu:C[0]?=some (.int .i32 0)
 key:C[3]?=some (qo c.key)
 num:zra C c.size c.root
structure Pv (W0 w:World)(O A OP:Nat→Prop)(cb nb pm nm:Nat)(c:Cl):Prop where
 own:∀ b,A b∨OP b∨b=cb→W0.heap.size≤b∧b < w.heap.size∧¬ O b
 sep:∀ b,OP b→¬ A b
 cbA:¬ A cb
 cbP:¬ OP cb
 cli:∃ C,w.heap[cb]?=some (.cells C zbx (0,0))∧CBl C nb pm nm c
 prv:zof w OP pm c.room c.proved
 nee:zen w A nm zgx []
structure Sh (W0 w:World)(O:Nat→Prop)(nb db:Nat)(d:Dk)(n:Nt):Prop where
 base:Below W0.heap.size W0 w
 own:∀ b,O b→W0.heap.size≤b∧b < w.heap.size
 disk:yw w O db d
 net:zdn w O nb db n
 st:NSt d n
theorem Pv.cs {n:Nt}(h:Pv W0 w O A OP cb nb pm nm c)(e:Sh W0 w O nb db d n)(m:w.heap[cb]?=some (.cells C zbx (0,0)))(f:CCs C nb pm nm)(p:n.fetches+2*k < 4611686018427387904)(g:k≤1000000000):CS W0 w O A OP cb nb db pm nm C d c.room c.proved ⟨n,[]⟩ k :=
 ⟨e.base,fun b a=>a.elim (fun h=>(e.own b h).1) (fun j=>(h.own b (.inl j)).1),fun b o l=>(h.own b (.inl l)).2.2 o,fun b a=>by
  rcases a with a | a | a
  ·exact(e.own b a).2
  ·exact(h.own b (.inl a)).2.1
  ·exact(h.own b (.inr (.inl a))).2.1,e.disk,e.net,e.st,p,m,f,h.prv,fun b i a=>by
  rcases a with a | a
  ·exact(h.own b (.inr (.inl i))).2.2 a
  ·exact h.sep b i a,⟨[],h.nee,.nil,by simp⟩,by simpa using g⟩
theorem Sh.drop {a:Int}{e:Mm}{m:Ms Nt}(h:CS W0 w O A OP cb nb db pm nm C d a e m k):Sh W0 w O nb db d m.net :=
 ⟨h.base,fun b c=>⟨h.own b (.inl c),h.lt b (.inl c)⟩,h.disk,h.net,h.st⟩
theorem CS.client {a:Int}{j:Mm}{m:Ms Nt}(h:CS W0 w O A OP cb nb db pm nm C d a j m k)(f:zq (fun b=>b=cb) [zbx] w w')(i:W0.heap.size≤cb∧¬ A cb∧¬ OP cb)(l:w'.heap[cb]?=some (.cells C' zbx (0,0)))(g:CCs C' nb pm nm):CS W0 w' O A OP cb nb db pm nm C' d a j m k :=
 ⟨h.base.trans (f.below (fun b c=>by rw [c];exact i.1) h.base.size),h.own,h.apart,fun b c=>zx (h.lt b c) f.size,h.disk.stay f (by decide) (by decide),h.net.turn f (by decide) (by decide) (by decide),h.st,h.few,l,g,h.prv.stay f (fun b c e=>i.2.2 (by rw [← e];exact c)) (by decide) (fun _ h=>h),h.away,h.nee.stay f (fun b c e=>i.2.1 (by rw [← e];exact c)) (by decide) (by decide) (fun _ h=>h),h.short⟩
theorem CCs.set (h:CCs C nb pm nm)(i:Nat)(v:Value)(a:i≠2∧i≠13∧i≠14):CCs (C.setIfInBounds i v) nb pm nm :=
 ⟨by rw [vr a.1];exact h.net,by rw [vr a.2.1];exact h.prv,by rw [vr a.2.2];exact h.nee⟩
theorem zra.set0 {b:Nat}{a:zc}(h:zra C b a)(v:Value):zra (C.setIfInBounds 0 v) b a :=
 ⟨by rw [vr (by omega)];exact h.sz,fun j u c=>by rw [vr (by omega)];exact h.rt j u c,h.r8⟩
theorem yjq (h:C[i]?=some v):C.setIfInBounds i v=C:=by
 apply Array.ext_getElem?;intro j
 by_cases a:i=j
 ·subst a;rw [zdr (zb4.1 h).1,h]
 ·rw [vr a]
theorem z5v (G:World)(O A F:Nat→Prop)(a K M L:Nat)(c:Cl)(w:World)(h:Pv G w O A F a K M L c):
  Calls prog 54 #[yx a] w fun r B=>r= .returned (.agg (trC c.size c.root).toArray)∧zq (fun b=>b=a) [zbx] w B∧B.heap[a]?=w.heap[a]?:=by
 obtain⟨C,z,y⟩:=h.cli;have q:=zf z;have m:=zf y;clear z y h;unfold yx
 go_enter_defers func54,ntmps54
 go_wp2_with fail;have d:Hid ((w.alloc (.cells #[.int .i64 0,.int .u8 0,.int .u8 0,.int .u8 0,.int .u8 0,.int .u8 0,.int .u8 0,.int .u8 0,.int .u8 0] 112)).heap[a]?=some (.cells C zbx (0,0))∧(w.alloc (.cells #[.int .i64 0,.int .u8 0,.int .u8 0,.int .u8 0,.int .u8 0,.int .u8 0,.int .u8 0,.int .u8 0,.int .u8 0] 112)).heap[w.heap.size]?=some (.cells (trC 0 vg).toArray 112 (0,0))∧Below w.heap.size w (w.alloc (.cells #[.int .i64 0,.int .u8 0,.int .u8 0,.int .u8 0,.int .u8 0,.int .u8 0,.int .u8 0,.int .u8 0,.int .u8 0] 112))∧a < w.heap.size):=⟨zj q.o,zg _ _,zk _ _,zi q.o⟩;generalize w.alloc (.cells #[.int .i64 0,.int .u8 0,.int .u8 0,.int .u8 0,.int .u8 0,.int .u8 0,.int .u8 0,.int .u8 0,.int .u8 0] 112)=p at *;have x:=zf (zwh ⟨a,0,none⟩ p (zw d.o.1 0 _ m.o.mu).1 (zw d.o.1 0 _ m.o.mu).2);refine x.o.mono ?_;rintro r Q ⟨rfl,rfl⟩;have n:Hid ((p.setCell ⟨a,0,none⟩ (.int .i32 1)).heap[a]?=some (.cells (C.setIfInBounds 0 (.int .i32 1)) zbx (0,0))):=zav d.o.1 0 _;have j:Hid ((p.setCell ⟨a,0,none⟩ (.int .i32 1)).heap[w.heap.size]?=some (.cells (trC 0 vg).toArray 112 (0,0))):=by
  show _=_;rw [yh _ _ _ _ (by show w.heap.size≠a;have:=d.o.2.2.2;omega)];exact d.o.2.1
 have u:Hid (zq (fun b=>b=a) [zbx] w (p.setCell ⟨a,0,none⟩ (.int .i32 1))):=zq.set (O:=fun b=>b=a) (T:=[zbx]) (zq.of_below d.o.2.2.1) (.inl rfl) d.o.1 (by simp) _;generalize p.setCell ⟨a,0,none⟩ (.int .i32 1)=i at *;have l:zra (C.setIfInBounds 0 (.int .i32 1)) c.size c.root:=m.o.num.set0 _;have I:(zwg (.pointer (some ⟨a,4,none⟩))).run prog i= .ok (.agg (trC c.size c.root).toArray) i:=zo0 (l.range n.o) l.r8;have J:(zno (.pointer (some ⟨w.heap.size,0,none⟩)) (.agg (trC c.size c.root).toArray)).run prog i= .ok () (i.setCells w.heap.size 0 (trC c.size c.root)):=zkr (zb1 j.o) l.r8;have t:Hid ((i.setCells w.heap.size 0 (trC c.size c.root)).heap[w.heap.size]?=some (.cells (trC c.size c.root).toArray 112 (0,0))):=zb2 j.o (by rw [zh9 _ l.r8];rfl);have g:Hid ((i.setCells w.heap.size 0 (trC c.size c.root)).heap[a]?=some (.cells (C.setIfInBounds 0 (.int .i32 1)) zbx (0,0))):=by
  show _=_;rw [zar _ _ (by have:=d.o.2.2.2;omega)];exact n.o
 have v:Hid (zq (fun b=>b=a) [zbx] w (i.setCells w.heap.size 0 (trC c.size c.root))):=u.o.setCellsNew (zm _) _ _;have s:=zf d.o.2.2.2;have D:=zf l;clear x d j l;generalize N:i.setCells w.heap.size 0 (trC c.size c.root)=V at *;have k:(C.setIfInBounds 0 (.int .i32 1))[0]?=some (.int .i32 1):=zdr (zb4.1 m.o.mu).1;have E:=zf (zi7 ⟨a,0,none⟩ .returning V (zw g.o 0 _ k).1 (zw g.o 0 _ k).2);clear k;go_wp2_with fail;refine zb9 (f:=82) (args:=#[.pointer (some ⟨a,0,none⟩)]) (by simp) (by simp [go_sem]) ?_;refine E.o.mono ?_;rintro e P R ⟨rfl,rfl,rfl⟩;simp only [Leaves,settle];have H:(V.setCell ⟨a,0,none⟩ (.int .i32 0)).heap[w.heap.size]?=some (.cells (trC c.size c.root).toArray 112 (0,0)):=by
  rw [yh _ _ _ _ (by show w.heap.size≠a;have:=s.o;omega)];exact t.o
 refine⟨.agg (trC c.size c.root).toArray,?_,rfl,?_,?_⟩
 ·exact zqn results54 _ _ w.heap.size _ _ (0,0) _ rfl H underlying112 rfl (by rw [z7e,xf,zh9 _ D.o.r8])
 ·exact zq.set (O:=fun b=>b=a) (T:=[zbx]) v.o (.inl rfl) g.o (by simp) _
 ·rw [zav g.o,q.o];rw [Array.setIfInBounds_setIfInBounds,yjq m.o.mu]
end
end Go.Proofs.YtlcllcgngjhoaaaGreatDoor
