import Derived.Test.YtlcllcgngjhoaaaGreatDoorG28
set_option maxHeartbeats 8000000
set_option maxRecDepth 100000
set_option linter.all false
namespace Go.Proofs.YtlcllcgngjhoaaaGreatDoor
open Go.RowKit Go.Proofs.Tryz
variable {B B':Nat}{d d':Dk}{w:World}
def yfg (o:Option (zc))(B:Nat)(e:Value)(w:World):Prop:=(o=none∧e= .nilIface)∨∃ p,o=some p∧zil true p B e w
theorem yfg.weaken {o:Option (zc)}{e:Value}(h:yfg o B e w)(c:B'≤B):yfg o B' e w:=by
 rcases h with h | ⟨p,a,b⟩
 ·exact .inl h
 ·exact .inr ⟨p,a,b.weaken c⟩
theorem yi1 (d:Dk)(p x:zc):(zgg d p x).fs.length≤d.fs.length+1:=by
 have h:=zpg d.fs p x;unfold zgg;split
 ·split
  ·split
   ·exact h
   ·rw [jf];omega
  ·show(jb d).fs.length≤_;rw [jf];omega
 ·split
  ·exact h
  ·rw [jf];omega
theorem zpw:∀(t:Fs) (d:Dk) ,(zbo t d).2.fs.length≤d.fs.length+t.length
 | [],d=>by simp [zbo]
 | f::r,d=>by
  have h:=yi1 d f.1 f.2;unfold zbo;split
  ·simp;omega
  ·have:=zpw r (zgg d f.1 f.2);simp;omega
def zx7 (es:za)(l:Int)(a c t:Nat):Fs:=(List.range' a t).map (zgr es l c)
theorem zy3 (es:za)(l:Int)(a c t:Nat):zx7 es l a c (t+1)=zx7 es l a c t++[zgr es l c (a+t)]:=by
 unfold zx7;rw [List.range'_1_concat,yy]
 rfl
theorem zwb (es:za)(l:Int)(a c t:Nat)(h:t≤(c+3) / 4 - a):zox es l a c=zx7 es l a c t++(List.range' (a+t) ((c+3) / 4 - a - t)).map (zgr es l c):=by
 unfold zox zx7;rw [← yy,List.range'_append_1];congr 2;omega
theorem zzt {a b:Fs}{p:zc}(h:zbo a d=(some p,d')):zbo (a++b) d=(some p,d'):=by rw [zne,h]
theorem ydv {a:Fs}{f:zc×zc}(h:zbo a d=(none,d')):zbo (a++[f]) d=if zp8 d' f.1 f.2 then (some f.1,zgg d' f.1 f.2) else (none,zgg d' f.1 f.2):=by
 rw [zne,h];simp only [zbo]
theorem ygr (O:Nat→Prop)(f d:Nat)(l:Lg)(w:World)(k:l.es.length≤1000000)(c:∀ e∈l.es,e.length≤20)(h:za9 w O f d l)(a:Int)(o:-1≤a)(p:a≤20)(i n:Nat)(b:i+n≤qg a l.es.length)(g:1≤n)(j:n≤4):
  Calls prog 190 #[.pointer (some ⟨d,0,none⟩),.int .i64 a,.int .i64 i,.int .i64 ((i+n:Nat):Int)] w fun r m=>∃ v,r= .returned v∧Below w.heap.size w m∧Bq m v (((List.range' i n).map (zad l.es a)).flatten):=by
 by_cases e:a=-1
 ·subst e;exact yb8 O f d l w k c h i n (by simpa [qg] using b) g j
 ·obtain⟨L,rfl⟩:=qv (show 0≤a by omega);refine yca O f d l w k c h L (by omega) i n ?_ g j;unfold qg at b;rw [yj] at b;exact(zbu (jp (by omega))).1 b
theorem ycs (O:Nat→Prop)(W:World)(hE:Env W)(ah:∀ k,O k→W.heap.size≤k)(G P:Nat)(d:Dk)(l:Lg)(w:World)(hn:d.fs.length≤900000000)(he:l.es.length≤1000000)(ao:l.put≤l.es.length)(af:∀ e∈l.es,e.length≤20)(aG:l.live=true)(hW:Below W.heap.size W w)(h:yw w O G d)(hL:za9 w O G P l)(i:Int)(am:-1≤i)(aF:i≤20):
  Calls prog 140 #[.pointer (some ⟨P,0,none⟩),.int .i64 i] w fun r w'=>∃ e,r= .returned e∧yfg (zbo (zli l.es l.put i) d).1 w.heap.size e w'∧zq O dT w w'∧yw w' (jz O w w') G (zbo (zli l.es l.put i) d).2:=by
 have HD:=zf h;have ay:=zf hL;have aq:=zf af;have HW:=zf hW;have HO:=zf ah;have aC:=zf hE;obtain⟨a,aB,R,aE,-⟩:=lok hL;obtain⟨⟨c0,f0⟩,-,⟨c2,f2⟩,⟨c3,f3⟩⟩:=zwa R;have HB:=zf R;have aX:=zi R;have aR:=zlo i l.es.length;have aS:qg i l.put≤qg i l.es.length:=zd0 ao;have K:Hid (zli l.es l.put i=if qg i l.es.length=qg i l.put then [] else zox l.es i (qg i l.put / 4) (qg i l.es.length)):=rfl;clear h hL af hW ah hE R aE f0 f2 f3 c0;go_enter func140,ntmps140;go_wp2_with fail
 go_region_held3 (fun X=>X.cell? ⟨P,2,none⟩=some (.slice a l.es.length aB)∧X.cell? ⟨P,3,none⟩=some (.int .i64 (l.put:Int))) (go_keep) (first
  | (go_at_call 139;refine(ztw i am (by omega) _ _).mono ?_;rintro r w' ⟨rfl,rfl⟩))
 generalize ak:qg i l.es.length=c at *;generalize aj:qg i l.put=b at *;have ar:=zf (And.intro ak aj);clear ak aj c2 c3
 by_cases D:c=b
 ·have A:Hid (zbo (zli l.es l.put i) d=(none,d)):=by show _=_;rw [K.o,if_pos D];rfl
  have q1:((c:Int)==(b:Int))=true:=by rw [zfu];omega
  clear D;go_wp2_with fail;go_ret;rw [A.o];exact⟨_,rfl,.inl ⟨rfl,rfl⟩,(zq.refl _ _ _).drew,(HD.o.stay (O1:=fun _=>False) (T:=[]) (zq.refl _ _ w).drew (by simp) (by simp)).mono (fun _ h=> .inl h)⟩
 ·have u:Hid (zli l.es l.put i=zox l.es i (b / 4) c):=by show _=_;rw [K.o,if_neg D]
  have q1:((c:Int)==(b:Int))=false:=by rw [yk];omega
  have aQ:b < c:=by omega
  obtain⟨m,M⟩:∃ m,m=b / 4:=⟨_,rfl⟩;have aw:=zf M;have aV:4*m≤b:=by omega
  have aW:b < 4*m+4:=by omega
  rw [← M] at u;clear D M K;go_wp2_with fail
  go_loopg [7,8,9,10] (c+1) (fun gg s7 _ _ _ wr=>∃(t:Nat) (z:Dk),s7= .int .i64 ((4*(m+t):Nat):Int)∧4*(m+t) < c+4∧c+1 - 4*t≤gg∧zbo (zx7 l.es i m c t) d=(none,z)∧zq O dT w wr∧yw wr (jz O w wr) G z)
  case atStart=>exact⟨0,d,by congr 1;have:=aw.o;omega,by omega,by omega,rfl,(zq.refl _ _ _).drew,(HD.o.stay (O1:=fun _=>False) (T:=[]) (zq.refl _ _ w).drew (by simp) (by simp)).mono (fun _ h=> .inl h)⟩
  case round =>
   obtain⟨t,z,rfl,p,aU,N,hT,hD⟩:=hrel;have A:=zf N;have HT:=zf hT;have U:=zf hD;have aI:t≤(c+3) / 4 - m:=by omega
   have Z:=zf (ay.o.stay hT (by decide) (by decide) (by decide));have L:=HW.o.trans (hT.below HO.o HW.o.size);have aN:=zf L;have ag:=aC.out.below L;have aD:z.fs.length≤1000000000:=by
    have h1:=zpw (zx7 l.es i m c t) d;rw [N] at h1;have h2:(zx7 l.es i m c t).length=t:=by unfold zx7;simp
    simp only [h2] at h1;omega
   clear N hT hD L;obtain⟨J,hJ⟩:∃ J,J=m+t:=⟨_,rfl⟩;rw [← hJ] at p ⊢;have Q:=zf hJ;obtain⟨F,hF⟩:∃ F,F=4*J:=⟨_,rfl⟩;rw [← hF] at p ⊢;have I:=zf hF
   by_cases aY:F < c
   ·have an:(F:Int) < (c:Int):=by omega
    obtain⟨j,q⟩:∃ j,j=wid c J:=⟨_,rfl⟩;have aJ:1≤j:=by rw [q];unfold wid;omega
    have aK:j≤4:=by rw [q];unfold wid;omega
    have aL:F+j≤c:=by rw [q];unfold wid;omega
    have aZ:min ((F:Int)+4) (c:Int)=(F:Int)+(j:Int):=by rw [q];unfold wid;omega
    have aA:=zf q;have aP:J≤1000000:=by omega
    clear hJ hF q;have ae:Hid (zgr l.es i c (m+t)=(qq i J j,((List.range' F j).map (zad l.es i)).flatten)):=by
     show _=_;rw [← Q.o];unfold zgr zih;rw [← aA.o,← I.o]
    go_wp2_with fail;rw [show((F:Int) / 4)=(J:Int) by have:=I.o;omega,show((F:Int)+(j:Int) - (F:Int))=(j:Int) by omega];refine(zwk i J j (by omega) wr ag).mono ?_;rintro r w2 ⟨rfl,B⟩;have ai:zq O dT w w2:=HT.o.then_below B;have az:=zf ai;have x:zq O [] wr w2:= .of_below B;have Y:=zf (Z.o.stay x (by decide) (by decide) (by decide));have au:=zf (U.o.stay x (by decide) (by decide));have aH:Hid (wr.heap.size≤w2.heap.size):=B.size;clear B ai x ag;go_wp2_with fail;rw [show((F:Int)+(j:Int))=((F+j:Nat):Int) by omega];refine(ygr _ G P l w2 he aq.o Y.o i am aF F j (by rw [ar.o.1];exact aL) aJ aK).mono ?_;rintro r w3 ⟨v,rfl,C,hq⟩;have HQ:=zf hq;obtain⟨va,vn,vc,rfl⟩:=z2j hq;have y:zq O [] w2 w3:= .of_below C;have ab:Hid (zq O dT w w3):=az.o.then_below C;have ax:=zf (Y.o.stay y (by decide) (by decide) (by decide));have av:=zf (au.o.stay y (by decide) (by decide));have ap:Hid (wr.heap.size≤w3.heap.size):=zu aH.out C.size;have H:w3.cell? ⟨P,0,none⟩=some (stV G true):=by
     obtain⟨_,_,R,-⟩:=lok ax.o;have:=(zwa R).1.1;rw [aG] at this;exact this
    clear C hq y;generalize aM:((List.range' F j).map (zad l.es i)).flatten=xx at *;go_wp2_with fail;refine(yhs (jz O w wr) G P z (qq i J j) xx (.slice va vn vc) w3 aD av.o HQ.o H).mono ?_;rintro r w4 ⟨e,rfl,E,p,al⟩;have ad:Hid (zq O dT w w4):=ab.o.trans (p.mono (fun k hk=>by rcases hk with h | h;exact .inl h;exact .inr ⟨h.1,zx h.2 ap.out⟩) (fun _ h=>h));have S:Hid (yw w4 (jz O w w4) G (zgg z (qq i J j) xx)):=al.mono (fun k hk=>by
     have a0:=HT.o.size;have aO:=p.size;have:=ap.out;rcases hk with (h | h) | h
     ·exact .inl h
     ·exact .inr (by omega)
     ·exact .inr (by omega))
    have aa:=zf (ydv (f:=zgr l.es i c (m+t)) A.o);have V:=zf (E.weaken ab.o.size);clear p al H aM;rcases zh5 E with ⟨n,rfl⟩ | ⟨n,g,rfl⟩
    ·have s:Hid (zbo (zx7 l.es i m c (t+1)) d=(none,zgg z (qq i J j) xx)):=by
      show _=_;rw [zy3,aa.o,ae.o];simp only [n,zas,zd3]
     clear E n;go_wp2_with fail
     go_roundg (gk - 1)
     case rel=>exact⟨t+1,zgg z (qq i J j) xx,by congr 1;have:=Q.o;have:=I.o;omega,by have:=Q.o;have:=I.o;omega,by omega,s.o,ad.o,S.o⟩
     case measure=>have:=Q.o;have:=I.o;omega
    ·have s:Hid (zbo (zli l.es l.put i) d=(some (qq i J j),zgg z (qq i J j) xx)):=by
      show _=_;rw [u.o,zwb l.es i m c (t+1) (by have:=Q.o;have:=I.o;omega)];refine zzt ?_;rw [zy3,aa.o,ae.o];simp only [n,if_true]
     rw [n] at V;clear E n;go_wp2_with fail;go_ret;rw [s.o];exact⟨_,rfl,.inr ⟨_,rfl,V.o⟩,ad.o,S.o⟩
   ·have s:Hid (zbo (zli l.es l.put i) d=(none,z)):=by
     show _=_;rw [u.o,zwb l.es i m c t aI,show(c+3) / 4 - m - t=0 by have:=Q.o;have:=I.o;omega];simp only [List.range'_zero,zku,za3];exact A.o
    have an:¬(F:Int) < (c:Int):=by omega
    go_wp2_with fail;go_ret;rw [s.o];exact⟨_,rfl,.inl ⟨rfl,rfl⟩,HT.o,U.o⟩
variable {l':Int}
def tlv (es:za)(a t:Nat):Fs:=(List.range t).flatMap fun(k:Nat)=>zli es a ((k:Int) - 1)
theorem z5s (es:za)(a t:Nat):tlv es a (t+1)=tlv es a t++zli es a ((t:Int) - 1):=by
 unfold tlv;rw [zfe,zim];simp
theorem ya0 (es:za)(a:Nat):tlv es a 22=zah es a:=by
 unfold tlv zah z1s;rw [List.range_succ_eq_map,zd9,List.flatMap_map];congr 1
theorem z2w {l:Int}(h:l≤l')(n:Nat):qg l' n≤qg l n:=by
 unfold qg;exact Nat.div_le_div_left (js (by omega) (by omega)) (jp (by omega))
theorem yjx (es:za)(a t:Nat)(b:a≤es.length)(c:t≤22)(h:qg ((t:Int) - 1) es.length=0):tlv es a t=zah es a:=by
 rw [← ya0];unfold tlv;rw [zyy _ t 22 c];intro k f;have d:=z2w (show((t:Int) - 1)≤((k:Int) - 1) by omega) es.length;have e:qg ((k:Int) - 1) a≤qg ((k:Int) - 1) es.length:=zd0 b;unfold zli;rw [if_pos (by omega)]
theorem ykv (n:Nat)(d:n≤1000000)(l:Int)(a:10≤l):qg l n=0:=by
 have b:=z2w a n;have c:qg 10 n=0:=by
  unfold qg;exact zet (by simp;omega)
 omega
theorem ya1 (es:za)(a:Nat):∀(n t:Nat),∃ r,tlv es a (t+n)=tlv es a t++r
 | 0,t=>⟨[],by simp⟩
 | n+1,t=>by
  obtain⟨r,b⟩:=ya1 es a n t;exact⟨r++zli es a (((t+n:Nat):Int) - 1),by rw [← zes,z5s,b,xt]⟩
theorem zz7 (es:za)(a t:Nat)(c:t≤22):∃ r,zah es a=tlv es a t++r:=by
 obtain⟨r,b⟩:=ya1 es a (22 - t) t;rw [show t+(22 - t)=22 by omega,ya0] at b;exact⟨r,b⟩
theorem yix {zah:Fs}{c:zc}{p:zc}(h:zbo zah d=(some p,d')):zd4 zah c d=(some p,d'):=by
 unfold zd4;rw [h]
theorem yiy {zah:Fs}{c:zc}(h:zbo zah d=(none,d')):zd4 zah c d=if bad d' then (some cpF,zj4 d' cpF c) else (none,zj4 d' cpF c):=by
 unfold zd4;rw [h]
theorem ye8 (O:Nat→Prop)(W:World)(hE:Env W)(T:∀ k,O k→W.heap.size≤k)(H lb:Nat)(d:Dk)(l:Lg)(w:World)(hn:d.fs.length+(zah l.es l.put).length≤900000000)(he:l.es.length≤1000000)(A:l.put≤l.es.length)(Q:∀ e∈l.es,e.length≤20)(hk:l.key.length≤9223372036854775807)(V:l.live=true)(hW:Below W.heap.size W w)(h:yw w O H d)(hL:za9 w O H lb l):
  Calls prog 99 #[.pointer (some ⟨lb,0,none⟩)] w fun r w'=>∃ e,r= .returned e∧yfg (zd4 (zah l.es l.put) (zbp l.es.length (qm l.es) l.key) d).1 w.heap.size e w'∧zq O dT w w'∧yw w' (jz O w w') H (zd4 (zah l.es l.put) (zbp l.es.length (qm l.es) l.key) d).2:=by
 have HD:=zf h;have ab:=zf hL;have J:=zf Q;have HW:=zf hW;have HO:=zf T;have S:=zf hE;obtain⟨a,ai,hb,-⟩:=lok hL;obtain⟨-,-,⟨c2,f2⟩,-⟩:=zwa hb;clear h hL Q hW T hE hb f2;go_enter func99,ntmps99;go_wp2_with fail;clear c2
 go_loopg [4,5] 30 (fun gg s4 _ wr=>∃(t:Nat) (i:Dk),t≤11∧30 - t≤gg∧s4= .int .i64 ((t:Int) - 1)∧zbo (tlv l.es l.put t) d=(none,i)∧zq O dT w wr∧yw wr (jz O w wr) H i)
 case atStart=>exact⟨0,d,by omega,by omega,rfl,rfl,zq.refl _ _ _,HD.o.mono (fun _ h=> .inl h)⟩
 case round =>
  obtain⟨t,i,ah,aj,rfl,Y,hT,hD⟩:=hrel;have x:=zf Y;have D:=zf hT;have L:=zf hD;have y:=zf ((ab.o.stay hT (by decide) (by decide) (by decide)).mono (O':=jz O w wr) (fun _ h=> .inl h));have R:=HW.o.trans (hT.below HO.o HW.o.size);have K:=zf R;have ad:Hid (∀ k,jz O w wr k→W.heap.size≤k):=jz.base HO.o HW.o.size;obtain⟨f,s⟩:∃ f:Int,(t:Int) - 1=f:=⟨_,rfl⟩;have z:-1≤f:=by omega
  have af:f≤10:=by omega
  have v:=zf s;rw [s];clear Y hT hD R s;go_wp2_with fail;refine(ztw f z (by omega) l.es.length wr).mono ?_;rintro r Z ⟨rfl,rfl⟩
  by_cases hc:0 < qg f l.es.length
  ·have ae:(0:Int) < ((qg f l.es.length:Nat):Int):=by omega
   have ag:t≤10:=by
    rcases qu 10 t with h | h
    ·have:=ykv l.es.length he f (by have:=v.o;omega);omega
    ·exact h
   generalize qg f l.es.length=cc at ae ⊢;have F:i.fs.length≤900000000:=by
    have I:=zpw (tlv l.es l.put t) d;rw [x.o] at I;obtain⟨rr,G⟩:=zz7 l.es l.put t (by omega);have h2:(zah l.es l.put).length=(tlv l.es l.put t).length+rr.length:=by rw [G,zy]
    simp only at I;omega
   go_wp2_with fail;refine(ycs (jz O w Z) W S.out ad.o H lb i l Z F he A J.o V K.o L.o y.o f z (by omega)).mono ?_;rintro r w2 ⟨e,rfl,U,c,q⟩;have m:Hid (zq O dT w w2):=D.o.trans c;have j:=zf (q.mono (jz.trans D.o.size c.size));have M:Hid (zbo (tlv l.es l.put (t+1)) d=zbo (zli l.es l.put f) i):=by
    show _=_;rw [z5s,zne,x.o,v.o]
   have aa:=zf (U.weaken D.o.size);clear c q;rcases U with ⟨X,rfl⟩ | ⟨p,hp,b⟩
   ·have C:Hid (zbo (tlv l.es l.put (t+1)) d=(none,(zbo (zli l.es l.put f) i).2)):=by
     show _=_;rw [M.o];exact Prod.ext X rfl
    clear X;generalize (zbo (zli l.es l.put f) i).2=d2 at *;go_wp2_with fail
    go_roundg (gk - 1)
    case rel=>exact⟨t+1,d2,by omega,by omega,by congr 1;have:=v.o;omega,C.o,m.o,j.o⟩
    case measure=>omega
   ·have C:Hid (zd4 (zah l.es l.put) (zbp l.es.length (qm l.es) l.key) d=(some p,(zbo (zli l.es l.put f) i).2)):=by
     show _=_;obtain⟨rr,G⟩:=zz7 l.es l.put (t+1) (by omega);refine yix ?_;rw [G];refine zzt ?_;rw [M.o];exact Prod.ext hp rfl
    obtain⟨g,rfl⟩:∃ g,e= .iface 177 (.pointer (some ⟨g,0,none⟩)):=by
     rcases zh5 b with ⟨h,-⟩ | ⟨-,h⟩
     ·simp at h
     ·exact h
    have B:=zf (b.weaken D.o.size);clear hp b aa;go_wp2_with fail;go_ret;rw [C.o];exact⟨_,rfl,.inr ⟨p,rfl,B.o⟩,m.o,j.o⟩
  ·have E:qg f l.es.length=0:=by omega
   have P:Hid (tlv l.es l.put t=zah l.es l.put):=yjx l.es l.put t A (by omega) (by rw [v.o];exact E);rw [E];have F:i.fs.length≤1000000000:=by
    have I:=zpw (tlv l.es l.put t) d;rw [x.o] at I;rw [P.o] at I;simp only at I;omega
   clear hc E;go_wp2_with fail;refine(ycx (jz O w Z) (jz O w Z) H lb i l Z (S.out.below K.o) F he J.o hk V L.o y.o).mono ?_;rintro r w2 ⟨e,rfl,b,c,q⟩;have m:Hid (zq O dT w w2):=D.o.trans c;have j:=zf (q.mono (jz.trans D.o.size c.size));have N:Hid (zd4 (zah l.es l.put) (zbp l.es.length (qm l.es) l.key) d=if bad i then (some cpF,zj4 i cpF (zbp l.es.length (qm l.es) l.key)) else (none,zj4 i cpF (zbp l.es.length (qm l.es) l.key))):=by
    refine yiy ?_;rw [← P.o];exact x.o
   have B:=zf (b.weaken D.o.size);clear c q;rcases zh5 b with ⟨n,rfl⟩ | ⟨n,g,rfl⟩
   ·clear b;have u:=zf n;clear n;go_wp2_with fail;go_ret;rw [N.o,u.o];exact⟨_,rfl,.inl ⟨rfl,rfl⟩,m.o,j.o⟩
   ·clear b;have u:=zf n;clear n;go_wp2_with fail;go_ret;rw [N.o,u.o];refine⟨_,rfl,.inr ⟨cpF,rfl,?_⟩,m.o,j.o⟩;have:=B.o;rw [u.o] at this;exact this
variable {O:Nat→Prop}{cap db i lb:Nat}{u:Value}{w2:World}
abbrev pT:List Nat:=[82,99,196]
theorem zlt {p:Addr}:∀ k,jz O w w2 k→jz O w (w2.setCell p u) k:=fun _ h=>jz.more (by simp [World.setCell]) _ h
theorem yhr {a:Option Addr}{l:Lg}(b:w.heap[lb]?=some (.cells (zk3 db (.slice a l.es.length cap) l) 196 (0,0))):(w.setCell ⟨lb,0,none⟩ .nilIface).heap[lb]?=some (.cells (zk3 db (.slice a l.es.length cap) { l with live:=false }) 196 (0,0)):=zav b 0 _
theorem yao {a:Option Addr}{l l':Lg}(k:w.heap[lb]?=some (.cells (zk3 db (.slice a l.es.length cap) l) 196 (0,0)))(c:OBs w 0 (.slice a l.es.length cap) l.es)(n:∀ g,(Value.slice a l.es.length cap).ownBlock=some g→O g)(h:O lb)
 (b:(w.setCell ⟨lb,i,none⟩ u).heap[lb]?=some (.cells (zk3 db (.slice a l.es.length cap) l') 196 (0,0))) (m:l'.es=l.es):za9 (w.setCell ⟨lb,i,none⟩ u) O db lb l':=by
 have d:zq (fun _=>True) [196] w (w.setCell ⟨lb,i,none⟩ u):=(zq.refl _ _ w).set (.inl trivial) k (by simp) u;refine⟨_,h,b,?_,n⟩;rw [m];obtain⟨r,p,q⟩:=c;exact⟨r,zo p d (by decide),fun j o=>by
  obtain⟨z,e,f⟩:=q j o;exact⟨z,e,zo f.1 d (by decide),f.2⟩⟩
theorem z4t (O:Nat→Prop)(W:World)(B:Nat→Addr)(hE:Env W)(F:zbz W B)(D:∀ k,O k→W.heap.size≤k)(m q:Nat)(d:Dk)(l:Lg)(w:World)(hn:d.fs.length+(zah l.es l.put).length≤900000000)(he:l.es.length≤1000000)(L:l.put≤l.es.length)(C:∀ e∈l.es,e.length≤20)(hk:l.key.length≤9223372036854775807)(X:Below W.heap.size W w)(h:yw w O m d)(hL:za9 w O m q l):
  Calls prog 69 #[.pointer (some ⟨q,0,none⟩)] w fun r c=>zq O pT w c ∧
   ((l.live=false∧r= .returned (.tuple #[.int .i64 0,zd2 B 6])∧Below w.heap.size w c) ∨
    (l.live=true∧(zd4 (zah l.es l.put) (zbp l.es.length (qm l.es) l.key) d).1=none∧r= .returned (.tuple #[.int .i64 (l.es.length:Int),.nilIface])∧yw c (jz O w c) m (zd4 (zah l.es l.put) (zbp l.es.length (qm l.es) l.key) d).2∧za9 c (jz O w c) m q { l with put:=l.es.length }) ∨
    (l.live=true∧∃ p e,(zd4 (zah l.es l.put) (zbp l.es.length (qm l.es) l.key) d).1=some p∧r= .returned (.tuple #[.int .i64 0,e])∧zil true p w.heap.size e c∧yw c (jz O w c) m (zd4 (zah l.es l.put) (zbp l.es.length (qm l.es) l.key) d).2∧za9 c (jz O w c) m q { l with live:=false })):=by
 have HD:=zf h;have i:=zf hL;have P:=zf C;have HW:=zf X;have HO:=zf D;have V:=zf hE;have HS:=zf (zdt F X);clear h hL C X D hE F;generalize K:zd4 (zah l.es l.put) (zbp l.es.length (qm l.es) l.key) d=pr;have z:=zf K;clear K;cases b:l.live with
 | false =>
  have h6:=HS.o.failed;go_enter func69,ntmps69;go_wp2_with fail;refine(zm4 O m q l w i.o).mono ?_;rintro r N ⟨rfl,rfl⟩;rw [b];go_wp2_with fail
  go_region
  all_goals go_wp2_with fail
  all_goals go_ret2
  all_goals exact⟨(zq.refl _ _ _).drew,.inl ⟨by first | rfl | trivial,rfl,(yf _ _).drew⟩⟩
 | true =>
  go_enter func69,ntmps69;go_wp2_with fail;refine(zm4 O m q l w i.o).mono ?_;rintro r N ⟨rfl,rfl⟩;rw [b];go_wp2_with fail;refine(ye8 O W V.out HO.o m q d l N hn he L P.o hk b HW.o HD.o i.o).mono ?_;rintro r v ⟨e,rfl,I,u,s⟩;rw [z.o] at I s;clear z;have A:=zf u;have x:=zf s;have R:=zf ((i.o.stay u (by decide) (by decide) (by decide)).mono (O':=jz O N v) (fun _ h=> .inl h));clear u s;obtain⟨a,aa,Y,G,H,E⟩:=lok R.o;obtain⟨⟨c0,f0⟩,-,⟨c2,f2⟩,⟨c3,f3⟩⟩:=zwa Y;have f:=zf Y;have y:=zf G;have HG:=zf H;have j:=zf E;clear Y G H E;rcases I with ⟨J,rfl⟩ | ⟨p,hp,t⟩
  ·have U:=zf J;have S:=zf b;clear J b c0 f0;have k3:=(zw (zav f.o 3 (.int .i64 (l.es.length:Int))) 3 _ rfl).1;go_wp2_with fail
   go_ret2
   have n:=yao (O:=jz O N v) (l':={ l with put:=l.es.length }) f.o y.o HG.o j.o (zav f.o 3 (.int .i64 (l.es.length:Int))) rfl;refine⟨A.o.mono (fun _ h=>h) (by decide) |>.set j.o f.o (by decide) _,.inr (.inl ⟨by first | rfl | trivial,U.o,rfl,?_,?_⟩)⟩
   ·exact(x.o.stay ((zq.refl _ _ v).set (O:=fun _=>True) (T:=[196]) (.inl trivial) f.o (by simp) _) (by decide) (by decide)).mono zlt
   ·rw [S.o] at n;exact n.mono zlt
  ·have HP:=zf hp;obtain⟨g,rfl⟩:∃ g,e= .iface 177 (.pointer (some ⟨g,0,none⟩)):=by
    rcases zh5 t with ⟨h,-⟩ | ⟨-,h⟩
    ·simp at h
    ·exact h
   have Q:=zf t;clear hp t b;go_wp2_with fail
   go_ret2
   have n:=yao (O:=jz O N v) (l':={ l with live:=false }) f.o y.o HG.o j.o (yhr f.o) rfl;have M:zq (fun _=>True) [196] v (v.setCell ⟨q,0,none⟩ .nilIface):=(zq.refl _ _ v).set (.inl trivial) f.o (by simp) _;refine⟨A.o.mono (fun _ h=>h) (by decide) |>.set j.o f.o (by decide) _,.inr (.inr ⟨by first | rfl | trivial,p,_,HP.o,rfl,?_,?_,?_⟩)⟩
   ·rcases Q.o with ⟨h,-⟩ | ⟨h,g',e',hB,Z⟩
    ·exact .inl ⟨h,by simp at h⟩
    ·exact .inr ⟨h,g',e',hB,Z.turn M (by decide) (by decide)⟩
   ·exact(x.o.stay M (by decide) (by decide)).mono zlt
   ·exact n.mono zlt
section
open Go.RowKit Go.Extern.Stop Go.Stop Go.Extern
end
variable {C:Array Value}{W:World}{j:Nat}{v:Value}
def yjy (n:Int)(p:zc):Value:= .agg #[.int .i64 n,.string ⟨p.toArray⟩]
theorem z2e (v:Value)(W:World):(Instr.typeAssert (.iface 177 v) 102 177 true).run prog W= .ok (.tuple #[v,.bool true]) W:=by kernel_rfl
theorem zg9 (d:W.heap[B]?=some (.cells C 52 (0,0)))(n:Int)(p:zc)(c:C.size=2):((W.setCell ⟨B,0,none⟩ (.int .i64 n)).setCell ⟨B,1,none⟩ (.string ⟨p.toArray⟩)).heap[B]?=some (.cells #[.int .i64 n,.string ⟨p.toArray⟩] 52 (0,0)):=by
 rw [zav (zav d 0 _) 1 _];obtain⟨l⟩:=C
 match l,c with
 | [a,b],_=>rfl
theorem zoi (h:Below w.heap.size w W):Below w.heap.size w ((W.setCell ⟨w.heap.size,i,none⟩ u).setCell ⟨w.heap.size,j,none⟩ v):=(h.setCell (zm _) _).setCell (zm _) _
theorem yls (a:Nat→Addr)(d:Nat)(p:zc)(w:World)(H:zbz w a)(B:w.heap[d]?=some (.cells #[qo p,zd2 a 5] 179 (0,0))):
  Calls prog 50 #[za7 d] w fun e O=>e= .returned (yjy 6 p)∧Below w.heap.size w O:=by
 obtain⟨h0,m,n,q,s,A,t,u,x⟩:=H;clear u x;have R:∀ o,(w.alloc o).cell? ⟨1,0,none⟩=some (.iface 364 (.pointer (some (a 0)))):=fun o=>by rw [yp _ _ ⟨_,0,none⟩ (yg h0)];exact h0
 have S:∀ o,(w.alloc o).cell? ⟨2,0,none⟩=some (.iface 364 (.pointer (some (a 1)))):=fun o=>by rw [yp _ _ ⟨_,0,none⟩ (yg m)];exact m
 have T:∀ o,(w.alloc o).cell? ⟨0,0,none⟩=some (.iface 364 (.pointer (some (a 2)))):=fun o=>by rw [yp _ _ ⟨_,0,none⟩ (yg n)];exact n
 have U:∀ o,(w.alloc o).cell? ⟨3,0,none⟩=some (.iface 364 (.pointer (some (a 3)))):=fun o=>by rw [yp _ _ ⟨_,0,none⟩ (yg q)];exact q
 have V:∀ o,(w.alloc o).cell? ⟨4,0,none⟩=some (.iface 364 (.pointer (some (a 4)))):=fun o=>by rw [yp _ _ ⟨_,0,none⟩ (yg s)];exact s
 have X:∀ o,(w.alloc o).cell? ⟨5,0,none⟩=some (.iface 364 (.pointer (some (a 6)))):=fun o=>by rw [yp _ _ ⟨_,0,none⟩ (yg t)];exact t
 have y:=zf A;have z:=zf B;clear h0 m n q s A t B;have J:=z2e (.pointer (some ⟨d,0,none⟩));have I:∀ W,(binOp .eql 102 (.iface 364 (.pointer (some (a 5)))) (.iface 364 (.pointer (some (a 5))))).run prog W= .ok (.bool true) W:=fun W=>by
  obtain⟨i,E,f⟩:=zz.1 zj8;obtain⟨j,F,G⟩:=zz.1 zkf;exact zch W (a 5) underlying102 underlying364 E f F
 unfold za7;go_enter func50,ntmps50;go_wp2_with fail;obtain⟨N,h,-,D,b⟩:=z6k w (.cells #[.int .i64 0,.string ⟨#[]⟩] 52) (.cells #[.nilIface,.iface 364 (.pointer (some (a 0))),.iface 364 (.pointer (some (a 1))),.iface 364 (.pointer (some (a 2))),.iface 364 (.pointer (some (a 3))),.iface 364 (.pointer (some (a 4))),.nilIface,.iface 364 (.pointer (some (a 6)))] 102) (.cells #[.pointer none] 176);generalize (((w.alloc (.cells #[.int .i64 0,.string ⟨#[]⟩] 52)).alloc (.cells #[.nilIface,.iface 364 (.pointer (some (a 0))),.iface 364 (.pointer (some (a 1))),.iface 364 (.pointer (some (a 2))),.iface 364 (.pointer (some (a 3))),.iface 364 (.pointer (some (a 4))),.nilIface,.iface 364 (.pointer (some (a 6)))] 102)).alloc (.cells #[.pointer none] 176))=g at *;have Z:g.cell? ⟨6,0,none⟩=some (.iface 364 (.pointer (some (a 5)))):=by rw [b.cell (p:=⟨_,0,none⟩) (yg y.o)];exact y.o
 have c:g.heap[d]?=some (.cells #[qo p,zd2 a 5] 179 (0,0)):=by rw [b.block _ (zi z.o)];exact z.o
 have Y:g.cell? ⟨d,0,none⟩=some (.string ⟨p.toArray⟩):=(zw c 0 (qo p) rfl).1;have K:g.cell? ⟨d,1,none⟩=some (.iface 364 (.pointer (some (a 5)))):=(zw c 1 (zd2 a 5) rfl).1;have L:=zw h 0 _ rfl;have M:=zw h 1 _ rfl;obtain⟨P,z0⟩:=L;obtain⟨Q,z1⟩:=M;have C:=zf K;have k:=zf h;have l:=zf b;clear c h D b N
 go_region_with (go_at_call 86;refine(z00 d (a 5) _ ?_).mono ?_;exact C.out;rintro r w1 ⟨rfl,rfl⟩)
 all_goals go_wp2_with fail
 all_goals exact z8 (v:=yjy 6 p) (zbs results50 _ _ w.heap.size 52 _ (0,0) _ rfl (zg9 (by exact k.o) 6 p rfl) underlying52 rfl (by kernel_rfl)) rfl ⟨rfl,zoi l.o.drew⟩
end Go.Proofs.YtlcllcgngjhoaaaGreatDoor
