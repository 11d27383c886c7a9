import Derived.Test.YtndkblnpbjffhaaGreatDoorG23
set_option maxHeartbeats 2000000
set_option maxRecDepth 100000
open Go.RowKit
namespace Go.Proofs.YtndkblnpbjffhaaGreatDoor
def z6o (o:Option (List UInt8))(B:Nat)(e:Value)(w:World):Prop:=(o=none∧e= .nilIface)∨∃ p,o=some p∧zc1 true p B e w
theorem z6o.weaken {o:Option (List UInt8)}{B r:Nat}{e:Value}{w:World}(h:z6o o B e w)(A:r≤B):z6o o r e w:=by
 rcases h with h | ⟨p,h1,h2⟩
 ·exact .inl h
 ·exact .inr ⟨p,h1,h2.weaken A⟩
theorem z4p (d:Dk)(p x:List UInt8):(za8 d p x).fs.length≤d.fs.length+1:=by
 have h:=zgt d.fs p x;unfold za8
 split
 ·split
  ·split
   ·exact h
   ·rw [yi];omega
  ·show(yg d).fs.length≤_;rw [yi];omega
 ·split
  ·exact h
  ·rw [yi];omega
theorem zh1:∀(t:Fs) (d:Dk) ,(qy t d).2.fs.length≤d.fs.length+t.length
 | [],d=>by simp [qy]
 | f::r,d=>by
  have h:=z4p d f.1 f.2;unfold qy
  split
  ·simp;omega
  ·have:=zh1 r (za8 d f.1 f.2);simp;omega
def zn9 (es:List (List UInt8))(l:Int)(h c t:Nat):Fs:=(List.range' h t).map (zbg es l c)
theorem zpj (es:List (List UInt8))(l:Int)(h c t:Nat):zn9 es l h c (t+1)=zn9 es l h c t++[zbg es l c (h+t)]:=by
 unfold zn9;rw [List.range'_1_concat,List.map_append];rfl
theorem zl9 (es:List (List UInt8))(l:Int)(r c t:Nat)(h:t≤(c+3) / 4 - r):zhb es l r c=zn9 es l r c t++(List.range' (r+t) ((c+3) / 4 - r - t)).map (zbg es l c):=by
 unfold zhb zn9;rw [← List.map_append,List.range'_append_1];congr 2;omega
theorem zp0 {a b:Fs}{d r:Dk}{p:List UInt8}(h:qy a d=(some p,r)):qy (a++b) d=(some p,r):=by rw [zfu,h]
theorem zzs {a:Fs}{f:List UInt8×List UInt8}{d r:Dk}(h:qy a d=(none,r)):qy (a++[f]) d=if zh9 r f.1 f.2 then (some f.1,za8 r f.1 f.2) else (none,za8 r f.1 f.2):=by
 rw [zfu,h];simp only [qy]
theorem z6h (O:Nat→Prop)(E lb:Nat)(l:Lg)(w:World)(I:l.es.length≤1000000)(h20:∀ e∈l.es,e.length≤20)(h:qz w O E lb l)(A:Int)(J:-1≤A)(K:A≤20)(i n:Nat)(D:i+n≤yd A l.es.length)(h1:1≤n)(H:n≤4):
  Calls Tryz.prog 216 #[.pointer (some ⟨lb,0,none⟩),.int .i64 A,.int .i64 i,.int .i64 ((i+n:Nat):Int)] w fun r w'=>∃ v,r= .returned v∧Below w.heap.size w w'∧Bq w' v (((List.range' i n).map (xo l.es A)).flatten):=by
 by_cases e:A=-1
 ·subst e;exact z1i O E lb l w I h20 h i n (by simpa [yd] using D) h1 H
 ·obtain⟨L,rfl⟩:=Int.eq_ofNat_of_zero_le (show 0≤A by omega);refine z0m O E lb l w I h20 h L (by omega) i n ?_ h1 H;unfold yd at D;rw [Int.toNat_natCast] at D;exact(Nat.le_div_iff_mul_le (Nat.pow_pos (by omega))).1 D
theorem z1h (O:Nat→Prop)(W:World)(hE:Env W)(ar:∀ k,O k→W.heap.size≤k)(Z lb:Nat)(d:Dk)(l:Lg)(w:World)(hn:d.fs.length≤900000000)(he:l.es.length≤1000000)(aI:l.put≤l.es.length)(h20:∀ e∈l.es,e.length≤20)(aH:l.live=true)(hW:Below W.heap.size W w)(h:zq w O Z d)(hL:qz w O Z lb l)(A:Int)(ay:-1≤A)(aF:A≤20):
  Calls Tryz.prog 194 #[.pointer (some ⟨lb,0,none⟩),.int .i64 A] w fun r w'=>∃ e,r= .returned e∧z6o (qy (zeq l.es l.put A) d).1 w.heap.size e w'∧zg O dT w w'∧zq w' (Ext O w w') Z (qy (zeq l.es l.put A) d).2:=by
 have HD:=za h;have a7:=za hL;have a1:=za h20;have HW:=za hW;have HO:=za ar;have aC:=za hE;obtain⟨a,aB,hb,aE,-⟩:=lok hL;obtain⟨⟨c0,f0⟩,-,⟨c2,f2⟩,⟨c3,f3⟩⟩:=zmq hb;have HB:=za hb;have aZ:=zb hb;have aU:=zeu A l.es.length;have aV:yd A l.put≤yd A l.es.length:=Nat.div_le_div_right aI;have aa:Hid (zeq l.es l.put A=if yd A l.es.length=yd A l.put then [] else zhb l.es A (yd A l.put / 4) (yd A l.es.length)):=rfl;clear h hL h20 hW ar hE hb aE f0 f2 f3 c0;go_enter Tryz.func194,Tryz.ntmps194;go_wp2_with fail;go_region_held3 (fun X=>X.cell? ⟨lb,2,none⟩=some (.slice a l.es.length aB)∧X.cell? ⟨lb,3,none⟩=some (.int .i64 (l.put:Int))) (go_keep) (first
  | (go_at_call 139;refine(zk2 A ay (by omega) _ _).mono ?_;rintro r w' ⟨rfl,rfl⟩))
 generalize aw:yd A l.es.length=c at *
 generalize av:yd A l.put=b at *
 have a2:=za (And.intro aw av);clear aw av c2 c3;by_cases V:c=b
 ·have R:Hid (qy (zeq l.es l.put A) d=(none,d)):=by show _=_;rw [aa.o,if_pos V];rfl
  have q1:((c:Int)==(b:Int))=true:=by rw [beq_iff_eq];omega
  clear V;go_wp2_with fail;go_ret;rw [R.o];exact⟨_,rfl,.inl ⟨rfl,rfl⟩,(zg.refl _ _ _).drew,(HD.o.stay (O1:=fun _=>False) (T:=[]) (zg.refl _ _ w).drew (by simp) (by simp)).mono (fun _ h=> .inl h)⟩
 ·have ac:Hid (zeq l.es l.put A=zhb l.es A (b / 4) c):=by show _=_;rw [aa.o,if_neg V]
  have q1:((c:Int)==(b:Int))=false:=by rw [beq_eq_false_iff_ne];omega
  have aS:b < c:=by omega
  obtain⟨E,ag⟩:∃ E,E=b / 4:=⟨_,rfl⟩
  have a5:=za ag;have aX:4*E≤b:=by omega
  have aY:b < 4*E+4:=by omega
  rw [← ag] at ac;clear V ag aa;go_wp2_with fail
  go_loopg [7,8,9,10] (c+1) (fun gg s7 _ _ _ wr=>∃(t:Nat) (Q:Dk),s7= .int .i64 ((4*(E+t):Nat):Int)∧4*(E+t) < c+4∧c+1 - 4*t≤gg∧qy (zn9 l.es A E c t) d=(none,Q)∧zg O dT w wr∧zq wr (Ext O w wr) Z Q)
  case atStart=>exact⟨0,d,by congr 1;have:=a5.o;omega,by omega,by omega,rfl,(zg.refl _ _ _).drew,(HD.o.stay (O1:=fun _=>False) (T:=[]) (zg.refl _ _ w).drew (by simp) (by simp)).mono (fun _ h=> .inl h)⟩
  case round =>
   obtain⟨t,Q,rfl,I,aW,ah,hT,hD⟩:=hrel;have R:=za ah;have HT:=za hT;have aj:=za hD;have aK:t≤(c+3) / 4 - E:=by omega
   have a8:=za (a7.o.stay hT (by decide) (by decide) (by decide));have ad:=HW.o.trans (hT.below HO.o HW.o.size);have aP:=za ad;have aq:=aC.out.below ad;have aD:Q.fs.length≤1000000000:=by
    have h1:=zh1 (zn9 l.es A E c t) d;rw [ah] at h1;have h2:(zn9 l.es A E c t).length=t:=by unfold zn9;simp
    simp only [h2] at h1;omega
   clear ah hT hD ad;obtain⟨J,hJ⟩:∃ J,J=E+t:=⟨_,rfl⟩
   rw [← hJ] at I ⊢;have HJ:=za hJ;obtain⟨F,hF⟩:∃ F,F=4*J:=⟨_,rfl⟩
   rw [← hF] at I ⊢;have HF:=za hF;by_cases ba:F < c
   ·have aG:(F:Int) < (c:Int):=by omega
    obtain⟨D,K⟩:∃ D,D=wid c J:=⟨_,rfl⟩
    have aL:1≤D:=by rw [K];unfold wid;omega
    have aM:D≤4:=by rw [K];unfold wid;omega
    have aN:F+D≤c:=by rw [K];unfold wid;omega
    have bb:min ((F:Int)+4) (c:Int)=(F:Int)+(D:Int):=by rw [K];unfold wid;omega
    have aA:=za K;have aR:J≤1000000:=by omega
    clear hJ hF K;have ap:Hid (zbg l.es A c (E+t)=(qi A J D,((List.range' F D).map (xo l.es A)).flatten)):=by
     show _=_;rw [← HJ.o];unfold zbg zcj;rw [← aA.o,← HF.o]
    go_wp2_with fail;rw [show((F:Int) / 4)=(J:Int) by have:=HF.o;omega,show((F:Int)+(D:Int) - (F:Int))=(D:Int) by omega];refine(zml A J D (by omega) wr aq).mono ?_;rintro r w2 ⟨rfl,S⟩;have au:zg O dT w w2:=HT.o.then_below S;have a9:=za au;have ae:zg O [] wr w2:= .of_below S;have al:=za (a8.o.stay ae (by decide) (by decide) (by decide));have a3:=za (aj.o.stay ae (by decide) (by decide));have aJ:Hid (wr.heap.size≤w2.heap.size):=S.size;clear S au ae aq;go_wp2_with fail;rw [show((F:Int)+(D:Int))=((F+D:Nat):Int) by omega];refine(z6h _ Z lb l w2 he a1.o al.o A ay aF F D (by rw [a2.o.1];exact aN) aL aM).mono ?_;rintro r w3 ⟨v,rfl,U,hq⟩;have HQ:=za hq;obtain⟨va,vn,vc,rfl⟩:=ztu hq;have af:zg O [] w2 w3:= .of_below U;have an:Hid (zg O dT w w3):=a9.o.then_below U;have a6:=za (al.o.stay af (by decide) (by decide) (by decide));have a4:=za (a3.o.stay af (by decide) (by decide));have az:Hid (wr.heap.size≤w3.heap.size):=Nat.le_trans aJ.out U.size;have a0:w3.cell? ⟨lb,0,none⟩=some (stV Z true):=by
     obtain⟨_,_,hb,-⟩:=lok a6.o;have:=(zmq hb).1.1;rw [aH] at this;exact this
    clear U hq af;generalize aO:((List.range' F D).map (xo l.es A)).flatten=xx at *
    go_wp2_with fail;refine(z3o (Ext O w wr) Z lb Q (qi A J D) xx (.slice va vn vc) w3 aD a4.o HQ.o a0).mono ?_;rintro r w4 ⟨e,rfl,Y,I,ax⟩;have ao:Hid (zg O dT w w4):=an.o.trans (I.mono (fun k hk=>by rcases hk with h | h;exact .inl h;exact .inr ⟨h.1,Nat.lt_of_lt_of_le h.2 az.out⟩) (fun _ h=>h));have ai:Hid (zq w4 (Ext O w w4) Z (za8 Q (qi A J D) xx)):=ax.mono (fun k hk=>by
     have bc:=HT.o.size;have aQ:=I.size;have:=az.out;rcases hk with (h | h) | h
     ·exact .inl h
     ·exact .inr (by omega)
     ·exact .inr (by omega))
    have am:=za (zzs (f:=zbg l.es A c (E+t)) R.o);have ak:=za (Y.weaken an.o.size);clear I ax a0 aO;rcases zcc Y with ⟨H,rfl⟩ | ⟨H,g,rfl⟩
    ·have L:Hid (qy (zn9 l.es A E c (t+1)) d=(none,za8 Q (qi A J D) xx)):=by
      show _=_;rw [zpj,am.o,ap.o];simp only [H,Bool.false_eq_true,if_false]
     clear Y H;go_wp2_with fail
     go_roundg (gk - 1)
     case rel=>exact⟨t+1,za8 Q (qi A J D) xx,by congr 1;have:=HJ.o;have:=HF.o;omega,by have:=HJ.o;have:=HF.o;omega,by omega,L.o,ao.o,ai.o⟩
     case measure=>have:=HJ.o;have:=HF.o;omega
    ·have L:Hid (qy (zeq l.es l.put A) d=(some (qi A J D),za8 Q (qi A J D) xx)):=by
      show _=_;rw [ac.o,zl9 l.es A E c (t+1) (by have:=HJ.o;have:=HF.o;omega)];refine zp0 ?_;rw [zpj,am.o,ap.o];simp only [H,if_true]
     rw [H] at ak;clear Y H;go_wp2_with fail;go_ret;rw [L.o];exact⟨_,rfl,.inr ⟨_,rfl,ak.o⟩,ao.o,ai.o⟩
   ·have L:Hid (qy (zeq l.es l.put A) d=(none,Q)):=by
     show _=_;rw [ac.o,zl9 l.es A E c t aK,show(c+3) / 4 - E - t=0 by have:=HJ.o;have:=HF.o;omega];simp only [List.range'_zero,List.map_nil,List.append_nil];exact R.o
    have aG:¬(F:Int) < (c:Int):=by omega
    go_wp2_with fail;go_ret;rw [L.o];exact⟨_,rfl,.inl ⟨rfl,rfl⟩,HT.o,aj.o⟩
def tlv (es:List (List UInt8))(put t:Nat):Fs:=(List.range t).flatMap fun(k:Nat)=>zeq es put ((k:Int) - 1)
theorem zt3 (es:List (List UInt8))(put t:Nat):tlv es put (t+1)=tlv es put t++zeq es put ((t:Int) - 1):=by
 unfold tlv;rw [List.range_succ,List.flatMap_append];simp
theorem zyv (es:List (List UInt8))(put:Nat):tlv es put 22=xr es put:=by
 unfold tlv xr zqx;rw [List.range_succ_eq_map,List.flatMap_cons,List.flatMap_map];congr 1
theorem zst {l l':Int}(h:l≤l')(n:Nat):yd l' n≤yd l n:=by
 unfold yd;exact Nat.div_le_div_left (Nat.pow_le_pow_right (by omega) (by omega)) (Nat.pow_pos (by omega))
theorem z2o (es:List (List UInt8))(put t:Nat)(r:put≤es.length)(A:t≤22)(h:yd ((t:Int) - 1) es.length=0):tlv es put t=xr es put:=by
 rw [← zyv];unfold tlv;rw [zps _ t 22 A];intro k D;have h1:=zst (show((t:Int) - 1)≤((k:Int) - 1) by omega) es.length;have h2:yd ((k:Int) - 1) put≤yd ((k:Int) - 1) es.length:=Nat.div_le_div_right r;unfold zeq;rw [if_pos (by omega)]
theorem z62 (n:Nat)(r:n≤1000000)(l:Int)(h:10≤l):yd l n=0:=by
 have h1:=zst h n;have h2:yd 10 n=0:=by
  unfold yd;exact Nat.div_eq_of_lt (by simp;omega)
 omega
theorem zy3 (es:List (List UInt8))(put:Nat):∀(n t:Nat),∃ r,tlv es put (t+n)=tlv es put t++r
 | 0,t=>⟨[],by simp⟩
 | n+1,t=>by
  obtain⟨r,hr⟩:=zy3 es put n t;exact⟨r++zeq es put (((t+n:Nat):Int) - 1),by rw [← Nat.add_assoc,zt3,hr,List.append_assoc]⟩
theorem zp6 (es:List (List UInt8))(put t:Nat)(h:t≤22):∃ r,xr es put=tlv es put t++r:=by
 obtain⟨r,hr⟩:=zy3 es put (22 - t) t;rw [show t+(22 - t)=22 by omega,zyv] at hr;exact⟨r,hr⟩
theorem z4v {xr:Fs}{c:List UInt8}{d r:Dk}{p:List UInt8}(h:qy xr d=(some p,r)):vj xr c d=(some p,r):=by
 unfold vj;rw [h]
theorem z5y {xr:Fs}{c:List UInt8}{d r:Dk}(h:qy xr d=(none,r)):vj xr c d=if bad r then (some cpF,zdl r cpF c) else (none,zdl r cpF c):=by
 unfold vj;rw [h]
theorem z0h (O:Nat→Prop)(W:World)(hE:Env W)(am:∀ k,O k→W.heap.size≤k)(db lb:Nat)(d:Dk)(l:Lg)(w:World)(hn:d.fs.length+(xr l.es l.put).length≤900000000)(he:l.es.length≤1000000)(au:l.put≤l.es.length)(h20:∀ e∈l.es,e.length≤20)(hk:l.key.length≤2097152)(ao:l.live=true)(hW:Below W.heap.size W w)(h:zq w O db d)(hL:qz w O db lb l):
  Calls Tryz.prog 150 #[.pointer (some ⟨lb,0,none⟩)] w fun r w'=>∃ e,r= .returned e∧z6o (vj (xr l.es l.put) (jr l.es.length (ye l.es) l.key) d).1 w.heap.size e w'∧zg O dT w w'∧zq w' (Ext O w w') db (vj (xr l.es l.put) (jr l.es.length (ye l.es) l.key) d).2:=by
 have HD:=za h;have aw:=za hL;have ad:=za h20;have HW:=za hW;have HO:=za am;have al:=za hE;obtain⟨a,az,hb,-⟩:=lok hL;obtain⟨-,-,⟨c2,f2⟩,-⟩:=zmq hb;clear h hL h20 hW am hE hb f2;go_enter Tryz.func150,Tryz.ntmps150;go_wp2_with fail;clear c2
 go_loopg [4,5] 30 (fun gg s4 _ wr=>∃(t:Nat) (H:Dk),t≤11∧30 - t≤gg∧s4= .int .i64 ((t:Int) - 1)∧qy (tlv l.es l.put t) d=(none,H)∧zg O dT w wr∧zq wr (Ext O w wr) db H)
 case atStart=>exact⟨0,d,by omega,by omega,rfl,rfl,zg.refl _ _ _,HD.o.mono (fun _ h=> .inl h)⟩
 case round =>
  obtain⟨t,H,a3,a0,rfl,ar,hT,hD⟩:=hrel;have S:=za ar;have X:=za hT;have af:=za hD;have ag:=za ((aw.o.stay hT (by decide) (by decide) (by decide)).mono (O':=Ext O w wr) (fun _ h=> .inl h));have ak:=HW.o.trans (hT.below HO.o HW.o.size);have ae:=za ak;have ax:Hid (∀ k,Ext O w wr k→W.heap.size≤k):=Ext.base HO.o HW.o.size;obtain⟨E,aa⟩:∃ E:Int,(t:Int) - 1=E:=⟨_,rfl⟩
  have ap:-1≤E:=by omega
  have a1:E≤10:=by omega
  have R:=za aa;rw [aa];clear ar hT hD ak aa;go_wp2_with fail;refine(zk2 E ap (by omega) l.es.length wr).mono ?_;rintro r w1 ⟨rfl,rfl⟩;by_cases hc:0 < yd E l.es.length
  ·have ay:(0:Int) < ((yd E l.es.length:Nat):Int):=by omega
   have a2:t≤10:=by
    rcases Nat.lt_or_ge 10 t with h | h
    ·have:=z62 l.es.length he E (by have:=R.o;omega);omega
    ·exact h
   generalize yd E l.es.length=cc at ay ⊢;have Z:H.fs.length≤900000000:=by
    have h1:=zh1 (tlv l.es l.put t) d;rw [S.o] at h1;obtain⟨rr,ac⟩:=zp6 l.es l.put t (by omega);have h2:(xr l.es l.put).length=(tlv l.es l.put t).length+rr.length:=by rw [ac,List.length_append]
    simp only at h1;omega
   go_wp2_with fail;refine(z1h (Ext O w w1) W al.out ax.o db lb H l w1 Z he au ad.o ao ae.o af.o ag.o E ap (by omega)).mono ?_;rintro r w2 ⟨e,rfl,an,D,L⟩;have J:Hid (zg O dT w w2):=X.o.trans D;have I:=za (L.mono (Ext.trans X.o.size D.size));have ah:Hid (qy (tlv l.es l.put (t+1)) d=qy (zeq l.es l.put E) H):=by
    show _=_;rw [zt3,zfu,S.o,R.o]
   have av:=za (an.weaken X.o.size);clear D L;rcases an with ⟨aq,rfl⟩ | ⟨p,hp,A⟩
   ·have V:Hid (qy (tlv l.es l.put (t+1)) d=(none,(qy (zeq l.es l.put E) H).2)):=by
     show _=_;rw [ah.o];exact Prod.ext aq rfl
    clear aq;generalize (qy (zeq l.es l.put E) H).2=d2 at *
    go_wp2_with fail
    go_roundg (gk - 1)
    case rel=>exact⟨t+1,d2,by omega,by omega,by congr 1;have:=R.o;omega,V.o,J.o,I.o⟩
    case measure=>omega
   ·have V:Hid (vj (xr l.es l.put) (jr l.es.length (ye l.es) l.key) d=(some p,(qy (zeq l.es l.put E) H).2)):=by
     show _=_;obtain⟨rr,ac⟩:=zp6 l.es l.put (t+1) (by omega);refine z4v ?_;rw [ac];refine zp0 ?_;rw [ah.o];exact Prod.ext hp rfl
    obtain⟨g,rfl⟩:∃ g,e= .iface 139 (.pointer (some ⟨g,0,none⟩)):=by
     rcases zcc A with ⟨h,-⟩ | ⟨-,h⟩
     ·simp at h
     ·exact h
    have U:=za (A.weaken X.o.size);clear hp A av;go_wp2_with fail;go_ret;rw [V.o];exact⟨_,rfl,.inr ⟨p,rfl,U.o⟩,J.o,I.o⟩
  ·have Y:yd E l.es.length=0:=by omega
   have aj:Hid (tlv l.es l.put t=xr l.es l.put):=z2o l.es l.put t au (by omega) (by rw [R.o];exact Y);rw [Y];have Z:H.fs.length≤1000000000:=by
    have h1:=zh1 (tlv l.es l.put t) d;rw [S.o] at h1;rw [aj.o] at h1;simp only at h1;omega
   clear hc Y;go_wp2_with fail;refine(z18 (Ext O w w1) (Ext O w w1) db lb H l w1 (al.out.below ae.o) Z he ad.o hk ao af.o ag.o).mono ?_;rintro r w2 ⟨e,rfl,A,D,L⟩;have J:Hid (zg O dT w w2):=X.o.trans D;have I:=za (L.mono (Ext.trans X.o.size D.size));have ai:Hid (vj (xr l.es l.put) (jr l.es.length (ye l.es) l.key) d=if bad H then (some cpF,zdl H cpF (jr l.es.length (ye l.es) l.key)) else (none,zdl H cpF (jr l.es.length (ye l.es) l.key))):=by
    refine z5y ?_;rw [← aj.o];exact S.o
   have U:=za (A.weaken X.o.size);clear D L;rcases zcc A with ⟨K,rfl⟩ | ⟨K,g,rfl⟩
   ·clear A;have Q:=za K;clear K;go_wp2_with fail;go_ret;rw [ai.o,Q.o];exact⟨_,rfl,.inl ⟨rfl,rfl⟩,J.o,I.o⟩
   ·clear A;have Q:=za K;clear K;go_wp2_with fail;go_ret;rw [ai.o,Q.o];refine⟨_,rfl,.inr ⟨cpF,rfl,?_⟩,J.o,I.o⟩;have:=U.o;rw [Q.o] at this;exact this
abbrev pT:List Nat:=[64,51,189]
theorem ze0 {O:Nat→Prop}{w r:World}{p:Addr}{u:Value}:∀ k,Ext O w r k→Ext O w (r.setCell p u) k:=fun _ h=>Ext.more (by simp [World.setCell]) _ h
theorem z4j {w:World}{r lb:Nat}{a:Option Addr}{h:Nat}{l:Lg}(A:w.heap[lb]?=some (.cells (zd8 r (.slice a l.es.length h) l) 189 (0,0))):(w.setCell ⟨lb,0,none⟩ .nilIface).heap[lb]?=some (.cells (zd8 r (.slice a l.es.length h) { l with live:=false }) 189 (0,0)):=qo A 0 _
theorem zyw {w:World}{O:Nat→Prop}{r lb i:Nat}{a:Option Addr}{h:Nat}{l l':Lg}{u:Value}(J:w.heap[lb]?=some (.cells (zd8 r (.slice a l.es.length h) l) 189 (0,0)))(D:OBs w 0 (.slice a l.es.length h) l.es)(L:∀ g,(Value.slice a l.es.length h).ownBlock=some g→O g)(I:O lb)
  (A:(w.setCell ⟨lb,i,none⟩ u).heap[lb]?=some (.cells (zd8 r (.slice a l.es.length h) l') 189 (0,0))) (K:l'.es=l.es):qz (w.setCell ⟨lb,i,none⟩ u) O r lb l':=by
 have E:zg (fun _=>True) [189] w (w.setCell ⟨lb,i,none⟩ u):=(zg.refl _ _ w).set (.inl trivial) J (by simp) u;refine⟨_,I,A,?_,L⟩;rw [K];obtain⟨xs,R,S⟩:=D;exact⟨xs,zi R E (by decide),fun j Q=>by
  obtain⟨z,e,H⟩:=S j Q;exact⟨z,e,zi H.1 E (by decide),H.2⟩⟩
theorem zrv (O:Nat→Prop)(W:World)(X:Nat→Addr)(hE:Env W)(aa:ja W X)(Y:∀ k,O k→W.heap.size≤k)(H lb:Nat)(d:Dk)(l:Lg)(w:World)(hn:d.fs.length+(xr l.es l.put).length≤900000000)(he:l.es.length≤1000000)(ap:l.put≤l.es.length)(h20:∀ e∈l.es,e.length≤20)(hk:l.key.length≤2097152)(hW:Below W.heap.size W w)(h:zq w O H d)(hL:qz w O H lb l):
  Calls Tryz.prog 106 #[.pointer (some ⟨lb,0,none⟩)] w fun r w'=>zg O pT w w' ∧
   ((l.live=false∧r= .returned (.tuple #[.int .i64 0,j4 X 6])∧Below w.heap.size w w') ∨
    (l.live=true∧(vj (xr l.es l.put) (jr l.es.length (ye l.es) l.key) d).1=none∧r= .returned (.tuple #[.int .i64 (l.es.length:Int),.nilIface])∧zq w' (Ext O w w') H (vj (xr l.es l.put) (jr l.es.length (ye l.es) l.key) d).2∧qz w' (Ext O w w') H lb { l with put:=l.es.length }) ∨
    (l.live=true∧∃ p e,(vj (xr l.es l.put) (jr l.es.length (ye l.es) l.key) d).1=some p∧r= .returned (.tuple #[.int .i64 0,e])∧zc1 true p w.heap.size e w'∧zq w' (Ext O w w') H (vj (xr l.es l.put) (jr l.es.length (ye l.es) l.key) d).2∧qz w' (Ext O w w') H lb { l with live:=false })):=by
 have HD:=za h;have D:=za hL;have ai:=za h20;have HW:=za hW;have HO:=za Y;have an:=za hE;have HS:=za (j5 aa hW);clear h hL h20 hW Y hE aa;generalize ag:vj (xr l.es l.put) (jr l.es.length (ye l.es) l.key) d=pr;have U:=za ag;clear ag;cases hlv:l.live with
 | false =>
  have h6:=HS.o.failed;go_enter Tryz.func106,Tryz.ntmps106;go_wp2_with fail;refine(zgb O H lb l w D.o).mono ?_;rintro r w1 ⟨rfl,rfl⟩;rw [hlv];go_wp2_with fail;go_region;all_goals go_wp2_with fail
  all_goals go_ret2
  all_goals exact⟨(zg.refl _ _ _).drew,.inl ⟨by first | rfl | trivial,rfl,(Below.refl _ _).drew⟩⟩
 | true =>
  go_enter Tryz.func106,Tryz.ntmps106;go_wp2_with fail;refine(zgb O H lb l w D.o).mono ?_;rintro r w1 ⟨rfl,rfl⟩;rw [hlv];go_wp2_with fail;refine(z0h O W an.out HO.o H lb d l w1 hn he ap ai.o hk hlv HW.o HD.o D.o).mono ?_;rintro r Q ⟨e,rfl,ae,L,J⟩;rw [U.o] at ae J;clear U;have V:=za L;have R:=za J;have ak:=za ((D.o.stay L (by decide) (by decide) (by decide)).mono (O':=Ext O w1 Q) (fun _ h=> .inl h));clear L J;obtain⟨a,aq,hb,ac,ad,Z⟩:=lok ak.o;obtain⟨⟨c0,f0⟩,-,⟨c2,f2⟩,⟨c3,f3⟩⟩:=zmq hb;have A:=za hb;have S:=za ac;have HG:=za ad;have E:=za Z;clear hb ac ad Z;rcases ae with ⟨af,rfl⟩ | ⟨p,hp,K⟩
  ·have am:=za af;have al:=za hlv;clear af hlv c0 f0;have k3:=(zf (qo A.o 3 (.int .i64 (l.es.length:Int))) 3 _ rfl).1;go_wp2_with fail;go_ret2;have I:=zyw (O:=Ext O w1 Q) (l':={ l with put:=l.es.length }) A.o S.o HG.o E.o (qo A.o 3 (.int .i64 (l.es.length:Int))) rfl;refine⟨V.o.mono (fun _ h=>h) (by decide) |>.set E.o A.o (by decide) _,.inr (.inl ⟨by first | rfl | trivial,am.o,rfl,?_,?_⟩)⟩
   ·exact(R.o.stay ((zg.refl _ _ Q).set (O:=fun _=>True) (T:=[189]) (.inl trivial) A.o (by simp) _) (by decide) (by decide)).mono ze0
   ·rw [al.o] at I;exact I.mono ze0
  ·have HP:=za hp;obtain⟨g,rfl⟩:∃ g,e= .iface 139 (.pointer (some ⟨g,0,none⟩)):=by
    rcases zcc K with ⟨h,-⟩ | ⟨-,h⟩
    ·simp at h
    ·exact h
   have aj:=za K;clear hp K hlv;go_wp2_with fail;go_ret2;have I:=zyw (O:=Ext O w1 Q) (l':={ l with live:=false }) A.o S.o HG.o E.o (z4j A.o) rfl;have ah:zg (fun _=>True) [189] Q (Q.setCell ⟨lb,0,none⟩ .nilIface):=(zg.refl _ _ Q).set (.inl trivial) A.o (by simp) _;refine⟨V.o.mono (fun _ h=>h) (by decide) |>.set E.o A.o (by decide) _,.inr (.inr ⟨by first | rfl | trivial,p,_,HP.o,rfl,?_,?_,?_⟩)⟩
   ·rcases aj.o with ⟨h,-⟩ | ⟨h,g',e',hB,ao⟩
    ·exact .inl ⟨h,by simp at h⟩
    ·exact .inr ⟨h,g',e',hB,ao.turn ah (by decide) (by decide)⟩
   ·exact(R.o.stay ah (by decide) (by decide)).mono ze0
   ·exact I.mono ze0
def z5p (n:Int)(p:List UInt8):Value:= .agg #[.int .i64 n,.string ⟨p.toArray⟩]
theorem zrr (v:Value)(W:World):(Instr.typeAssert (.iface 139 v) 68 139 true).run Tryz.prog W= .ok (.tuple #[v,.bool true]) W:=by kernel_rfl
theorem zal {W:World}{B:Nat}{C:Array Value}(r:W.heap[B]?=some (.cells C 31 (0,0)))(n:Int)(p:List UInt8)(h:C.size=2):((W.setCell ⟨B,0,none⟩ (.int .i64 n)).setCell ⟨B,1,none⟩ (.string ⟨p.toArray⟩)).heap[B]?=some (.cells #[.int .i64 n,.string ⟨p.toArray⟩] 31 (0,0)):=by
 rw [qo (qo r 0 _) 1 _];obtain⟨l⟩:=C
 match l,h with
 | [a,b],_=>rfl
theorem zgr {w W:World}{u v:Value}{i j:Nat}(h:Below w.heap.size w W):Below w.heap.size w ((W.setCell ⟨w.heap.size,i,none⟩ u).setCell ⟨w.heap.size,j,none⟩ v):=(h.setCell (Nat.le_refl _) _).setCell (Nat.le_refl _) _
theorem z7s (h:Nat→Addr)(E:Nat)(p:List UInt8)(w:World)(hs:ja w h)(Y:w.heap[E]?=some (.cells #[txv p,j4 h 5] 141 (0,0))):
  Calls Tryz.prog 23 #[qq E] w fun e w'=>e= .returned (z5p 6 p)∧Below w.heap.size w w':=by
 obtain⟨h0,h1,h2,L,Q,h5,h6,R,S⟩:=hs;clear R S;have g0:∀ o,(w.alloc o).cell? ⟨1,0,none⟩=some (.iface 344 (.pointer (some (h 0)))):=fun o=>by rw [zl _ _ ⟨_,0,none⟩ (zk h0)];exact h0
 have g1:∀ o,(w.alloc o).cell? ⟨2,0,none⟩=some (.iface 344 (.pointer (some (h 1)))):=fun o=>by rw [zl _ _ ⟨_,0,none⟩ (zk h1)];exact h1
 have g2:∀ o,(w.alloc o).cell? ⟨0,0,none⟩=some (.iface 344 (.pointer (some (h 2)))):=fun o=>by rw [zl _ _ ⟨_,0,none⟩ (zk h2)];exact h2
 have g3:∀ o,(w.alloc o).cell? ⟨3,0,none⟩=some (.iface 344 (.pointer (some (h 3)))):=fun o=>by rw [zl _ _ ⟨_,0,none⟩ (zk L)];exact L
 have g4:∀ o,(w.alloc o).cell? ⟨4,0,none⟩=some (.iface 344 (.pointer (some (h 4)))):=fun o=>by rw [zl _ _ ⟨_,0,none⟩ (zk Q)];exact Q
 have g6:∀ o,(w.alloc o).cell? ⟨5,0,none⟩=some (.iface 344 (.pointer (some (h 6)))):=fun o=>by rw [zl _ _ ⟨_,0,none⟩ (zk h6)];exact h6
 have V:=za h5;have X:=za Y;clear h0 h1 h2 L Q h5 h6 Y;have ad:=zrr (.pointer (some ⟨E,0,none⟩));have ac:∀ W,(binOp .eql 68 (.iface 344 (.pointer (some (h 5)))) (.iface 344 (.pointer (some (h 5))))).run Tryz.prog W= .ok (.bool true) W:=fun W=>by
  obtain⟨i,hi,U⟩:=Option.map_eq_some_iff.1 zdy;obtain⟨j,hj,aa⟩:=Option.map_eq_some_iff.1 zdr;exact run_eql_iface_ptr_same W (h 5) Tryz.underlying68 Tryz.underlying344 hi U hj
 unfold qq;go_enter Tryz.func23,Tryz.ntmps23;go_wp2_with fail;obtain⟨s3,I,-,b3,A⟩:=zvp w (.cells #[.int .i64 0,.string ⟨#[]⟩] 31) (.cells #[.nilIface,.iface 344 (.pointer (some (h 0))),.iface 344 (.pointer (some (h 1))),.iface 344 (.pointer (some (h 2))),.iface 344 (.pointer (some (h 3))),.iface 344 (.pointer (some (h 4))),.nilIface,.iface 344 (.pointer (some (h 6)))] 68) (.cells #[.pointer none] 138);generalize (((w.alloc (.cells #[.int .i64 0,.string ⟨#[]⟩] 31)).alloc (.cells #[.nilIface,.iface 344 (.pointer (some (h 0))),.iface 344 (.pointer (some (h 1))),.iface 344 (.pointer (some (h 2))),.iface 344 (.pointer (some (h 3))),.iface 344 (.pointer (some (h 4))),.nilIface,.iface 344 (.pointer (some (h 6)))] 68)).alloc (.cells #[.pointer none] 138))=H at *
 have q5:H.cell? ⟨6,0,none⟩=some (.iface 344 (.pointer (some (h 5)))):=by rw [A.cell (p:=⟨_,0,none⟩) (zk V.o)];exact V.o
 have D:H.heap[E]?=some (.cells #[txv p,j4 h 5] 141 (0,0)):=by rw [A.block _ (zb X.o)];exact X.o
 have q0:H.cell? ⟨E,0,none⟩=some (.string ⟨p.toArray⟩):=(zf D 0 (txv p) rfl).1;have q1:H.cell? ⟨E,1,none⟩=some (.iface 344 (.pointer (some (h 5)))):=(zf D 1 (j4 h 5) rfl).1;have r0:=zf I 0 _ rfl;have r1:=zf I 1 _ rfl;obtain⟨c0,z0⟩:=r0;obtain⟨c1,z1⟩:=r1;have Z:=za q1;have J:=za I;have K:=za A;clear D I b3 A s3
 go_region_with (go_at_call 53;refine(zqs E (h 5) _ ?_).mono ?_;exact Z.out;rintro r w1 ⟨rfl,rfl⟩)
 all_goals go_wp2_with fail
 all_goals exact bodyPost_ret (v:=z5p 6 p) (results_cell_row Tryz.results23 _ _ w.heap.size 31 _ (0,0) _ rfl (zal (by exact J.o) 6 p rfl) Tryz.underlying31 rfl (by kernel_rfl)) rfl ⟨rfl,zgr K.o.drew⟩
end Go.Proofs.YtndkblnpbjffhaaGreatDoor
