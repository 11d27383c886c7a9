import Derived.Test.YtndkblnpbjffhaaGreatDoorG50
set_option maxHeartbeats 4000000
set_option maxRecDepth 100000
open Go.RowKit Go.Lib Go.Sort Go.ChangeShapes Go.WideShapes Go.ChangeAt
namespace Go.Proofs.YtndkblnpbjffhaaGreatDoor
theorem zr1 (w:World){A:Array Oper}{rest:List Oper}{o:Oper}{a:Act}{Q:Exit→Act→World→Prop}
  (D:o.guard=none) (s x:Operand) (I:o.op=Op.call { callee:=Callee.builtin Builtin.append,args:=#[s,x],argTypes:=#[57,57] })
  (B:Nat) (hB:B≤w.heap.size) (v:Value) (r:Fs) (hs:a.eval s=v) (J:w.ownsRow B 119 2 v r.length (yw r))
  (nm t:List UInt8) (hx:a.eval x= .slice (some ⟨w.heap.size,0,none⟩) 1 1) (hn:r.length≤1000000000)
  (h:∀ V w',w'.ownsRow B 119 2 V (r++[(nm,t)]).length (yw (r++[(nm,t)]))→zg (fun g=>v.ownBlock=some g) [119] w w'→wpList Tryz.prog A Q rest (a.put o.dst V) w'):wpList Tryz.prog A Q (o::rest) a (w.alloc (.cells #[txv nm,txv t] 119)):=by
 obtain⟨i,Z,H⟩:=Option.map_eq_some_iff.1 zo7;obtain⟨L,R,S⟩:i.zero=some (.agg #[.string ⟨#[]⟩,.string ⟨#[]⟩])∧i.size=2∧i.bytes=32:=by simpa using H
 have U:=World.ownsRow.alloc J (.cells #[txv nm,txv t] 119);refine wpList_append_lies _ D s x _ I B 119 i (.agg #[.string ⟨#[]⟩,.string ⟨#[]⟩]) 2 32 Tryz.underlying57 Z L R S rfl (by omega) v r.length (yw r) hs U ⟨w.heap.size,0,none⟩ 1 1 [txv nm,txv t] hx rfl (World.news_of_block (heap_alloc_last _ _)) (by simp [txv,Value.oneCell']) (by omega) (by unfold maxLen;omega) (by omega) (by simp;omega) (w.heap.size+1) (by simp) fun g W w1 K E X aa=>?_;refine h _ w1 ?_ (((zg.refl (fun g=>v.ownBlock=some g) [119] w).alloc _).grown U E (fun g Y=> .inl Y) (by simp));rw [List.length_append,ze9];exact K
theorem zjh (v dv:Value)(fs:Fs)(l:Int)(data:List (List UInt8))(B:Nat)(w:World)(hB:B≤w.heap.size)(hf:w.ownsRow B 119 2 v fs.length (yw fs))(hn:fs.length≤100000000)(hd:w.ownsRow B 9 1 dv data.length (data.map txv))(a0:data.length≤1000000)(ak:∀ d∈data,d.length≤21):
  Calls Tryz.prog 108 #[v,.int .i64 l,dv] w fun r w'=>∃ v',r= .returned v'∧zg (fun k=>B≤k) [119] w w'∧w'.ownsRow B 119 2 v' (fs++zub l data).length (yw (fs++zub l data)):=by
 have HF:=za hf;have HD:=za hd;have Y:=za ak;obtain⟨da,dc,rfl⟩:=xu hd;obtain⟨va,vc,rfl⟩:=xu hf;clear hf hd ak;go_enter Tryz.func108,Tryz.ntmps108;go_wp2_with fail;go_loopw [0,7] (fun lv iv wr=>∃ k:Nat,4*k < data.length+4∧iv= .int .i64 (4*(k:Int))∧zg (fun k=>B≤k) [119] w wr∧wr.ownsRow B 119 2 lv (fs++zdf l data k).length (yw (fs++zdf l data k))) (fun _ iv _=>data.length+4 - (intOf iv).toNat)
 case atStart=>exact⟨0,by omega,rfl,zg.refl _ _ _,by simpa [zdf] using HF.o⟩
 case round =>
  obtain⟨k,hk,rfl,ht,D⟩:=hrel;have HT:=za ht;have HO:=za D;obtain⟨la,lc,rfl⟩:=xu D;have al:Hid ((fs++zdf l data k).length=fs.length+k):=by show _=_;rw [List.length_append,z00]
  have HS:Hid (fs++zdf l data (k+1)=(fs++zdf l data k)++[(qi l k (wid data.length k),((data.drop (4*k)).take (wid data.length k)).flatten)]):=by show _=_;rw [zv5,List.append_assoc]
  have ao:Hid (k=(data.length+3) / 4→fs++zub l data=fs++zdf l data k):=fun e=>by unfold zub;rw [← e]
  clear ht D;generalize fs++zdf l data k=E at *
  by_cases a1:4*k < data.length
  ·by_cases h4:4 < data.length - 4*k
   ·have aq:(4:Int) < (data.length:Int) - 4*(k:Int):=by omega
    have U:wid data.length k=4:=by unfold wid;omega
    have ax:4≤4:=by omega
    have aw:1≤4:=by omega
    have ay:4*k+4≤data.length:=by omega
    go_wp2_with fail;refine(zgy l k 4 (by omega) wr).mono ?_;rintro r Z ⟨rfl,I⟩;have H:Hid (zg (fun k=>B≤k) [119] w Z):=HT.o.then_below I;have L:Hid (Z.ownsRow B 119 2 (.slice la E.length lc) E.length (yw E)):=zi HO.o (zg.of_below (O:=fun _=>False) (T:=[]) I) (by simp);have aa:=za (zdc (zi HD.o H.o (by decide)));rw [U] at HS;have aj:((4:Nat):Int)=4:=rfl;rw [aj] at HS;clear aj;clear I HO U;generalize qi l (k:Int) 4=nm at *
    go_wp2_with fail;go_loopw [10,11] (fun sv kv ai=>∃ j:Nat,j≤4∧kv= .int .i64 (4*(k:Int)+(j:Int))∧sv= .string ⟨(((data.drop (4*k)).take j).flatten).toArray⟩∧Below Z.heap.size Z ai) (fun _ kv _=>4*k+4 - (intOf kv).toNat)
    case atStart=>exact⟨0,by omega,by simp,by simp,Below.refl _ _⟩
    case round =>
     obtain⟨j,hj,rfl,rfl,S⟩:=hrel;have A:=za S;clear S;by_cases ar:j < 4
     ·obtain⟨-,-,W⟩:=aa.o.at;obtain⟨db,ah,rfl,V⟩:=W (by omega);have J:4*k+j < data.length:=by omega
      have y1:=V (4*k+j) J;have r1:wr.cell? ⟨db,ah+(4*k+j),none⟩=some (txv data[4*k+j]):=by rw [A.o.cell (p:=⟨db,_,none⟩) (zk y1)];exact y1
      have ad:=za (znz data (4*k) j J);have au:=zx3 data (4*k) j (by omega) Y.o;have av:=Y.o _ (List.getElem_mem J);unfold txv at r1;clear y1 V W;generalize data[4*k+j]=p at *
      generalize ((data.drop (4*k)).take j).flatten=t at *
      have b1:¬ 9223372036854775807 < t.length+p.length:=by omega
      go_wp2_with fail;go_roundw
      case rel=>exact⟨j+1,by omega,by go_num,by rw [ad.o];first | rfl | simp,A.o⟩
      case measure=>simp [intOf];omega
     ·obtain rfl:j=4:=by omega
      have ae:Hid (fs++zdf l data (k+1)=E++[(nm,((data.drop (4*k)).take 4).flatten)]):=HS.o;have R:Hid (zg (fun k=>B≤k) [119] w wr):=H.o.then_below A.o;have Q:Hid (wr.ownsRow B 119 2 (.slice la E.length lc) E.length (yw E)):=zi L.o (zg.of_below (O:=fun _=>False) (T:=[]) A.o) (by simp);have af:Hid (B≤wr.heap.size):=by have:=R.o.size;show _≤_;omega
      clear L H A HS;generalize (((data.drop (4*k)).take 4).flatten)=t at *
      go_wp2_with (at_builtin;refine zr1 wr rfl _ _ rfl B af.o (.slice la E.length lc) E rfl Q.o nm t rfl (by have:=al.out;omega) ?_;intro v' w3 D X;have ac:=za D;have ag:Hid (zg (fun k=>B≤k) [119] w w3):=R.o.trans (X.mono (fun g hg=> .inl (qf Q.o g hg)) (fun _ h=>h));obtain⟨ya,yc,he⟩:=xu D;subst he;clear D X);go_roundw
      case rel=>exact⟨k+1,by omega,by go_num,ag.o,by rw [ae.o];have h:=ac.o;rw [List.length_append] at h ⊢;exact h⟩
      case measure=>simp [intOf];omega
   ·have aq:¬(4:Int) < (data.length:Int) - 4*(k:Int):=by omega
    have am:(data.length:Int) - 4*(k:Int)=((data.length - 4*k:Nat):Int):=by omega
    have ap:=za am;clear am;obtain⟨n,az⟩:∃ n:Nat,n=data.length - 4*k:=⟨_,rfl⟩
    have U:wid data.length k=n:=by unfold wid;omega
    have ax:n≤4:=by omega
    have aw:1≤n:=by omega
    have ay:4*k+n≤data.length:=by omega
    go_wp2_with fail;rw [ap.o,← az];refine(zgy l k (n:Int) (by omega) wr).mono ?_;rintro r Z ⟨rfl,I⟩;have H:Hid (zg (fun k=>B≤k) [119] w Z):=HT.o.then_below I;have L:Hid (Z.ownsRow B 119 2 (.slice la E.length lc) E.length (yw E)):=zi HO.o (zg.of_below (O:=fun _=>False) (T:=[]) I) (by simp);have aa:=za (zdc (zi HD.o H.o (by decide)));rw [U] at HS;clear I HO U;generalize qi l (k:Int) (n:Int)=nm at *
    go_wp2_with fail;go_loopw [10,11] (fun sv kv ai=>∃ j:Nat,j≤n∧kv= .int .i64 (4*(k:Int)+(j:Int))∧sv= .string ⟨(((data.drop (4*k)).take j).flatten).toArray⟩∧Below Z.heap.size Z ai) (fun _ kv _=>4*k+n - (intOf kv).toNat)
    case atStart=>exact⟨0,by omega,by simp,by simp,Below.refl _ _⟩
    case round =>
     obtain⟨j,hj,rfl,rfl,S⟩:=hrel;have A:=za S;clear S;by_cases ar:j < n
     ·obtain⟨-,-,W⟩:=aa.o.at;obtain⟨db,ah,rfl,V⟩:=W (by omega);have J:4*k+j < data.length:=by omega
      have y1:=V (4*k+j) J;have r1:wr.cell? ⟨db,ah+(4*k+j),none⟩=some (txv data[4*k+j]):=by rw [A.o.cell (p:=⟨db,_,none⟩) (zk y1)];exact y1
      have ad:=za (znz data (4*k) j J);have au:=zx3 data (4*k) j (by omega) Y.o;have av:=Y.o _ (List.getElem_mem J);unfold txv at r1;clear y1 V W;generalize data[4*k+j]=p at *
      generalize ((data.drop (4*k)).take j).flatten=t at *
      have b1:¬ 9223372036854775807 < t.length+p.length:=by omega
      go_wp2_with fail;go_roundw
      case rel=>exact⟨j+1,by omega,by go_num,by rw [ad.o];first | rfl | simp,A.o⟩
      case measure=>simp [intOf];omega
     ·obtain rfl:j=n:=by omega
      have ae:Hid (fs++zdf l data (k+1)=E++[(nm,((data.drop (4*k)).take j).flatten)]):=HS.o;have R:Hid (zg (fun k=>B≤k) [119] w wr):=H.o.then_below A.o;have Q:Hid (wr.ownsRow B 119 2 (.slice la E.length lc) E.length (yw E)):=zi L.o (zg.of_below (O:=fun _=>False) (T:=[]) A.o) (by simp);have af:Hid (B≤wr.heap.size):=by have:=R.o.size;show _≤_;omega
      clear L H A HS;generalize (((data.drop (4*k)).take j).flatten)=t at *
      go_wp2_with (at_builtin;refine zr1 wr rfl _ _ rfl B af.o (.slice la E.length lc) E rfl Q.o nm t rfl (by have:=al.out;omega) ?_;intro v' w3 D X;have ac:=za D;have ag:Hid (zg (fun k=>B≤k) [119] w w3):=R.o.trans (X.mono (fun g hg=> .inl (qf Q.o g hg)) (fun _ h=>h));obtain⟨ya,yc,he⟩:=xu D;subst he;clear D X);go_roundw
      case rel=>exact⟨k+1,by omega,by go_num,ag.o,by rw [ae.o];have h:=ac.o;rw [List.length_append] at h ⊢;exact h⟩
      case measure=>simp [intOf];omega
  ·have an:=za (ao.o (by omega));go_wp2_with fail;go_ret;exact⟨_,rfl,HT.o,by rw [an.o];exact HO.o⟩
theorem z3u (e:List UInt8)(h:e.length≤20):z2c (bys [tb e])=zj4 e∧okB (bys [tb e])=true:=by
 have A:bys [tb e]=[e]:=rfl;have r:okB [e]=true:=by simp [okB,h]
 rw [A];refine⟨?_,r⟩;rw [zua r];simp [za3]
theorem zy8 (es:List (List UInt8))(k:Nat)(h:k < es.length):xo es (-1) k=zj4 es[k]:=by
 unfold xo;rw [if_pos rfl,List.getD_eq_getElem?_getD,List.getElem?_eq_getElem h];rfl
theorem zw0 (es:List (List UInt8))(L k:Nat):xo es (L:Int) k=ye ((es.drop (k*4 ^ L)).take (4 ^ L)):=by
 unfold xo;rw [if_neg (by omega),Int.toNat_natCast]
theorem z3s (n P j:Nat)(r:1≤P):j*P+P≤n↔j < n / P:=by
 have h:=Nat.le_div_iff_mul_le (x:=j+1) (y:=n) (show 0 < P by omega);rw [Nat.add_mul,Nat.one_mul] at h;omega
def zbs (es:List (List UInt8))(l:Int)(k:Nat):List (List UInt8):=(List.range k).map (xo es l)
theorem zma (es:List (List UInt8))(l:Int)(k:Nat):(zbs es l k).length=k:=by simp [zbs]
theorem zou (es:List (List UInt8))(l:Int)(k:Nat):zbs es l (k+1)=zbs es l k++[xo es l k]:=by
 unfold zbs;rw [List.range_succ,List.map_append];rfl
theorem zyy {es:List (List UInt8)}(h20:∀ e∈es,e.length≤20)(l:Int)(k:Nat):∀ d∈zbs es l k,d.length≤21:=by
 intro d h;obtain⟨j,-,rfl⟩:=List.mem_map.1 h;exact zp2 h20 l j
theorem zul (es:List (List UInt8)):vo es 0=zub (-1) (zbs es (-1) es.length):=by
 unfold zbs;rw [zo2];simp [vo]
theorem zs3 (es:List (List UInt8))(L:Nat):vo es (L+1)=vo es L++zub (L:Int) (zbs es (L:Int) (es.length / 4 ^ L)):=by
 unfold zbs;rw [zo2];unfold vo;rw [List.range_succ,List.flatMap_append,List.append_assoc];simp
theorem z4l {w:World}{b r A:Nat}{es:List (List UInt8)}(J:∀ i (h:i < es.length),w.cell? ⟨b,r+i,none⟩=some (txv es[i]))(i n:Nat)(H:i+n≤es.length)(E:es.length≤A):Tss w (.slice (some ⟨b,r+i,none⟩) n (A - i)) ((es.drop i).take n):=by
 have D:((es.drop i).take n).length=n:=by simp;omega
 refine⟨_,_,by rw [D],by omega,.inr ⟨b,r+i,rfl,fun j I=>?_⟩⟩;rw [D] at I;rw [List.getElem_take,List.getElem_drop,Nat.add_assoc];exact J (i+j) (by omega)
theorem zxn (es:List (List UInt8))(L:Nat)(r:L≤21):(vo es L).length≤22*((es.length+3) / 4):=by
 unfold vo;rw [List.length_append];have h1:=zg6 es (-1) 0 es.length;have h2:=zhs (fun(k:Nat)=>zhb es (k:Int) 0 (es.length / 4 ^ k)) ((es.length+3) / 4) L (fun k=>by
  have h:=zg6 es (k:Int) 0 (es.length / 4 ^ k);have:=Nat.div_le_self es.length (4 ^ k);omega)
 have A:=Nat.mul_le_mul_right ((es.length+3) / 4) r;omega
theorem zn6 (w:World){D:Array Oper}{rest:List Oper}{o:Oper}{a:Act}{Q:Exit→Act→World→Prop}
  (I:o.guard=none) (s x:Operand) (L:o.op=Op.call { callee:=Callee.builtin Builtin.append,args:=#[s,x],argTypes:=#[29,29] })
  (B:Nat) (hB:B≤w.heap.size) (v:Value) (r:List (List UInt8)) (hs:a.eval s=v) (R:w.ownsRow B 9 1 v r.length (r.map txv))
  (t:List UInt8) (H:Nat) (hH:w.heap.size=H) (hx:a.eval x= .slice (some ⟨H,0,none⟩) 1 1) (hn:r.length≤1000000000)
  (h:∀ X w',w'.ownsRow B 9 1 X (r++[t]).length ((r++[t]).map txv)→zg (fun g=>v.ownBlock=some g) [9] w w'→(∀ g,X.ownBlock=some g→v.ownBlock=some g∨w.heap.size≤g)→wpList Tryz.prog D Q rest (a.put o.dst X) w'):wpList Tryz.prog D Q (o::rest) a (w.alloc (.cells #[txv t] 9)):=by
 obtain⟨i,hi,K⟩:=Option.map_eq_some_iff.1 zf6;obtain⟨U,V,W⟩:i.zero=some (.string ⟨#[]⟩)∧i.size=1∧i.bytes=16:=by simpa using K
 subst hH;have Y:=World.ownsRow.alloc R (.cells #[txv t] 9);refine wpList_append_lies _ I s x _ L B 9 i (.string ⟨#[]⟩) 1 16 Tryz.underlying29 hi U V W rfl (by omega) v r.length (r.map txv) hs Y ⟨w.heap.size,0,none⟩ 1 1 [txv t] hx rfl (World.news_of_block (heap_alloc_last _ _)) (by simp [txv,Value.oneCell']) (by omega) (by unfold maxLen;omega) (by omega) (by simp;omega) (w.heap.size+1) (by simp) fun g Z w1 S J E aa=>?_;refine h _ w1 (by simpa using S) (((zg.refl (fun g=>v.ownBlock=some g) [9] w).alloc _).grown Y J (fun g hg=> .inl hg) (by simp)) fun g' A=>?_;simp only [Value.ownBlock,Option.some.injEq] at A;subst A;rcases E with h | h
 ·exact .inl h
 ·exact .inr (by omega)
theorem zq1 (v:Value)(es:List (List UInt8))(w:World)(hn:es.length≤1000000)(h20:∀ e∈es,e.length≤20)(h:Tss w v es):
  Calls Tryz.prog 58 #[v] w fun r w'=>∃ x,r= .returned x∧Below w.heap.size w w'∧w'.ownsRow 0 119 2 x (xd es).length (yw (xd es)):=by
 have HS:=za h;have aa:=za h20;obtain⟨a,ad,rfl,aD,-⟩:=h;clear h20;go_enter Tryz.func58,Tryz.ntmps58;go_wp2_with fail;go_loopw [4,5] (fun dv iv wr=>∃ k:Nat,k≤es.length∧iv= .int .i64 k∧Below w.heap.size w wr∧wr.ownsRow w.heap.size 9 1 dv (zbs es (-1) k).length ((zbs es (-1) k).map txv)) (fun _ iv _=>es.length - (intOf iv).toNat)
 case atStart=>exact⟨0,Nat.zero_le _,rfl,Below.refl _ _,⟨rfl,.inl ⟨rfl,rfl⟩⟩⟩
 case round =>
  obtain⟨k,hk,rfl,K,D⟩:=hrel;have I:=za K;obtain⟨da,dc,rfl⟩:=xu D;have V:=za D;clear K D;by_cases al:k < es.length
  ·obtain⟨-,-,Y⟩:=HS.o.at;obtain⟨b,af,rfl,hx⟩:=Y (by omega);have y1:=hx k al;have r1:wr.cell? ⟨b,af+k,none⟩=some (.string (tb es[k])):=by rw [I.o.cell (p:=⟨b,_,none⟩) (zk y1)];exact y1
   have aE:=aa.o _ (List.getElem_mem al);have ah:Hid (zbs es (-1) (k+1)=zbs es (-1) k++[zj4 es[k]]):=by show _=_;rw [zou,zy8 es k al]
   have Q:(zbs es (-1) k).length=k:=zma _ _ _;have ac:=za Q;clear y1 hx Y Q;generalize es[k]=e at *
   have R:=za (z3u e aE);have a1:Sss wr (.slice (some ⟨b,af+k,none⟩) 1 (ad - k)) [tb e]:=by
    refine⟨_,_,rfl,by simp;omega,.inr ⟨b,af+k,rfl,fun i hi=>?_⟩⟩;obtain rfl:i=0:=by simpa using hi
    exact r1
   have ar:=za a1;have aG:¬ ad=k:=by omega
   have aL:k+1≤ad:=by omega
   clear a1 r1;go_wp2_with fail;refine(zn7 _ [tb e] wr (by simp) (fun s hs=>by obtain rfl:s=tb e:=(by simpa using hs);show e.toArray.size≤_;simp;omega) (by exact ar.o)).mono ?_;rintro r W ⟨rfl,J⟩;rw [R.o.1,R.o.2];have S:Hid (Below w.heap.size w W):=I.o.trans (J.mono I.o.size);have E:Hid (W.ownsRow w.heap.size 9 1 (.slice da (zbs es (-1) k).length dc) (zbs es (-1) k).length ((zbs es (-1) k).map txv)):=zi V.o (zg.of_below (O:=fun _=>False) (T:=[]) J) (by simp);clear J V ar;generalize zj4 e=t at *
   unfold txt;go_wp2_with (at_builtin;refine zn6 W rfl _ _ rfl w.heap.size S.o.size (.slice da (zbs es (-1) k).length dc) (zbs es (-1) k) rfl E.o t _ rfl rfl (by have:=ac.o;omega) ?_;intro v' w3 D U _;have aj:=za D;have ag:Hid (Below w.heap.size w w3):=S.o.trans (U.below (qf E.o) S.o.size);obtain⟨ya,yc,he⟩:=xu D;subst he;clear D U);go_roundw
   case rel=>exact⟨k+1,by omega,by go_num,ag.o,by rw [ah.o];have h:=aj.o;rw [List.length_append] at h ⊢;exact h⟩
   case measure=>simp [intOf];omega
  ·obtain rfl:k=es.length:=by omega
   have Q:Hid ((zbs es (-1) es.length).length≤1000000):=by show _≤_;rw [zma];exact hn
   go_wp2_with fail;refine(zjh _ _ [] (-1) (zbs es (-1) es.length) w.heap.size wr I.o.size ⟨rfl,.inl ⟨rfl,rfl⟩⟩ (by simp) V.o Q.out (zyy aa.o _ _)).mono ?_;rintro r W ⟨x1,rfl,X,H⟩;have R:Hid (Below w.heap.size w W):=I.o.trans (X.below (fun _ h=>h) I.o.size);rw [List.nil_append,← zul] at H;obtain⟨xa,xc,rfl⟩:=xu H;have E:=za H;clear X H V I Q;go_wp2_with fail;go_loopw [3,4,8,9] (fun ov dv uv av wr=>∃ L:Nat,L≤10∧uv= .int .i64 ((4 ^ L:Nat):Int)∧av= .int .i64 (L:Int)∧Below w.heap.size w wr∧wr.ownsRow w.heap.size 119 2 ov (vo es L).length (yw (vo es L))) (fun _ _ _ av _=>11 - (intOf av).toNat)
   case atStart=>exact⟨0,by omega,rfl,rfl,R.o,E.o⟩
   case round =>
    obtain⟨L,hL,rfl,rfl,K,D⟩:=hrel;clear R E;have I:=za K;obtain⟨oa,oc,rfl⟩:=xu D;have V:=za D;clear K D;have aB:1≤4 ^ L:=Nat.pow_pos (by omega);have a6:Hid (L=10→1000000 < 4 ^ L):=fun e=>by subst e;decide
    have a9:=za (zs3 es L);have a8:Hid (es.length < 4 ^ L→vo es L=xd es):=fun h=>zvo es L h (by omega);have a2:=za (zw0 es L);have a7:Hid (((4 ^ L:Nat):Int)*4=((4 ^ (L+1):Nat):Int)):=by show _=_;rw [Nat.pow_succ];push_cast;rfl
    have aw:=za (zxn es L (by omega));have a4:Hid (L=10∨L+1≤10):=by show _∨_;omega
    generalize 4 ^ L=P at *
    by_cases hP:P≤es.length
    ·have aA:L+1≤10:=by
      rcases a4.o with e | e
      ·have:=a6.o e;omega
      ·exact e
     have aC:Hid (∀ j:Nat,j*P+P≤es.length↔j < es.length / P):=fun j=>z3s es.length P j aB;go_wp2_with fail;go_loopw [4,10] (fun dv jv am=>∃ j:Nat,j≤es.length / P∧jv= .int .i64 (j:Int)∧Below w.heap.size w am∧am.ownsRow w.heap.size 119 2 (.slice oa (vo es L).length oc) (vo es L).length (yw (vo es L))∧am.ownsRow w.heap.size 9 1 dv (zbs es (L:Int) j).length ((zbs es (L:Int) j).map txv)) (fun _ jv _=>es.length / P - (intOf jv).toNat)
     case atStart=>exact⟨0,Nat.zero_le _,rfl,I.o,V.o,⟨rfl,.inl ⟨rfl,rfl⟩⟩⟩
     case round =>
      obtain⟨j,hj,rfl,K,ax,D⟩:=hrel;clear I V;have I:=za K;have V:=za ax;obtain⟨da,dc,rfl⟩:=xu D;have ai:=za D;obtain⟨A,ae⟩:∃ A,j*P=A:=⟨_,rfl⟩
      have hA:(j:Int)*(P:Int)=(A:Int):=by rw [← ae];push_cast;rfl
      have aI:((j:Int)+1)*(P:Int)=(A:Int)+(P:Int):=by rw [Int.add_mul,hA];omega
      have ak:=aC.out j;rw [ae] at ak;have ao:=za ak;have an:=za ae;have ah:=za (zou es (L:Int) j);have Q:(zbs es (L:Int) j).length=j:=zma _ _ _;have ac:=za Q;have aK:j≤es.length:=Nat.le_trans hj (Nat.div_le_self _ _);have aF:Hid (j≤es.length / P):=hj;have aJ:A≤es.length:=by rw [← an.o];exact Nat.le_trans (Nat.mul_le_mul_right P hj) (Nat.div_mul_le_self _ _)
      clear K ax D ae ak Q hj;by_cases az:A+P≤es.length
      ·have a0:Hid (j < es.length / P):=ao.o.1 az;obtain⟨-,-,Y⟩:=HS.o.at;obtain⟨b,af,rfl,hx⟩:=Y (by omega);have au:=za (z4l (fun i hi=>by rw [I.o.cell (p:=⟨b,_,none⟩) (zk (hx i hi))];exact hx i hi) A P az aD);have aq:Hid (xo es (L:Int) j=ye ((es.drop A).take P)):=by show _=_;rw [a2.o j,an.o]
       have aG:¬ ad=A:=by omega
       clear hx Y;go_wp2_with fail;refine(zc7 _ ((es.drop A).take P) wr (by simp;omega) (fun l hl=>aa.o l (List.mem_of_mem_drop (List.mem_of_mem_take hl))) (by exact au.o)).mono ?_;rintro r W ⟨rfl,J⟩;rw [← aq.o];have S:Hid (Below w.heap.size w W):=I.o.trans (J.mono I.o.size);have ap:Hid (W.ownsRow w.heap.size 9 1 (.slice da (zbs es (L:Int) j).length dc) (zbs es (L:Int) j).length ((zbs es (L:Int) j).map txv)):=zi ai.o (zg.of_below (O:=fun _=>False) (T:=[]) J) (by simp);have E:Hid (W.ownsRow w.heap.size 119 2 (.slice oa (vo es L).length oc) (vo es L).length (yw (vo es L))):=zi V.o (zg.of_below (O:=fun _=>False) (T:=[]) J) (by simp);clear J V ai au aq;generalize xo es (L:Int) j=t at *
       go_wp2_with (at_builtin;refine zn6 W rfl _ _ rfl w.heap.size S.o.size (.slice da (zbs es (L:Int) j).length dc) (zbs es (L:Int) j) rfl ap.o t _ rfl rfl (by have:=ac.o;omega) ?_;intro v' w3 D U _;have aj:=za D;have a5:=za (zi E.o U (by decide));have ag:Hid (Below w.heap.size w w3):=S.o.trans (U.below (qf ap.o) S.o.size);obtain⟨ya,yc,he⟩:=xu D;subst he;clear D U);go_roundw
       case rel=>exact⟨j+1,by have:=a0.out;omega,by go_num,ag.o,a5.o,by rw [ah.o];have h:=aj.o;rw [List.length_append] at h ⊢;exact h⟩
       case measure =>
        have:=a0.out;simp [intOf];omega
      ·have aM:¬(A:Int)+(P:Int)≤(es.length:Int):=by omega
       have ay:j=es.length / P:=by
        have:=aF.out;have h2:=ao.o;omega
       have a3:=za ay;have aH:=za aw.o;clear ay;go_wp2_with fail;refine(zjh _ _ (vo es L) (L:Int) (zbs es (L:Int) j) w.heap.size wr I.o.size V.o (by have:=aw.o;omega) ai.o (by have:=ac.o;omega) (zyy aa.o _ _)).mono ?_;rintro r W ⟨x1,rfl,X,H⟩;have R:Hid (Below w.heap.size w W):=I.o.trans (X.below (fun _ h=>h) I.o.size);rw [a3.o,← a9.o] at H;obtain⟨aN,aO,he⟩:=xu H;subst he;have E:=za H;clear X H;go_wp2_with fail;go_roundw
       case rel=>exact⟨L+1,aA,congrArg (Value.int .i64) a7.o,by go_num,R.o,E.o⟩
       case measure=>simp [intOf];omega
    ·have HW:Hid (vo es L=xd es):=a8.o (by omega);go_wp2_with fail;go_ret;have ho:=V.o;rw [HW.o] at ho;exact⟨_,rfl,I.o,by rw [HW.o];exact zir ho (Nat.zero_le _)⟩
theorem zj2 {B:Nat}{w w':World}{O:Nat→Prop}(A:B≤w.heap.size)(r:∀ k,O k→B≤k∧k < w.heap.size)(D:w.heap.size≤w'.heap.size):∀ k,Ext O w w' k→B≤k∧k < w'.heap.size:=by
 intro k h;rcases h with h | h
 ·exact⟨(r k h).1,Nat.lt_of_lt_of_le (r k h).2 D⟩
 ·exact⟨Nat.le_trans A h.1,h.2⟩
def cpT (x:Wd)(es:List (List UInt8)):List UInt8:=jr es.length (ye es) x.key
theorem z7d {n:Nat}{x x':Wd}{d:Dk}{s:List Nat}{es:List (List UInt8)}{put:Nat}{D:Fs}(hn:n≤4100)(h:Num n x d s)(E:Ent x d s es put)(A:x.failed=false)(Z:D.Perm d.fs)(W:zat D (xd es)=false)(Y:x'.key=x.key):
  Num (n+1) x' (vj (xr es put) (cpT x es) d).2 s∧zd6 (xd es) (cpT x es) d.fs (vj (xr es put) (cpT x es) d).2.fs∧zzv (xd es) ∧
   (((vj (xr es put) (cpT x es) d).1=none∧zia (vj (xr es put) (cpT x es) d).2∧yp (vj (xr es put) (cpT x es) d).2.fs cpF=some (cpT x es)∧∀ f∈xd es,yp (vj (xr es put) (cpT x es) d).2.fs f.1=some f.2) ∨
    ((∃ p,(vj (xr es put) (cpT x es) d).1=some p∧(p=cpF∨∃ x,(p,x)∈xd es))∧(vj (xr es put) (cpT x es) d).2.hit=true)):=by
 have X:=zhu E;have aa:=h.small;have L:es.length≤1000000:=by omega
 have r:=zj3 L;have Q:za9 d.fs (xd es):=by
  have h1:=zqb W;intro q y hy;have:=h1 q y hy;rw [zc2 h.apart Z] at this;exact this
 obtain⟨J,R⟩:=E.there A;obtain⟨S,t1,H,h1⟩:=zym (c:=cpT x es) r J h.apart h.turned Q (fun f A=>zo3 f A);have K:(cpT x es).length≤1048576:=by
  have h8:(ye es).length=8:=qk _ _;have h1:=js (es.length:Int) (by omega) (by omega);rw [Int.toNat_natCast] at h1;have h2:=vw (ye es);have V:(zid es.length (ye es) x.key).length=16:=by unfold zid;rw [vw];rfl
  have h4:zaz.length≤10:=by decide
  unfold cpT;rw [zg0];simp only [List.length_append,List.length_cons,List.length_nil];omega
 refine⟨⟨S,z5q E.short h.data K (by omega) S H,?_,zxp h.among E.ins H,by omega,by rw [Y];exact h.key,t1⟩,H,r,?_⟩
 ·have h1:=zrx (xr es put) (cpT x es) d;have h2:=zsq es put;have V:=h.count;omega
 ·rcases h1 with ⟨e,U,l1,l2⟩ | h1
  ·refine .inl ⟨e,U,l1,fun f A=>?_⟩;rcases zwk E.le f A with I | I
   ·exact l2 f I
   ·exact H.stays (R f I) (fun e=>r.2 f.2 (by rw [← e];exact A))
  ·exact .inr h1
def jx (d:Dk):Prop:=d.failAt=0∧d.dead=false∧d.hit=false
theorem jx.enter {d:Dk}(h:jx d):jx (yg d):=by
 obtain⟨h1,h2,r⟩:=h;unfold yg;rw [h2,if_neg (by simp),if_neg (by omega)];exact⟨h1,rfl,r⟩
theorem jx.files {d:Dk}(h:jx d)(fs:Fs):jx { d with fs:=fs }:=h
theorem jx.put {d:Dk}(h:jx d)(p x:List UInt8):jx (za8 d p x):=by
 unfold za8
 split
 ·split
  ·split
   ·exact h.enter.files _
   ·exact h.enter
  ·exact⟨h.enter.1,h.enter.2.1,h.enter.2.2⟩
 ·split
  ·exact h.enter.files _
  ·exact h.enter
theorem jx.puts:∀(l:Fs) {d:Dk} ,jx d→jx (qy l d).2
 | [],_,h=>h
 | f::r,d,h=>by
  unfold qy
  split
  ·exact h.put _ _
  ·exact jx.puts r (h.put _ _)
theorem jx.swap {d:Dk}(h:jx d)(p x:List UInt8):jx (zdl d p x):=by
 unfold zdl
 split
 ·exact h.enter.files _
 ·exact h.enter
theorem jx.pub {d:Dk}(h:jx d)(xr:Fs)(c:List UInt8):jx (vj xr c d).2:=by
 have h1:=h.puts xr;unfold vj;generalize qy xr d=r at *
 obtain⟨o,A⟩:=r;cases o with
 | some p=>exact h1
 | none =>
  simp only
  split
  ·exact h1.swap _ _
  ·exact h1.swap _ _
theorem z1f {r xd:Fs}(h:za9 r xd):zat r xd=false:=by
 unfold zat;rw [List.any_eq_false];intro f A;rcases h f.1 f.2 A with e | e<;>rw [e]<;>simp
def Chp (fs:Fs)(es:List (List UInt8))(h:Nat)(key:List UInt8):Prop :=
 h≤es.length∧((yp fs cpF=none∧h=0)∨(yp fs cpF=some (jr h (ye (es.take h)) key)∧ju fs es h))
theorem ztx (fs:Fs)(es:List (List UInt8)):ju fs es 0:=fun f h=>absurd h (by rw [List.take_zero];exact zta)
theorem ju.more {fs:Fs}{es:List (List UInt8)}{n:Nat}(h:ju fs es n)(A:n≤es.length)(more:List (List UInt8)):ju fs (es++more) n:=fun f r=>h f (by rw [List.take_append_of_le_length A] at r;exact r)
theorem Chp.more {fs:Fs}{es:List (List UInt8)}{r:Nat}{key:List UInt8}(h:Chp fs es r key)(more:List (List UInt8)):Chp fs (es++more) r key:=by
 refine⟨by have:=h.1;simp;omega,?_⟩;rcases h.2 with h1 | ⟨h1,h2⟩
 ·exact .inl h1
 ·exact .inr ⟨by rw [List.take_append_of_le_length h.1];exact h1,h2.more h.1 more⟩
theorem z1b {es:List (List UInt8)}{put:Nat}{c:List UInt8}{d:Dk}(r:jx d)(A:za1 d.fs)(I:d.turned=false)(E:es.length≤1000000)(H:za9 d.fs (xd es)):(vj (xr es put) c d).1=none:=by
 obtain⟨-,-,-,h⟩:=zym (c:=c) (zj3 E) ⟨r.2.1,r.2.2⟩ A I H (fun f D=>zo3 (put:=put) f D);rcases h with h | ⟨-,h⟩
 ·exact h.1
 ·rw [(r.pub (xr es put) c).2.2] at h;simp at h
def yat (w:World)(O:Nat→Prop)(A:Nat)(D r:Value)(x:Wd)(d:Dk)(s:List Nat)(es:List (List UInt8))(put:Nat):Prop :=
 ∃ h lb,D= .pointer (some ⟨h,0,none⟩)∧O h∧zf2 w h lb∧qz w O A lb { key:=x.key,es:=es,put:=put,live:=!x.failed }∧w.ownsRow 0 9 1 r es.length (es.map txv)∧(∀ g,r.ownBlock=some g→O g)∧Ent x d s es put
def zdp (w:World)(O:Nat→Prop)(D h:Nat)(A r:Value)(x:Wd)(d:Dk)(s:List Nat)(n:Nat)(es:List (List UInt8))(put:Nat):Prop :=
 x.foreign=false∧WAt w D h A r x∧zq w O h d∧Num n x d s∧yat w O h A r x d s es put
theorem zdp.stay {w w':World}{O N:Nat→Prop}{T:List Nat}{H A:Nat}{E D:Value}{x:Wd}{d:Dk}{s:List Nat}{n:Nat}{es:List (List UInt8)}{put:Nat}(h:zdp w O H A E D x d s n es put)(r:zg N T w w')(h1:39∉T)(h2:64∉T)(X:51∉T)(Y:131∉T)(h5:9∉T)(h6:189∉T)(Z:100∉T)(h8:5∉T):zdp w' O H A E D x d s n es put:=by
 obtain⟨I,J,K,L,pb,lb,e,Q,R,S,U,V,W⟩:=h;exact⟨I,r.keep J h1,K.stay r h2 X,L,pb,lb,e,Q,r.keep R Y,S.stay r h6 Z h8,zi U r h5,V,W⟩
theorem zdp.mono {w:World}{O O':Nat→Prop}{H A:Nat}{E D:Value}{x:Wd}{d:Dk}{s:List Nat}{n:Nat}{es:List (List UInt8)}{put:Nat}(h:zdp w O H A E D x d s n es put)(r:∀ k,O k→O' k):zdp w O' H A E D x d s n es put:=by
 obtain⟨I,J,K,L,Y,lb,e,Q,R,S,U,V,W⟩:=h;exact⟨I,J,K.mono r,L,Y,lb,e,r _ Q,R,S.mono r,U,fun g X=>r g (V g X),W⟩
theorem zdp.later {w:World}{O:Nat→Prop}{E r:Nat}{D A:Value}{x:Wd}{d:Dk}{s:List Nat}{n m:Nat}{es:List (List UInt8)}{put:Nat}(h:zdp w O E r D A x d s n es put)(hm:n≤m):zdp w O E r D A x d s m es put :=
 ⟨h.1,h.2.1,h.2.2.1,h.2.2.2.1.more hm,h.2.2.2.2⟩
structure RP (B:Nat)(w:World)(O:Nat→Prop)(wb db n:Nat)(es:List (List UInt8))(pub:Nat)(key:List UInt8)(d:Dk):Prop where
 hwb:O wb
 own:∀ k,O k→B≤k∧k < w.heap.size
 full:∃ lv ev s put,zdp w O wb db lv ev { key:=key,published:=(pub:Int),failed:=false,foreign:=false } d s n es put
 still:jx d
 since:zf8 d.fs es
 chk:Chp d.fs es pub key
theorem RP.stay {B:Nat}{w w':World}{O N:Nat→Prop}{T:List Nat}{H A n:Nat}{es:List (List UInt8)}{r:Nat}{key:List UInt8}{d:Dk}(h:RP B w O H A n es r key d)(E:zg N T w w')(h1:39∉T)(h2:64∉T)(J:51∉T)(K:131∉T)(h5:9∉T)(h6:189∉T)(L:100∉T)(Q:5∉T):RP B w' O H A n es r key d:=by
 obtain⟨R,I,s,put,g⟩:=h.full;exact⟨h.hwb,fun k D=>⟨(h.own k D).1,Nat.lt_of_lt_of_le (h.own k D).2 E.size⟩,⟨R,I,s,put,g.stay E h1 h2 J K h5 h6 L Q⟩,h.still,h.since,h.chk⟩
theorem RP.below {B:Nat}{w w':World}{O:Nat→Prop}{D A n:Nat}{es:List (List UInt8)}{r:Nat}{key:List UInt8}{d:Dk}(h:RP B w O D A n es r key d)(E:Below w.heap.size w w'):RP B w' O D A n es r key d :=
 h.stay (N:=fun _=>False) (T:=[]) (.of_below E) (by simp) (by simp) (by simp) (by simp) (by simp) (by simp) (by simp) (by simp)
theorem RP.later {B:Nat}{w:World}{O:Nat→Prop}{D A n m:Nat}{es:List (List UInt8)}{r:Nat}{key:List UInt8}{d:Dk}(h:RP B w O D A n es r key d)(hm:n≤m):RP B w O D A m es r key d:=by
 obtain⟨H,E,s,put,g⟩:=h.full;exact⟨h.hwb,h.own,⟨H,E,s,put,g.later hm⟩,h.still,h.since,h.chk⟩
theorem RP.ext {B:Nat}{w w':World}{O:Nat→Prop}{E D n:Nat}{es:List (List UInt8)}{A:Nat}{key:List UInt8}{d:Dk}(h:RP B w' O E D n es A key d)(I:B≤w.heap.size):RP B w' (Ext O w w') E D n es A key d:=by
 obtain⟨J,H,s,put,g⟩:=h.full;exact⟨.inl h.hwb,fun k r=>by
  rcases r with r | r
  ·exact h.own k r
  ·exact⟨Nat.le_trans I r.1,r.2⟩,⟨J,H,s,put,g.mono (fun _ h=> .inl h)⟩,h.still,h.since,h.chk⟩
theorem zra (O:Nat→Prop)(W:World)(an:Nat→Addr)(ap:ja W an)(I db:Nat)(lv ev:Value)(x:Wd)(d:Dk)(s:List Nat)(n:Nat)(t:List UInt8)(w:World)(ac:∀ k,O k→W.heap.size≤k∧k < w.heap.size)(hW:Below W.heap.size W w)(hn:n≤4200)(ht:t.length≤9223372036854775807)(hO:O I)(es:List (List UInt8))(put:Nat)(h:zdp w O I db lv ev x d s n es put):
  Calls Tryz.prog 27 #[.pointer (some ⟨I,0,none⟩),.string ⟨t.toArray⟩] w fun r w'=>r= .returned (.bool true)∧zg O aT w w'∧(Below w.heap.size w w'∨(t.length≤20∧(∀ k,Ext O w w' k→W.heap.size≤k∧k < w'.heap.size)∧∃ aN aI s',zdp w' (Ext O w w') I db aN aI x d s' (n+1) (es++[t]) put)):=by
 obtain⟨au,ah,hd,A,pb,lb,rfl,ao,av,S,ae,aw,E⟩:=h;have a6:=za A;have aF:=za ah;have HD:=za hd;have a9:=za ac;have a7:Hid (∀ k,O k→W.heap.size≤k):=fun k V=>(ac k V).1;have HW:=za hW;have aD:=za ap;have HO:=za hO;have a1:=za au;have ak:=za av;have a2:=za S;have aB:=za ae;have al:=za aw;have a0:=za E;have a8:=za ao;have aP:es.length≤40000:=by have:=zhu E;have:=A.small;omega
 obtain⟨-,-,⟨c2,-⟩,-⟩:=zgp ah;obtain⟨ea,ec,rfl⟩:=xu ae;clear ah hd A ac hW ap hO au av S ae aw E ao;go_enter Tryz.func27,Tryz.ntmps27;go_wp2_with fail;refine(ztl O W an aD.o a7.o db pb lb _ t w HW.o (by show es.length≤_;omega) ht ak.o a2.o).mono ?_;rintro r D ⟨af,aK⟩;have L:=za af;have aa:Hid (WAt D I db (.pointer (some ⟨pb,0,none⟩)) (.slice ea es.length ec) x):=af.keep aF.o (by decide);obtain⟨⟨k0,-⟩,⟨k1,-⟩,⟨k2,f2⟩,⟨k3,f3⟩,⟨k4,f4⟩,⟨k5,f5⟩,-⟩:=zgp aa.o;unfold vr at k0;unfold txv at k1;have a5:∀ o,(D.alloc o).cell? ⟨I,5,none⟩=some (.bool x.failed):=fun o=>by rw [zl _ _ ⟨I,5,none⟩ (zk k5)];exact k5
 have a3:∀ o,(D.alloc o).cell? ⟨I,3,none⟩=some (.slice ea es.length ec):=fun o=>by rw [zl _ _ ⟨I,3,none⟩ (zk k3)];exact k3
 clear af c2 k0 k1 k2 f2 k3 f3 k4 f4 k5 f5;rcases aK with ⟨h20,rfl,hb⟩ | ⟨h20,R,rfl,hb⟩ | ⟨h20,R,rfl,S⟩
 ·have HB:=za hb;unfold told;clear hb;go_wp2_with fail;go_ret;have Q:=fun o=>HB.o.alloc HB.o.size o;exact⟨by first | rfl | simp,zg.of_below (Q _),.inl (Q _)⟩
 ·have HB:=za hb;have K:x.failed=true:=by simpa using R
  unfold told;rw [K] at a5;clear hb R K;go_wp2_with fail;go_ret;have Q:=fun o=>HB.o.alloc HB.o.size o;exact⟨by first | rfl | simp,zg.of_below (Q _),.inl (Q _)⟩
 ·have K:x.failed=false:=by simpa using R
  have aO:=za K;have H:zg O [] D (D.alloc (.cells #[.int .i64 0,.string ⟨#[]⟩] 31)):= .of_below (ze D _);have ar:(D.alloc (.cells #[.int .i64 0,.string ⟨#[]⟩] 31)).heap[D.heap.size]?=some (.cells #[.int .i64 0,.string ⟨#[]⟩] 31 (0,0)):=heap_alloc_last _ _;have ai:∀ k,Ext O w D k→Ext O w (D.alloc (.cells #[.int .i64 0,.string ⟨#[]⟩] 31)) k:=fun k V=>Ext.more H.size k V;have a4:=za ((S.stay H (by simp) (by simp) (by simp)).mono ai);have hT:zg O aT w D:=L.o.mono (fun _ h=>h) (by decide);have aE:Hid (zg O aT w (D.alloc (.cells #[.int .i64 0,.string ⟨#[]⟩] 31))):=hT.trans (H.mono (fun _ h=> .inl h) (by simp));have aC:=za (zi (zi aB.o L.o (by decide)) H (by simp));have az:Hid (zq (D.alloc (.cells #[.int .i64 0,.string ⟨#[]⟩] 31)) (Ext O w D) db d):=((HD.o.stay L.o (by decide) (by decide)).mono (fun _ h=> .inl h)).stay H (by simp) (by simp);have aA:Hid (zf2 (D.alloc (.cells #[.int .i64 0,.string ⟨#[]⟩] 31)) pb lb):=zh2 (zh2 ak.o L.o (by decide)) H (by simp);have aG:Hid (WAt (D.alloc (.cells #[.int .i64 0,.string ⟨#[]⟩] 31)) I db (.pointer (some ⟨pb,0,none⟩)) (.slice ea es.length ec) x):=H.keep aa.o (by simp);have ay:=za ar;have aH:=za ai;have aM:Hid (w.heap.size≤D.heap.size):=L.o.size;have aQ:¬ D.heap.size=I:=by have:=zb aa.o;omega
  unfold told;rw [K] at a5;clear R K S hT H ar ai;go_wp2_with (at_builtin;refine zn6 (D.alloc (.cells #[.int .i64 0,.string ⟨#[]⟩] 31)) rfl _ _ rfl 0 (Nat.zero_le _) (.slice ea es.length ec) es rfl aC.o t (D.heap.size+1) (by simp) rfl (by omega) ?_;intro v' Z ad Y aq;have aj:=za ad;have ax:=za aq;have J:=za Y;obtain⟨ya,yc,he⟩:=xu ad;subst he;have ag:WAt Z I db (.pointer (some ⟨pb,0,none⟩)) (.slice ea es.length ec) x:=Y.keep aG.o (by decide);have am:=za ag;obtain⟨-,-,-,⟨m3,g3⟩,-⟩:=zgp ag;obtain⟨n0,-⟩:=zf (Y.keep ay.o (by decide)) 0 _ rfl;clear ad Y ag aq);go_ret;have aL:=(zxi am.o).2.1 (.slice ya (es.length+1) yc);have U:zg (fun k=>k=I) [39] Z (Z.setCell ⟨I,3,none⟩ (.slice ya (es.length+1) yc)):=(zg.refl (fun k=>k=I) [39] Z).set (.inl rfl) am.o (by simp) _;have X:(Z.setCell ⟨I,3,none⟩ (.slice ya (es.length+1) yc)).heap.size=Z.heap.size:=by simp [World.setCell]
  have h3:zg O aT w Z:=aE.o.trans (J.o.mono (fun g hg=> .inl (al.o g hg)) (by decide));have hx:∀ k,Ext O w D k→Ext O w (Z.setCell ⟨I,3,none⟩ (.slice ya (es.length+1) yc)) k:=fun k V=>Ext.more (by rw [X];exact J.o.size) k (aH.o k V);refine⟨by first | rfl | simp,h3.trans (U.mono (fun k V=> .inl (by rw [V];exact HO.o)) (by decide)),.inr ⟨h20,zj2 HW.o.size a9.o (by rw [X];exact h3.size),_,_,es.length / 4::s,a1.o,aL,((az.o.stay J.o (by decide) (by decide)).stay U (by decide) (by decide)).mono hx,?_,pb,lb,rfl,.inl a8.o,zh2 (zh2 aA.o J.o (by decide)) U (by decide),((a4.o.stay J.o (by decide) (by decide) (by decide)).stay U (by decide) (by decide) (by decide)).mono (fun k V=>Ext.more (by rw [X];exact J.o.size) k V),by have h:=zi aj.o U (by decide);rw [List.length_append] at h ⊢;exact h,fun g hg=>?_,?_⟩⟩
  ·have A:=a6.o;exact⟨A.apart,A.data,Nat.le_trans A.count (Nat.add_le_add_left (Nat.mul_le_mul_right _ (Nat.le_succ n)) _),fun j w' h1 h4 h=>List.mem_cons_of_mem _ (A.among j w' h1 h4 h),by have:=A.small;simp only [List.length_cons];omega,A.key,A.turned⟩
  ·have hg:(Value.slice ya (es++[t]).length yc).ownBlock=some g:=by rw [List.length_append];exact hg
   have aJ:=aj.o.lt g hg;rcases ax.o g hg with h | h
   ·exact .inl (al.o g h)
   ·exact .inr ⟨by have:=aM.out;simp at h;omega,by rw [X];exact aJ.2⟩
  ·have E:=a0.o;refine⟨fun e he=>?_,fun j hj=>?_,by have:=E.le;rw [List.length_append];omega,fun hf=>?_⟩
   ·rcases List.mem_append.1 he with he | he
    ·exact E.short e he
    ·obtain rfl:e=t:=by simpa using he
     exact h20
   ·rw [List.length_append] at hj;simp only [List.length_cons,List.length_nil] at hj;by_cases h4:4*j < es.length
    ·exact List.mem_cons_of_mem _ (E.ins j h4)
    ·obtain rfl:j=es.length / 4:=by omega
     exact List.mem_cons_self
   ·rw [List.take_append_of_le_length E.le];exact E.there hf
theorem zze (O:Nat→Prop)(W:World)(I:Nat→Addr)(hE:Env W)(L:ja W I)(K:∀ k,O k→W.heap.size≤k)(J pb lb:Nat)(d:Dk)(l:Lg)(w:World)(hn:d.fs.length+(xr l.es l.put).length≤900000000)(he:l.es.length≤1000000)(ad:l.put≤l.es.length)(h20:∀ e∈l.es,e.length≤20)(hk:l.key.length≤2097152)(hW:Below W.heap.size W w)(hp:zf2 w pb lb)(h:zq w O J d)(hL:qz w O J lb l)(aa:l.live=true)(R:(vj (xr l.es l.put) (jr l.es.length (ye l.es) l.key) d).1=none):
  Calls Tryz.prog 57 #[.pointer (some ⟨pb,0,none⟩)] w fun r w'=>zg O pT w w' ∧
   ((l.live=false∧r= .returned (.tuple #[.int .i64 0,told 7])∧Below w.heap.size w w') ∨
    (l.live=true∧(vj (xr l.es l.put) (jr l.es.length (ye l.es) l.key) d).1=none∧r= .returned (.tuple #[.int .i64 (l.es.length:Int),told 0])∧zq w' (Ext O w w') J (vj (xr l.es l.put) (jr l.es.length (ye l.es) l.key) d).2∧qz w' (Ext O w w') J lb { l with put:=l.es.length }) ∨
    (l.live=true∧∃ p,(vj (xr l.es l.put) (jr l.es.length (ye l.es) l.key) d).1=some p∧r= .returned (.tuple #[.int .i64 0,z5p 8 p])∧zq w' (Ext O w w') J (vj (xr l.es l.put) (jr l.es.length (ye l.es) l.key) d).2∧qz w' (Ext O w w') J lb { l with live:=false })):=by
 have ak:∀ o,(w.alloc o).cell? ⟨pb,0,none⟩=some (.pointer (some ⟨lb,0,none⟩)):=fun o=>by
  rw [zl _ _ ⟨_,0,none⟩ (zb hp)];exact(zf hp 0 _ rfl).1
 have E:Below w.heap.size w (w.alloc (.cells #[.int .i64 0,.string ⟨#[]⟩] 31)):=ze _ _;have S:=zrv O W I hE L K J lb d l (w.alloc (.cells #[.int .i64 0,.string ⟨#[]⟩] 31)) hn he ad h20 hk (hW.trans (E.mono hW.size)) (h.stay (O1:=fun _=>False) (T:=[]) (.of_below E) (by simp) (by simp)) (hL.stay (O1:=fun _=>False) (T:=[]) (.of_below E) (by simp) (by simp) (by simp));generalize vj (xr l.es l.put) (jr l.es.length (ye l.es) l.key) d=pr at S R ⊢;have ag:=za aa;have ah:=za R;clear aa R;have HW:=za hW;have HO:=za K;have HS:=za L;have Z:zg O pT w (w.alloc (.cells #[.int .i64 0,.string ⟨#[]⟩] 31)):=(zg.refl _ _ _).alloc _;have ai:Hid (zch w.heap.size (w.alloc (.cells #[.int .i64 0,.string ⟨#[]⟩] 31))):=heap_alloc_last _ _;have X:=za Z;have am:=za E;clear h hL h20 hW K hE L hp hn he ad hk Z E;go_enter Tryz.func57,Tryz.ntmps57;go_wp2_with fail;refine S.mono ?_;clear S ak;generalize w.alloc (.cells #[.int .i64 0,.string ⟨#[]⟩] 31)=w0 at *
 rintro r V ⟨U,al⟩;have Y:Hid (zg O pT w V):=X.o.trans (U.mono (fun _ h=> .inl h) (fun _ h=>h));have aj:Hid (zch w.heap.size V):=ai.o.turn U (by decide);have af:Hid (Below W.heap.size W V):=HW.o.trans (Y.o.below HO.o HW.o.size);have HX:Hid (∀ k,Ext O w0 V k→Ext O w V k):=fun k hk=>by
  rcases hk with h | h
  ·exact .inl h
  ·exact .inr ⟨Nat.le_trans X.o.size h.1,h.2⟩
 clear U;rcases al with ⟨A,rfl,hb⟩ | ⟨A,ac,rfl,hd,hl⟩ | ⟨A,p,e,ae,rfl,an,hd,hl⟩
 ·rw [ag.o] at A;simp at A
 ·have HD:=za (hd.mono HX.o);have HL:=za (hl.mono HX.o);have HN:=za (And.intro A ac);clear hd hl A ac;go_wp2_with fail;refine(zqr I V (j5 HS.o af.o)).mono ?_;rintro r w3 ⟨rfl,Q⟩;have H:=za Q;have D:=za (aj.o.below Q);obtain⟨c0,z0⟩:=zf D.o 0 _ rfl;obtain⟨c1,z1⟩:=zf D.o 1 _ rfl;clear Q;unfold told;go_wp2_with fail;exact bodyPost_ret (v:= .tuple #[.int .i64 (l.es.length:Int),.agg #[.int .i64 0,.string ⟨([]:List UInt8).toArray⟩]]) (j3 Tryz.results57 _ _ w.heap.size 31 _ (0,0) _ rfl (zal D.o _ _ rfl) Tryz.underlying31 rfl (by kernel_rfl) _ rfl) rfl ⟨zel (Y.o.then_below H.o),.inr (.inl ⟨HN.o.1,HN.o.2,rfl,(HD.o.later H.o).sets2 D.o,(HL.o.later H.o).sets2 D.o⟩)⟩
 ·rw [ah.o] at ae;simp at ae
theorem zzz {w:World}{r A:Nat}{E D:Value}{x:Wd}(h:WAt w r A E D x)(b:Bool):
  WAt (w.setCell ⟨r,6,none⟩ (.bool b)) r A E D { x with foreign:=b }∧zg (fun k=>k=r) [39] w (w.setCell ⟨r,6,none⟩ (.bool b)) :=
 ⟨(zxi h).2.2.2.2 b,(zg.refl (fun k=>k=r) [39] w).set (.inl rfl) h (by simp) _⟩
theorem z0p {w:World}{r A:Nat}{E D:Value}{x:Wd}(h:WAt w r A E D x)(m:Int):
  WAt (w.setCell ⟨r,4,none⟩ (.int .i64 m)) r A E D { x with published:=m }∧zg (fun k=>k=r) [39] w (w.setCell ⟨r,4,none⟩ (.int .i64 m)) :=
 ⟨(zxi h).2.2.1 m,(zg.refl (fun k=>k=r) [39] w).set (.inl rfl) h (by simp) _⟩
theorem zog (O:Nat→Prop)(W:World)(bK:Nat→Addr)(hE:Env W)(bM:ja W bK)(E H:Nat)(lv ev:Value)(x:Wd)(d:Dk)(s:List Nat)(n:Nat)(w:World)(aI:∀ k,O k→W.heap.size≤k∧k < w.heap.size)(hW:Below W.heap.size W w)(hn:n≤4100)(hO:O E)(es:List (List UInt8))(put:Nat)(h:zdp w O E H lv ev x d s n es put)(ca:x.failed=false)(aV:jx d)(aS:za9 d.fs (xd es))(c0:List UInt8)(bQ:c0=cpT x es):
  Calls Tryz.prog 28 #[.pointer (some ⟨E,0,none⟩)] w fun r w'=>r= .returned (.bool true)∧zg O aT w w'∧(∀ k,Ext O w w' k→W.heap.size≤k∧k < w'.heap.size)∧∃ dd cW d',zdp w' (Ext O w w') E H dd cW { x with foreign:=false,published:=(es.length:Int) } d' s (n+1) es es.length∧jx d'∧zd6 (xd es) c0 d.fs d'.fs∧yp d'.fs cpF=some c0∧∀ f∈xd es,yp d'.fs f.1=some f.2:=by
 obtain⟨bY,a3,hd,X,Y,lb,rfl,bL,cm,cg,an,co,az⟩:=h;have bk:=za ca;have c9:=za aS;have bc:=za bQ;have b9:=za (aV.pub (xr es put) (cpT x es));have cA:=za (z1b (c:=cpT x es) (put:=put) aV X.apart X.turned (by have:=zhu az;have:=X.small;omega) aS);clear ca aV aS bQ;have ac:=za X;have bC:=za a3;have HD:=za hd;have bq:=za aI;have a9:Hid (∀ k,O k→W.heap.size≤k):=fun k Q=>(aI k Q).1;have HW:=za hW;have bg:=za hE;have b8:=za bM;have HO:=za hO;have cx:=za bY;have br:=za cm;have bo:=za cg;have b6:=za an;have b5:=za co;have S:=za az;have bp:=za bL;have d5:=z2u a3 hd;have d3:es.length≤40000:=by have:=zhu az;have:=X.small;omega
 have dc:=zsq es put;have ap:Hid (d.fs.length+(xr es put).length≤800000000):=by have:=X.count;show _≤_;omega
 obtain⟨⟨c0,-⟩,-⟩:=zgp a3;obtain⟨ea,ec,rfl⟩:=xu an;clear a3 hd X aI hW hE bM hO bY cm cg an co az bL dc;go_enter Tryz.func28,Tryz.ntmps28;go_wp2_with fail;refine(zco O H E d w (by have:=ap.out;omega) HD.o c0).mono ?_;rintro r w2 ⟨v2,ao,rfl,ck,bW,aw,ci⟩;have au:=za ck;have b3:=za ci;have ah:zg O [] w w2:= .of_below aw;have bF:Hid (WAt w2 E H (.pointer (some ⟨Y,0,none⟩)) (.slice ea es.length ec) x):=ah.keep bC.o (by simp);have cv:Hid (zq w2 O H d):=HD.o.stay ah (by simp) (by simp);have bs:Hid (zf2 w2 Y lb):=ah.keep br.o (by simp);have c7:=za (bo.o.stay ah (by simp) (by simp) (by simp));have cH:=za (zi b6.o ah (by simp));have aD:Hid (Below W.heap.size W w2):=HW.o.trans (aw.mono HW.o.size);have ba:=za aw;obtain⟨-,-,⟨d2,-⟩,-⟩:=zgp bF.o;obtain⟨va,vc,he,-⟩:=id bW;subst he;clear ck bW aw ci ah c0 HD bC br bo b6;go_wp2_with fail;refine(zze O W bK bg.o b8.o a9.o H Y lb d _ w2 (by have:=ap.out;show d.fs.length+(xr es put).length≤_;omega) (by show es.length≤_;omega) S.o.le S.o.short (by have:=ac.o.key;show x.key.length≤_;omega) aD.o bs.o cv.o c7.o (by show(!x.failed)=true;rw [bk.o];rfl) cA.o).mono ?_;rintro r D ⟨U,cp⟩;have dz:=za U;have aE:Hid (WAt D E H (.pointer (some ⟨Y,0,none⟩)) (.slice ea es.length ec) x):=U.keep bF.o (by decide);have bt:Hid (zf2 D Y lb):=U.keep bs.o (by decide);have b7:=za (zi cH.o U (by decide));have d1:Hid (Below W.heap.size W D):=aD.o.trans (U.below a9.o aD.o.size);have cM:Hid (zg O aT w D):=(zg.of_below ba.o).trans (U.mono (fun _ h=> .inl h) (by decide));have b4:=za (zi b3.o U (by decide));obtain⟨⟨g0,-⟩,-⟩:=zgp aE.o;have cZ:=g0;unfold vr at g0;have a0:∀ o,(D.alloc o).cell? ⟨E,0,none⟩=some (.pointer (some ⟨H,0,none⟩)):=fun o=>by rw [zl _ _ ⟨E,0,none⟩ (zk g0)];exact g0
 clear U d2;by_cases a1:x.failed=true
 ·rw [bk.o] at a1;simp at a1
 ·have aq:x.failed=false:=by simpa using a1
  have bj:=za aq;have bx:=za (fun hc=>z7d (x':=x) hn ac.o S.o aq au.o hc rfl);have cn:(vj (xr es put) (cpT x es) d).2.fs.length≤800000001:=by have:=zrx (xr es put) (cpT x es) d;have:=ap.out;omega
  have bw:=za cn;obtain⟨nv,I,pv,a5,a4,hr,bT,cf,bR⟩:∃(nv I:Int) (pv:List UInt8) (a5:Nat) (a4:Bool),r= .returned (.tuple #[.int .i64 nv,.agg #[.int .i64 I,.string ⟨pv.toArray⟩]])∧zq D (Ext O w2 D) H (vj (xr es put) (cpT x es) d).2∧qz D (Ext O w2 D) H lb { key:=x.key,es:=es,put:=a5,live:=a4 }∧(((vj (xr es put) (cpT x es) d).1=none∧nv=es.length∧I=0∧a5=es.length∧a4=true)∨((vj (xr es put) (cpT x es) d).1=some pv∧nv=0∧I=8∧a5=put∧a4=false)):=by
   rcases cp with ⟨h,-⟩ | ⟨-,h1,h2,h3,h4⟩ | ⟨-,p,h1,h2,h3,h4⟩
   ·simp [aq] at h
   ·exact⟨_,0,[],es.length,true,h2,h3,by rw [aq] at h4;exact h4,.inl ⟨h1,rfl,rfl,rfl,rfl⟩⟩
   ·exact⟨_,8,p,put,false,h2,h3,h4,.inr ⟨h1,rfl,rfl,rfl,rfl⟩⟩
  subst hr;generalize vj (xr es put) (cpT x es) d=pd at *
  have a7:=za bT;have bm:=za cf;have bd:=za bR;clear cp a1 aq bT cf bR cn;have aJ:zg O [] D (D.alloc (.cells #[.int .i64 I,.string ⟨pv.toArray⟩] 31)):= .of_below (ze D _);have cL:=za aJ;have a8:=za (a7.o.stay aJ (by simp) (by simp));have bb:Hid ((D.alloc (.cells #[.int .i64 I,.string ⟨pv.toArray⟩] 31)).heap[D.heap.size]?=some (.cells #[.int .i64 I,.string ⟨pv.toArray⟩] 31 (0,0))):=heap_alloc_last _ _;clear aJ;go_wp2_with fail;refine(z7n (Ext O w2 D) H pd.2 _ (by exact a8.o)).mono ?_;rintro r dA ⟨rfl,rfl⟩;go_wp2_with fail;refine(zco (Ext O w2 D) H E pd.2 _ (by have:=bw.o;omega) (by exact a8.o) (by exact a0 _)).mono ?_;rintro r w5 ⟨v5,J,rfl,cl,bX,aN,cj⟩;obtain⟨d6,d7,he,-⟩:=id bX;subst he;have ax:Below D.heap.size D w5:=(ze D _).trans (aN.mono (ze D _).size);have ct:Hid (w5.heap[D.heap.size]?=some (.cells #[.int .i64 I,.string ⟨pv.toArray⟩] 31 (0,0))):=(zg.of_below (O:=O) (T:=[]) aN).keep bb.o (by simp);have V:zg O [] D w5:= .of_below ax;have bB:Hid (zg O aT w w5):=cM.o.then_below ax;have aF:Hid (WAt w5 E H (.pointer (some ⟨Y,0,none⟩)) (.slice ea es.length ec) x):=V.keep aE.o (by simp);have aH:Hid (∀ k,Ext O w2 D k→Ext O w w5 k):=fun k Q=>by
   rcases Q with Q | Q
   ·exact .inl Q
   ·exact .inr ⟨Nat.le_trans ba.o.size Q.1,Nat.lt_of_lt_of_le Q.2 ax.size⟩
  have bf:Hid (zq w5 (Ext O w w5) H pd.2):=(a7.o.stay V (by simp) (by simp)).mono aH.o;have bn:=za ((bm.o.stay V (by simp) (by simp) (by simp)).mono aH.o);have bu:Hid (zf2 w5 Y lb):=V.keep bt.o (by simp);have aB:=za (zi b7.o V (by simp));have aA:=za (zi b4.o V (by simp));have b1:=za cj;have av:=za cl;obtain⟨⟨k0,-⟩,⟨k1,-⟩,⟨k2,-⟩,⟨k3,-⟩,⟨k4,-⟩,⟨k5,-⟩,-⟩:=zgp aF.o;rw [bj.o] at k5;generalize D.heap.size=df at *
  clear cl bX ax aN cj V g0 cZ a0 k0 k1 k2 k4 cL a8 bb a7 bm bt b7 b4 b3 aE aH;go_wp2_with fail;refine(zq1 _ es w5 (by omega) S.o.short (zdc aB.o)).mono ?_;rintro r w6 ⟨v6,rfl,aO,aU⟩;obtain⟨wa,wc,he⟩:=xu aU;subst he;have bN:zg O [] w5 w6:= .of_below aO;have aC:=za aU;have b2:=za (zi aA.o bN (by simp));have aW:Hid ((xd es).length≤1000000000):=by have:=zwj es;show _≤_;omega
  have bP:Hid (ao.length≤1000000000):=by have:=ap.out;show _≤_;rw [au.o.length_eq];omega
  have aK:Hid (J.length≤1000000000):=by have:=bw.o;show _≤_;rw [av.o.length_eq];omega
  have a6:=za aO;clear k3 k5 aU aO bN;go_wp2_with fail;refine(z1t _ _ ao (xd es) w6 bP.out aW.out (zbi b2.o) (zbi aC.o)).mono ?_;rintro r R ⟨rfl,aP⟩;have ay:Below w5.heap.size w5 R:=a6.o.trans (aP.mono a6.o.size);have bO:zg O [] w6 R:= .of_below aP;have L:zg O [] w5 R:= .of_below ay;have cN:Hid (zg O aT w R):=bB.o.then_below ay;have bG:Hid (WAt R E H (.pointer (some ⟨Y,0,none⟩)) (.slice ea es.length ec) x):=L.keep aF.o (by simp);have aY:∀ k,Ext O w w5 k→Ext O w R k:=fun k Q=>Ext.more ay.size k Q;have cw:Hid (zq R (Ext O w R) H pd.2):=(bf.o.stay L (by simp) (by simp)).mono aY;have c6:=za ((bn.o.stay L (by simp) (by simp) (by simp)).mono aY);have ar:Hid (R.heap[df]?=some (.cells #[.int .i64 I,.string ⟨pv.toArray⟩] 31 (0,0))):=L.keep ct.o (by simp);have cC:Hid (zf2 R Y lb):=L.keep bu.o (by simp);have af:=za (zi aB.o L (by simp));have ae:=za (zi aA.o L (by simp));have ad:=za (zi b1.o L (by simp));have ag:=za (zi aC.o bO (by simp));obtain⟨⟨k0,-⟩,⟨k1,-⟩,⟨k2,-⟩,⟨k3,-⟩,⟨k4,f4⟩,⟨k5,f5⟩,⟨k6,f6⟩⟩:=zgp bG.o;clear ay bO L aY aP bf bn bu aB aA b1 aC b2 a6 aF bB;cases hcl:zat ao (xd es) with
  | true =>
   have:zat ao (xd es)=false:=z1f (fun q y hy=>by rw [zc2 ac.o.apart au.o];exact c9.o q y hy);rw [this] at hcl;simp at hcl
  | false =>
   have bJ:=za (zzz bG.o false);obtain⟨ch,cq,bZ,bV⟩:=bx.o hcl;have aa:=za ch;have aG:=za cq;have bi:=za bZ;have bh:=za bV;have ak:zg (fun k=>k=E) [39] R (R.setCell ⟨E,6,none⟩ (.bool false)):=bJ.o.2;have cS:=za ak;have dn:=za (zi ae.o ak (by decide));have di:=za (zi ad.o ak (by decide));have dx:=za (zi ag.o ak (by decide));have cI:=za (zi af.o ak (by decide));clear hcl ch cq bZ bV ak bx;go_wp2_with fail;refine(zc7 _ es _ (by omega) S.o.short (zdc (by exact cI.o))).mono ?_;rintro r w9 ⟨rfl,aQ⟩;have al:zg (fun k=>k=E) [39] R w9:=cS.o.then_below aQ;have cU:=za al;have dp:=za (zi ae.o al (by decide));have dj:=za (zi ad.o al (by decide));have dy:=za (zi ag.o al (by decide));have du:=za (zi af.o al (by decide));have bH:Hid (WAt w9 E H (.pointer (some ⟨Y,0,none⟩)) (.slice ea es.length ec) { x with foreign:=false }):=(zg.of_below (O:=O) (T:=[]) aQ).keep bJ.o.1 (by simp);obtain⟨⟨m0,-⟩,⟨m1,-⟩,⟨m2,-⟩,⟨m3,-⟩,⟨m4,g4⟩,⟨m5,g5⟩,⟨m6,g6⟩⟩:=zgp bH.o;simp only at m1 m4 m5;clear aQ al k0 k1 k2 k3 k4 f4 k5 f5 k6 f6;unfold txv at m1;have bz:Hid ((ye es).length=8):=z05 es;have dg:Hid (jr es.length (ye es) x.key=cpT x es):=rfl
   go_upto_region 12 with fail
   go_cut [10] from 71 to 81 (fun de wx=>de= .string ⟨(cpT x es).toArray⟩∧Below w9.heap.size w9 wx)
   case first =>
    have c3:Hid (x.key.length≤2097152):=by have:=ac.o.key;show _≤_;omega
    clear ac S bq a9 HW bg b8 HO cx b5 bp bd aa aG bi bh ap
    go_region_with (go_at_call 60;refine(zuk (es.length:Int) (by omega) (by omega) (ye es) x.key bz.o c3.o w9.drew).mono ?_;rintro r d8 ⟨rfl,am⟩;have cr:=za am;clear am)
    all_goals go_wp2_with fail
    all_goals go_meet
    all_goals exact⟨rfl,(show Below w9.heap.size w9 w9.drew from ⟨rfl,rfl,rfl,Nat.le_refl _,fun _ _=>rfl⟩).trans (cr.o.mono (Nat.le_refl _))⟩
   case rest =>
    obtain⟨rfl,am⟩:=hcut;have K:zg (fun k=>k=E) [39] R wc:=cU.o.then_below am;have cP:=za K;have dk:=za (zi ae.o K (by decide));have dh:=za (zi ad.o K (by decide));have dv:=za (zi ag.o K (by decide));have dq:=za (zi af.o K (by decide));have bD:Hid (WAt wc E H (.pointer (some ⟨Y,0,none⟩)) (.slice ea es.length ec) { x with foreign:=false }):=(zg.of_below (O:=O) (T:=[]) am).keep bH.o (by simp);obtain⟨⟨k0,-⟩,⟨k1,-⟩,⟨k2,-⟩,⟨k3,-⟩,⟨k4,f4⟩,⟨k5,f5⟩,⟨k6,f6⟩⟩:=zgp bD.o;simp only at k1 k4 k5;have cX:=K;obtain⟨p0,-⟩:=zf (K.keep ar.o (by decide)) 0 _ rfl;obtain⟨p1,-⟩:=zf (K.keep ar.o (by decide)) 1 _ rfl;clear am K m0 m1 m2 m3 m4 g4 m5 g5 m6 g6 bz;generalize cpT x es=c at *
    rcases bh.o with ⟨e,c1,l1,l2⟩ | ⟨⟨p,e,hp⟩,hh⟩
    ·clear cX;have c4:=za l1;have cc:pd.2.hit=false:=c1.2;rw [cc];have cu:=za c1;have bl:=za l2;rcases bd.o with ⟨h1,rfl,rfl,rfl,rfl⟩ | ⟨h1,-⟩
     rotate_left
     ·rw [e] at h1;simp at h1
     have a2:yp J cpF=some c:=by rw [zc2 aa.o.apart av.o];exact l1
     obtain⟨k,Q⟩:∃ k,ixF J cpF=some k:=by
      cases e5:ixF J cpF with
      | none=>rw [(vd e5).1] at a2;simp at a2
      | some k=>exact⟨k,rfl⟩
     obtain⟨da,-,aR,-⟩:=j7 Q;have ce:ixI J cpF=k:=by unfold ixI;rw [Q]
     have cd:J[k].2=c:=by rw [a2] at aR;simpa using aR.symm
     have c2:=za ce;have cy:=za cd;have cz:=za (zxf au.o av.o ac.o.apart aa.o.apart bi.o aG.o);have cO:=za (zr6 av.o aa.o.apart l2);have bI:=za (z0p bD.o (es.length:Int));have ai:zg (fun k=>k=E) [39] R (wc.setCell ⟨E,4,none⟩ (.int .i64 (es.length:Int))):=cP.o.trans (bI.o.2.mono (fun _ h=> .inl h) (fun _ h=>h));have cQ:=za ai;have cF:=za (zi ae.o ai (by decide));have b0:=za (zi ad.o ai (by decide));have cJ:=za (zi ag.o ai (by decide));have dr:=za (zi af.o ai (by decide));clear e h1 c1 l1 l2 cc a2 Q aR ce cd ai;go_wp2_with fail;refine(vf _ J cpF _ aK.out (zbi (by exact b0.o))).mono ?_;rintro r d9 ⟨rfl,rfl⟩;rw [c2.o];go_wp2_with fail;refine(z5m _ _ _ ao J (xd es) c _ bP.out aK.out aW.out (zbi (by exact cF.o)) (zbi (by exact b0.o)) (zbi (by exact cJ.o))).mono ?_;rintro r aZ ⟨rfl,aL⟩;rw [cz.o];have aj:zg (fun k=>k=E) [39] R aZ:=cQ.o.then_below aL;have cR:=za aj;have dl:=za (zi ae.o aj (by decide));have cD:=za (zi ad.o aj (by decide));have cK:=za (zi ag.o aj (by decide));have dt:=za (zi af.o aj (by decide));have cV:Hid (WAt aZ E H (.pointer (some ⟨Y,0,none⟩)) (.slice ea es.length ec) { x with foreign:=false,published:=(es.length:Int) }):=(zg.of_below (O:=O) (T:=[]) aL).keep bI.o.1 (by simp);clear aL aj k0 k1 k2 k3 k4 f4 k5 f5 k6 f6;go_wp2_with fail;refine(zzh _ _ J (xd es) aZ aK.out aW.out (zbi cD.o) (zbi cK.o)).mono ?_;rintro r Z ⟨rfl,aM⟩;rw [cO.o];have A:zg (fun k=>k=E) [39] R Z:=cR.o.then_below aM;have d0:=za A;have dm:=za (zi ae.o A (by decide));have cE:=za (zi ad.o A (by decide));have dw:=za (zi ag.o A (by decide));have cG:=za (zi af.o A (by decide));have bE:Hid (WAt Z E H (.pointer (some ⟨Y,0,none⟩)) (.slice ea es.length ec) { x with foreign:=false,published:=(es.length:Int) }):=(zg.of_below (O:=O) (T:=[]) aM).keep cV.o (by simp);have aX:∀ k,Ext O w R k→Ext O w Z k:=fun k Q=>Ext.more A.size k Q;have be:Hid (zq Z (Ext O w Z) H pd.2):=(cw.o.stay A (by decide) (by decide)).mono aX;have c5:=za ((c6.o.stay A (by decide) (by decide) (by decide)).mono aX);have cB:Hid (zf2 Z Y lb):=A.keep cC.o (by decide);obtain⟨⟨m0,-⟩,⟨m1,-⟩,⟨m2,-⟩,⟨m3,-⟩,⟨m4,g4⟩,⟨m5,g5⟩,⟨m6,g6⟩⟩:=zgp bE.o;unfold vr at m0;obtain⟨q0,-⟩:=zf (A.keep ar.o (by decide)) 0 _ rfl;obtain⟨q1,-⟩:=zf (A.keep ar.o (by decide)) 1 _ rfl;obtain⟨fv,-,bU,-⟩:=id be.o;obtain⟨-,-,-,-,-,-,-,⟨t7,-⟩⟩:=zep bU;rw [aa.o.turned] at t7;obtain⟨-,-,an⟩:=(zbi cE.o).at;obtain⟨fb,fo,cY,bS⟩:=an (by omega);subst cY;obtain⟨-,y1⟩:=bS k da;rw [cy.o] at y1;unfold txv at y1;have bA:Hid (zg O aT w Z):=cN.o.trans (A.mono (fun k Q=> .inl (by rw [Q];exact HO.o)) (by decide));have d4:decide ((k:Int) < 0)=false:=by simp
     clear aM A aX bU bS an;go_wp2_with fail;all_goals go_ret
     all_goals
      refine⟨by first | rfl | simp,bA.o,zj2 HW.o.size bq.o bA.o.size,_,_,pd.2,⟨rfl,bE.o,be.o,zs4 aa.o rfl rfl rfl,Y,lb,rfl,.inl bp.o,cB.o,by have h:=c5.o;rw [show true=!x.failed by rw [bj.o];rfl] at h;exact h,cG.o,fun g hg=> .inl (b5.o g hg),⟨S.o.short,S.o.ins,Nat.le_refl _,fun _=>⟨cu.o,fun f hf=>bl.o f (by rw [List.take_length] at hf;exact hf)⟩⟩⟩,b9.o,by rw [bc.o];exact aG.o,by rw [bc.o];exact c4.o,bl.o⟩
    ·rw [b9.o.2.2] at hh;simp at hh
theorem jx.calm {d:Dk}(h:jx d):zia d:=⟨h.2.1,h.2.2⟩
theorem jx.bad {d:Dk}(h:jx d):bad d=false:=by
 unfold Go.Proofs.YtndkblnpbjffhaaGreatDoor.bad xp;rw [h.2.1,if_neg (by simp),if_neg (by have:=h.1;omega)];rfl
theorem jx.tk {d r:Dk}(h:jx d)(e:tk r=tk d):jx r:=by
 unfold Go.Proofs.YtndkblnpbjffhaaGreatDoor.tk at e;simp only [Prod.mk.injEq] at e;obtain⟨-,h1,h2,A⟩:=e;rw [h1,h.1,h.2.1] at h2;rw [h1,h.1,h.2.2] at A;exact⟨h1.trans h.1,by simpa using h2,by simpa using A⟩
theorem yak (O:Nat→Prop)(J lb:Nat)(d:Dk)(w:World)(H:jx d)(A:d.fs=[])(h:zq w O J d)(W:w.cell? ⟨lb,0,none⟩=some (stV J true)):
  Calls Tryz.prog 84 #[.pointer (some ⟨lb,0,none⟩)] w fun r w'=>r= .returned .nilIface∧zg O dT1 w w'∧zq w' O J (yg d):=by
 have R:=za (zsn O J lb d cpF w (by rw [A];simp) (by rw [A];simp) h W);have K:=za H.bad;have Q:=za A;have q:∀(w:World) (a:Option Addr) (n c U c':Nat),(binOp .eql 100 (.slice a n c) (.slice none U c')).run Tryz.prog w= .ok (.bool a.isNone) w:=fun w a n c U c'=>Lib.run_eql_slice_nil w _ _ a n c U c' Tryz.underlying100;clear h H A;unfold txv cpF at R;go_enter Tryz.func84,Tryz.ntmps84;go_wp2_with fail;refine R.o.mono ?_;rintro r X ⟨v,e,rfl,E,I,D,hv⟩;obtain rfl:e= .nilIface:=by
  rcases E with ⟨-,h⟩ | ⟨h,-⟩
  ·exact h
  ·rw [K.o] at h;simp at h
 obtain rfl:v= .slice none 0 0:=by
  rcases hv with ⟨-,x,V,-⟩ | ⟨-,h⟩
  ·rw [Q.o] at V;simp [yp] at V
  ·exact h
 have S:=za I;have L:=za D;clear E I D hv R;go_wp2_with fail;go_ret;exact⟨rfl,S.o,L.o⟩
theorem z6z (O:Nat→Prop)(W:World)(hE:Env W)(R:∀ k,O k→W.heap.size≤k)(db lb:Nat)(d:Dk)(w:World)(I:jx d)(D:d.fs=[])(hW:Below W.heap.size W w)(h:zq w O db d)(cs:Array Value)(H:w.heap[lb]?=some (.cells cs 189 (0,0)))(X:cs[0]?=some (stV db true))(Y:cs[2]?=some (.slice none 0 0)):
  Calls Tryz.prog 85 #[.pointer (some ⟨lb,0,none⟩)] w fun r w'=>r= .returned .nilIface∧∃ Q,zg O dT1 w w'∧zq w' O db Q∧Q.fs=d.fs∧tk Q=tk d:=by
 have L:=za (zvd O W hE R db lb d 0 0 w (by rw [D];simp) (by rw [D];simp) (by omega) (by omega) I.calm hW h cs H X);have ad:=za I;have ac:=za D;have c2:=(zf H 2 _ Y).1;clear h I D hW hE R H X Y;go_enter Tryz.func85,Tryz.ntmps85;go_wp2_with fail;go_loopw [3,4,5,6,7,8,9] (fun _ _ _ _ _ _ _ wr=>wr=w) (fun _ _ _ _ _ _ _ _=>0)
 case atStart=>rfl
 case round =>
  obtain rfl:=hrel;go_wp2_with fail;refine L.o.mono ?_;rintro r w1 ⟨Q,n,v,e,rfl,aa,U,V,E,A⟩;have Z:=ad.o.tk E;have ae:e= .nilIface∧((wdF (yp d.fs) 0 0=none∧n=0∧v= .slice none 0 0)∨(wdF (yp d.fs) 0 0=some n∧∃ x,yp d.fs (qi (-1) ((0:Nat):Int) n)=some x∧Bq w1 v x)):=by
   rcases A with ⟨hh,-⟩ | h
   ·rw [Z.2.2] at hh;simp at hh
   ·exact h.2
  clear A;obtain⟨rfl,A⟩:=ae;obtain⟨rfl,rfl⟩:n=0∧v= .slice none 0 0:=by
   rcases A with ⟨-,h⟩ | ⟨hw,-⟩
   ·exact h
   ·rw [ac.o,show wdF (yp []) 0 0=none by decide] at hw;simp at hw
  have HX:=za (And.intro aa (And.intro U (And.intro V E)));have K:=za (zpg 0 (.slice none 0 0) none w1 (.inr ⟨rfl,rfl⟩));clear aa U V E A Z L c2;go_wp2_with fail;refine K.o.mono ?_;rintro r w2 ⟨S,A⟩;obtain rfl:r= .returned (.tuple #[.slice none 0 0,.bool false]):=by
   rcases A with ⟨es,y,hb,-⟩ | ⟨-,h⟩
   ·simp [zgn] at hb
   ·exact h
  have J:=za S;clear S A K;go_wp2_with fail;go_ret;exact⟨rfl,Q,HX.o.1.then_below J.o,HX.o.2.1.stay (zg.of_below (O:=O) (T:=[]) J.o) (by simp) (by simp),HX.o.2.2.1,HX.o.2.2.2⟩
theorem yae (O:Nat→Prop)(W:World)(hE:Env W)(Z:∀ k,O k→W.heap.size≤k)(A:Nat)(d:Dk)(key:List UInt8)(w:World)(J:jx d)(H:d.fs=[])(hW:Below W.heap.size W w)(h:zq w O A d):
  Calls Tryz.prog 46 #[.iface 36 (.pointer (some ⟨A,0,none⟩)),.string ⟨key.toArray⟩] w fun r w'=>∃(D:Dk) (lb:Nat),r= .returned (.tuple #[.pointer (some ⟨lb,0,none⟩),.nilIface])∧zg O dT1 w w'∧zq w' O A D∧D.fs=[]∧tk D=tk d∧w.heap.size≤lb∧qz w' (Ext O w w') A lb { key:=key,es:=[],put:=0,live:=true }:=by
 have E:Below w.heap.size w (w.alloc (.cells #[.iface 36 (.pointer (some ⟨A,0,none⟩)),.string ⟨key.toArray⟩,.slice none 0 0,.int .i64 0] 189)):=ze _ _;have I:(w.alloc (.cells #[.iface 36 (.pointer (some ⟨A,0,none⟩)),.string ⟨key.toArray⟩,.slice none 0 0,.int .i64 0] 189)).heap[w.heap.size]?=some (.cells #[.iface 36 (.pointer (some ⟨A,0,none⟩)),.string ⟨key.toArray⟩,.slice none 0 0,.int .i64 0] 189 (0,0)):=heap_alloc_last _ _;have X:=za (yak O A w.heap.size d (w.alloc (.cells #[.iface 36 (.pointer (some ⟨A,0,none⟩)),.string ⟨key.toArray⟩,.slice none 0 0,.int .i64 0] 189)) J H (h.stay (zg.of_below (O:=O) (T:=[]) E) (by simp) (by simp)) (zf I 0 _ rfl).1);have ai:=za I;have af:=za E;have aj:=za J;have S:=za H;have HW:=za hW;have ah:=za hE;have HO:=za Z;clear E I h J H hW hE Z;go_enter Tryz.func46,Tryz.ntmps46;go_wp2_with fail;generalize (w.alloc (.cells #[.iface 36 (.pointer (some ⟨A,0,none⟩)),.string ⟨key.toArray⟩,.slice none 0 0,.int .i64 0] 189))=w0 at *
 refine X.o.mono ?_;rintro r w1 ⟨rfl,K,aa⟩;have Y:Hid (zg O dT1 w w1):=(zg.of_below af.o).trans (K.mono (fun _ h=> .inl h) (fun _ h=>h));have U:=za (K.keep ai.o (by decide));have Q:=za (z6z O W ah.o HO.o A w.heap.size (yg d) w1 aj.o.enter ((yi d).trans S.o) (HW.o.trans (Y.o.below HO.o HW.o.size)) aa _ U.o rfl rfl);clear K aa X;go_wp2_with fail;refine Q.o.mono ?_;rintro r w2 ⟨rfl,D,L,ac,ad,ae⟩;have ak:Hid (zg O dT1 w w2):=Y.o.trans (L.mono (fun _ h=> .inl h) (fun _ h=>h));have ag:=za ac;have R:Hid (D.fs=[]∧tk D=tk d):=⟨ad.trans ((yi d).trans S.o),ae.trans (zh7 d)⟩
 have V:=za (L.keep U.o (by decide));clear L ac ad ae Q;go_wp2_with fail;go_ret2;exact⟨D,w.heap.size,rfl,ak.o,ag.o,R.o.1,R.o.2,Nat.le_refl _,.slice none 0 0,.inr ⟨Nat.le_refl _,zb V.o⟩,V.o,OBs.nil _ _,fun g e=>by simp [Value.ownBlock] at e⟩
theorem z89 (O:Nat→Prop)(W:World)(aa:Nat→Addr)(hE:Env W)(ac:ja W aa)(L:∀ k,O k→W.heap.size≤k)(S:Nat)(d:Dk)(key:List UInt8)(w:World)(ak:jx d)(af:d.fs=[])(hW:Below W.heap.size W w)(h:zq w O S d):
  Calls Tryz.prog 19 #[.pointer (some ⟨S,0,none⟩),.string ⟨key.toArray⟩] w fun r w'=>∃(R:Dk) (pb lb:Nat),r= .returned (.tuple #[.pointer (some ⟨pb,0,none⟩),.agg #[.int .i64 0,.string ⟨#[]⟩]])∧zg O dT1 w w'∧zq w' (Ext O w w') S R∧R.fs=[]∧tk R=tk d∧w.heap.size≤pb∧zf2 w' pb lb∧qz w' (Ext O w w') S lb { key:=key,es:=[],put:=0,live:=true }:=by
 have H:Below w.heap.size w (w.alloc (.cells #[.int .i64 0,.string ⟨#[]⟩] 31)):=ze _ _;have aj:=yae O W hE L S d key (w.alloc (.cells #[.int .i64 0,.string ⟨#[]⟩] 31)) ak af (hW.trans (H.mono hW.size)) (h.stay (O1:=fun _=>False) (T:=[]) (.of_below H) (by simp) (by simp));have HW:=za hW;have HO:=za L;have HS:=za ac;have U:=za H;have ao:Hid (zch w.heap.size (w.alloc (.cells #[.int .i64 0,.string ⟨#[]⟩] 31))):=heap_alloc_last _ _;clear h hW L hE ac H ak af;go_enter Tryz.func19,Tryz.ntmps19;go_wp2_with fail;refine aj.mono ?_;clear aj;generalize w.alloc (.cells #[.int .i64 0,.string ⟨#[]⟩] 31)=w0 at *
 rintro r A ⟨R,lb,rfl,Q,ad,ae,ag,aq,ah⟩;have K:Hid (zg O dT1 w A):=(zg.of_below U.o).trans (Q.mono (fun _ h=> .inl h) (fun _ h=>h));have Z:Hid (zch w.heap.size A):=ao.o.turn Q (by decide);have V:Hid (Below W.heap.size W A):=HW.o.trans (K.o.below HO.o HW.o.size);have HX:Hid (∀ k,Ext O w0 A k→Ext O w A k):=fun k hk=>by
  rcases hk with h | h
  ·exact .inl h
  ·exact .inr ⟨Nat.le_trans U.o.size h.1,h.2⟩
 have al:Hid (zq A (Ext O w A) S R):=ad.mono (fun _ h=> .inl h);have X:=za (And.intro ae ag);have ar:=za K.o.size;have am:=za (ah.mono HX.o);clear Q ad ae ag aq ah;go_wp2_with fail;have E:Hid (Below A.heap.size A (A.alloc (.cells #[.pointer (some ⟨lb,0,none⟩)] 131))):=ze _ _;have Y:Hid (zf2 (A.alloc (.cells #[.pointer (some ⟨lb,0,none⟩)] 131)) A.heap.size lb):=heap_alloc_last _ _;generalize A.alloc (.cells #[.pointer (some ⟨lb,0,none⟩)] 131)=wa at *
 have ap:=za (Z.o.below E.o);refine(zqr aa wa (j5 HS.o (V.o.trans (E.o.mono V.o.size)))).mono ?_;rintro r w3 ⟨rfl,I⟩;have J:Hid (Below A.heap.size A w3):=E.o.trans (I.mono E.o.size);have D:=za (ap.o.below I);have an:Hid (zf2 w3 A.heap.size lb):=(I.block _ (zb Y.o)).trans Y.o;obtain⟨c0,z0⟩:=zf D.o 0 _ rfl;obtain⟨c1,z1⟩:=zf D.o 1 _ rfl;clear I;unfold told;go_wp2_with fail;have ai:A.heap.size≠w.heap.size:=by have:=zb Z.o;omega
 refine bodyPost_ret (v:= .tuple #[.pointer (some ⟨A.heap.size,0,none⟩),.agg #[.int .i64 0,.string ⟨([]:List UInt8).toArray⟩]]) (j3 Tryz.results19 _ _ w.heap.size 31 _ (0,0) _ rfl (zal D.o _ _ rfl) Tryz.underlying31 rfl (by kernel_rfl) _ rfl) rfl ⟨R,A.heap.size,lb,rfl,zel (K.o.then_below J.o),(al.o.later J.o).sets2 D.o,X.o.1,X.o.2,ar.out,?_,(am.o.later J.o).sets2 D.o⟩;unfold zf2;rw [heap_setCell_other _ _ _ _ (by exact ai),heap_setCell_other _ _ _ _ (by exact ai)];exact an.o
theorem z7y (v:Value)(w:World)(h:Fss w v []):
  Calls Tryz.prog 45 #[v,.slice none 0 0] w fun r w'=>r= .returned (.tuple #[.slice none 0 0,.bool false])∧Below w.heap.size w w':=by
 have V:=za h;obtain⟨Z,W,rfl,Q,-⟩:=h;clear Q;go_enter Tryz.func45,Tryz.ntmps45;go_wp2_with fail;go_loopw [8] (fun i wr=>∃ k:Nat,k≤4∧i= .int .i64 k∧Below w.heap.size w wr) (fun i _=>(intOf i).toNat)
 case atStart=>exact⟨4,by omega,rfl,Below.refl _ _⟩
 case round =>
  obtain⟨k,X,rfl,E⟩:=hrel;have J:=za E;clear E;by_cases Y:0 < k
  ·go_wp2_with fail;refine(zgy (-1) ((0:Nat):Int) k (by omega) wr).mono ?_;rintro r S ⟨rfl,D⟩;have A:Hid (Below w.heap.size w S):=J.o.trans (D.mono J.o.size);have L:=za (V.o.below A.o);obtain⟨nm,I⟩:∃ nm,qi (-1) ((0:Nat):Int) (k:Int)=nm:=⟨_,rfl⟩
   rw [I];clear D I;go_wp2_with fail;refine(vf _ [] nm S (by simp) L.o).mono ?_;rintro r w2 ⟨rfl,rfl⟩;have R:ixI [] nm=-1:=rfl;rw [R];have H:(k:Int) - 1=((k - 1:Nat):Int):=by omega
   have K:=za H;clear H R;go_wp2_with fail;go_round
   case rel=>exact⟨k - 1,by omega,congrArg (Value.int .i64) K.o,A.o⟩
   case measure=>simp [intOf];omega
  ·obtain rfl:k=0:=by omega
   go_wp2_with fail;go_ret2;exact⟨rfl,J.o⟩
theorem zxd (v:Value)(key:List UInt8)(w:World)(h:Fss w v []):
  Calls Tryz.prog 18 #[v,txv key] w fun r w'=>Below w.heap.size w w'∧∃ ev,r= .returned (.tuple #[ev,.int .i64 0,.int .i64 0,.string ⟨#[]⟩])∧w'.ownsRow w.heap.size 9 1 ev 0 []:=by
 have HF:=za h;obtain⟨fa,ac,rfl,Z,-⟩:=h;clear Z;unfold txv;go_enter Tryz.func18,Tryz.ntmps18;go_wp2_with fail;refine(zdg ⟨#[]⟩ w (by unfold maxLen;simp [ByteArray.size])).mono ?_;rintro r w1 ⟨rfl,D⟩;have H:=za D;have J:=za (HF.o.below D);clear D;unfold txt;go_wp2_with fail;refine(vf _ [] cpF w1 (by simp) J.o).mono ?_;rintro r w2 ⟨rfl,rfl⟩;have he:ixI [] cpF=-1:=rfl;rw [he];clear he;go_wp2_with fail;go_loopw [12,13] (fun Y iv wr=>Y= .slice none 0 0∧iv= .int .i64 0∧wr=w2) (fun _ _ _=>0)
 case atStart=>exact⟨rfl,rfl,rfl⟩
 case round =>
  obtain⟨rfl,rfl,rfl⟩:=hrel;go_wp2_with fail;refine(zc7 (.slice none 0 0) [] wr (by simp) (by simp) (Tss.nil _)).mono ?_;rintro r w5 ⟨rfl,E⟩;have I:Hid (Below w.heap.size w w5):=H.o.trans (E.mono H.o.size);have V:=za (J.o.below E);clear E;have X:Hid (ye []=hash []):=zae _ _ rfl;rw [X.o];generalize hash []=R at *
  go_wp2_with fail;go_loopw [12] (fun Y aa=>Y= .slice none 0 0∧aa=w5) (fun _ _=>0)
  case atStart=>exact⟨rfl,rfl⟩
  case round =>
   obtain⟨rfl,rfl⟩:=hrel;go_wp2_with fail;refine(z7y _ wr V.o).mono ?_;rintro r w6 ⟨rfl,L⟩;have A:Hid (Below w.heap.size w w6):=I.o.trans (L.mono I.o.size);have K:Hid (w6.ownsRow w.heap.size 9 1 (.slice none 0 0) ([]:List (List UInt8)).length (([]:List (List UInt8)).map txv)):=⟨rfl,.inl ⟨rfl,rfl⟩⟩
   clear L;go_wp2_with (at_builtin;refine zzw _ rfl _ _ rfl w.heap.size A.o.size _ [] rfl K.o _ [] rfl (Tss.nil _) (by simp) ?_;intro v' w7 S Q;have U:Hid (Below w.heap.size w w7):=A.o.grown Q A.o.size (qf K.o);have W:=za S;clear S Q);refine bodyPost_ret (v:= .tuple #[v',.int .i64 0,.int .i64 0,.string ⟨#[]⟩]) ?_ rfl ⟨U.o,v',rfl,W.o⟩;simp [results,Tryz.results18,go_sem]
def zi0 (d:Dk):Dk:={ d with failAt:=0,dead:=false,hit:=false }
def PO0 (O:Nat→Prop)(A:Nat)(d:Dk)(key:List UInt8)(w w':World)(a:Option Addr):Prop :=
 ∃(h:Dk) (r lb:Nat),zg O dT1 w w'∧zq w' (Ext O w w') A h∧h.fs=[]∧tk h=tk d∧a=some ⟨r,0,none⟩∧w.heap.size≤r∧zf2 w' r lb∧qz w' (Ext O w w') A lb { key:=key,es:=[],put:=0,live:=true }
theorem PO0.shift {O:Nat→Prop}{I:Nat}{d:Dk}{key:List UInt8}{D w E H:World}{a:Option Addr}(h:PO0 O I d key w E a)(h1:Below D.heap.size D w)(h2:zg (fun k=>D.heap.size≤k) [31] E H):PO0 O I d key D H a:=by
 obtain⟨K,X,lb,W,U,V,A,L,Q,R,S⟩:=h;have J:∀ k,Ext O w E k→Ext O D H k:=fun k A=>by
  rcases A with A | A
  ·exact .inl A
  ·exact .inr ⟨Nat.le_trans h1.size A.1,Nat.lt_of_lt_of_le A.2 h2.size⟩
 have r:zg O dT1 D E:=(zg.of_below h1).trans (W.mono (fun _ h=> .inl h) (fun _ h=>h));refine⟨K,X,lb,⟨h2.os.trans r.os,h2.tape.trans r.tape,h2.output.trans r.output,Nat.le_trans r.size h2.size,fun k A=>?_⟩,(U.stay h2 (by decide) (by decide)).mono J,V,A,L,Nat.le_trans h1.size Q,h2.keep R (by decide),(S.stay h2 (by decide) (by decide) (by decide)).mono J⟩;rcases h2.block k (Nat.lt_of_lt_of_le A r.size) with e | ⟨e,-⟩
 ·rw [e];exact r.block k A
 ·omega
theorem PO0.after {O:Nat→Prop}{D:Nat}{d:Dk}{key:List UInt8}{r w A:World}{a:Option Addr}(h:PO0 O D d key w A a)(h1:Below r.heap.size r w)(o:Obj):PO0 O D d key r (A.alloc o) a:=h.shift h1 (zg.of_below (ze A o))
theorem PO0.sets {O:Nat→Prop}{D:Nat}{d:Dk}{key:List UInt8}{r w A:World}{a:Option Addr}{C:Array Value}(h:PO0 O D d key w A a)(h1:Below r.heap.size r w)(E:A.heap[r.heap.size]?=some (.cells C 31 (0,0)))(u v:Value):PO0 O D d key r ((A.setCell ⟨r.heap.size,0,none⟩ u).setCell ⟨r.heap.size,1,none⟩ v) a :=
 h.shift h1 (((zg.refl _ _ A).set (.inl (Nat.le_refl _)) E (by simp) _).set (.inl (Nat.le_refl _)) (qo E 0 _) (by simp) _)
theorem yan {w:World}{r A:Nat}{I E:Value}{x:Wd}(h:WAt w r A I E x)(u e:Value)(m:Int):
  WAt ((((w.setCell ⟨r,2,none⟩ u).setCell ⟨r,5,none⟩ (.bool false)).setCell ⟨r,3,none⟩ e).setCell ⟨r,4,none⟩ (.int .i64 m)) r A u e { key:=x.key,published:=m,failed:=false,foreign:=x.foreign } ∧
  zg (fun k=>k=r) [39] w ((((w.setCell ⟨r,2,none⟩ u).setCell ⟨r,5,none⟩ (.bool false)).setCell ⟨r,3,none⟩ e).setCell ⟨r,4,none⟩ (.int .i64 m)):=by
 have h1:=(zxi h).1 u;have h2:=(zxi h1).2.2.2.1 false;have D:=(zxi h2).2.1 e;have H:=(zxi D).2.2.1 m;exact⟨H,(((((zg.refl (fun k=>k=r) [39] w).set (.inl rfl) h (by simp) _).set (.inl rfl) h1 (by simp) _).set (.inl rfl) h2 (by simp) _).set (.inl rfl) D (by simp) _)⟩
theorem z0x {w:World}{B r:Nat}{e:TypeId}{k:Nat}{v:Value}{n:Nat}{xs:List Value}(h:w.ownsRow B e k v n xs)(A:r≤B):w.ownsRow r e k v n xs:=zir h A
theorem z9o (O:Nat→Prop)(W:World)(aY:Nat→Addr)(hE:Env W)(bc:ja W aY)(I E:Nat)(lv ev:Value)(x:Wd)(d:Dk)(s:List Nat)(n:Nat)(w:World)(a5:∀ k,O k→W.heap.size≤k∧k < w.heap.size)(hW:Below W.heap.size W w)(hn:n≤4200)(hO:O I)(h:yad w O I E lv ev x d s n)(bk:d.fs=[]):
  Calls Tryz.prog 7 #[.pointer (some ⟨I,0,none⟩)] w fun r w'=>r= .returned (.bool true)∧zg O aT w w'∧(∀ k,Ext O w w' k→W.heap.size≤k∧k < w'.heap.size)∧∃ b9 b6 J,zdp w' (Ext O w w') I E b9 b6 { key:=x.key,published:=((0:Nat):Int),failed:=false,foreign:=x.foreign } J s n [] 0∧jx J∧J.fs=[]:=by
 obtain⟨bj,ae,hd,a8,-⟩:=h;have K:=za bk;clear bk;have al:=za a8;have b5:=za ae;have HD:=za hd;have an:=za a5;have am:Hid (∀ k,O k→W.heap.size≤k):=fun k D=>(a5 k D).1;have HW:=za hW;have aD:=za hE;have aO:=za bc;have HO:=za hO;have aF:=za bj;have bB:=z2u ae hd;have a6:Hid (d.fs.length≤800000000):=by have:=a8.count;show _≤_;omega
 obtain⟨⟨c0,-⟩,-⟩:=zgp ae;unfold vr at c0;clear ae hd a8 a5 hW hE bc hO bj;go_enter Tryz.func7,Tryz.ntmps7;go_wp2_with fail;refine(z3j O E d w HD.o).mono ?_;rintro r w1 ⟨rfl,ac,be⟩;have aQ:=za ac;have au:Hid (WAt w1 I E lv ev x):=ac.keep b5.o (by decide);have ah:Hid (zq w1 O E (zi0 d)):=be;obtain⟨⟨d0,-⟩,-⟩:=zgp au.o;have bd:=d0;unfold vr at d0;have aU:Hid (Below W.heap.size W w1):=HW.o.trans (ac.below am.o HW.o.size);clear ac be c0;go_wp2_with fail;refine(zco O E I (zi0 d) w1 (by have:=a6.out;show d.fs.length≤_;omega) ah.o bd).mono ?_;rintro r w2 ⟨v2,aZ,rfl,bo,a7,S,-⟩;have aI:Hid (aZ.Perm d.fs):=bo;have ak:=za a7;have aq:Hid (zg O dT1 w w2):=aQ.o.then_below S;have av:Hid (WAt w2 I E lv ev x):=(zg.of_below (O:=O) (T:=[]) S).keep au.o (by simp);have aB:Hid (zq w2 O E (zi0 d)):=ah.o.stay (zg.of_below (O:=O) (T:=[]) S) (by simp) (by simp);have aV:Hid (Below W.heap.size W w2):=aU.o.trans (S.mono aU.o.size);obtain⟨-,⟨d1,-⟩,-⟩:=zgp av.o;unfold txv at d1;obtain⟨va,vc,he,-⟩:=id a7;subst he;clear bo a7 S d0 bd aQ ah au;go_wp2_with fail;obtain rfl:aZ=[]:=by have h:=aI.o;rw [K.o] at h;exact h.eq_nil
 refine(zxd _ x.key w2 ak.o).mono ?_;rintro r A ⟨Q,bA,rfl,aA⟩;have ap:=za aA;obtain⟨ea,ec,he⟩:=xu aA;subst he;have Y:Hid (zg O dT1 w A):=aq.o.then_below Q;have Z:Hid (WAt A I E lv ev x):=(zg.of_below (O:=O) (T:=[]) Q).keep av.o (by simp);have ai:Hid (zq A O E (zi0 d)):=aB.o.stay (zg.of_below (O:=O) (T:=[]) Q) (by simp) (by simp);have ar:Hid (Below W.heap.size W A):=aV.o.trans (Q.mono aV.o.size);have aE:=za (ak.o.below Q);obtain⟨⟨e0,-⟩,⟨e1,-⟩,-⟩:=zgp Z.o;unfold vr at e0;unfold txv at e1;have bt:Hid (w.heap.size≤w2.heap.size):=aq.o.size;clear aA Q d1 aq aB av ak;have a0:∀ o,(A.alloc o).cell? ⟨I,0,none⟩=some (.pointer (some ⟨E,0,none⟩)):=fun o=>by rw [zl _ _ ⟨I,0,none⟩ (zk e0)];exact e0
 have a1:∀ o,(A.alloc o).cell? ⟨I,1,none⟩=some (.string ⟨x.key.toArray⟩):=fun o=>by rw [zl _ _ ⟨I,1,none⟩ (zk e1)];exact e1
 have ay:Hid (Below A.heap.size A A.drew):=(Below.refl _ _).drew;have az:Hid (∀ o,Below A.heap.size A (A.alloc o).drew):=fun o=>(ze _ _).drew;have ao:Hid (∀ w',Below A.heap.size A w'→Calls Tryz.prog 19 #[.pointer (some ⟨E,0,none⟩),.string ⟨x.key.toArray⟩] w' fun r bx=>∃ a,r= .returned (.tuple #[.pointer a,.agg #[.int .i64 0,.string ⟨#[]⟩]])∧PO0 O E (zi0 d) x.key w' bx a):=fun w' hb=>(z89 O W aY aD.o aO.o am.o E (zi0 d) x.key w' ⟨rfl,rfl,rfl⟩ K.o (ar.o.trans (hb.mono ar.o.size)) (ai.o.stay (zg.of_below (O:=O) (T:=[]) hb) (by simp) (by simp))).mono (by
  rintro r bx ⟨J,pb,lb,rfl,h1,h2,h3,h4,h5,h6,h7⟩;exact⟨_,rfl,J,pb,lb,h1,h2,h3,h4,rfl,h5,h6,h7⟩)
 go_upto_region 4 with fail
 go_cut [8,9] from 30 to 41 (fun s8 s9 wx=>∃(a:Option Addr) (B:Nat),s8= .pointer a∧s9= .pointer (some ⟨B,0,none⟩)∧A.heap.size≤B∧wx.heap[B]?=some (.cells #[.int .i64 0,.string ⟨([]:List UInt8).toArray⟩] 31 (0,0))∧PO0 O E (zi0 d) x.key A wx a)
 case first =>
  clear al an am HW aD aO HO aF a6 aI ap Y ar ai aE bt K
  go_region_with (first
   | (go_at_call 19;refine(ao.o A.drew ay.out).mono ?_;rintro r w4 ⟨a,rfl,H⟩;have HP:=za H;clear H)
   | (go_at_call 19;refine(ao.o (A.alloc (.cells #[.int .i64 0,.string ⟨#[]⟩] 31)).drew (az.out _)).mono ?_;rintro r w4 ⟨a,rfl,H⟩;have HP:=za H;have aa:w4.heap[A.heap.size]?=some (.cells #[.int .i64 0,.string ⟨#[]⟩] 31 (0,0)):=(by obtain⟨-,-,-,a9,-⟩:=H;exact a9.keep (heap_alloc_last A _) (by decide));obtain⟨x0,z0⟩:=zf aa 0 _ rfl;obtain⟨x1,z1⟩:=zf aa 1 _ rfl;have b1:=za aa;clear aa H))
  all_goals go_wp2_with fail
  all_goals go_meet
  all_goals first
   | (have hN:=b1.o;exact⟨a,A.heap.size,rfl,rfl,Nat.le_refl _,zal hN 0 [] rfl,HP.o.sets (az.out _) hN _ _⟩)
   | exact⟨a,w4.heap.size,rfl,rfl,(by obtain⟨-,-,-,a9,-⟩:=HP.o;exact a9.size),heap_alloc_last _ _,HP.o.after ay.out _⟩
 case rest =>
 obtain⟨pa,B,rfl,rfl,b7,bb,H⟩:=hcut;obtain⟨J,pb,lb,V,bf,bl,ad,rfl,bq,br,bn⟩:=H;clear a0 a1 ay az ao;have aP:Hid (jx J):=jx.tk (d:=zi0 d) ⟨rfl,rfl,rfl⟩ ad;have b4:Hid (J.turned=false):=(zo1 ad).trans al.o.turned;have X:Hid (J.fs=d.fs):=bl.trans K.o.symm;have bu:J.turned=d.turned:=zo1 (e:=zi0 d) ad;have b0:Hid (Num n { key:=x.key,published:=((0:Nat):Int),failed:=false,foreign:=x.foreign } J s):=zs4 al.o rfl X.o bu;have aR:Hid (zg O aT w wc):=(Y.o.mono (fun _ h=>h) (by decide)).trans (V.mono (fun _ h=> .inl h) (by decide));have aw:Hid (WAt wc I E lv ev x):=V.keep Z.o (by decide);have aj:=za bf;have ag:=za bb;have aM:Hid (wc.ownsRow w2.heap.size 9 1 (.slice ea 0 ec) 0 []):=zi ap.o V (by decide);have bD:Hid (A.heap.size≤wc.heap.size):=V.size;have bs:Hid (w.heap.size≤A.heap.size):=Y.o.size;have bC:¬ B=I:=by have:=zb Z.o;omega
 obtain⟨⟨g0,-⟩,-⟩:=zgp aw.o;clear V bf bl ad bu e0 e1 Y ai Z ap aE bb b7;have bh:∀ k,Ext O A wc k→Ext O w wc k:=fun k D=>by
  rcases D with D | D
  ·exact .inl D
  ·exact .inr ⟨by have:=bs.out;omega,D.2⟩
 have aX:=za bh;clear bh;have aJ:=za br;have aG:=za bn;have b3:=za bq;clear br bn bq;go_wp2_with fail;refine(zco (Ext O A wc) E I J wc (by have:=a6.out;rw [X.o];omega) aj.o g0).mono ?_;rintro r w5 ⟨v5,ba,rfl,bp,bi,R,-⟩;obtain⟨n0,-⟩:=zf ((zg.of_below (O:=O) (T:=[]) R).keep ag.o (by simp)) 0 _ rfl;obtain⟨n1,-⟩:=zf ((zg.of_below (O:=O) (T:=[]) R).keep ag.o (by simp)) 1 _ rfl;have b2:Hid (ba.Perm d.fs):=by rw [← X.o];exact bp
 obtain⟨bE,bF,he,-⟩:=id bi;subst he;have bm:ba.length=0:=by rw [b2.o.length_eq,K.o];rfl
 rw [bm];have aS:Hid (zg O aT w w5):=aR.o.then_below R;have L:zg O [] wc w5:= .of_below R;have aW:Hid (WAt w5 I E lv ev x):=L.keep aw.o (by simp);have aC:Hid (zq w5 (Ext O w wc) E J):=(aj.o.stay L (by simp) (by simp)).mono aX.o;have aK:Hid (zf2 w5 pb lb):=L.keep aJ.o (by simp);have bz:=za ((aG.o.stay L (by simp) (by simp) (by simp)).mono aX.o);have aN:=za (zi aM.o L (by simp));have b8:Hid (wc.heap.size≤w5.heap.size):=R.size;have ax:=za (yan aW.o (.pointer (some ⟨pb,0,none⟩)) (.slice ea 0 ec) ((0:Nat):Int));obtain⟨⟨k0,-⟩,⟨k1,-⟩,⟨k2,f2⟩,⟨k3,f3⟩,⟨k4,f4⟩,⟨k5,f5⟩,-⟩:=zgp aW.o;obtain⟨fv,-,bg,-⟩:=id aC.o;obtain⟨-,-,-,-,-,-,-,⟨t7,-⟩⟩:=zep bg;rw [b4.o] at t7;have aL:=za (ax.o.2.keep aK.o (by decide));have aH:=za (bz.o.stay ax.o.2 (by decide) (by decide) (by decide));unfold vr at k0;clear bp bi R bm L bg g0 aw ag aj aJ aG aM aR;go_wp2_with fail;refine(z0n _ E pb lb _ _ (by exact aL.o) (by exact aH.o)).mono ?_;rintro r w9 ⟨rfl,rfl⟩;go_wp2_with fail;go_ret;have af:=ax.o;have U:∀(W1:World) a1 a2 a3 a4 u1 u2 u3 u4,(((((W1.setCell a1 u1).setCell a2 u2).setCell a3 u3).setCell a4 u4)).heap.size=W1.heap.size:=fun W1 a1 a2 a3 a4 u1 u2 u3 u4=>by simp [World.setCell]
 have bw:∀(W1:World) a1 a2 a3 a4 u1 u2 u3 u4,W1.heap.size=w5.heap.size→∀ k,Ext O w wc k→Ext O w (((((W1.setCell a1 u1).setCell a2 u2).setCell a3 u3).setCell a4 u4)) k:=fun W1 a1 a2 a3 a4 u1 u2 u3 u4 e k D=>by
  rcases D with D | D
  ·exact .inl D
  ·exact .inr ⟨D.1,by rw [U,e];have:=b8.out;omega⟩
 refine⟨by first | rfl | simp,aS.o.trans (af.2.mono (fun k D=> .inl (by rw [D];exact HO.o)) (by decide)),fun k D=>?_,_,_,J,⟨aF.o,af.1,(aC.o.stay af.2 (by decide) (by decide)).mono (bw _ _ _ _ _ _ _ _ _ rfl),b0.o,pb,lb,rfl,?_,aL.o,aH.o.mono (bw _ _ _ _ _ _ _ _ _ rfl),zi (z0x aN.o (Nat.zero_le _)) af.2 (by decide),fun g hg=>?_,⟨fun e he=>by simp at he,fun j hj=>by simp at hj,Nat.zero_le _,fun _=>⟨aP.o.calm,fun f hf=>absurd hf (by rw [List.take_zero];exact zta)⟩⟩⟩,aP.o,X.o.trans K.o⟩
 ·rw [U];rcases D with D | D
  ·exact⟨(an.o k D).1,Nat.lt_of_lt_of_le (an.o k D).2 aS.o.size⟩
  ·rw [U] at D;exact⟨Nat.le_trans HW.o.size D.1,D.2⟩
 ·refine .inr ⟨by have:=b3.o;have:=bs.out;omega,?_⟩;rw [U];exact zb aK.o
 ·have:=aN.o.lt g hg;refine .inr ⟨by have:=bt.out;omega,?_⟩;rw [U];exact this.2
theorem z02 (O:Nat→Prop)(W:World)(A:Nat→Addr)(J:ja W A)(E H n:Nat)(es:List (List UInt8))(D:Nat)(key:List UInt8)(d:Dk)(t:List UInt8)(w:World)(S:Below W.heap.size W w)(Z:n≤4200)(ht:t.length≤9223372036854775807)(h:RP W.heap.size w O E H n es D key d):
  Calls Tryz.prog 27 #[.pointer (some ⟨E,0,none⟩),.string ⟨t.toArray⟩] w fun r w'=>r= .returned (.bool true)∧zg O aT w w'∧∃ more,RP W.heap.size w' (Ext O w w') E H (n+1) (es++more) D key d:=by
 obtain⟨lv,U,s,put,Y⟩:=h.full;refine(zra O W A J E H lv U _ d s n t w h.own S Z ht h.hwb es put Y).mono ?_;rintro r w' ⟨rfl,V,Q⟩;refine⟨rfl,V,?_⟩;rcases Q with X | ⟨-,L,R,I,s',K⟩
 ·exact⟨[],by rw [List.append_nil];exact((h.below X).ext S.size).later (Nat.le_succ n)⟩
 ·exact⟨[t],⟨.inl h.hwb,L,⟨R,I,s',put,K⟩,h.still,h.since.more [t],h.chk.more [t]⟩⟩
theorem zw5 (O:Nat→Prop)(W:World)(A:Nat→Addr)(hE:Env W)(K:ja W A)(H I n:Nat)(es:List (List UInt8))(Z:Nat)(key:List UInt8)(d:Dk)(w:World)(hW:Below W.heap.size W w)(hn:n≤4100)(h:RP W.heap.size w O H I n es Z key d):
  Calls Tryz.prog 28 #[.pointer (some ⟨H,0,none⟩)] w fun r w'=>r= .returned (.bool true)∧zg O aT w w'∧∃ D,RP W.heap.size w' (Ext O w w') H I (n+1) es es.length key D∧∀ s,s≤es.length→ju d.fs es s→ju D.fs es s:=by
 obtain⟨lv,ev,s,put,E⟩:=h.full;have hl:es.length≤1000000:=by
  obtain⟨-,-,-,U,pb,lb,-,-,-,-,-,-,R⟩:=E;have:=zhu R;have:=U.small;omega
 refine(zog O W A hE K H I lv ev _ d s n w h.own hW hn h.hwb es put E rfl h.still (h.since.noClash hl) (jr es.length (ye es) key) rfl).mono ?_;rintro r w' ⟨rfl,hT,V,Y,J,D,S,X,hw,Q,L⟩;have hA:ju D.fs es es.length:=fun f E=>L f (by rw [List.take_length] at E;exact E);refine⟨rfl,hT,D,⟨.inl h.hwb,V,⟨Y,J,s,es.length,S⟩,X,h.since.went hw,Nat.le_refl _,.inr ⟨by rw [List.take_length];exact Q,hA⟩⟩,fun k hk hs=>?_⟩;have:=hs.went (more:=[]) hw hk;rwa [List.append_nil] at this
end Go.Proofs.YtndkblnpbjffhaaGreatDoor
