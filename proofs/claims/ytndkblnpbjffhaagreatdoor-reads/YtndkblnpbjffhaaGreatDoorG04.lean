import Derived.Test.YtndkblnpbjffhaaGreatDoorG03
import Derived.Shelf.SlicesQ.Load
import Derived.Deep.AppendLies
set_option maxHeartbeats 1000000
set_option maxRecDepth 100000
open Go.RowKit
namespace Go.Proofs.YtndkblnpbjffhaaGreatDoor
theorem zp8 (fs:Fs):∀(j:Nat) (h:j < fs.length),(yw fs)[j*2]?=some (txv fs[j].1)∧(yw fs)[j*2+1]?=some (txv fs[j].2):=by
 induction fs with
 | nil=>intro j h;simp at h
 | cons f r ih =>
  intro j h;have e:yw (f::r)=txv f.1::txv f.2::yw r:=by simp [yw]
  cases j with
  | zero=>rw [e];exact⟨rfl,rfl⟩
  | succ j =>
   rw [e,show(j+1)*2=j*2+1+1 by omega];have:=ih j (by simpa using h);simpa using this
theorem zvk (fs:Fs):(yw fs).length=fs.length*2:=by
 induction fs with
 | nil=>rfl
 | cons f r ih=>simp [yw] at ih ⊢;omega
theorem zn3:∀(fs:Fs) (k:Nat)(p x:List UInt8)(A:k < fs.length) ,fs[k].1=p→yw (fs.set k (p,x))=(yw fs).set (k*2+1) (txv x)
 | [],k,_,_,A,_=>by simp at A
 | f::r,0,p,x,_,e=>by
  obtain rfl:f.1=p:=by simpa using e
  simp [yw]
 | f::r,k+1,p,x,A,e=>by
  have h:=zn3 r k p x (by simpa using A) (by simpa using e);rw [List.set_cons_succ,show(k+1)*2+1=k*2+1+1+1 by omega];have D:∀ l,yw (f::l)=txv f.1::txv f.2::yw l:=fun l=>by simp [yw]
  rw [D,D,h];rfl
theorem ze9 (a b:Fs):yw (a++b)=yw a++yw b:=by simp [yw]
def zi9 (w:World)(t:TypeId)(v:Value)(fs:Fs):Prop:=∃ a A,v= .slice a fs.length A∧(fs.length=0∨∃ g,a=some ⟨g,0,none⟩∧∃ r,w.heap[g]?=some (.cells r t (0,0))∧fs.length≤A∧r.size=A*2∧∀ j (h:j < fs.length),r[j*2]?=some (txv fs[j].1)∧r[j*2+1]?=some (txv fs[j].2))
theorem zec {w:World}{t:TypeId}{B:Nat}{v:Value}{fs:Fs}(h:w.ownsRow B t 2 v fs.length (yw fs)):zi9 w t v fs:=by
 rcases h.2 with ⟨rfl,h0⟩ | ⟨g,A,r,rfl,-,D,H,-,I,J⟩
 ·exact⟨none,0,by rw [h0],.inl h0⟩
 ·refine⟨_,_,rfl,.inr ⟨g,rfl,r,D,H,I,fun j E=>?_⟩⟩;have e:=zp8 fs j E;rw [← J,List.getElem?_take,List.getElem?_take,if_pos (by omega),if_pos (by omega)] at e;simpa using e
theorem zi9.below {w w':World}{t:TypeId}{v:Value}{fs:Fs}(h:zi9 w t v fs)(I:Below w.heap.size w w'):zi9 w' t v fs:=by
 obtain⟨a,A,e,h | ⟨g,H,D,E,r⟩⟩:=h
 ·exact⟨a,A,e,.inl h⟩
 ·exact⟨a,A,e,.inr ⟨g,H,D,by rw [I.block g (zb E)];exact E,r⟩⟩
theorem z4c (q:List UInt8)(B:Nat)(f:List UInt8×List UInt8)(w:World)(h:w.cell? ⟨B,0,none⟩=some (txv q)):
  Calls Tryz.prog 75 #[.agg #[txv f.1,txv f.2],.pointer (some ⟨B,0,none⟩)] w fun r w'=>r= .returned (.bool (decide (f.1=q)))∧Below w.heap.size w w':=by
 have D:=zk h;unfold txv at *
 have A:∀ o,(w.alloc o).cell? ⟨B,0,none⟩=some (.string ⟨q.toArray⟩):=fun o=>by rw [zl _ _ ⟨_,0,none⟩ D];exact h
 clear h;go_enter Tryz.func75,Tryz.ntmps75;go_wp2_with fail;go_ret;exact⟨congrArg (fun b=>Ending.returned (.bool b)) (by show(f.1==q)=_;rw [Bool.eq_iff_iff];simp),(Below.refl _ _).alloc (Nat.le_refl _) _⟩
def ixI (fs:Fs)(p:List UInt8):Int:=match ixF fs p with
 | some i=>i
 | none=>-1
theorem zzm (q:List UInt8)(B:Nat)(v:Value)(fs:Fs)(w:World)(hn:fs.length≤1000000000)(h:zi9 w 51 v fs)(hB:w.cell? ⟨B,0,none⟩=some (txv q)):
  Calls Tryz.prog 74 #[v,.func (.func 75) #[] #[.pointer (some ⟨B,0,none⟩)]] w fun r w'=>r= .returned (.int .i64 (ixI fs q))∧Below w.heap.size w w':=by
 obtain⟨a,Q,rfl,hc⟩:=h;have HC:=za hc;have L:=za hB;clear hc hB;have eg:∀ args w,(callFunc 75 args).run Tryz.prog w= .ok (.enter 75 args) w:=enters_of Tryz.func75 (by kernel_rfl) rfl;go_enter Tryz.func74,Tryz.ntmps74;go_wp2_with fail;go_loopw [5,8] (fun _ i wr=>∃ k:Nat,k≤fs.length∧i= .int .i64 k∧Below w.heap.size w wr∧∀ j (J:j < fs.length),j < k→fs[j].1≠q) (fun _ i _=>fs.length - (intOf i).toNat)
 case atStart=>exact⟨0,Nat.zero_le _,rfl,Below.refl _ _,fun j _ J=>absurd J (Nat.not_lt_zero _)⟩
 case round =>
  obtain⟨k,hk,rfl,R,U⟩:=hrel;have A:=za R;have W:=za U;clear R U;by_cases S:k < fs.length
  ·obtain⟨g,rfl,D,Z,ac,Y,hx⟩:∃ g,a=some ⟨g,0,none⟩∧∃ D,w.heap[g]?=some (.cells D 51 (0,0))∧fs.length≤Q∧D.size=Q*2∧∀ j (h:j < fs.length),D[j*2]?=some (txv fs[j].1)∧D[j*2+1]?=some (txv fs[j].2):=by
    rcases HC.o with h0 | h0
    ·omega
    ·exact h0
   have I:wr.heap[g]?=some (.cells D 51 (0,0)):=by rw [A.o.block g (zb Z)];exact Z
   obtain⟨x0,x1⟩:=hx k S;have y0:wr.cell? ⟨g,k*2,none⟩=some (txv fs[k].1):=by rw [cell_of_row _ _ _ _ _ _ I];exact x0
   have y1:wr.cell? ⟨g,k*2+1,none⟩=some (txv fs[k].2):=by rw [cell_of_row _ _ _ _ _ _ I];exact x1
   unfold txv at y0 y1;have E:=z4c q B fs[k] wr (by rw [A.o.cell (p:=⟨B,0,none⟩) (zk L.o)];exact L.o);unfold txv at E;clear Z I hx Y x0 x1;by_cases K:fs[k].1=q
   ·have HI:Hid (ixF fs q=some k):=zwd S K (fun j J=>W.o j (by omega) J);rw [show decide (fs[k].1=q)=true by simp [K]] at E;clear K;generalize fs[k]=f at *
    go_wp2_with (go_at_fn 75;refine E.mono ?_;rintro e w' ⟨rfl,H⟩);go_ret;exact⟨by unfold ixI;rw [HI.o];rfl,A.o.trans (H.mono A.o.size)⟩
   ·rw [show decide (fs[k].1=q)=false by simp [K]] at E;have X:Hid (∀ j (J:j < fs.length),j < k+1→fs[j].1≠q):=fun j aa ad=>by
     rcases Nat.lt_or_ge j k with h | h
     ·exact W.o j aa h
     ·obtain rfl:j=k:=by omega
      exact K
    clear K W;generalize fs[k]=f at *
    go_wp2_with (go_at_fn 75;refine E.mono ?_;rintro e w' ⟨rfl,H⟩);go_roundw
    case rel=>exact⟨k+1,by omega,by go_num,A.o.trans (H.mono A.o.size),X.o⟩
    case measure=>simp [intOf];omega
  ·go_wp2_with fail;go_ret;refine⟨?_,A.o⟩;have:ixF fs q=none:=zhm (fun f hf=>by
    obtain⟨j,J,rfl⟩:=List.getElem_of_mem hf;exact W.o j J (by omega))
   unfold ixI;rw [this];rfl
theorem zhc (O:Nat→Prop)(b:Nat)(d:Dk)(q:List UInt8)(w:World)(S:d.fs.length≤1000000000)(h:zq w O b d):
  Calls Tryz.prog 39 #[vr b,txv q] w fun r w'=>r= .returned (.int .i64 (ixI d.fs q))∧Below w.heap.size w w':=by
 obtain⟨H,V,D,I,R⟩:=h;obtain⟨L,U⟩:=(zep D).1;have E:=zb D;have K:=za (zec I);clear D I R;unfold vr txv;have Q:∀ o,(w.alloc o).cell? ⟨b,0,none⟩=some H:=fun o=>by rw [zl _ _ ⟨_,0,none⟩ E];exact L
 go_enter Tryz.func39,Tryz.ntmps39;go_wp2_with fail;refine(zzm q w.heap.size H d.fs _ S (K.o.below (ze _ _)) (by simp [txv])).mono ?_;rintro e w' ⟨rfl,A⟩;have J:Hid (Below w.heap.size w w'):=(ze w _).trans (A.mono (by simp));clear A;go_wp2_with fail;go_ret;exact⟨rfl,J.o⟩
def Bq (w:World)(v:Value)(l:List UInt8):Prop:=∃ g h C r,v= .slice (some ⟨g,0,none⟩) l.length h∧l.length≤h∧w.heap[g]?=some (.cells C 5 r)∧∀ i (A:i < l.length),C[i]?=some (bv l[i])
theorem Bq.turn {w w':World}{O:Nat→Prop}{T:List Nat}{v:Value}{l:List UInt8}(h:Bq w v l)(J:zg O T w w')(D:5∉T):Bq w' v l:=by
 obtain⟨g,r,C,A,e,I,H,E⟩:=h;exact⟨g,r,C,A,e,I,J.keep H D,E⟩
theorem Bq.below {w w':World}{v:Value}{l:List UInt8}(h:Bq w v l)(r:Below w.heap.size w w'):Bq w' v l:=h.turn (O:=fun _=>False) (T:=[]) (.of_below r) (by simp)
theorem Bq.conv {w:World}{v:Value}{l:List UInt8}(h:Bq w v l):(convert 100 9 v).run Tryz.prog w= .ok (.string ⟨l.toArray⟩) w:=by
 obtain⟨g,r,C,H,rfl,-,D,A⟩:=h;refine run_convert_bytes_back w _ _ 5 ⟨g,0,none⟩ r l Tryz.underlying100 Tryz.underlying5 Tryz.underlying9 (fun j E=>?_);rw [Addr.add_mid,Nat.zero_add,cell_of_row _ _ _ _ _ _ D];exact A j E
theorem zn1:(Tryz.prog.info? 51).map (fun i=>(i.zero,i.size,i.bytes))=some (some (.agg #[.string ⟨#[]⟩,.string ⟨#[]⟩]),2,32):=by kernel_rfl
theorem zyz {O:Nat→Prop}{b:Nat}{d:Dk}{p x:List UInt8}{w D A:World}{H:Value}{o:Obj}{g r:Nat}(HT:zg O [] w D)(Q:O b)(W:∀ g,H.ownBlock=some g→O g)(Z:D.ownsRow 0 51 2 H d.fs.length (yw d.fs))(Y:ixF d.fs p=none)
  (I:A.ownsRow 0 51 2 (.slice (some ⟨g,0,none⟩) (d.fs.length+1) r) (d.fs.length+1) (yw d.fs++[.string ⟨p.toArray⟩,.string ⟨x.toArray⟩])) (K:(D.alloc o).drew.grownBy A H.ownBlock) (J:H.ownBlock=some g∨g=D.heap.size+1) (E:A.heap[b]?=some (.cells (zcv H d) 64 (0,0))) :
  Ending.returned (.tuple #[])= .returned (.tuple #[])∧zg O dT w (A.setCell ⟨b,0,none⟩ (.slice (some ⟨g,0,none⟩) (d.fs.length+1) r))∧zq (A.setCell ⟨b,0,none⟩ (.slice (some ⟨g,0,none⟩) (d.fs.length+1) r)) (Ext O w (A.setCell ⟨b,0,none⟩ (.slice (some ⟨g,0,none⟩) (d.fs.length+1) r))) b { d with fs:=zan d.fs p x }:=by
 have X:zg O dT w D:=HT.mono (fun _ h=>h) (by simp);have t1:zg O dT w (D.alloc o).drew:=(X.alloc o).drew;have R:(D.alloc o).drew.ownsRow 0 51 2 H d.fs.length (yw d.fs):=World.ownsRow.alloc (w:=D) Z o;have t2:zg O dT w A:=t1.grown R K (fun L S=> .inl (W L S)) (by decide);have t3:=t2.set (o:=0) (.inl Q) E (by decide) (.slice (some ⟨g,0,none⟩) (d.fs.length+1) r);have V:zan d.fs p x=d.fs++[(p,x)]:=by unfold zan;rw [Y]
 have ad:g < A.heap.size:=by
  rcases I.2 with ⟨e,-⟩ | ⟨L,aa,ac,e,-,hg,-⟩
  ·simp at e
  ·simp at e;rw [e.1];exact zb hg
 have U:(A.setCell ⟨b,0,none⟩ (.slice (some ⟨g,0,none⟩) (d.fs.length+1) r)).heap.size=A.heap.size:=by simp [World.setCell]
 have tb:zg O dT1 A (A.setCell ⟨b,0,none⟩ (.slice (some ⟨g,0,none⟩) (d.fs.length+1) r)):=(zg.refl O dT1 A).set (.inl Q) E (by decide) _;refine⟨rfl,t3,.slice (some ⟨g,0,none⟩) (d.fs.length+1) r,.inl Q,qo E 0 _,?_,fun L e=>?_⟩
 ·show World.ownsRow _ 0 51 2 _ (zan d.fs p x).length (yw (zan d.fs p x));rw [V,ze9,List.length_append];exact zi I tb (by decide)
 ·simp only [Value.ownBlock,Option.some.injEq] at e;subst e;rcases J with h | h
  ·exact .inl (W _ h)
  ·have:=X.size;exact .inr (by rw [U];omega)
theorem zh0 (O:Nat→Prop)(b:Nat)(d:Dk)(p x:List UInt8)(v:Value)(w:World)(hn:d.fs.length≤1000000000)(h:zq w O b d)(hv:Bq w v x):
  Calls Tryz.prog 264 #[vr b,txv p,v] w fun r w'=>r= .returned (.tuple #[])∧zg O dT w w'∧zq w' (Ext O w w') b { d with fs:=zan d.fs p x }:=by
 have HD:=za h;have HV:=za hv;clear h hv;unfold vr txv;go_enter Tryz.func264,Tryz.ntmps264;go_wp2_with fail;refine(zhc O b d p w hn HD.o).mono ?_;rintro e A ⟨rfl,S⟩;have HT:Hid (zg O [] w A):= .of_below S;have H:=za (HD.o.stay HT.o (by decide) (by decide));have I:=za (HV.o.below S);clear S;cases e:ixF d.fs p with
 | some k =>
  have Z:ixI d.fs p=k:=by unfold ixI;rw [e]
  rw [Z];obtain⟨hk,ac,-⟩:=j7 e;obtain⟨R,hO,E,K,J⟩:=H.o;obtain⟨c0,f0⟩:=(zep E).1;have ap:=Bq.conv (w:=A.drew) I.o;rcases K.2 with ⟨rfl,h0⟩ | ⟨g,X,Q,rfl,-,D,aq,hm,hs,ht⟩
  ·omega
  have c1:∃ u,A.cell? ⟨g,k*2+1,none⟩=some u:=by
   rw [cell_of_row _ _ _ _ _ _ D];exact⟨Q[k*2+1]'(by omega),by simp⟩
  have f1:A.frozen? ⟨g,k*2+1,none⟩=false:=by simp [World.frozen?,D]
  obtain⟨u,c1⟩:=c1;have HG:=za J;have L:=za D;have HB:=za E;have HS:=za (And.intro hs ht);have HF:=za K;have HE:=za e;have HK:=za ac;clear J D E hs ht K e ac Z HV I HD H;go_wp2_with fail;go_region;go_end0;have t1:zg O dT w (A.setCell ⟨g,k*2+1,none⟩ (.string ⟨x.toArray⟩)):=(HT.o.mono (T':=dT) (fun _ h=>h) (by simp)).set (.inl (HG.o g rfl)) L.o (by decide) _;have ar:b≠g:=fun e=>by
   have h1:=HB.o;rw [e,L.o] at h1;simp at h1
  refine⟨rfl,t1.drew,_,.inl hO,?_,?_,fun g' e=> .inl (HG.o g' e)⟩
  ·show(A.setCell ⟨g,k*2+1,none⟩ (.string ⟨x.toArray⟩)).heap[b]?=_;rw [heap_setCell_other _ _ _ _ (by simpa using ar)];exact HB.o
  ·have af:zan d.fs p x=d.fs.set k (p,x):=by unfold zan;rw [HE.o]
   have ad:(zan d.fs p x).length=d.fs.length:=by rw [af,List.length_set]
   show World.ownsRow _ 0 51 2 _ (zan d.fs p x).length (yw (zan d.fs p x));rw [ad];refine⟨by rw [zvk,ad],.inr ⟨g,X,_,rfl,Nat.zero_le _,heap_setCell_same A g (k*2+1) Q _ _ L.o,aq,hm,by rw [Array.size_setIfInBounds];exact HS.o.1,?_⟩⟩;rw [af,zn3 d.fs k p x hk HK.o,← HS.o.2,Array.toList_setIfInBounds,List.take_set];rfl
 | none =>
  have Z:ixI d.fs p=-1:=by unfold ixI;rw [e]
  rw [Z];obtain⟨i,hi,aa⟩:=Option.map_eq_some_iff.1 zn1;obtain⟨ag,ah,ai⟩:i.zero=some (.agg #[.string ⟨#[]⟩,.string ⟨#[]⟩])∧i.size=2∧i.bytes=32:=by simpa using aa
  clear aa;have HI:=za hi;have HZ:=za (And.intro ag (And.intro ah ai));clear hi ag ah ai;obtain⟨R,hO,E,K,J⟩:=H.o;obtain⟨c0,f0⟩:=(zep E).1;have ap:=Bq.conv (w:=A.drew) I.o;have HG:=za J;have HB:=za E;have HF:=za K;have HE:=za e;have al:Hid (∀ o,(A.alloc o).drew.ownsRow 0 51 2 R d.fs.length (yw d.fs)):=fun o=>World.ownsRow.alloc (w:=A) K o;have W:Hid (∀ o,(A.alloc o).drew.heap[b]?=some (.cells (zcv R d) 64 (0,0))):=fun o=>zc (w:=A) E;have au:∀ o,(A.alloc o).cell? ⟨b,0,none⟩=some R:=fun o=>by rw [zl _ _ ⟨_,0,none⟩ (zb E)];exact c0
  have an:Hid (∀ g,R.ownBlock=some g→b≠g):=fun g J e=>by
   rcases K.2 with ⟨rfl,-⟩ | ⟨g',X,Q,rfl,-,D,-⟩
   ·simp [Value.ownBlock] at J
   ·simp only [Value.ownBlock,Option.some.injEq] at J;subst J;rw [e,D] at E;simp at E
  clear J E K e Z HV I HD H;go_wp2_with fail
  go_region_law (refine step_append_lies _ (by rfl) _ _ _ (by rfl) 0 51 i (.agg #[.string ⟨#[]⟩,.string ⟨#[]⟩]) 2 32 Tryz.underlying49 HI.o HZ.o.1 HZ.o.2.1 HZ.o.2.2 rfl (by omega) R d.fs.length (yw d.fs) (by rfl) (al.o _) ⟨A.heap.size,0,none⟩ 1 1 [.string ⟨p.toArray⟩,.string ⟨x.toArray⟩] (by rfl) rfl (World.news_of_block (heap_alloc_last _ _)) (by simp [Value.oneCell']) (by omega) (by unfold maxLen;omega) (by omega) (by omega) (A.heap.size+1) (by simp) ?_;intro g av w3 ae V Y aw;have U:w3.heap[b]?=some (.cells (zcv R d) 64 (0,0)):=(by rw [V.block b (zb (W.o _)) (fun e=>an.o b e.symm rfl)];exact W.o _);obtain⟨c3,f3⟩:=(zep U).1;have ao:=za ae;have am:=za V;have aj:=za Y;have ak:=za U;clear ae V Y U)
  all_goals go_end0
  all_goals exact zyz HT.o hO HG.o HF.o HE.o ao.o am.o aj.o ak.o
def txt (l:List UInt8):Value:= .string ⟨l.toArray⟩
theorem zi8 (w:World)(g:Nat)(h n:Nat)(l:List UInt8)(t:TypeId)(r:Nat×Nat)(E:l.length=n)(A:w.heap[g]?=some (.cells (hv l) t r)):
  (convert 100 9 (.slice (some ⟨g,0,none⟩) n h)).run Tryz.prog w= .ok (txt l) w:=by
 subst E;refine run_convert_bytes_back w _ _ 5 ⟨g,0,none⟩ h l Tryz.underlying100 Tryz.underlying5 Tryz.underlying9 (fun j D=>?_);rw [Addr.add_mid,Nat.zero_add,cell_of_row _ _ _ _ _ _ A];simp [hv,bv,D]
theorem z9l (m:Int)(h:0≤m)(r:m≤18446744073709551615):(#[Value.int IntKind.u8 (m / 256 / 256 / 256 / 256 / 256 / 256 / 256),
        Value.int IntKind.u8 (m / 256 / 256 / 256 / 256 / 256 / 256 % 256),
        Value.int IntKind.u8 (m / 256 / 256 / 256 / 256 / 256 % 256),
        Value.int IntKind.u8 (m / 256 / 256 / 256 / 256 % 256),
        Value.int IntKind.u8 (m / 256 / 256 / 256 % 256),Value.int IntKind.u8 (m / 256 / 256 % 256),
        Value.int IntKind.u8 (m / 256 % 256),Value.int IntKind.u8 (m % 256)]:Array Value)=hv (zj8 m):=by
 rw [zx7 m h r];rw [show m / 256 / 256 / 256 / 256 / 256 / 256 / 256=m / 72057594037927936 by omega,show m / 256 / 256 / 256 / 256 / 256 / 256=m / 281474976710656 by omega,show m / 256 / 256 / 256 / 256 / 256=m / 1099511627776 by omega,show m / 256 / 256 / 256 / 256=m / 4294967296 by omega,show m / 256 / 256 / 256=m / 16777216 by omega,show m / 256 / 256=m / 65536 by omega]
theorem zdg (s:ByteArray)(w:World)(J:s.size≤maxLen):
  Calls Tryz.prog 41 #[.string s] w fun e w'=>e= .returned (txt (hash s.data.toList))∧Below w.heap.size w w':=by
 unfold maxLen at J;have I:∀ w,(Instr.makeSlice 100 (.int .i64 8) (.int .i64 8)).run Tryz.prog w= .ok (.slice (some ⟨w.heap.size,0,none⟩) 8 8) (w.alloc (.cells #[Value.int IntKind.u8 0,Value.int IntKind.u8 0,Value.int IntKind.u8 0,Value.int IntKind.u8 0,Value.int IntKind.u8 0,Value.int IntKind.u8 0,Value.int IntKind.u8 0,Value.int IntKind.u8 0] 5)):=fun _=>by kernel_rfl
 go_enter Tryz.func41,Tryz.ntmps41;go_wp2_with fail
 go_loop [3,4] (fun t i=>∃ k:Nat,k≤s.size∧i= .int .i64 k∧t= .int .u64 (fnv j6 (s.data.toList.take k))) (fun _ i=>s.size - (intOf i).toNat)
 case atStart=>exact⟨0,Nat.zero_le _,rfl,rfl⟩
 case round =>
  obtain⟨k,L,rfl,rfl⟩:=hrel;obtain⟨A,D⟩:=zkv j6 (s.data.toList.take k) zb6.1 zb6.2;by_cases r:k < s.size
  ·have E:Hid (fnv j6 (s.data.toList.take (k+1))=st (fnv j6 (s.data.toList.take k)) (s[k]).toNat):=ztr j6 s.data.toList k (by simpa using r);have K:((s[k]).toNat:Int)≤255:=by have:=(s[k]).toNat_lt;omega
   generalize fnv j6 (s.data.toList.take k)=m at *
   go_wp2;go_round
   case rel=>exact⟨k+1,by omega,by go_num,by rw [E.o];unfold st;rfl⟩
   case measure=>simp [intOf];omega
  ·have h:s.data.toList.take k=s.data.toList:=List.take_of_length_le (by simp;show s.size≤k;omega);rw [h] at A D ⊢;have H:Hid (hash s.data.toList=zj8 (fnv j6 s.data.toList)):=rfl;clear h;generalize fnv j6 s.data.toList=m at *
   go_wp2_with fail;refine wp_loop_rounds 9 ?_;rw [rounds_succ];go_wp2;rw [rounds_succ];go_wp2;rw [rounds_succ];go_wp2;rw [rounds_succ];go_wp2;rw [rounds_succ];go_wp2;rw [rounds_succ];go_wp2;rw [rounds_succ];go_wp2;rw [rounds_succ];go_wp2;rw [rounds_succ];go_wp2;rw [z9l m A D,zi8 _ w.heap.size 8 8 (zj8 m) 5 (0,0) rfl (heap_alloc_last _ _)];go_wp2;go_ret;exact⟨by rw [H.o];rfl,(Below.refl _ _).alloc (Nat.le_refl _) _⟩
theorem zb9 (a b:ByteArray):(a++b).data.toList=a.data.toList++b.data.toList:=by simp
theorem zde (a b:ByteArray):(a++b).size=a.size+b.size:=by simp
theorem ztb (s:ByteArray)(w:World)(r:s.size < maxLen):
  Calls Tryz.prog 66 #[.string s] w fun e w'=>e= .returned (txt (jc s.data.toList))∧Below w.heap.size w w':=by
 have A:=za r;have h1:¬ 9223372036854775807 < 1+s.size:=by unfold maxLen at r;omega
 clear r;go_enter Tryz.func66,Tryz.ntmps66;go_wp2_with fail;refine(zdg _ w (by rw [zde];have:=A.o;show 1+s.size≤maxLen;omega)).mono ?_;rintro e w' ⟨hr,D⟩;rw [zb9] at hr;have h:e= .returned (txt (jc s.data.toList)):=hr;subst h;clear hr;go_wp2_with fail;go_ret;exact⟨rfl,D⟩
theorem zvf (a b:List UInt8)(w:World)(A:a.length≤8)(D:b.length≤8):
  Calls Tryz.prog 67 #[txt a,txt b] w fun e w'=>e= .returned (txt (yz a b))∧Below w.heap.size w w':=by
 unfold txt;have H:Hid (∀ l,Value.string ⟨l.toArray⟩=txt l):=fun _=>rfl;go_enter Tryz.func67,Tryz.ntmps67;go_wp2_with fail;refine(zdg _ w (by rw [zde,zde];show 1+a.toArray.size+b.toArray.size≤maxLen;simp [maxLen];omega)).mono ?_;rintro e w' ⟨hr,h⟩;rw [zb9,zb9] at hr;have r:e= .returned (txt (yz a b)):=by rw [hr];simp [yz]
 subst r;clear hr;go_wp2_with fail;go_ret;exact⟨rfl,h⟩
theorem zsl (a b:List UInt8)(w:World)(h:a.length=8)(r:b.length=8):
  Calls Tryz.prog 67 #[txt a,txt b] w fun e w'=>e= .returned (txt (yz a b))∧Below w.heap.size w w' :=
 zvf a b w (by omega) (by omega)
def bys (h:List ByteArray):List (List UInt8):=h.map fun s=>s.data.toList
theorem vm (h:List ByteArray):(bys h).length=h.length:=by simp [bys]
theorem zhe (h:List ByteArray)(k:Nat):bys (h.take k)=(bys h).take k:=by simp [bys]
theorem zhl (h:List ByteArray)(k:Nat):bys (h.drop k)=(bys h).drop k:=by simp [bys]
theorem zi3 (f:Nat)(v:Value)(A:List ByteArray)(w:World)(h0:A.length=0)(h:Sss w v A):
  Calls Tryz.prog 35 #[v] w fun r w'=>r= .returned (txt (xe f (bys A)))∧Below w.heap.size w w':=by
 obtain⟨a,H,rfl,D,-⟩:=h;rw [zae f (bys A) (by rw [vm];exact h0),h0];clear D;go_enter Tryz.func35,Tryz.ntmps35;go_wp2_with fail;refine(zdg _ _ (by decide)).mono ?_;rintro r w' ⟨hr,I⟩;have E:r= .returned (txt (hash [])):=hr;clear hr;subst E;go_wp2_with fail;go_ret;exact⟨rfl,I⟩
theorem zuu (f:Nat)(v:Value)(A:List ByteArray)(w:World)(h1:A.length=1)(J:∀ s∈A,s.size < maxLen)(h:Sss w v A):
  Calls Tryz.prog 35 #[v] w fun r w'=>r= .returned (txt (xe (f+1) (bys A)))∧Below w.heap.size w w':=by
 rw [zc3 f (bys A) (by rw [vm];exact h1)];obtain⟨s,rfl⟩:=List.length_eq_one_iff.1 h1;obtain⟨a,L,rfl,D,h⟩:=h;rcases h with h | ⟨b,E,rfl,I⟩
 ·simp at h
 have R:w.cell? ⟨b,E,none⟩=some (.string s):=I 0 (by simp);have K:=za (J s (by simp));clear D I J;have H:bys [s]=[s.data.toList]:=rfl;rw [H];clear H;simp only [List.length_singleton,List.headD_cons] at *
 go_enter Tryz.func35,Tryz.ntmps35;go_wp2_with fail;refine(ztb s _ K.o).mono ?_;rintro r w' ⟨rfl,Q⟩;go_wp2_with fail;go_ret;exact⟨rfl,Q⟩
theorem zq0 (f:Nat)(b R D:Nat)(A:List ByteArray)(w:World)(h2:2≤A.length)(hn:A.length≤1000000)(aa:A.length≤D)(I:∀ s∈A,s.size < maxLen)(h:Sss w (.slice (some ⟨b,R,none⟩) A.length D) A)
  (ih:∀(v:Value) (A:List ByteArray) (w:World),A.length≤f→A.length≤1000000→(∀ s∈A,s.size < maxLen)→Sss w v A→Calls Tryz.prog 35 #[v] w fun r w'=>r= .returned (txt (xe f (bys A)))∧Below w.heap.size w w') (hf:A.length≤f+1) :
  Calls Tryz.prog 35 #[.slice (some ⟨b,R,none⟩) A.length D] w fun r w'=>r= .returned (txt (xe (f+1) (bys A)))∧Below w.heap.size w w':=by
 obtain⟨k1,k2,k3⟩:=jg A.length h2;rw [vb f (bys A) (by rw [vm];exact h2),vm,← zhe,← zhl];have hk:kOf A.length≤A.length:=by omega
 have U:=za I;have H:=za h;have V:=za ih;have W:(A.take (kOf A.length)).length≤f:=by simp;omega
 have X:(A.drop (kOf A.length)).length≤f:=by simp;omega
 have Y:(A.take (kOf A.length)).length≤1000000:=by simp;omega
 have Z:(A.drop (kOf A.length)).length≤1000000:=by simp;omega
 have F:=za (And.intro W (And.intro X (And.intro Y Z)));clear W X Y Z;have n1:((A.length:Int)==0)=false:=beq_eq_false_iff_ne.2 (by omega);have n2:((A.length:Int)==1)=false:=beq_eq_false_iff_ne.2 (by omega);clear I h ih;go_enter Tryz.func35,Tryz.ntmps35;go_wp2_with fail;refine(zfi A.length _ h2 (Nat.le_trans hn (by decide))).mono ?_;rintro e w' ⟨rfl,rfl⟩;have c1:(kOf A.length:Int)≤(D:Int):=by omega
 have c2:(kOf A.length:Int)≤(A.length:Int):=by omega
 have c3:(0:Int)≤(kOf A.length:Int):=by omega
 go_wp2_with fail;refine(V.out _ (A.take (kOf A.length)) _ F.out.1 F.out.2.2.1 (fun l I=>U.o l (List.mem_of_mem_take I)) (by exact H.o.take _ hk)).mono ?_;rintro e w1 ⟨rfl,K⟩;have E:=za K;clear K;go_wp2_with fail;refine(V.out _ (A.drop (kOf A.length)) _ F.out.2.1 F.out.2.2.2 (fun l I=>U.o l (List.mem_of_mem_drop I)) (by exact(H.o.drop _ hk).below E.o)).mono ?_;rintro e w2 ⟨rfl,L⟩;have J:=za (E.o.trans (L.mono E.o.size));clear L;go_wp2_with fail;refine(zsl _ _ _ (qk _ _) (qk _ _)).mono ?_;rintro e w3 ⟨rfl,Q⟩;have S:=za (J.o.trans (Q.mono J.o.size));clear Q;go_wp2_with fail;go_ret;exact⟨rfl,S.o⟩
theorem zbw (f:Nat):∀(v:Value) (A:List ByteArray) (w:World),A.length≤f→A.length≤1000000→(∀ s∈A,s.size < maxLen)→Sss w v A →
  Calls Tryz.prog 35 #[v] w fun r w'=>r= .returned (txt (xe f (bys A)))∧Below w.heap.size w w':=by
 induction f with
 | zero=>exact fun v A w I _ _ h=>zi3 0 v A w (by omega) h
 | succ f ih =>
  intro v A w I L J h;by_cases h0:A.length=0
  ·exact zi3 _ v A w h0 h
  by_cases h1:A.length=1
  ·exact zuu f v A w h1 J h
  ·have K:=h;obtain⟨a,D,rfl,E,h⟩:=h;rcases h with h | ⟨b,H,rfl,-⟩
   ·exact absurd (by simp [h]) h0
   ·exact zq0 f b H D A w (by omega) L E J K ih I
def EB (w:World)(B:Nat)(x:Value)(l:List UInt8):Prop :=
 ∃ g r C A,x= .slice (some ⟨g,0,none⟩) l.length r∧B≤g∧w.heap[g]?=some (.cells C 5 A)∧(∀ i (h:i < l.length),C[i]?=some (bv l[i]))∧l.length≤A.1
theorem xk {w:World}{g:Nat}{o:Obj}(h:w.heap[g]?=some o):g < w.heap.size:=by
 rcases Nat.lt_or_ge g w.heap.size with r | r
 ·exact r
 ·simp [Array.getElem?_eq_none r] at h
theorem zy {w w':World}{B:Nat}{e:TypeId}{s:Nat}{v:Value}{n:Nat}{xs:List Value}(h:w.ownsRow B e s v n xs)(J:Below w.heap.size w w'):w'.ownsRow B e s v n xs:=by
 refine⟨h.1,?_⟩;rcases h.2 with h | ⟨g,A,D,H,I,E,r⟩
 ·exact .inl h
 ·exact .inr ⟨g,A,D,H,I,by rw [J.block g (xk E)];exact E,r⟩
theorem EB.conv (w:World)(s:ByteArray)(B h:Nat)(A:B≤w.heap.size):
  EB (w.alloc (.cells (bytesRow s h) 5 ((bytesRow s h).size,(bytesRow s h).size+1))) B (.slice (some ⟨w.heap.size,0,none⟩) s.size h) s.data.toList:=by
 refine⟨w.heap.size,h,_,_,by simp,A,heap_alloc_last _ _,fun i D=>?_,?_⟩
 ·have r:i < s.data.size:=by simpa using D
  rw [bytesRow,Array.getElem?_append_left (by simpa using r)];rw [Array.getElem?_map,Array.getElem?_eq_getElem r];rfl
 ·simp [bytesRow]
theorem qf {w:World}{B:Nat}{e:TypeId}{s:Nat}{v:Value}{n:Nat}{xs:List Value}(h:w.ownsRow B e s v n xs):∀ k,v.ownBlock=some k→B≤k:=by
 intro k r;rcases h.2 with ⟨rfl,_⟩ | ⟨g,A,D,rfl,E,_⟩
 ·simp [Value.ownBlock] at r
 ·simp only [Value.ownBlock,Option.some.injEq] at r;omega
theorem zox:(Tryz.prog.info? 100).map (fun i=>(i.zero,i.size,i.bytes))=some (some (.slice none 0 0),1,24):=by kernel_rfl
end Go.Proofs.YtndkblnpbjffhaaGreatDoor
