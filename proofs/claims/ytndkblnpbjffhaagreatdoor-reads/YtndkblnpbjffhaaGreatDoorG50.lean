import Derived.Shelf.LaySoft
import Derived.Shelf.SlSortCmp.NoneTotal
import Derived.Shelf.SlicesE.Clone
import Derived.Lib.OwnBridge
import Derived.Laws.AppendOwnNone
import Derived.Test.YtndkblnpbjffhaaGreatDoorG49
import Derived.ProofKit
import Derived.ShutString
import Derived.Deep.SlicePairs
import Derived.Stop.LaidErr
import Derived.Lay
import Derived.Deep.DeepHandedRow
import Derived.LaidMore
import Derived.Test.YtndkblnpbjffhaaGreatDoorTie
import Derived.Test.YtndkblnpbjffhaaGreatDoorCards
set_option maxHeartbeats 4000000
set_option maxRecDepth 100000
open Go.RowKit Go.Lib Go.Sort Go.ChangeShapes Go.WideShapes Go.ChangeAt
namespace Go.Proofs.YtndkblnpbjffhaaGreatDoor
def Fss (w:World)(v:Value)(fs:Fs):Prop :=
 ∃ a A,v= .slice a fs.length A∧fs.length≤A∧(fs=[]∨∃ b r,a=some ⟨b,r,none⟩∧∀ i (h:i < fs.length),w.cell? ⟨b,r+i*2,none⟩=some (txv fs[i].1)∧w.cell? ⟨b,r+i*2+1,none⟩=some (txv fs[i].2))
def ze6 (fs:Fs):Fs→Fs
 | []=>fs
 | f::r=>ze6 (if (ixF fs f.1).isNone then fs++[f] else fs) r
def dk0:Dk:={ fs:=[],calls:=0,failAt:=0,dead:=false,once:=false,half:=false,hit:=false,turned:=false }
theorem zpo (f:List UInt8×List UInt8):∀(l h:Fs),ze6 h (l++[f])=if (ixF (ze6 h l) f.1).isNone then ze6 h l++[f] else ze6 h l
 | [],h=>rfl
 | x::r,h=>by
  show ze6 _ (r++[f])=_;rw [zpo f r];rfl
theorem zr4:∀(l h:Fs),(ze6 h l).length≤h.length+l.length
 | [],h=>by simp [ze6]
 | x::r,h=>by
  have:=zr4 r (if (ixF h x.1).isNone then h++[x] else h);simp only [ze6,List.length_cons]
  split at this<;>simp_all<;>omega
theorem zfm {α:Type}(l:List α)(k:Nat)(h:k < l.length):l.take (k+1)=l.take k++[l[k]]:=by
 rw [List.take_add_one];simp [h]
theorem z8g (v:Value)(fs:Fs)(w:World)(hn:fs.length≤1000000)(h:Fss w v fs):
  Calls Tryz.prog 15 #[v] w fun r w'=>r= .returned (vr w.heap.size)∧Below w.heap.size w w'∧zq w' (fun k=>w.heap.size≤k) w.heap.size { dk0 with fs:=ze6 [] fs }:=by
 obtain⟨a,a2,rfl,a9,ao⟩:=h;have H:=za ao;clear ao;go_enter Tryz.func15,Tryz.ntmps15;go_wp2_with fail;have ad:Hid (zq (w.alloc (.cells #[.slice none 0 0,.int .i64 0,.int .i64 0,.bool false,.bool false,.bool false,.bool false,.bool false] 64)) (fun k=>w.heap.size≤k) w.heap.size { dk0 with fs:=ze6 [] (fs.take 0) }) :=
  ⟨.slice none 0 0,Nat.le_refl _,heap_alloc_last _ _,⟨rfl,.inl ⟨rfl,rfl⟩⟩,fun g e=>by simp [Value.ownBlock] at e⟩
 go_loopw [10] (fun i wr=>∃ k:Nat,k≤fs.length∧i= .int .i64 k∧Below w.heap.size w wr∧zq wr (fun k=>w.heap.size≤k) w.heap.size { dk0 with fs:=ze6 [] (fs.take k) }) (fun i _=>fs.length - (intOf i).toNat)
 case atStart=>exact⟨0,Nat.zero_le _,rfl,ze _ _,ad.o⟩
 case round =>
  obtain⟨k,hk,rfl,ah,aj⟩:=hrel;have HB:=za ah;have HD:=za aj;clear ah aj ad;by_cases D:k < fs.length
  ·obtain⟨b,E,rfl,ai⟩:∃ b E,a=some ⟨b,E,none⟩∧∀ i (h:i < fs.length),w.cell? ⟨b,E+i*2,none⟩=some (txv fs[i].1)∧w.cell? ⟨b,E+i*2+1,none⟩=some (txv fs[i].2):=by
    rcases H.o with h | h
    ·rw [h] at D;simp at D
    ·exact h
   obtain⟨y0,y1⟩:=ai k D;have S:Hid (ze6 [] (fs.take (k+1))=if (ixF (ze6 [] (fs.take k)) fs[k].1).isNone then ze6 [] (fs.take k)++[fs[k]] else ze6 [] (fs.take k)):=by
    show _=_;rw [zfm fs k D,zpo]
   have al:=zr4 (fs.take k) [];rw [List.length_take,Nat.min_eq_left hk] at al;simp only [List.length_nil,Nat.zero_add] at al;obtain⟨⟨p,x⟩,an⟩:∃ f,fs[k]=f:=⟨_,rfl⟩
   rw [an] at y0 y1 S;generalize ze6 [] (fs.take k)=A at *
   have r0:wr.cell? ⟨b,E+k*2,none⟩=some (.string ⟨p.toArray⟩):=by rw [HB.o.cell (p:=⟨b,_,none⟩) (zk y0)];exact y0
   have r1:wr.cell? ⟨b,E+k*2+1,none⟩=some (.string ⟨x.toArray⟩):=by rw [HB.o.cell (p:=⟨b,_,none⟩) (zk y1)];exact y1
   clear y0 y1 ai an;go_wp2_with fail;have ac:Hid (Below w.heap.size w (wr.alloc (.cells #[.string ⟨p.toArray⟩,.string ⟨x.toArray⟩] 51))):=HB.o.trans ((ze _ _).mono HB.o.size);have R:Hid (zq (wr.alloc (.cells #[.string ⟨p.toArray⟩,.string ⟨x.toArray⟩] 51)) (fun k=>w.heap.size≤k) w.heap.size { dk0 with fs:=A }):=HD.o.stay (O1:=fun _=>False) (T:=[]) (.of_below (ze _ _)) (by simp) (by simp);have af:Hid ((wr.alloc (.cells #[.string ⟨p.toArray⟩,.string ⟨x.toArray⟩] 51)).heap[wr.heap.size]?=some (.cells #[.string ⟨p.toArray⟩,.string ⟨x.toArray⟩] 51 (0,0))):=heap_alloc_last _ _;generalize wr.alloc (.cells #[.string ⟨p.toArray⟩,.string ⟨x.toArray⟩] 51)=wf at *
   refine(zhc (fun k=>w.heap.size≤k) w.heap.size { dk0 with fs:=A } p wf (by show A.length≤_;omega) R.o).mono ?_;rintro e I ⟨rfl,L⟩;have K:Hid (Below w.heap.size w I):=ac.o.trans (L.mono ac.o.size);have Q:=za (R.o.stay (O1:=fun _=>False) (T:=[]) (.of_below L) (by simp) (by simp));have Y:I.heap[wr.heap.size]?=some (.cells #[.string ⟨p.toArray⟩,.string ⟨x.toArray⟩] 51 (0,0)):=by rw [L.block _ (zb af.o)];exact af.o
   obtain⟨q0,-⟩:=zf Y 0 _ rfl;obtain⟨q1,-⟩:=zf Y 1 _ rfl;clear L Y r0 r1;cases e:ixF A p with
   | some j =>
    have he:ixI A p=j:=by unfold ixI;rw [e]
    have U:Hid (ze6 [] (fs.take (k+1))=A):=by
     show _=_;rw [S.o,e];rfl
    rw [show ixI ({ dk0 with fs:=A }:Dk).fs p=j from he];clear q0 q1 e he;go_wp2_with fail;go_round
    case rel=>exact⟨k+1,D,by go_num,K.o,by rw [U.o];exact Q.o⟩
    case measure=>simp [intOf];omega
   | none =>
    have he:ixI A p=-1:=by unfold ixI;rw [e]
    have U:Hid (ze6 [] (fs.take (k+1))=A++[(p,x)]):=by
     show _=_;rw [S.o,e];rfl
    rw [show ixI ({ dk0 with fs:=A }:Dk).fs p=-1 from he];obtain⟨i,hi,ak⟩:=Option.map_eq_some_iff.1 zn1;obtain⟨ap,aq,ar⟩:i.zero=some (.agg #[.string ⟨#[]⟩,.string ⟨#[]⟩])∧i.size=2∧i.bytes=32:=by simpa using ak
    clear ak;have HI:=za hi;have HZ:=za (And.intro ap (And.intro aq ar));clear hi ap aq ar;obtain⟨fv,hO,V,hf,hg⟩:=Q.o;obtain⟨c0,f0⟩:=(zep V).1;have HG:=za hg;have a5:=za V;have HF:=za hf;have HE:=za e;have ay:Hid (∀ o,(I.alloc o).drew.ownsRow 0 51 2 fv A.length (yw A)):=fun o=>World.ownsRow.alloc (w:=I) hf o;have aa:Hid (∀ o,(I.alloc o).drew.heap[w.heap.size]?=some (.cells (zcv fv { dk0 with fs:=A }) 64 (0,0))):=fun o=>zc (w:=I) V;have a6:∀ o,(I.alloc o).cell? ⟨w.heap.size,0,none⟩=some fv:=fun o=>by rw [zl _ _ ⟨w.heap.size,0,none⟩ (zb V)];exact c0
    have a0:Hid (∀ g,fv.ownBlock=some g→w.heap.size≠g):=fun g hg e=>by
     rcases hf.2 with ⟨rfl,-⟩ | ⟨g',a2,a8,rfl,-,a3,-⟩
     ·simp [Value.ownBlock] at hg
     ·simp only [Value.ownBlock,Option.some.injEq] at hg;subst hg;rw [e,a3] at V;simp at V
    clear hg V hf e he HD Q R;go_wp2_with fail
    go_region_law (refine step_append_lies _ (by rfl) _ _ _ (by rfl) 0 51 i (.agg #[.string ⟨#[]⟩,.string ⟨#[]⟩]) 2 32 Tryz.underlying49 HI.o HZ.o.1 HZ.o.2.1 HZ.o.2.2 rfl (by omega) fv A.length (yw A) (by rfl) (ay.o _) ⟨I.heap.size,0,none⟩ 1 1 [.string ⟨p.toArray⟩,.string ⟨x.toArray⟩] (by rfl) rfl (World.news_of_block (heap_alloc_last _ _)) (by simp [Value.oneCell']) (by omega) (by unfold maxLen;omega) (by omega) (by omega) (I.heap.size+1) (by simp) ?_;intro g a7 w3 am Z ag aA;have W:w3.heap[w.heap.size]?=some (.cells (zcv fv { dk0 with fs:=A }) 64 (0,0)):=(by rw [Z.block w.heap.size (zb (aa.o _)) (fun e=>a0.o w.heap.size e.symm rfl)];exact aa.o _);obtain⟨c3,f3⟩:=(zep W).1;have a1:=za am;have az:=za Z;have au:=za ag;have av:=za W;clear am Z ag W)
    all_goals
     have X:=zyz (O:=fun k=>w.heap.size≤k) (b:=w.heap.size) (d:={ dk0 with fs:=A }) (p:=p) (x:=x) (w:=I) (zg.refl _ _ _) (Nat.le_refl _) HG.o HF.o HE.o a1.o az.o au.o av.o;have a4:zan A p x=A++[(p,x)]:=by unfold zan;rw [HE.o]
     have aw:=za (K.o.trans (X.2.1.below (fun _ h=>h) K.o.size));have ax:=za (X.2.2.mono (O':=fun k=>w.heap.size≤k) (fun k hk=>by
      rcases hk with h | h
      ·exact h
      ·exact Nat.le_trans K.o.size h.1))
     clear X;go_wp2_with fail;go_round
     case rel =>
      refine⟨k+1,D,by go_num,aw.o,?_⟩;have h9:=ax.o;rw [U.o];simp only [a4] at h9;exact h9
     case measure=>simp [intOf];omega
  ·obtain rfl:k=fs.length:=by omega
   have ae:=HD.o;rw [List.take_length] at ae;go_wp2_with fail;go_ret;exact⟨rfl,HB.o,ae⟩
theorem Fss.below {w w':World}{v:Value}{fs:Fs}(h:Fss w v fs)(D:Below w.heap.size w w'):Fss w' v fs:=by
 obtain⟨a,r,e,E,h | ⟨b,A,J,L⟩⟩:=h
 ·exact⟨a,r,e,E,.inl h⟩
 ·refine⟨a,r,e,E,.inr ⟨b,A,J,fun i K=>?_⟩⟩;obtain⟨H,I⟩:=L i K;exact⟨by rw [D.cell (p:=⟨b,_,none⟩) (zk H)];exact H,by rw [D.cell (p:=⟨b,_,none⟩) (zk I)];exact I⟩
theorem vf (v:Value)(fs:Fs)(q:List UInt8)(w:World)(hn:fs.length≤1000000000)(h:Fss w v fs):
  Calls Tryz.prog 29 #[v,txv q] w fun r w'=>r= .returned (.int .i64 (ixI fs q))∧w'=w:=by
 obtain⟨a,W,rfl,X,Q⟩:=h;have H:=za Q;clear Q;unfold txv;go_enter Tryz.func29,Tryz.ntmps29;go_wp2_with fail
 go_loop [5] (fun i=>∃ k:Nat,k≤fs.length∧i= .int .i64 k∧∀ j (I:j < fs.length),j < k→fs[j].1≠q) (fun i=>fs.length - (intOf i).toNat)
 case atStart=>exact⟨0,Nat.zero_le _,rfl,fun j I h=>by omega⟩
 case round =>
  obtain⟨k,hk,rfl,L⟩:=hrel;have J:=za L;clear L;by_cases A:k < fs.length
  ·obtain⟨b,D,rfl,K⟩:∃ b D,a=some ⟨b,D,none⟩∧∀ i (h:i < fs.length),w.cell? ⟨b,D+i*2,none⟩=some (txv fs[i].1)∧w.cell? ⟨b,D+i*2+1,none⟩=some (txv fs[i].2):=by
    rcases H.o with h | h
    ·rw [h] at A;simp at A
    ·exact h
   obtain⟨U,-⟩:=K k A;unfold txv at U;clear K;by_cases E:fs[k].1=q
   ·have V:Hid (ixF fs q=some k):=zwd A E (fun j I=>J.o j (by omega) I);rw [E] at U;clear E J;go_wp2_with fail;go_ret;exact⟨by unfold ixI;rw [V.o];rfl,rfl⟩
   ·have R:Hid (∀ j (I:j < fs.length),j < k+1→fs[j].1≠q):=fun j S Z=>by
     rcases Nat.lt_or_ge j k with h | h
     ·exact J.o j S h
     ·obtain rfl:j=k:=by omega
      exact E
    generalize fs[k].1=p at *
    clear J;go_wp2_with fail
    ·first
      | (rename_i h _;exact absurd (by simpa using h) E)
      | (rename_i h _ _;exact absurd (by simpa using h) E)
      | (rename_i h _ _ _;exact absurd (by simpa using h) E)
    ·go_round
     case rel=>exact⟨k+1,by omega,by go_num,R.o⟩
     case measure=>simp [intOf];omega
  ·go_wp2_with fail;go_ret;refine⟨?_,rfl⟩;have:ixF fs q=none:=zhm (fun f Y=>by
    obtain⟨j,I,rfl⟩:=List.getElem_of_mem Y;exact J.o j I (by omega))
   unfold ixI;rw [this];rfl
theorem ztz (l i w:Int)(h:j8 l i w)(W:World):
  Calls Tryz.prog 44 #[.int .i64 l,.int .i64 i,.int .i64 w] W fun r w'=>r= .returned (.string ⟨(qi l i w).toArray⟩)∧Below W.heap.size W w':=by
 rw [zo0 h];unfold j8 at h;go_enter Tryz.func44,Tryz.ntmps44;go_wp2_with fail;all_goals first | (go_ret;exact⟨rfl,Below.refl _ _⟩) | (exfalso;omega)
theorem zgy (l i w:Int)(U:i≤9223372036854775807)(W:World):
  Calls Tryz.prog 44 #[.int .i64 l,.int .i64 i,.int .i64 w] W fun r w'=>r= .returned (.string ⟨(qi l i w).toArray⟩)∧Below W.heap.size W w':=by
 by_cases Y:j8 l i w
 ·exact ztz l i w Y W
 have X:=za (zcw Y);have S:=Y;unfold j8 at S;have n1:¬ l < -1:=by omega
 have n2:¬ 20 < l:=by omega
 have n3:¬ i < 0:=by omega
 have n4:¬ w < 1:=by omega
 have n5:¬ 4 < w:=by omega
 have aa:=js i (by omega) U;have ad:=js w (by omega) (by omega);clear Y S;by_cases hl:l=-1
 ·subst hl;have R:=za zfl;by_cases V:w < 4
  ·skip;have Q:Hid (zao w=zc9++dec w.toNat):=by show _=_;unfold zao;rw [if_pos V]
   go_enter Tryz.func44,Tryz.ntmps44;go_wp2_with fail;refine(zai i (by omega) U W).mono ?_;rintro r K ⟨rfl,h⟩;have A:Hid (Below W.heap.size W K):=h;clear h;generalize dec i.toNat=E at *
   have b1:¬ 9223372036854775807 < 8+E.length:=by omega
   go_wp2_with fail;refine(zai w (by omega) (by omega) K).mono ?_;rintro r w2 ⟨rfl,I⟩;have L:Hid (Below W.heap.size W w2):=A.o.trans (I.mono A.o.size);clear I;generalize dec w.toNat=dw at *
   have b2:¬ 9223372036854775807 < 8+E.length+3:=by omega
   have b3:¬ 9223372036854775807 < 8+E.length+3+dw.length:=by omega
   go_wp2_with fail;go_ret;refine⟨?_,L.o⟩;rw [X.o,R.o,Q.o];exact zcf (by unfold zjg zc9;apply ByteArray.ext;simp)
  ·skip;have Q:Hid (zao w=[]):=by show _=_;unfold zao;rw [if_neg V]
   go_enter Tryz.func44,Tryz.ntmps44;go_wp2_with fail;refine(zai i (by omega) U W).mono ?_;rintro r K ⟨rfl,h⟩;have A:Hid (Below W.heap.size W K):=h;clear h;generalize dec i.toNat=E at *
   have b1:¬ 9223372036854775807 < 8+E.length:=by omega
   go_wp2_with fail;go_ret;refine⟨?_,A.o⟩;rw [X.o,R.o,Q.o];exact zcf (by unfold zjg;apply ByteArray.ext;simp)
 ·have R:=za (zfv l hl);have ac:=js l (by omega) (by omega);have nl:0≤l:=by omega
  by_cases V:w < 4
  ·skip;have Q:Hid (zao w=zc9++dec w.toNat):=by show _=_;unfold zao;rw [if_pos V]
   go_enter Tryz.func44,Tryz.ntmps44;go_wp2_with fail;refine(zai l (by omega) (by omega) W).mono ?_;rintro r w0 ⟨rfl,H⟩;have D:=za H;clear H;generalize dec l.toNat=J at *
   have b0:¬ 9223372036854775807 < 5+J.length:=by omega
   have Z:¬ 9223372036854775807 < 5+J.length+1:=by omega
   go_wp2_with fail;refine(zai i (by omega) U w0).mono ?_;rintro r K ⟨rfl,h⟩;have A:Hid (Below W.heap.size W K):=D.o.trans (h.mono D.o.size);clear h;generalize dec i.toNat=E at *
   have b1:¬ 9223372036854775807 < 5+J.length+1+E.length:=by omega
   go_wp2_with fail;refine(zai w (by omega) (by omega) K).mono ?_;rintro r w2 ⟨rfl,I⟩;have L:Hid (Below W.heap.size W w2):=A.o.trans (I.mono A.o.size);clear I;generalize dec w.toNat=dw at *
   have b2:¬ 9223372036854775807 < 5+J.length+1+E.length+3:=by omega
   have b3:¬ 9223372036854775807 < 5+J.length+1+E.length+3+dw.length:=by omega
   go_wp2_with fail;go_ret;refine⟨?_,L.o⟩;rw [X.o,R.o,Q.o];exact zcf (by unfold zdo zc9;apply ByteArray.ext;simp)
  ·skip;have Q:Hid (zao w=[]):=by show _=_;unfold zao;rw [if_neg V]
   go_enter Tryz.func44,Tryz.ntmps44;go_wp2_with fail;refine(zai l (by omega) (by omega) W).mono ?_;rintro r w0 ⟨rfl,H⟩;have D:=za H;clear H;generalize dec l.toNat=J at *
   have b0:¬ 9223372036854775807 < 5+J.length:=by omega
   have Z:¬ 9223372036854775807 < 5+J.length+1:=by omega
   go_wp2_with fail;refine(zai i (by omega) U w0).mono ?_;rintro r K ⟨rfl,h⟩;have A:Hid (Below W.heap.size W K):=D.o.trans (h.mono D.o.size);clear h;generalize dec i.toNat=E at *
   have b1:¬ 9223372036854775807 < 5+J.length+1+E.length:=by omega
   go_wp2_with fail;go_ret;refine⟨?_,A.o⟩;rw [X.o,R.o,Q.o];exact zcf (by unfold zdo;apply ByteArray.ext;simp)
def Tss (w:World)(v:Value)(A:List (List UInt8)):Prop :=
 ∃ a r,v= .slice a A.length r∧A.length≤r∧(A=[]∨∃ b D,a=some ⟨b,D,none⟩∧∀ i (h:i < A.length),w.cell? ⟨b,D+i,none⟩=some (txv A[i]))
theorem Tss.to {w:World}{v:Value}{E:List (List UInt8)}(h:Tss w v E):Sss w v (E.map tb):=by
 obtain⟨a,r,e,I,A⟩:=h;refine⟨a,r,by rw [List.length_map];exact e,by rw [List.length_map];exact I,?_⟩;rcases A with h | ⟨b,D,H,A⟩
 ·exact .inl (by simp [h])
 ·refine .inr ⟨b,D,H,fun i J=>?_⟩;rw [List.getElem_map];exact A i (by simpa using J)
theorem Tss.nil (w:World):Tss w (.slice none 0 0) []:=⟨none,0,rfl,Nat.le_refl _,.inl rfl⟩
theorem Tss.at {w:World}{a:Option Addr}{n A:Nat}{r:List (List UInt8)}(h:Tss w (.slice a n A) r):n=r.length∧r.length≤A∧(0 < r.length→∃ b D,a=some ⟨b,D,none⟩∧∀ i (h:i < r.length),w.cell? ⟨b,D+i,none⟩=some (txv r[i])):=by
 obtain⟨J,E,e,H,I⟩:=h;simp only [Value.slice.injEq] at e;obtain⟨rfl,rfl,rfl⟩:=e;refine⟨rfl,H,fun h0=>?_⟩;rcases I with h | h
 ·rw [h] at h0;simp at h0
 ·exact h
theorem Fss.at {w:World}{a:Option Addr}{n A:Nat}{fs:Fs}(h:Fss w (.slice a n A) fs):n=fs.length∧fs.length≤A∧(0 < fs.length→∃ b r,a=some ⟨b,r,none⟩∧∀ i (h:i < fs.length),w.cell? ⟨b,r+i*2,none⟩=some (txv fs[i].1)∧w.cell? ⟨b,r+i*2+1,none⟩=some (txv fs[i].2)):=by
 obtain⟨I,D,e,E,H⟩:=h;simp only [Value.slice.injEq] at e;obtain⟨rfl,rfl,rfl⟩:=e;refine⟨rfl,E,fun h0=>?_⟩;rcases H with h | h
 ·rw [h] at h0;simp at h0
 ·exact h
def zns (b:Fs)(f:List UInt8×List UInt8):Bool:=match yp b f.1 with
 | some y=>decide (y≠f.2)
 | none=>false
theorem zv1 (b r:Fs)(k:Nat)(h:k < r.length):zat b (r.take (k+1))=(zat b (r.take k)||zns b r[k]):=by
 unfold zat;rw [zfm r k h,List.any_append];congr 1;rw [List.any_cons,List.any_nil,Bool.or_false];rfl
theorem zy9 {b r:Fs}{k:Nat}(h:k < r.length)(A:zns b r[k]=true):zat b r=true:=by
 unfold zat;rw [List.any_eq_true];exact⟨r[k],List.getElem_mem h,A⟩
theorem z1t (v1 v2:Value)(b h:Fs)(w:World)(hb:b.length≤1000000000)(hw:h.length≤1000000000)(h1:Fss w v1 b)(h2:Fss w v2 h):
  Calls Tryz.prog 59 #[v1,v2] w fun r w'=>r= .returned (.bool (zat b h))∧Below w.heap.size w w':=by
 have H1:=za h1;have H2:=za h2;obtain⟨a1,c1,rfl,ad,-⟩:=h1;obtain⟨a2,c2,rfl,ae,-⟩:=h2;clear ad ae;go_enter Tryz.func59,Tryz.ntmps59;go_wp2_with fail;go_loopw [5] (fun i wr=>∃ k:Nat,k≤h.length∧i= .int .i64 k∧Below w.heap.size w wr∧zat b (h.take k)=false) (fun i _=>h.length - (intOf i).toNat)
 case atStart=>exact⟨0,Nat.zero_le _,rfl,Below.refl _ _,rfl⟩
 case round =>
  obtain⟨k,hk,rfl,S,V⟩:=hrel;have D:=za S;have HN:=za V;clear S V;by_cases K:k < h.length
  ·have I:=za (zv1 b h k K);have R:Hid (zns b h[k]=true→zat b h=true):=zy9 K;obtain⟨-,-,aa⟩:=H2.o.at;obtain⟨b2,o2,rfl,Z⟩:=aa (by omega);obtain⟨y0,y1⟩:=Z k K;obtain⟨⟨p,x⟩,W⟩:∃ f,h[k]=f:=⟨_,rfl⟩
   rw [W] at y0 y1 I R;unfold txv at y0 y1;have r0:wr.cell? ⟨b2,o2+k*2,none⟩=some (.string ⟨p.toArray⟩):=by rw [D.o.cell (p:=⟨b2,_,none⟩) (zk y0)];exact y0
   have r1:wr.cell? ⟨b2,o2+k*2+1,none⟩=some (.string ⟨x.toArray⟩):=by rw [D.o.cell (p:=⟨b2,_,none⟩) (zk y1)];exact y1
   clear y0 y1 W Z aa;go_wp2_with fail;refine(vf _ b p wr hb (H1.o.below D.o)).mono ?_;rintro r w1 ⟨rfl,rfl⟩;have L:Hid (zns b (p,x)=match yp b p with | some y=>decide (y≠x) | none=>false):=rfl;cases e:ixF b p with
   | none =>
    have U:ixI b p=-1:=by unfold ixI;rw [e]
    rw [U];have E:Hid (zat b (h.take (k+1))=false):=by
     show _=_;rw [I.o,HN.o,L.o,(vd e).1];rfl
    clear e U;go_wp2_with fail;go_region;all_goals
     go_wp2_with fail;go_round
     case rel=>exact⟨k+1,by omega,by go_num,D.o.drew,E.o⟩
     case measure=>simp [intOf];omega
   | some j =>
    have U:ixI b p=j:=by unfold ixI;rw [e]
    rw [U];obtain⟨hj,-,J,-⟩:=j7 e;obtain⟨-,-,Y⟩:=H1.o.at;obtain⟨b1,o1,rfl,X⟩:=Y (by omega);obtain⟨-,z1⟩:=X j hj;obtain⟨y,hy⟩:∃ y,b[j].2=y:=⟨_,rfl⟩
    rw [hy] at z1 J;unfold txv at z1;have r2:w1.cell? ⟨b1,o1+j*2+1,none⟩=some (.string ⟨y.toArray⟩):=by rw [D.o.cell (p:=⟨b1,_,none⟩) (zk z1)];exact z1
    have Q:Hid (zns b (p,x)=decide (y≠x)):=by
     show _=_;rw [L.o,J]
    clear e U X Y z1 hy J;go_wp2_with fail;go_region;all_goals
     by_cases A:y=x
     ·have E:Hid (zat b (h.take (k+1))=false):=by
       show _=_;rw [I.o,HN.o,Q.o,A];simp
      rw [show(y==x)=true by simpa using A];clear A r0 r1 r2;go_wp2_with fail;go_round
      case rel=>exact⟨k+1,by omega,by go_num,D.o.drew,E.o⟩
      case measure=>simp [intOf];omega
     ·have HY:Hid (zat b h=true):=R.o (by rw [Q.o];simpa using A);rw [show(y==x)=false by simpa using A];clear A r0 r1 r2;go_wp2_with fail;go_ret;exact⟨by rw [HY.o];rfl,D.o.drew⟩
  ·obtain rfl:k=h.length:=by omega
   have H:=HN.o;rw [List.take_length] at H;have ac:=za H;clear H;go_wp2_with fail;go_ret;exact⟨by rw [ac.o];rfl,D.o⟩
end Go.Proofs.YtndkblnpbjffhaaGreatDoor
namespace Go.Proofs
open Go.Shelf
shelf_try shelf_lay_g SlLaysF0.n6 Slsf 6 at Tryz 77 as Tryz.sortFile
shelf_tried
end Go.Proofs
namespace Go.Proofs.YtndkblnpbjffhaaGreatDoor
def cfF (x y:List UInt8×List UInt8):Int:=if x.1 < y.1 then -1 else if y.1 < x.1 then 1 else 0
def z2k (x:List UInt8×List UInt8):List Value:=[txv x.1,txv x.2]
theorem zvy (x y:List UInt8×List UInt8):ltOf cfF x y=decide (x.1 < y.1):=by
 unfold ltOf cfF;by_cases h:x.1 < y.1
 ·simp [h]
 ·by_cases r:y.1 < x.1<;>simp [h,r]
theorem z65:Go.Sort.SWO (ltOf cfF) where
 irrefl x:=by rw [zvy];simp
 trans x y z h1 h2:=by
  rw [zvy] at *
  simp only [decide_eq_true_eq] at *
  exact List.lt_trans h1 h2
 ntrans x y z h1 h2:=by
  rw [zvy] at *
  simp only [decide_eq_false_iff_not,List.not_lt] at *
  exact List.le_trans h2 h1
theorem znt (w:World)(a b:Obj):(w.alloc a).alloc b=Go.Sort.grow (w.drewN 0) #[a,b]:=by
 show World.alloc (World.alloc w a) b=_;unfold Go.Sort.grow World.alloc;simp;exact⟨by apply Array.ext';simp,rfl,rfl,rfl⟩
theorem z61 (x y:List UInt8×List UInt8)(w:World):
  Calls Tryz.prog 78 #[.agg #[txv x.1,txv x.2],.agg #[txv y.1,txv y.2]] w fun e w'=>e= .returned (.int .i64 (cfF x y))∧∃ q E,w'=Go.Sort.grow (w.drewN q) E:=by
 obtain⟨p,a⟩:=x;obtain⟨q,b⟩:=y;have H:Op.bytesLess p q=decide (p < q):=bytesLess_eq p q;unfold txv;simp only;go_enter Tryz.func78,Tryz.ntmps78;go_wp2_with fail
 ·go_ret;rename_i h;exact⟨congrArg (fun z=>Ending.returned (.int .i64 z)) (by unfold cfF;simp [h]),0,_,znt w _ _⟩
 ·go_ret;rename_i h A;refine⟨congrArg (fun z=>Ending.returned (.int .i64 z)) ?_,0,_,znt w _ _⟩;have r:p≠q:=by simpa using A
  have D:q < p:=by
   rcases List.le_iff_lt_or_eq.1 (List.not_lt.1 h) with h1 | h1
   ·exact h1
   ·exact absurd h1.symm r
  unfold cfF;simp [h,D]
 ·go_ret;rename_i h A;refine⟨congrArg (fun z=>Ending.returned (.int .i64 z)) ?_,0,_,znt w _ _⟩;have r:p=q:=by simpa using A
  subst r;unfold cfF;simp only;rw [if_neg h,if_neg h]
end Go.Proofs.YtndkblnpbjffhaaGreatDoor
namespace Go.Proofs
open Go.Shelf
def Tryz.cloneFile_ren:Go.Shelf.Ren:=⟨fun | 41=>76 | n=>n,fun | 22=>49 | 23=>51 | 4=>4 | n=>n,fun | n=>n⟩
theorem Tryz.cloneFile:Go.Proofs.SlLaysE0.n41 Tryz.prog Tryz.cloneFile_ren:={
 mixed:=by kernel_rfl
 f41:=⟨Tryz.f76.name,by decide,Tryz.func76.trans (congrArg some (by kernel_rfl))⟩
 t4:=Tryz.underlying4
 a4:=Tryz.isAgg4
 z4:=Tryz.sizeOf4
 v4:=Tryz.zeroValue4
 t22:=Tryz.underlying49
 a22:=Tryz.isAgg49
 z22:=Tryz.sizeOf49
 v22:=Tryz.zeroValue49 }
end Go.Proofs
namespace Go.Proofs.YtndkblnpbjffhaaGreatDoor
theorem zwb (fs:Fs):∀ u∈yw fs,u.oneCell'=true:=by
 intro u hu;unfold yw at hu;obtain⟨f,-,h⟩:=List.mem_flatMap.1 hu;simp only [List.mem_cons,List.not_mem_nil,or_false] at h;rcases h with rfl | rfl<;>rfl
theorem zxs (L:Value)(fs:Fs)(w:World)(X:fs.length≤1000000000)(D:w.ownsRow 0 51 2 L fs.length (yw fs)):
  Calls Tryz.prog 76 #[L] w fun e w'=>∃ r,e= .returned r∧Below w.heap.size w w'∧w'.ownsRow w.heap.size 51 2 r fs.length (yw fs):=by
 rcases D.2 with ⟨rfl,h0⟩ | ⟨g,A,Q,rfl,-,E,U,hm,Y,W⟩
 ·refine(AnyE.slices_Clone_nil Tryz.cloneFile 0 0 w).mono ?_;rintro e w' ⟨rfl,rfl⟩;exact⟨_,rfl,Below.refl _ _,D.1,.inl ⟨rfl,h0⟩⟩
 ·obtain⟨i,S,H⟩:=Option.map_eq_some_iff.1 zn1;obtain⟨I,J,K⟩:i.zero=some (.agg #[.string ⟨#[]⟩,.string ⟨#[]⟩])∧i.size=2∧i.bytes=32:=by simpa using H
  refine(AnyE.slices_Clone Tryz.cloneFile i (.agg #[.string ⟨#[]⟩,.string ⟨#[]⟩]) 2 32 S I J K rfl (by omega) Tryz.sizeOf51 g 0 fs.length A (yw fs) w D.1 (by unfold maxLen;omega) (by omega) ?_ (zwb fs)).mono ?_
  ·intro j u h;rw [Nat.zero_add,cell_of_row _ _ _ _ _ _ E,← Array.getElem?_toList];rw [← W] at h;rw [List.getElem?_take] at h
   split at h
   ·exact h
   ·simp at h
  ·rintro e w' ⟨r,rfl,V,-,R⟩;exact⟨r,rfl,R,V⟩
theorem zw3 {B:Nat}{a w:World}(h:Below B a w)(A:B≤a.heap.size)(os:Array Obj):Below B a (Go.Sort.grow w os) :=
 ⟨h.os,h.tape,h.output,by simp only [Go.Sort.grow,Array.size_append];have:=h.size;omega,fun k r=>by
  rw [← h.block k r];have:=h.size;simp only [Go.Sort.grow];exact Array.getElem?_append_left (by omega)⟩
theorem z3z (fs:Fs)(j:Nat)(h:j < fs.length*2):(yw fs)[j]?=some (flatK z2k 2 fs.toArray)[j]!:=by
 rw [get_flatK _ _ _ _ (by simpa using h)];have h2:j / 2 < fs.length:=by omega
 obtain⟨A,D⟩:=zp8 fs (j / 2) h2;have E:fs.toArray[j / 2]! =fs[j / 2]:=by
  rw [getElem!_pos _ _ (by simpa using h2)];simp
 rw [E];rcases Nat.mod_two_eq_zero_or_one j with hm | hm
 ·rw [hm];have r:j / 2*2=j:=by omega
  rw [r] at A;rw [A];rfl
 ·rw [hm];have r:j / 2*2+1=j:=by omega
  rw [r] at D;rw [D];rfl
theorem z2i (v:Value)(fs:Fs)(w0 w:World)(hn:fs.length≤1000000000)(hw:Below w0.heap.size w0 w)(ho:w.ownsRow w0.heap.size 51 2 v fs.length (yw fs)):
  Calls Tryz.prog 77 #[v,.func (.func 78) #[] #[]] w fun e w'=>e= .returned (.tuple #[])∧∃ I:Fs,I.Perm fs∧Fss w' v I∧Below w0.heap.size w0 w':=by
 rcases ho.2 with ⟨rfl,h0⟩ | ⟨g,H,aa,rfl,hB,r,U,hm,hs,ht⟩
 ·obtain rfl:fs=[]:=List.eq_nil_of_length_eq_zero h0;refine(AnyF.slices_SortFunc_none Tryz.sortFile none 0 _ w).mono ?_;rintro e w' ⟨rfl,rfl⟩;exact⟨rfl,[],List.Perm.refl _,⟨none,0,rfl,Nat.le_refl _,.inl rfl⟩,hw⟩
 ·have eg:∀ args w,(callFunc 78 args).run Tryz.prog w= .ok (.enter 78 args) w:=enters_of Tryz.func78 (by kernel_rfl) rfl;have W:HoldsK z2k 2 w g 0 fs.toArray:=by
   intro j Y;rw [size_flatK] at Y;have S:j < fs.length*2:=by simpa using Y
   rw [Nat.zero_add];refine⟨?_,by simp [World.frozen?,r]⟩;have e:=z3z fs j S;rw [← ht,List.getElem?_take,if_pos (by omega),Array.getElem?_toList] at e;rw [cell_of_row _ _ _ _ _ _ r];exact e
  have R:CmpLays Tryz.prog 78 #[] z2k 2 cfF g 0 fs.toArray.size w:=by
   intro m os dk ac x y;exact z61 x y _
  have A:fs.toArray.size=fs.length:=by simp
  have K:=AnyQ.slices_SortFunc Tryz.sortFile 2 Tryz.isAgg51 Tryz.sizeOf51 z2k (fun _=>rfl) (fun x v hv=>by
   simp only [z2k,List.mem_cons,List.not_mem_nil,or_false] at hv;rcases hv with rfl | rfl<;>rfl) cfF z65 78 #[] g 0 H fs.toArray w eg R W (zb r) (by rw [A];omega)
  rw [A] at K;refine K.mono ?_;rintro e w' ⟨rfl,E,n,os,Z,-,rfl⟩;have X:E.size=fs.length:=by rw [Z.1,A]
  have V:E.toList.Perm fs:=by
   have h:=Z.2.2;rw [Array.extract_eq_self_of_le (by omega),Array.extract_eq_self_of_le (by omega)] at h;simpa using h
  have D:E.toList.length=fs.length:=by simp [X]
  have J:=holdsK_sortWorldK_c z2k 2 w g 0 fs.toArray E n os W (zb r) (by rw [X,A]);refine⟨rfl,E.toList,V,⟨some ⟨g,0,none⟩,H,by rw [D],by rw [D];exact U,.inr ⟨g,0,rfl,fun i hi=>?_⟩⟩,zw3 (below_putRow hw hB) (Nat.le_refl _) _⟩;rw [D] at hi;have L:=(J (i*2) (by rw [size_flatK];omega)).1;have Q:=(J (i*2+1) (by rw [size_flatK];omega)).1;rw [get_flatK _ _ _ _ (by omega)] at L Q;rw [show i*2 / 2=i by omega,show i*2 % 2=0 by omega] at L;rw [show(i*2+1) / 2=i by omega,show(i*2+1) % 2=1 by omega] at Q;rw [getElem!_pos E i (by omega)] at L Q;exact⟨L,Q⟩
theorem z2b (O:Nat→Prop)(b:Nat)(d:Dk)(w:World)(V:d.fs.length≤1000000000)(h:zq w O b d):
  Calls Tryz.prog 40 #[vr b] w fun r w'=>∃ v,∃ A:Fs,r= .returned v∧A.Perm d.fs∧Fss w' v A∧Below w.heap.size w w':=by
 obtain⟨fv,hO,U,Q,hg⟩:=h;obtain⟨Z,f0⟩:=(zep U).1;have X:=za Q;have E:=zec Q;clear U Q hg hO f0;obtain⟨a,D,rfl,-⟩:=E;have ac:∀(S:Fn) (first D:Array Value) (w:World),(Instr.makeFunc S first D).run Tryz.prog w= .ok (.func S first D) w:=fun _ _ _ _=>rfl;unfold vr;go_enter Tryz.func40,Tryz.ntmps40;go_wp2_with fail;refine(zxs _ d.fs w V X.o).mono ?_;rintro r w1 ⟨v',rfl,H,R⟩;have K:=za H;have Y:=za R;have E:=zec R;clear H R Z;obtain⟨a',aa,rfl,-⟩:=E;go_wp2_with fail;refine(z2i _ d.fs w w1 V K.o Y.o).mono ?_;rintro r w2 ⟨rfl,A,W,J,I⟩;have L:=za (And.intro W (And.intro J I));clear W J I;go_wp2_with fail;go_ret;exact⟨_,A,rfl,L.o.1,L.o.2.1,L.o.2.2⟩
theorem zo7:(Tryz.prog.info? 119).map (fun i=>(i.zero,i.size,i.bytes))=some (some (.agg #[.string ⟨#[]⟩,.string ⟨#[]⟩]),2,32):=by kernel_rfl
theorem zir {w:World}{B E:Nat}{e:TypeId}{k:Nat}{v:Value}{n:Nat}{xs:List Value}(h:w.ownsRow B e k v n xs)(J:E≤B):w.ownsRow E e k v n xs:=by
 refine⟨h.1,?_⟩;rcases h.2 with h | ⟨g,A,D,H,I,r⟩
 ·exact .inl h
 ·exact .inr ⟨g,A,D,H,Nat.le_trans J I,r⟩
theorem zbi {w:World}{B:Nat}{t:TypeId}{v:Value}{fs:Fs}(h:w.ownsRow B t 2 v fs.length (yw fs)):Fss w v fs:=by
 obtain⟨a,r,rfl,h0 | ⟨g,rfl,D,A,H,-,I⟩⟩:=zec h
 ·obtain rfl:fs=[]:=List.eq_nil_of_length_eq_zero h0;exact⟨a,r,rfl,Nat.zero_le _,.inl rfl⟩
 ·refine⟨_,r,rfl,H,.inr ⟨g,0,rfl,fun i E=>?_⟩⟩;rw [Nat.zero_add,cell_of_row _ _ _ _ _ _ A,cell_of_row _ _ _ _ _ _ A];exact I i E
theorem zco (O:Nat→Prop)(b wb:Nat)(d:Dk)(w:World)(hn:d.fs.length≤1000000000)(h:zq w O b d)(hc:w.cell? ⟨wb,0,none⟩=some (vr b)):
  Calls Tryz.prog 17 #[.pointer (some ⟨wb,0,none⟩)] w fun r w'=>∃ v,∃ E:Fs,r= .returned v∧E.Perm d.fs∧Fss w' v E∧Below w.heap.size w w'∧w'.ownsRow 0 119 2 v E.length (yw E):=by
 have HD:=za h;unfold vr at hc;clear h;go_enter Tryz.func17,Tryz.ntmps17;go_wp2_with fail;refine(z2b O b d w hn HD.o).mono ?_;rintro r I ⟨v,fs,rfl,hp,hf,S⟩;have HP:=za hp;have HF:=za hf;have K:=za S;have ao:fs.length≤1000000000:=by rw [hp.length_eq];exact hn
 obtain⟨a,am,rfl,ak,-⟩:=hf;clear hp S hc ak;obtain⟨i,hi,X⟩:=Option.map_eq_some_iff.1 zo7;obtain⟨aa,ac,ad⟩:i.zero=some (.agg #[.string ⟨#[]⟩,.string ⟨#[]⟩])∧i.size=2∧i.bytes=32:=by simpa using X
 clear X;have HI:=za hi;have HZ:=za (And.intro aa (And.intro ac ad));clear hi aa ac ad;go_wp2_with fail;go_loopw [3,5] (fun o j wr=>∃ k:Nat,k≤fs.length∧j= .int .i64 k∧Below I.heap.size I wr∧wr.ownsRow I.heap.size 119 2 o k (yw (fs.take k))) (fun _ j _=>fs.length - (intOf j).toNat)
 case atStart=>exact⟨0,Nat.zero_le _,rfl,Below.refl _ _,⟨rfl,.inl ⟨rfl,rfl⟩⟩⟩
 case round =>
  obtain⟨k,hk,rfl,U,A⟩:=hrel;have J:=za U;have HO:=za A;clear U A;by_cases Y:k < fs.length
  ·obtain⟨-,-,Z⟩:=HF.o.at;obtain⟨fb,fo,rfl,hx⟩:=Z (by omega);obtain⟨y0,y1⟩:=hx k Y;have aj:Hid (yw (fs.take (k+1))=yw (fs.take k)++[.string ⟨fs[k].1.toArray⟩,.string ⟨fs[k].2.toArray⟩]):=by
    show _=_;rw [zfm fs k Y,ze9];rfl
   generalize fs[k].1=p at *
   generalize fs[k].2=x at *
   unfold txv at y0 y1;have r0:wr.cell? ⟨fb,fo+k*2,none⟩=some (.string ⟨p.toArray⟩):=by rw [J.o.cell (p:=⟨fb,_,none⟩) (zk y0)];exact y0
   have r1:wr.cell? ⟨fb,fo+k*2+1,none⟩=some (.string ⟨x.toArray⟩):=by rw [J.o.cell (p:=⟨fb,_,none⟩) (zk y1)];exact y1
   have af:=za (fun o=>World.ownsRow.alloc (w:=wr) HO.o o);have Q:Hid (∀ o,I.heap.size≤(wr.alloc o).drew.heap.size):=fun o=>by
    have:=J.o.size;show I.heap.size≤(wr.alloc o).heap.size;simp;omega
   clear y0 y1 hx Z;go_wp2_with fail
   go_region_law (refine step_append_lies _ (by rfl) _ _ _ (by rfl) I.heap.size 119 i (.agg #[.string ⟨#[]⟩,.string ⟨#[]⟩]) 2 32 Tryz.underlying57 HI.o HZ.o.1 HZ.o.2.1 HZ.o.2.2 rfl (by omega) _ k (yw (fs.take k)) (by rfl) (by exact af.o _) ⟨wr.heap.size,0,none⟩ 1 1 [.string ⟨p.toArray⟩,.string ⟨x.toArray⟩] (by rfl) rfl (World.news_of_block (heap_alloc_last _ _)) (by simp [Value.oneCell']) (by omega) (by unfold maxLen;omega) (by omega) (by exact Q.o _) (wr.heap.size+1) (by simp) ?_;intro g an w3 A W R ap;have ai:=za A;have ag:=za W;have al:=za R;clear A W R)
   all_goals
    have V:∀ o,Below I.heap.size I (wr.alloc o).drew:=fun o=>(J.o.trans ((ze wr o).mono J.o.size)).drew;have ae:=za ((V _).grown ag.o (Q.o _) (qf HO.o));clear V;go_wp2_with fail;go_roundw
    case rel=>exact⟨k+1,by omega,by go_num,ae.o,by rw [aj.o];exact ai.o⟩
    case measure=>simp [intOf];omega
  ·obtain rfl:k=fs.length:=by omega
   have H:=HO.o;rw [List.take_length] at H;have L:=za (zbi H);have ah:=za (zir H (Nat.zero_le _));obtain⟨oa,oc,he,-⟩:=id L.o;subst he;clear H;go_wp2_with fail;go_ret;exact⟨_,fs,rfl,HP.o,L.o,K.o.trans (J.o.mono K.o.size),ah.o⟩
theorem zsx (v:Value)(fs:Fs)(sa:Option Addr)(n sc:Nat)(w:World)(Y:∀ f∈fs,f.1.length≤9223372036854775807∧f.2.length≤9223372036854775807)(h:Fss w v fs):
  Calls Tryz.prog 4 #[v,.slice sa n sc] w fun r w'=>Below w.heap.size w w'∧∃ W,r= .returned (.bool W)∧(W=true→fs.length≤4096∧n≤4096∧∀ f∈fs,f.1.length≤1048576∧f.2.length≤1048576):=by
 have HF:=za h;have HL:=za Y;obtain⟨a,aa,rfl,S,-⟩:=h;clear S Y;by_cases h1:4096 < fs.length
 ·have ac:(4096:Int) < (fs.length:Int):=by omega
  go_enter Tryz.func4,Tryz.ntmps4;go_wp2_with fail;go_ret;exact⟨Below.refl _ _,false,rfl,fun h=>by simp at h⟩
 ·by_cases h2:4096 < n
  ·go_enter Tryz.func4,Tryz.ntmps4;go_wp2_with fail;go_ret;exact⟨Below.refl _ _,false,rfl,fun h=>by simp at h⟩
  ·go_enter Tryz.func4,Tryz.ntmps4;go_wp2_with fail;go_loopw [5] (fun i wr=>∃ k:Nat,k≤fs.length∧i= .int .i64 k∧Below w.heap.size w wr∧∀ j (h:j < fs.length),j < k→fs[j].1.length≤1048576∧fs[j].2.length≤1048576) (fun i _=>fs.length - (intOf i).toNat)
   case atStart=>exact⟨0,Nat.zero_le _,rfl,Below.refl _ _,fun j _ h=>by omega⟩
   case round =>
    obtain⟨k,hk,rfl,D,H⟩:=hrel;have A:=za D;have V:=za H;clear D H;by_cases E:k < fs.length
    ·obtain⟨-,-,I⟩:=HF.o.at;obtain⟨fb,X,rfl,Z⟩:=I (by omega);obtain⟨K,L⟩:=Z k E;have ae:=HL.o _ (List.getElem_mem E);have Q:Hid (fs[k].1.length≤1048576→fs[k].2.length≤1048576→∀ j (h:j < fs.length),j < k+1→fs[j].1.length≤1048576∧fs[j].2.length≤1048576):=fun h1 h2 j J ad=>by
      rcases Nat.lt_or_ge j k with h | h
      ·exact V.o j J h
      ·obtain rfl:j=k:=by omega
       exact⟨h1,h2⟩
     generalize fs[k].1=p at *
     generalize fs[k].2=x at *
     unfold txv at K L;have r0:wr.cell? ⟨fb,X+k*2,none⟩=some (.string ⟨p.toArray⟩):=by rw [A.o.cell (p:=⟨fb,_,none⟩) (zk K)];exact K
     have r1:wr.cell? ⟨fb,X+k*2+1,none⟩=some (.string ⟨x.toArray⟩):=by rw [A.o.cell (p:=⟨fb,_,none⟩) (zk L)];exact L
     clear K L Z I;by_cases ag:1048576 < x.length
     ·have hA:decide ((1048576:Int) < (x.length:Int))=true:=by simp;omega
      go_wp2_with fail;go_ret;exact⟨A.o,false,rfl,fun h=>by simp at h⟩
     ·have hA:decide ((1048576:Int) < (x.length:Int))=false:=by simp;omega
      by_cases af:1048576 < p.length
      ·have hB:decide ((1048576:Int) < (p.length:Int))=true:=by simp;omega
       go_wp2_with fail;go_ret;exact⟨A.o,false,rfl,fun h=>by simp at h⟩
      ·have hB:decide ((1048576:Int) < (p.length:Int))=false:=by simp;omega
       have R:=za (Q.o (by omega) (by omega));go_wp2_with fail;go_round
       case rel=>exact⟨k+1,by omega,by go_num,A.o,R.o⟩
       case measure=>simp [intOf];omega
    ·obtain rfl:k=fs.length:=by omega
     go_wp2_with fail;go_ret;refine⟨A.o,true,rfl,fun _=>⟨by omega,by omega,fun f hf=>?_⟩⟩;obtain⟨j,J,rfl⟩:=List.getElem_of_mem hf;exact V.o j J J
structure Wd where
 key:List UInt8
 published:Int
 failed:Bool
 foreign:Bool
def z9v (h:Nat)(A r:Value)(x:Wd):Array Value:=#[vr h,txv x.key,A,r,.int .i64 x.published,.bool x.failed,.bool x.foreign]
def WAt (w:World)(D h:Nat)(A r:Value)(x:Wd):Prop:=w.heap[D]?=some (.cells (z9v h A r x) 39 (0,0))
theorem z2m (v:Value)(fs:Fs)(key:List UInt8)(w:World)(Z:fs.length≤1000000)(h:Fss w v fs):
  Calls Tryz.prog 6 #[v,txv key] w fun r w'=>r= .returned (.pointer (some ⟨w.heap.size,0,none⟩))∧Below w.heap.size w w'∧WAt w' w.heap.size (w.heap.size+1) (.pointer none) (.slice none 0 0) { key:=key,published:=0,failed:=false,foreign:=false }∧zq w' (fun k=>w.heap.size≤k) (w.heap.size+1) { dk0 with fs:=ze6 [] fs }:=by
 have X:=za h;obtain⟨a,Y,rfl,U,-⟩:=h;clear U;unfold txv;go_enter Tryz.func6,Tryz.ntmps6;go_wp2_with fail;have A:Hid (Below w.heap.size w (w.alloc (.cells #[.pointer none,.string ⟨key.toArray⟩,.pointer none,.slice none 0 0,.int .i64 0,.bool false,.bool false] 39))):=ze _ _;have H:Hid ((w.alloc (.cells #[.pointer none,.string ⟨key.toArray⟩,.pointer none,.slice none 0 0,.int .i64 0,.bool false,.bool false] 39)).heap[w.heap.size]?=some (.cells #[.pointer none,.string ⟨key.toArray⟩,.pointer none,.slice none 0 0,.int .i64 0,.bool false,.bool false] 39 (0,0))):=heap_alloc_last _ _;have S:Hid ((w.alloc (.cells #[.pointer none,.string ⟨key.toArray⟩,.pointer none,.slice none 0 0,.int .i64 0,.bool false,.bool false] 39)).heap.size=w.heap.size+1):=by show _=_;simp
 generalize (w.alloc (.cells #[.pointer none,.string ⟨key.toArray⟩,.pointer none,.slice none 0 0,.int .i64 0,.bool false,.bool false] 39))=w0 at *
 refine(z8g _ fs w0 Z (X.o.below A.o)).mono ?_;rintro r L ⟨rfl,D,J⟩;have E:L.heap[w.heap.size]?=some (.cells #[.pointer none,.string ⟨key.toArray⟩,.pointer none,.slice none 0 0,.int .i64 0,.bool false,.bool false] 39 (0,0)):=by rw [D.block _ (zb H.o)];exact H.o
 obtain⟨c0,f0⟩:=zf E 0 _ rfl;have I:=za E;have Q:Hid (Below w.heap.size w L):=A.o.trans (D.mono A.o.size);have R:=za J;clear D E J;unfold vr;go_wp2_with fail;go_ret;have W:=S.o;have t1:zg (fun _=>True) [39] L (L.setCell ⟨w.heap.size,0,none⟩ (.pointer (some ⟨w0.heap.size,0,none⟩))):=(zg.refl _ _ L).set (.inl trivial) I.o (by simp) _;have K:=(R.o.stay t1 (by decide) (by decide)).mono (O':=fun k=>w.heap.size≤k) (fun k hk=>by omega);have V:=qo I.o 0 (.pointer (some ⟨w0.heap.size,0,none⟩));refine⟨rfl,Q.o.setCell (Nat.le_refl _) _,?_,?_⟩
 ·unfold WAt;rw [V,W];rfl
 ·rw [W] at K ⊢;exact K
def zg3 (w:World)(lb g:Nat):Prop:=∃(h:Value) (n:Nat) (xs:List Value),w.cell? ⟨lb,2,none⟩=some h∧w.ownsRow 0 100 1 h n xs∧∀ x∈xs,x.ownBlock≠some g
theorem zp7 {w:World}{B K:Nat}{e:TypeId}{v:Value}{n V:Nat}{xs A:List Value}(h:w.ownsRow B e 1 v n xs)(E:w.ownsRow K e 1 v V A):xs=A:=by
 obtain⟨W,h⟩:=h;obtain⟨X,E⟩:=E;rcases h with ⟨rfl,rfl⟩ | ⟨g,L,Q,rfl,-,S,-,-,-,U⟩
 ·rcases E with ⟨-,rfl⟩ | ⟨R,H,I,D,-⟩
  ·rw [List.eq_nil_of_length_eq_zero (l:=xs) (by omega),List.eq_nil_of_length_eq_zero (l:=A) (by omega)]
  ·simp at D
 ·rcases E with ⟨D,-⟩ | ⟨R,H,I,D,-,r,-,-,-,J⟩
  ·simp at D
  ·simp only [Value.slice.injEq,Option.some.injEq,Addr.mk.injEq,and_true] at D;obtain⟨rfl,rfl,rfl⟩:=D;rw [S] at r;simp only [Option.some.injEq,Obj.cells.injEq,and_true] at r;rw [← U,← J,r]
theorem zg3.fresh {w:World}{O:Nat→Prop}{I lb:Nat}{l:Lg}(h:qz w O I lb l)(g:Nat)(U:w.heap.size≤g):zg3 w lb g:=by
 obtain⟨J,-,K,⟨xs,E,Q⟩,-⟩:=h;refine⟨J,l.es.length,xs,(zf K 2 _ rfl).1,E,fun x hm e=>?_⟩;obtain⟨j,D,rfl⟩:=List.getElem_of_mem hm;have A:j < l.es.length:=by rw [E.1] at D;omega
 obtain⟨y,r,R⟩:=Q j A;rw [List.getElem?_eq_getElem D] at r;simp only [Option.some.injEq] at r;obtain⟨S,H,L,-,V,-⟩:=R.form;rw [r,L] at e;simp only [Value.ownBlock,Option.some.injEq] at e;omega
theorem zg3.below {w w':World}{lb g:Nat}(h:zg3 w lb g)(r:Below w.heap.size w w'):zg3 w' lb g:=by
 obtain⟨D,n,xs,A,E,H⟩:=h;exact⟨D,n,xs,by rw [r.cell (p:=⟨lb,2,none⟩) (zk A)];exact A,zy E r,H⟩
theorem qz.clear {w w':World}{O:Nat→Prop}{X lb g:Nat}{l:Lg}{C:Array Value}{f:Nat×Nat}(h:qz w O X lb l)(hf:zg3 w lb g)(hg:w.heap[g]?=some (.cells C 5 f))(hk:∀ k,k≠g→w'.heap[k]?=w.heap[k]?):qz w' O X lb l:=by
 obtain⟨Y,a,Z,⟨xs,U,hx⟩,S⟩:=h;obtain⟨aa,n2,ac,E,V,W⟩:=hf;rw [(zf Z 2 Y rfl).1] at E;simp only [Option.some.injEq] at E;subst E;obtain rfl:=zp7 U V;have I:∀(k:Nat) (c:Array Value) (t:TypeId) (x:Nat×Nat),w.heap[k]?=some (Obj.cells c t x)→t≠5→w'.heap[k]?=some (Obj.cells c t x):=fun k c t x e ht=>by
  rw [hk k (fun L=>?_)]
  ·exact e
  ·subst L;rw [hg] at e;simp only [Option.some.injEq,Obj.cells.injEq] at e;exact ht e.2.1.symm
 refine⟨Y,a,I _ _ _ _ Z (by decide),⟨xs,⟨U.1,?_⟩,fun j hj=>?_⟩,S⟩
 ·rcases U.2 with h | ⟨K,A,D,J,Q,R,r⟩
  ·exact .inl h
  ·exact .inr ⟨K,A,D,J,Q,I _ _ _ _ R (by decide),r⟩
 ·obtain⟨x,e,H⟩:=hx j hj;refine⟨x,e,⟨H.1.1,?_⟩,H.2⟩;have hm:=W x (List.mem_of_getElem? e);rcases H.1.2 with h | ⟨K,A,D,J,Q,R,r⟩
  ·exact .inl h
  ·refine .inr ⟨K,A,D,J,Q,?_,r⟩;rw [hk K (fun L=>?_)]
   ·exact R
   ·rw [J,L] at hm;exact hm rfl
theorem z3i {w H:World}{lb E n:Nat}{a:Option Addr}{r:Nat}{l:Lg}{xs:List Value}(K:w.ownsRow 0 100 1 (.slice a n r) n xs)(A:w.heap[lb]?=some (.cells (zd8 E (.slice a n r) l) 189 (0,0)))(D:w.grownBy H (Value.slice a n r).ownBlock):H.heap[lb]?=some (.cells (zd8 E (.slice a n r) l) 189 (0,0)):=by
 rw [D.block lb (zb A) (fun e=>?_)]
 ·exact A
 ·rcases K.2 with ⟨h,-⟩ | ⟨g,L,I,h,-,J,-⟩
  ·simp at h;rw [h.1] at e;simp [Value.ownBlock] at e
  ·simp at h;rw [h.1] at e;simp only [Value.ownBlock,Option.some.injEq] at e;subst e;rw [J] at A;simp at A
theorem zvx (O:Nat→Prop)(W:World)(R:Nat→Addr)(ag:ja W R)(db lb:Nat)(l:Lg)(v:Value)(x:List UInt8)(w:World)(hW:Below W.heap.size W w)(he:l.es.length≤1000000)(h:qz w O db lb l)(hx:Bq w v x)(aP:x.length≤9223372036854775807):
  Calls Tryz.prog 105 #[.pointer (some ⟨lb,0,none⟩),v] w fun r w'=>zg O lT w w' ∧
   ((20 < x.length∧r= .returned (.tuple #[.int .i64 0,j4 R 0])∧Below w.heap.size w w')∨(x.length≤20∧l.live=false∧r= .returned (.tuple #[.int .i64 0,j4 R 6])∧Below w.heap.size w w') ∨
    (x.length≤20∧l.live=true∧r= .returned (.tuple #[.int .i64 (l.es.length:Int),.nilIface])∧qz w' (Ext O w w') db lb { l with es:=l.es++[x] }∧∀ g,g < w.heap.size→zg3 w lb g→zg3 w' lb g)):=by
 have HS:=za (j5 ag hW);have L:=za h;have HX:=za hx;obtain⟨g,a6,C,fr,rfl,aL,hg,hc⟩:=hx;have aa:=za (And.intro hg hc);clear ag hW h hg hc;by_cases h20:20 < x.length
 ·have h0:=HS.o.entry;go_enter Tryz.func105,Tryz.ntmps105;go_wp2_with fail;go_region;all_goals go_wp2_with fail
  all_goals go_ret2
  all_goals exact⟨(zg.refl _ _ _).drew,.inl ⟨h20,rfl,(Below.refl _ _).drew⟩⟩
 ·have aJ:¬(20:Int) < (x.length:Int):=by omega
  cases hlv:l.live with
  | false =>
   have h6:=HS.o.failed;go_enter Tryz.func105,Tryz.ntmps105;go_wp2_with fail;refine(zgb O db lb l w L.o).mono ?_;rintro r D ⟨rfl,rfl⟩;rw [hlv];go_wp2_with fail;go_region;all_goals go_wp2_with fail
   all_goals go_ret2
   all_goals exact⟨(zg.refl _ _ _).drew,.inr (.inl ⟨by omega,by first | rfl | trivial,rfl,(Below.refl _ _).drew⟩)⟩
  | true =>
   obtain⟨a,A,hb,al,an,hO⟩:=lok L.o;obtain⟨-,-,⟨c2,f2⟩,-⟩:=zmq hb;go_enter Tryz.func105,Tryz.ntmps105;go_wp2_with fail;refine(zgb O db lb l w L.o).mono ?_;rintro r D ⟨rfl,rfl⟩;rw [hlv];have a3:=za hlv;clear hlv;obtain⟨i,hi,ao⟩:=Option.map_eq_some_iff.1 zox;obtain⟨aw,ax,ay⟩:i.zero=some (.slice none 0 0)∧i.size=1∧i.bytes=24:=by simpa using ao
   clear ao;have HI:=za hi;have HZ:=za (And.intro aw (And.intro ax ay));clear hi aw ax ay;have HB:=za hb;have aG:=za al;have HG:=za an;have a4:=za hO;have aq:=zb hb;obtain⟨xs,ar,av⟩:=al;have ad:=za ar;have a5:=za av;have a1:Hid (∀ j u,(x.map bv)[j]?=some u→D.drew.cell? ((⟨g,0,none⟩:Addr).add j)=some u):=fun j u Y=>by
    have ap:j < x.length:=by simpa using (List.getElem?_eq_some_iff.1 Y).1
    rw [Addr.add_mid,Nat.zero_add];show D.cell? ⟨g,j,none⟩=_;rw [cell_of_row _ _ _ _ _ _ aa.o.1,aa.o.2 j ap];simpa [ap] using Y
   clear hb an hO ar av;go_wp2_with fail
   go_region_law (first
    | (go_simp;go_at_call 149;(refine(zfa ⟨g,0,none⟩ x.length a6 x D.drew rfl (by omega) (by exact a1.o)).mono ?_;rintro r I ⟨y,rfl,X,aj⟩;obtain⟨gy,cy,ny,rfl⟩:=zhg X;have H:Below D.heap.size D I:=(Below.refl _ D).drew.trans aj;have m2:I.cell? ⟨lb,2,none⟩=some (.slice a l.es.length A):=(by rw [H.cell (p:=⟨lb,2,none⟩) aq];exact c2);have aQ:∀ o,(I.alloc o).cell? ⟨lb,2,none⟩=some (.slice a l.es.length A):=(fun o=>by rw [zl _ _ ⟨_,2,none⟩ (zk m2)];exact m2);have ac:=za X;have a0:=za H;have Q:Hid (∀ o,(I.alloc o).ownsRow 0 100 1 (.slice a l.es.length A) l.es.length xs):=(fun o=>zy (zy ad.o H) (ze I o));have a2:Hid (∀ o Z,(I.alloc o).grownBy Z (Value.slice a l.es.length A).ownBlock→Z.heap[lb]?=some (.cells (zd8 db (.slice a l.es.length A) l) 189 (0,0))):=(fun o Z aD=>z3i (Q.o o) (zc (by rw [H.block _ aq];exact HB.o)) aD);clear X aj H))
    | (refine step_append_lies _ (by rfl) _ _ _ (by rfl) 0 100 i (.slice none 0 0) 1 24 Tryz.underlying157 HI.o HZ.o.1 HZ.o.2.1 HZ.o.2.2 rfl (by omega) (.slice a l.es.length A) l.es.length xs (by rfl) (Q.o _) ⟨I.heap.size,0,none⟩ 1 1 [.slice (some ⟨gy,0,none⟩) ny cy] (by rfl) rfl (World.news_of_block (heap_alloc_last _ _)) (by simp [Value.oneCell']) (by omega) (by unfold maxLen;omega) (by omega) (by omega) (I.heap.size+1) (by simp) ?_;intro g3 af Z au V ai aN;have S:=a2.o _ Z V;obtain⟨-,-,⟨k3,z3⟩,-⟩:=zmq S;have ae:=za au;have E:=za V;have az:=za ai;have J:=za S;clear au V ai S))
   all_goals
    have k6:=(zf (qo J.o 2 (.slice (some ⟨g3,0,none⟩) (l.es.length+1) af)) 2 _ rfl).1;go_wp2_with fail;go_ret2;have ak:=a0.o;have ah:zg O lT D (I.alloc (.cells #[.slice (some ⟨gy,0,none⟩) ny cy] 100)):=(zg.of_below ak).alloc _;have a8:zg O [] D (I.alloc (.cells #[.slice (some ⟨gy,0,none⟩) ny cy] 100)):=(zg.of_below ak).alloc _;have aO:D.heap.size≤(I.alloc (.cells #[.slice (some ⟨gy,0,none⟩) ny cy] 100)).heap.size:=ah.size;have am:=zvl (l:=l) (es:=l.es) (b:=[x]) (ys:=[.slice (some ⟨gy,0,none⟩) ny cy]) (hv:=0) (B:=D.drew.heap.size) ah (.inl a4.o) (fun g' aC=> .inl (HG.o g' aC)) (Q.o _)
     (fun j Y=>by
      obtain⟨z,e,K⟩:=a5.o j Y;exact⟨z,e,zi K.1 a8 (by decide),K.2⟩)
     (fun j Y=>by
      obtain rfl:j=0:=by simpa using Y
      exact⟨_,rfl,ac.o.below (ze _ _)⟩)
     (Nat.zero_le _) rfl ae.o ⟨E.o.os,E.o.tape,E.o.output,E.o.size,E.o.block⟩ (by have h:=az.o;simpa using h) J.o
    refine⟨am.1,.inr (.inr ⟨by omega,by first | rfl | trivial,congrArg (fun z=>Ending.returned (.tuple #[.int .i64 z,.nilIface])) (by simp),by have h9:=am.2.1;rw [a3.o] at h9;exact h9,fun gf aM aB=>?_⟩)⟩;obtain⟨aI,n2,aR,U,aE,aF⟩:=aB;rw [(zf HB.o 2 _ rfl).1] at U;simp only [Option.some.injEq] at U;subst U;obtain rfl:=zp7 ad.o aE;refine⟨_,_,_,(zf (qo J.o 2 (.slice (some ⟨g3,0,none⟩) (l.es.length+1) af)) 2 _ rfl).1,zi ae.o ((zg.refl (fun _=>True) [189] Z).set (.inl trivial) J.o (by simp) _) (by decide),fun z K=>?_⟩;rcases List.mem_append.1 K with K | K
    ·exact aF z K
    ·obtain rfl:z=_:=by simpa using K
     obtain⟨a7,aH,aA,a9,-,-⟩:=ac.o.form;simp only [Value.slice.injEq,Option.some.injEq,Addr.mk.injEq,and_true] at aA;have aK:D.heap.size≤a7:=a9;intro e9;simp only [Value.ownBlock,Option.some.injEq] at e9;omega
theorem zk0 {B g:Nat}{a w:World}(J:B≤g)(h:Below B a w)(o:Nat)(r:List Value):Below B a (w.setCells g o r):=by
 obtain⟨D,E,H,I⟩:=zbk g r o w;exact⟨D.trans h.os,E.trans h.tape,H.trans h.output,by rw [I];exact h.size,fun k A=>by rw [vk _ _ _ _ _ (by omega)];exact h.block k A⟩
theorem zx1 {O:Nat→Prop}{T:List Nat}{a w:World}{g:Nat}(h:zg O T a w)(J:a.heap.size≤g)(o:Nat)(r:List Value):zg O T a (w.setCells g o r):=by
 obtain⟨D,E,H,I⟩:=zbk g r o w;exact⟨D.trans h.os,E.trans h.tape,H.trans h.output,by rw [I];exact h.size,fun k A=>by rw [vk _ _ _ _ _ (by omega)];exact h.block k A⟩
def znn (g n:Nat)(w:World):Prop:=∃ C h,w.heap[g]?=some (.cells C 5 h)∧n≤C.size∧n≤h.1
theorem zti (w0:World)(s:List UInt8)(h:Nat):znn w0.heap.size s.length (w0.alloc (.cells (bytesRow ⟨s.toArray⟩ h) 5 ((bytesRow ⟨s.toArray⟩ h).size,(bytesRow ⟨s.toArray⟩ h).size+1))):=⟨_,_,heap_alloc_last _ _,by simp [bytesRow,ByteArray.size],by simp [bytesRow,ByteArray.size]⟩
theorem znn.there {g n:Nat}{w:World}(h:znn g n w):w.there g 0 n:=by
 obtain⟨C,A,h1,h2,r⟩:=h;exact zq2 h1 h2 (.inl r)
theorem znn.turn {g n:Nat}{w w':World}{O:Nat→Prop}{T:List Nat}(h:znn g n w)(E:zg O T w w')(D:5∉T):znn g n w':=by
 obtain⟨C,r,h1,h2,A⟩:=h;exact⟨C,r,E.keep h1 D,h2,A⟩
theorem ztl (O:Nat→Prop)(W:World)(L:Nat→Addr)(al:ja W L)(ak:∀ k,O k→W.heap.size≤k)(db pb lb:Nat)(l:Lg)(s:List UInt8)(w:World)(hW:Below W.heap.size W w)(he:l.es.length≤1000000)(a6:s.length≤9223372036854775807)(hp:zf2 w pb lb)(hL:qz w O db lb l):
  Calls Tryz.prog 56 #[.pointer (some ⟨pb,0,none⟩),.string ⟨s.toArray⟩] w fun r w'=>zg O lT w w' ∧
   ((20 < s.length∧r= .returned (.tuple #[.int .i64 0,told 1])∧Below w.heap.size w w')∨(s.length≤20∧l.live=false∧r= .returned (.tuple #[.int .i64 0,told 7])∧Below w.heap.size w w') ∨
    (s.length≤20∧l.live=true∧r= .returned (.tuple #[.int .i64 (l.es.length:Int),told 0])∧qz w' (Ext O w w') db lb { l with es:=l.es++[s] })):=by
 have a4:pb < w.heap.size:=zb hp;have ax:Hid (w.cell? ⟨pb,0,none⟩=some (.pointer (some ⟨lb,0,none⟩))):=(zf hp 0 _ rfl).1;have HL:=za hL;have HW:=za hW;have HO:=za ak;have HS:=za al;clear hL hW ak al hp;have a3:=run_bytes_of_string (P:=Tryz.prog) (w.alloc (.cells #[.int .i64 0,.string ⟨#[]⟩] 31)) 9 100 5 ⟨s.toArray⟩ Tryz.underlying9 Tryz.underlying100 Tryz.underlying5;have ac:(⟨s.toArray⟩:ByteArray).size≤grownCap (w.alloc (.cells #[.int .i64 0,.string ⟨#[]⟩] 31)) (⟨s.toArray⟩:ByteArray).size 0 5:=grownCap_ge _ _ _ _;have ao:(⟨s.toArray⟩:ByteArray).size=s.length:=by simp [ByteArray.size]
 rw [ao] at ac;have HQ:=za (zlu (w.alloc (.cells #[.int .i64 0,.string ⟨#[]⟩] 31)) s (grownCap (w.alloc (.cells #[.int .i64 0,.string ⟨#[]⟩] 31)) s.length 0 5) ac);clear ao;have a2:∀ U V,((w.alloc U).alloc V).cell? ⟨pb,0,none⟩=some (.pointer (some ⟨lb,0,none⟩)):=fun U V=>by
  rw [zl _ _ ⟨_,0,none⟩ (by simp;omega),zl _ _ ⟨_,0,none⟩ a4];exact ax.o
 have am:∀ U V,Below w.heap.size w ((w.alloc U).alloc V):=fun U V=>(ze w U).trans ((ze _ V).mono (by simp));have ad:=za am;have ag:=za (zti (w.alloc (.cells #[.int .i64 0,.string ⟨#[]⟩] 31)) s (grownCap (w.alloc (.cells #[.int .i64 0,.string ⟨#[]⟩] 31)) s.length 0 5));have ah:Hid (∀ o,zch w.heap.size ((w.alloc (.cells #[.int .i64 0,.string ⟨#[]⟩] 31)).alloc o)):=fun o=>zc (heap_alloc_last _ _);have ai:Hid (∀ U V,((w.alloc U).alloc V).heap.size=w.heap.size+2):=fun U V=>by simp
 have e1:(w.alloc (.cells #[.int .i64 0,.string ⟨#[]⟩] 31)).heap.size=w.heap.size+1:=by simp
 rw [e1] at HQ ag;clear am e1;go_enter Tryz.func56,Tryz.ntmps56;go_wp2_with fail;have ay:=za (ah.o (.cells (bytesRow ⟨s.toArray⟩ (grownCap (w.alloc (.cells #[.int .i64 0,.string ⟨#[]⟩] 31)) s.length 0 5)) 5 ((bytesRow ⟨s.toArray⟩ (grownCap (w.alloc (.cells #[.int .i64 0,.string ⟨#[]⟩] 31)) s.length 0 5)).size,(bytesRow ⟨s.toArray⟩ (grownCap (w.alloc (.cells #[.int .i64 0,.string ⟨#[]⟩] 31)) s.length 0 5)).size+1)));have I:=za (ad.o (.cells #[.int .i64 0,.string ⟨#[]⟩] 31) (.cells (bytesRow ⟨s.toArray⟩ (grownCap (w.alloc (.cells #[.int .i64 0,.string ⟨#[]⟩] 31)) s.length 0 5)) 5 ((bytesRow ⟨s.toArray⟩ (grownCap (w.alloc (.cells #[.int .i64 0,.string ⟨#[]⟩] 31)) s.length 0 5)).size,(bytesRow ⟨s.toArray⟩ (grownCap (w.alloc (.cells #[.int .i64 0,.string ⟨#[]⟩] 31)) s.length 0 5)).size+1)));have a1:=za (ai.o (.cells #[.int .i64 0,.string ⟨#[]⟩] 31) (.cells (bytesRow ⟨s.toArray⟩ (grownCap (w.alloc (.cells #[.int .i64 0,.string ⟨#[]⟩] 31)) s.length 0 5)) 5 ((bytesRow ⟨s.toArray⟩ (grownCap (w.alloc (.cells #[.int .i64 0,.string ⟨#[]⟩] 31)) s.length 0 5)).size,(bytesRow ⟨s.toArray⟩ (grownCap (w.alloc (.cells #[.int .i64 0,.string ⟨#[]⟩] 31)) s.length 0 5)).size+1)));clear ah ad ai a2 a3 ac;generalize ((w.alloc (.cells #[.int .i64 0,.string ⟨#[]⟩] 31)).alloc (.cells (bytesRow ⟨s.toArray⟩ (grownCap (w.alloc (.cells #[.int .i64 0,.string ⟨#[]⟩] 31)) s.length 0 5)) 5 ((bytesRow ⟨s.toArray⟩ (grownCap (w.alloc (.cells #[.int .i64 0,.string ⟨#[]⟩] 31)) s.length 0 5)).size,(bytesRow ⟨s.toArray⟩ (grownCap (w.alloc (.cells #[.int .i64 0,.string ⟨#[]⟩] 31)) s.length 0 5)).size+1)))=X at *
 generalize grownCap (w.alloc (.cells #[.int .i64 0,.string ⟨#[]⟩] 31)) s.length 0 5=cp at *
 have HX:Hid (zg O lT w X):= .of_below I.o;have aw:Hid (qz X O db lb l):=HL.o.stay (O1:=fun _=>False) (T:=[]) (.of_below I.o) (by simp) (by simp) (by simp);have au:Hid (zg3 X lb (w.heap.size+1)):=(zg3.fresh HL.o (w.heap.size+1) (by omega)).below I.o;have aq:Hid (Below W.heap.size W X):=HW.o.trans (I.o.mono HW.o.size);refine(zvx O W L HS.o db lb l _ s X.drew aq.o.drew he (by exact aw.o) (by exact HQ.o) a6).mono ?_;rintro r E ⟨S,a5⟩;have aj:Hid (zg O lT w E):=HX.o.trans ((S.undrew).mono (fun _ h=> .inl h) (fun _ h=>h));have az:Hid (zch w.heap.size E):=ay.o.turn S.undrew (by decide);have af:Hid (znn (w.heap.size+1) s.length E):=ag.o.turn S.undrew (by decide);have ap:Hid (Below W.heap.size W E):=HW.o.trans (aj.o.below HO.o HW.o.size);have ar:Hid (∀ k,Ext O X.drew E k→Ext O w E k):=fun k hk=>by
  rcases hk with h | h
  ·exact .inl h
  ·exact .inr ⟨Nat.le_trans I.o.size h.1,h.2⟩
 clear S;have a7:=fun ty=>zuz (P:=Tryz.prog) E 100 5 ty (.int .u8 0) Tryz.underlying100 zru rfl rfl (w.heap.size+1) s.length cp af.o.there;have K:Hid (zg O lT w (E.setCells (w.heap.size+1) 0 (List.replicate s.length (.int .u8 0)))):=zx1 aj.o (by omega) _ _;have aa:Hid (zch w.heap.size (E.setCells (w.heap.size+1) 0 (List.replicate s.length (.int .u8 0)))):=by
  show zch _ _;unfold zch;rw [vk _ _ _ _ _ (by omega)];exact az.o
 have Z:Hid (Below W.heap.size W (E.setCells (w.heap.size+1) 0 (List.replicate s.length (.int .u8 0)))):=zk0 (Nat.le_trans HW.o.size (by omega)) ap.o _ _;have a0:Hid ((E.setCells (w.heap.size+1) 0 (List.replicate s.length (.int .u8 0))).heap.size=E.heap.size):=(zbk (w.heap.size+1) (List.replicate s.length (.int .u8 0)) 0 E).2.2.2;have ae:Hid (Below X.heap.size X E→Below w.heap.size w (E.setCells (w.heap.size+1) 0 (List.replicate s.length (.int .u8 0)))):=fun h=>zk0 (by omega) (I.o.trans (h.mono I.o.size)) _ _;have av:Hid (∀ l',qz E (Ext O X.drew E) db lb l'→zg3 E lb (w.heap.size+1)→qz (E.setCells (w.heap.size+1) 0 (List.replicate s.length (.int .u8 0))) (Ext O w (E.setCells (w.heap.size+1) 0 (List.replicate s.length (.int .u8 0)))) db lb l'):=fun l' h hf=>by
  obtain⟨C,fr,hg,-,-⟩:=af.o;refine(h.clear hf hg (fun k hk=>vk _ _ _ _ _ hk)).mono (fun k hk=>?_);rcases ar.o k hk with h | h
  ·exact .inl h
  ·exact .inr ⟨h.1,by rw [a0.o];exact h.2⟩
 generalize E.setCells (w.heap.size+1) 0 (List.replicate s.length (.int .u8 0))=Y at *
 rcases a5 with ⟨h20,rfl,J⟩ | ⟨h20,Q,rfl,J⟩ | ⟨h20,Q,rfl,hl,an⟩
 ·have R:=za (And.intro h20 (ae.o ⟨J.os,J.tape,J.output,J.size,J.block⟩));clear h20 J;unfold j4;go_wp2_with fail;refine(z5l L Y (j5 HS.o Z.o)).mono ?_;rintro r w4 ⟨rfl,D⟩;have H:=za D;have A:=za (aa.o.below D);obtain⟨c0,z0⟩:=zf A.o 0 _ rfl;obtain⟨c1,z1⟩:=zf A.o 1 _ rfl;clear D;unfold told;go_wp2_with fail;exact bodyPost_ret (v:= .tuple #[.int .i64 0,.agg #[.int .i64 1,.string ⟨([]:List UInt8).toArray⟩]]) (j3 Tryz.results56 _ _ w.heap.size 31 _ (0,0) _ rfl (zal A.o _ _ rfl) Tryz.underlying31 rfl (by kernel_rfl) _ rfl) rfl ⟨zel (K.o.then_below H.o),.inl ⟨R.o.1,rfl,zgr (R.o.2.trans (H.o.mono K.o.size))⟩⟩
 ·have R:=za (And.intro h20 (And.intro Q (ae.o ⟨J.os,J.tape,J.output,J.size,J.block⟩)));clear h20 J Q;unfold j4;go_wp2_with fail;refine(z47 L Y (j5 HS.o Z.o)).mono ?_;rintro r w4 ⟨rfl,D⟩;have H:=za D;have A:=za (aa.o.below D);obtain⟨c0,z0⟩:=zf A.o 0 _ rfl;obtain⟨c1,z1⟩:=zf A.o 1 _ rfl;clear D;unfold told;go_wp2_with fail;exact bodyPost_ret (v:= .tuple #[.int .i64 0,.agg #[.int .i64 7,.string ⟨([]:List UInt8).toArray⟩]]) (j3 Tryz.results56 _ _ w.heap.size 31 _ (0,0) _ rfl (zal A.o _ _ rfl) Tryz.underlying31 rfl (by kernel_rfl) _ rfl) rfl ⟨zel (K.o.then_below H.o),.inr (.inl ⟨R.o.1,R.o.2.1,rfl,zgr (R.o.2.2.trans (H.o.mono K.o.size))⟩)⟩
 ·have R:=za (And.intro h20 (And.intro Q (av.o _ hl (an _ (by have:=a1.o;show _ < X.heap.size;omega) au.o))));clear h20 Q hl an;go_wp2_with fail;refine(zqr L Y (j5 HS.o Z.o)).mono ?_;rintro r w4 ⟨rfl,D⟩;have H:=za D;have A:=za (aa.o.below D);obtain⟨c0,z0⟩:=zf A.o 0 _ rfl;obtain⟨c1,z1⟩:=zf A.o 1 _ rfl;clear D;unfold told;go_wp2_with fail;exact bodyPost_ret (v:= .tuple #[.int .i64 (l.es.length:Int),.agg #[.int .i64 0,.string ⟨([]:List UInt8).toArray⟩]]) (j3 Tryz.results56 _ _ w.heap.size 31 _ (0,0) _ rfl (zal A.o _ _ rfl) Tryz.underlying31 rfl (by kernel_rfl) _ rfl) rfl ⟨zel (K.o.then_below H.o),.inr (.inr ⟨R.o.1,R.o.2.1,rfl,(R.o.2.2.later H.o).sets2 A.o⟩)⟩
def zne (b:Fs)(f:List UInt8×List UInt8):Bool:=match yp b f.1 with
 | some y=>decide (y=f.2)
 | none=>false
theorem zw8 (b r:Fs)(k:Nat)(h:k < r.length):zcr b (r.take (k+1))=(zcr b (r.take k)&&zne b r[k]):=by
 unfold zcr;rw [zfm r k h,List.all_append];congr 1;rw [List.all_cons,List.all_nil,Bool.and_true];rfl
theorem zxl {b r:Fs}{k:Nat}(h:k < r.length)(A:zne b r[k]=false):zcr b r=false:=by
 unfold zcr;rw [List.all_eq_false];exact⟨r[k],List.getElem_mem h,by rw [← Bool.not_eq_true] at A;exact A⟩
theorem zzh (v1 v2:Value)(b h:Fs)(w:World)(hb:b.length≤1000000000)(hw:h.length≤1000000000)(h1:Fss w v1 b)(h2:Fss w v2 h):
  Calls Tryz.prog 62 #[v1,v2] w fun r w'=>r= .returned (.bool (zcr b h))∧Below w.heap.size w w':=by
 have H1:=za h1;have H2:=za h2;obtain⟨a1,c1,rfl,ad,-⟩:=h1;obtain⟨a2,c2,rfl,ae,-⟩:=h2;clear ad ae;go_enter Tryz.func62,Tryz.ntmps62;go_wp2_with fail;go_loopw [5] (fun i wr=>∃ k:Nat,k≤h.length∧i= .int .i64 k∧Below w.heap.size w wr∧zcr b (h.take k)=true) (fun i _=>h.length - (intOf i).toNat)
 case atStart=>exact⟨0,Nat.zero_le _,rfl,Below.refl _ _,rfl⟩
 case round =>
  obtain⟨k,hk,rfl,R,U⟩:=hrel;have D:=za R;have HN:=za U;clear R U;by_cases J:k < h.length
  ·have Q:=za (zw8 b h k J);have E:Hid (zne b h[k]=false→zcr b h=false):=zxl J;obtain⟨-,-,Z⟩:=H2.o.at;obtain⟨b2,o2,rfl,Y⟩:=Z (by omega);obtain⟨y0,y1⟩:=Y k J;obtain⟨⟨p,x⟩,V⟩:∃ f,h[k]=f:=⟨_,rfl⟩
   rw [V] at y0 y1 Q E;unfold txv at y0 y1;have r0:wr.cell? ⟨b2,o2+k*2,none⟩=some (.string ⟨p.toArray⟩):=by rw [D.o.cell (p:=⟨b2,_,none⟩) (zk y0)];exact y0
   have r1:wr.cell? ⟨b2,o2+k*2+1,none⟩=some (.string ⟨x.toArray⟩):=by rw [D.o.cell (p:=⟨b2,_,none⟩) (zk y1)];exact y1
   clear y0 y1 V Y Z;go_wp2_with fail;refine(vf _ b p wr hb (H1.o.below D.o)).mono ?_;rintro r w1 ⟨rfl,rfl⟩;have K:Hid (zne b (p,x)=match yp b p with | some y=>decide (y=x) | none=>false):=rfl;cases e:ixF b p with
   | none =>
    have S:ixI b p=-1:=by unfold ixI;rw [e]
    rw [S];have HY:Hid (zcr b h=false):=E.o (by rw [K.o,(vd e).1]);clear e S;go_wp2_with fail;go_region;all_goals
     go_wp2_with fail;go_ret;exact⟨by rw [HY.o];rfl,D.o.drew⟩
   | some j =>
    have S:ixI b p=j:=by unfold ixI;rw [e]
    rw [S];obtain⟨hj,-,I,-⟩:=j7 e;obtain⟨-,-,X⟩:=H1.o.at;obtain⟨b1,o1,rfl,W⟩:=X (by omega);obtain⟨-,z1⟩:=W j hj;obtain⟨y,hy⟩:∃ y,b[j].2=y:=⟨_,rfl⟩
    rw [hy] at z1 I;unfold txv at z1;have r2:w1.cell? ⟨b1,o1+j*2+1,none⟩=some (.string ⟨y.toArray⟩):=by rw [D.o.cell (p:=⟨b1,_,none⟩) (zk z1)];exact z1
    have L:Hid (zne b (p,x)=decide (y=x)):=by
     show _=_;rw [K.o,I]
    have af:decide ((j:Int) < 0)=false:=by simp
    clear e S W X z1 hy I;go_wp2_with fail;go_region;all_goals
     by_cases A:y=x
     ·have aa:Hid (zcr b (h.take (k+1))=true):=by
       show _=_;rw [Q.o,HN.o,L.o,A];simp
      rw [show(y==x)=true by simpa using A];clear A r0 r1 r2;go_wp2_with fail;go_round
      case rel=>exact⟨k+1,by omega,by go_num,D.o.drew,aa.o⟩
      case measure=>simp [intOf];omega
     ·have HY:Hid (zcr b h=false):=E.o (by rw [L.o];simpa using A);rw [show(y==x)=false by simpa using A];clear A r0 r1 r2;go_wp2_with fail;go_ret;exact⟨by rw [HY.o];rfl,D.o.drew⟩
  ·obtain rfl:k=h.length:=by omega
   have H:=HN.o;rw [List.take_length] at H;have ac:=za H;clear H;go_wp2_with fail;go_ret;exact⟨by rw [ac.o];rfl,D.o⟩
def zjt (after:Fs)(c:List UInt8)(f:List UInt8×List UInt8):Bool:=match yp after f.1 with
 | some y=>decide (y=f.2)||(decide (f.1=cpF)&&decide (y=c))
 | none=>false
def zhf (b h:Fs)(c:List UInt8)(f:List UInt8×List UInt8):Bool:=match yp b f.1 with
 | some _=>true
 | none=>(match yp h f.1 with | some y=>decide (f.2=y) | none=>false)||(decide (f.1=cpF)&&decide (f.2=c))
theorem zr3 {α:Type}(g:α→Bool)(l:List α)(k:Nat)(h:k < l.length):(l.take (k+1)).all g=((l.take k).all g&&g l[k]):=by
 rw [zfm l k h,List.all_append,List.all_cons,List.all_nil,Bool.and_true]
theorem zsc {α:Type}(g:α→Bool){l:List α}{k:Nat}(h:k < l.length)(r:g l[k]=false):l.all g=false:=by
 rw [List.all_eq_false];exact⟨l[k],List.getElem_mem h,by rw [← Bool.not_eq_true] at r;exact r⟩
theorem z5m (v1 v2 v3:Value)(b D E:Fs)(c:List UInt8)(w:World)(hb:b.length≤1000000000)(ha:D.length≤1000000000)(hw:E.length≤1000000000)(h1:Fss w v1 b)(h2:Fss w v2 D)(h3:Fss w v3 E):
  Calls Tryz.prog 61 #[v1,v2,v3,.string ⟨c.toArray⟩] w fun r w'=>r= .returned (.bool (zic b D E c))∧Below w.heap.size w w':=by
 have H1:=za h1;have H2:=za h2;have H3:=za h3;have av:Hid (b.all (zjt D c)=false→zic b D E c=false):=fun h=>by
  show(b.all (zjt D c)&&_)=false;rw [h,Bool.false_and]
 obtain⟨a1,c1,rfl,ax,-⟩:=h1;obtain⟨a2,c2,rfl,ay,-⟩:=h2;obtain⟨a3,c3,rfl,az,-⟩:=h3;clear ax ay az;go_enter Tryz.func61,Tryz.ntmps61;go_wp2_with fail;go_loopw [9] (fun i wr=>∃ k:Nat,k≤b.length∧i= .int .i64 k∧Below w.heap.size w wr∧(b.take k).all (zjt D c)=true) (fun i _=>b.length - (intOf i).toNat)
 case atStart=>exact⟨0,Nat.zero_le _,rfl,Below.refl _ _,rfl⟩
 case round =>
  obtain⟨k,hk,rfl,ad,ag⟩:=hrel;have I:=za ad;have HN:=za ag;clear ad ag;by_cases X:k < b.length
  ·have V:=za (zr3 (zjt D c) b k X);have L:Hid (zjt D c b[k]=false→zic b D E c=false):=fun h=>av.o (zsc _ X h);obtain⟨-,-,al⟩:=H1.o.at;obtain⟨b2,o2,rfl,ak⟩:=al (by omega);obtain⟨y0,y1⟩:=ak k X;obtain⟨⟨p,x⟩,ah⟩:∃ f,b[k]=f:=⟨_,rfl⟩
   rw [ah] at y0 y1 V L;unfold txv at y0 y1;have r0:wr.cell? ⟨b2,o2+k*2,none⟩=some (.string ⟨p.toArray⟩):=by rw [I.o.cell (p:=⟨b2,_,none⟩) (zk y0)];exact y0
   have r1:wr.cell? ⟨b2,o2+k*2+1,none⟩=some (.string ⟨x.toArray⟩):=by rw [I.o.cell (p:=⟨b2,_,none⟩) (zk y1)];exact y1
   clear y0 y1 ah ak al;go_wp2_with fail;refine(vf _ D p wr ha (H2.o.below I.o)).mono ?_;rintro r w1 ⟨rfl,rfl⟩;have R:Hid (zjt D c (p,x)=match yp D p with | some y=>decide (y=x)||(decide (p=cpF)&&decide (y=c)) | none=>false):=rfl;cases e:ixF D p with
   | none =>
    have he:ixI D p=-1:=by unfold ixI;rw [e]
    rw [he];have Z:Hid (zic b D E c=false):=L.o (by rw [R.o,(vd e).1]);clear e he;go_wp2_with fail;go_region;all_goals
     go_wp2_with fail;go_ret;exact⟨by rw [Z.o];rfl,I.o.drew⟩
   | some j =>
    have he:ixI D p=j:=by unfold ixI;rw [e]
    rw [he];obtain⟨hj,-,Q,-⟩:=j7 e;obtain⟨-,-,aj⟩:=H2.o.at;obtain⟨b1,o1,rfl,ai⟩:=aj (by omega);obtain⟨-,z1⟩:=ai j hj;obtain⟨y,hy⟩:∃ y,D[j].2=y:=⟨_,rfl⟩
    rw [hy] at z1 Q;unfold txv at z1;have r2:w1.cell? ⟨b1,o1+j*2+1,none⟩=some (.string ⟨y.toArray⟩):=by rw [I.o.cell (p:=⟨b1,_,none⟩) (zk z1)];exact z1
    have J:Hid (zjt D c (p,x)=(decide (y=x)||(decide (p=cpF)&&decide (y=c)))):=by
     show _=_;rw [R.o,Q]
    have W:decide ((j:Int) < 0)=false:=by simp
    clear e he ai aj z1 hy Q;have U:Hid ((decide (y=x)||(decide (p=cpF)&&decide (y=c)))=true→(b.take (k+1)).all (zjt D c)=true):=fun h=>by
     rw [V.o,HN.o,J.o,h];rfl
    have ar:Hid ((decide (y=x)||(decide (p=cpF)&&decide (y=c)))=false→zic b D E c=false):=fun h=>L.o (by rw [J.o];exact h);clear R J V L;by_cases S:y=x
    ·have hA:(y==x)=true:=by simpa using S
     have K:=za (U.o (by simp [S]));clear S;go_wp2_with fail;go_region;all_goals
      clear hA r0 r1 r2;go_wp2_with fail;go_round
      case rel=>exact⟨k+1,by omega,by go_num,I.o.drew,K.o⟩
      case measure=>simp [intOf];omega
    ·have hA:(y==x)=false:=by simpa using S
     by_cases A:p=cpF
     ·have Y:(p==[99,104,101,99,107,112,111,105,110,116])=true:=by simpa [cpF] using A
      by_cases ac:y=c
      ·have hC:(y==c)=true:=by simpa using ac
       have K:=za (U.o (by simp [A,ac]));clear S A ac;go_wp2_with fail;go_region;all_goals
        clear hA Y hC r0 r1 r2;go_wp2_with fail;go_round
        case rel=>exact⟨k+1,by omega,by go_num,I.o.drew,K.o⟩
        case measure=>simp [intOf];omega
      ·have hC:(y==c)=false:=by simpa using ac
       have Z:=za (ar.o (by simp [S,ac]));clear S A ac;go_wp2_with fail;go_region;all_goals
        clear hA Y hC r0 r1 r2;go_wp2_with fail;go_ret;exact⟨by rw [Z.o];rfl,I.o.drew⟩
     ·have Y:(p==[99,104,101,99,107,112,111,105,110,116])=false:=by simpa [cpF] using A
      have Z:=za (ar.o (by simp [S,A]));clear S A;go_wp2_with fail;go_region;all_goals
       clear hA Y r0 r1 r2;go_wp2_with fail;go_ret;exact⟨by rw [Z.o];rfl,I.o.drew⟩
  ·obtain rfl:k=b.length:=by omega
   have ao:=HN.o;rw [List.take_length] at ao;have aq:Hid (zic b D E c=D.all (zhf b E c)):=by
    show(b.all (zjt D c)&&D.all (zhf b E c))=_;rw [ao,Bool.true_and]
   have au:=za I.o;clear ao HN I;go_wp2_with fail;go_loopw [11] (fun i wr=>∃ k:Nat,k≤D.length∧i= .int .i64 k∧Below w.heap.size w wr∧(D.take k).all (zhf b E c)=true) (fun i _=>D.length - (intOf i).toNat)
   case atStart=>exact⟨0,Nat.zero_le _,rfl,au.o,rfl⟩
   case round =>
    obtain⟨k,hk,rfl,ad,ag⟩:=hrel;have I:=za ad;have HN:=za ag;clear ad ag;by_cases X:k < D.length
    ·have V:=za (zr3 (zhf b E c) D k X);have L:Hid (zhf b E c D[k]=false→zic b D E c=false):=fun h=>by rw [aq.o];exact zsc _ X h
     obtain⟨-,-,al⟩:=H2.o.at;obtain⟨b2,o2,rfl,ak⟩:=al (by omega);obtain⟨y0,y1⟩:=ak k X;obtain⟨⟨p,x⟩,ah⟩:∃ f,D[k]=f:=⟨_,rfl⟩
     rw [ah] at y0 y1 V L;unfold txv at y0 y1;have r0:wr.cell? ⟨b2,o2+k*2,none⟩=some (.string ⟨p.toArray⟩):=by rw [I.o.cell (p:=⟨b2,_,none⟩) (zk y0)];exact y0
     have r1:wr.cell? ⟨b2,o2+k*2+1,none⟩=some (.string ⟨x.toArray⟩):=by rw [I.o.cell (p:=⟨b2,_,none⟩) (zk y1)];exact y1
     clear y0 y1 ah ak al;have U:Hid (zhf b E c (p,x)=true→(D.take (k+1)).all (zhf b E c)=true):=fun h=>by
      rw [V.o,HN.o,h];rfl
     have R:Hid (zhf b E c (p,x)=match yp b p with | some _=>true | none=>(match yp E p with | some y=>decide (x=y) | none=>false)||(decide (p=cpF)&&decide (x=c))):=rfl;clear V;go_wp2_with fail;refine(vf _ b p wr hb (H1.o.below I.o)).mono ?_;rintro r w1 ⟨rfl,rfl⟩;go_wp2_with fail;refine(vf _ E p w1 hw (H3.o.below I.o)).mono ?_;rintro r w2 ⟨rfl,rfl⟩;cases e:ixF b p with
     | some j =>
      have he:ixI b p=j:=by unfold ixI;rw [e]
      rw [he];obtain⟨hj,-,Q,-⟩:=j7 e;have K:=za (U.o (by rw [R.o,Q]));have W:decide ((j:Int) < 0)=false:=by simp
      generalize ixI E p=jj;clear e he hj Q;go_wp2_with fail;go_region;all_goals
       clear W r0 r1;go_wp2_with fail;go_round
       case rel=>exact⟨k+1,by omega,by go_num,I.o.drew,K.o⟩
       case measure=>simp [intOf];omega
     | none =>
      have he:ixI b p=-1:=by unfold ixI;rw [e]
      rw [he];have am:=(vd e).1;clear e he;cases e2:ixF E p with
      | none =>
       have ae:ixI E p=-1:=by unfold ixI;rw [e2]
       rw [ae];have J:Hid (zhf b E c (p,x)=(decide (p=cpF)&&decide (x=c))):=by
        show _=_;rw [R.o,am,(vd e2).1];rfl
       clear e2 ae am R;by_cases A:p=cpF
       ·have Y:(p==[99,104,101,99,107,112,111,105,110,116])=true:=by simpa [cpF] using A
        by_cases H:x=c
        ·have hC:(x==c)=true:=by simpa using H
         have K:=za (U.o (by rw [J.o];simp [A,H]));clear A H;go_wp2_with fail;go_region;all_goals
          clear Y hC r0 r1;go_wp2_with fail;go_round
          case rel=>exact⟨k+1,by omega,by go_num,I.o.drew,K.o⟩
          case measure=>simp [intOf];omega
        ·have hC:(x==c)=false:=by simpa using H
         have Z:=za (L.o (by rw [J.o];simp [H]));clear A H;go_wp2_with fail;go_region;all_goals
          clear Y hC r0 r1;go_wp2_with fail;go_ret;exact⟨by rw [Z.o];rfl,I.o.drew⟩
       ·have Y:(p==[99,104,101,99,107,112,111,105,110,116])=false:=by simpa [cpF] using A
        have Z:=za (L.o (by rw [J.o];simp [A]));clear A;go_wp2_with fail;go_region;all_goals
         clear Y r0 r1;go_wp2_with fail;go_ret;exact⟨by rw [Z.o];rfl,I.o.drew⟩
      | some j =>
       have ae:ixI E p=j:=by unfold ixI;rw [e2]
       rw [ae];obtain⟨hj,-,Q,-⟩:=j7 e2;obtain⟨-,-,aj⟩:=H3.o.at;obtain⟨b1,o1,rfl,ai⟩:=aj (by omega);obtain⟨-,z1⟩:=ai j hj;obtain⟨y,hy⟩:∃ y,E[j].2=y:=⟨_,rfl⟩
       rw [hy] at z1 Q;unfold txv at z1;have r2:w2.cell? ⟨b1,o1+j*2+1,none⟩=some (.string ⟨y.toArray⟩):=by rw [I.o.cell (p:=⟨b1,_,none⟩) (zk z1)];exact z1
       have J:Hid (zhf b E c (p,x)=(decide (x=y)||(decide (p=cpF)&&decide (x=c)))):=by
        show _=_;rw [R.o,am,Q]
       have W:decide ((j:Int) < 0)=false:=by simp
       clear e2 ae ai aj z1 hy Q am R;by_cases aa:x=y
       ·have hA:(x==y)=true:=by simpa using aa
        have K:=za (U.o (by rw [J.o];simp [aa]));clear aa;go_wp2_with fail;go_region;all_goals
         clear hA W r0 r1 r2;go_wp2_with fail;go_round
         case rel=>exact⟨k+1,by omega,by go_num,I.o.drew,K.o⟩
         case measure=>simp [intOf];omega
       ·have hA:(x==y)=false:=by simpa using aa
        have an:Hid (zhf b E c (p,x)=(decide (p=cpF)&&decide (x=c))):=by
         show _=_;rw [J.o];simp [aa]
        clear aa J;by_cases A:p=cpF
        ·have Y:(p==[99,104,101,99,107,112,111,105,110,116])=true:=by simpa [cpF] using A
         by_cases H:x=c
         ·have hC:(x==c)=true:=by simpa using H
          have K:=za (U.o (by rw [an.o];simp [A,H]));clear A H;go_wp2_with fail;go_region;all_goals
           clear Y hC hA W r0 r1 r2;go_wp2_with fail;go_round
           case rel=>exact⟨k+1,by omega,by go_num,I.o.drew,K.o⟩
           case measure=>simp [intOf];omega
         ·have hC:(x==c)=false:=by simpa using H
          have Z:=za (L.o (by rw [an.o];simp [H]));clear A H;go_wp2_with fail;go_region;all_goals
           clear Y hC hA W r0 r1 r2;go_wp2_with fail;go_ret;exact⟨by rw [Z.o];rfl,I.o.drew⟩
        ·have Y:(p==[99,104,101,99,107,112,111,105,110,116])=false:=by simpa [cpF] using A
         have Z:=za (L.o (by rw [an.o];simp [A]));clear A;go_wp2_with fail;go_region;all_goals
          clear Y hA W r0 r1 r2;go_wp2_with fail;go_ret;exact⟨by rw [Z.o];rfl,I.o.drew⟩
    ·obtain rfl:k=D.length:=by omega
     have ap:=HN.o;rw [List.take_length] at ap;have aw:Hid (zic b D E c=true):=by
      show _=_;rw [aq.o,ap]
     clear ap;go_wp2_with fail;go_ret;exact⟨by rw [aw.o];rfl,I.o⟩
theorem z6x (c:Int)(n:Nat)(w:World)(h1:-9223372036854775808≤c)(h2:c≤9223372036854775807)(A:0 < n)(E:n≤1000000):
  Calls Tryz.prog 25 #[.int .i64 c,.int .i64 n] w fun r w'=>(∃ m:Nat,m < n∧r= .returned (.int .i64 m))∧w'=w:=by
 by_cases H:c < 0
 ·obtain⟨d,h⟩:=Int.eq_ofNat_of_zero_le (show 0≤-(c+1) by omega);have D:=za h;clear h;have hm:d % n < n:=Nat.mod_lt _ A;go_enter Tryz.func25,Tryz.ntmps25;go_wp2_with fail;go_ret;refine⟨⟨d % n,hm,congrArg (fun z=>Ending.returned (.int .i64 z)) ?_⟩,rfl⟩;show -((c+1).tmod (n:Int))=((d % n:Nat):Int)
  rw [← Int.neg_tmod,D.o];rfl
 ·obtain⟨d,rfl⟩:=Int.eq_ofNat_of_zero_le (show 0≤c by omega);have hm:d % n < n:=Nat.mod_lt _ A;go_enter Tryz.func25,Tryz.ntmps25;go_wp2_with fail;go_ret;exact⟨⟨d % n,hm,congrArg (fun z=>Ending.returned (.int .i64 z)) (by simp)⟩,rfl⟩
theorem zdc {w:World}{B:Nat}{v:Value}{r:List (List UInt8)}(h:w.ownsRow B 9 1 v r.length (r.map txv)):Tss w v r:=by
 rcases h.2 with ⟨rfl,h0⟩ | ⟨g,A,E,rfl,-,H,D,-,J,K⟩
 ·exact⟨none,0,by rw [h0],by omega,.inl (List.eq_nil_of_length_eq_zero h0)⟩
 ·refine⟨_,A,rfl,D,.inr ⟨g,0,rfl,fun i I=>?_⟩⟩;rw [Nat.zero_add,cell_of_row _ _ _ _ _ _ H];have e:(r.map txv)[i]?=some (txv r[i]):=by simp [I]
  rw [← K,List.getElem?_take,if_pos (by omega)] at e;simpa using e
theorem xu {w:World}{B:Nat}{e:TypeId}{s:Nat}{v:Value}{n:Nat}{xs:List Value}(h:w.ownsRow B e s v n xs):∃ a r,v= .slice a n r:=by
 rcases h.2 with ⟨rfl,rfl⟩ | ⟨g,r,A,rfl,-⟩
 ·exact⟨_,_,rfl⟩
 ·exact⟨_,_,rfl⟩
theorem zc7 (v:Value)(A:List (List UInt8))(w:World)(H:A.length≤1000000)(E:∀ l∈A,l.length≤20)(h:Tss w v A):
  Calls Tryz.prog 35 #[v] w fun r w'=>r= .returned (.string ⟨(ye A).toArray⟩)∧Below w.heap.size w w':=by
 have:=zbw A.length v (A.map tb) w (by simp) (by simpa using H) (fun s I=>by
  obtain⟨l,D,rfl⟩:=List.mem_map.1 I;have:=E l D;show l.toArray.size < _;unfold maxLen;simp;omega) h.to
 rw [zwq] at this;exact this
theorem z05 (h:List (List UInt8)):(ye h).length=8:=qk _ _
theorem zzw (w:World){R:Array Oper}{rest:List Oper}{o:Oper}{a:Act}{Q:Exit→Act→World→Prop}
  (H:o.guard=none) (s x:Operand) (J:o.op=Op.call { callee:=Callee.builtin Builtin.append,args:=#[s,x],argTypes:=#[29,29] })
  (B:Nat) (hB:B≤w.heap.size) (v:Value) (D:List (List UInt8)) (hs:a.eval s=v) (A:w.ownsRow B 9 1 v D.length (D.map txv))
  (y:Value) (r:List (List UInt8)) (hx:a.eval x=y) (hy:Tss w y r) (hn:D.length+r.length≤1000000000)
  (h:∀ V w',w'.ownsRow B 9 1 V (D++r).length ((D++r).map txv)→w.grownBy w' v.ownBlock→wpList Tryz.prog R Q rest (a.put o.dst V) w'):wpList Tryz.prog R Q (o::rest) a w:=by
 obtain⟨i,Y,Z⟩:=Option.map_eq_some_iff.1 zf6;obtain⟨ae,af,ag⟩:i.zero=some (.string ⟨#[]⟩)∧i.size=1∧i.bytes=16:=by simpa using Z
 obtain⟨S,E,rfl,aj,U⟩:=hy;cases S with
 | none =>
  have h0:r=[]:=by
   rcases U with h | ⟨b,L,e,-⟩
   ·exact h
   ·simp at e
  subst h0;have ac:(Builtin.append_ #[29,29] o.type #[v,.slice none 0 E]).run Tryz.prog w= .ok v w:=by
   rcases A.2 with ⟨rfl,h0⟩ | ⟨g,ah,ai,rfl,-,hg,W,-,ak,ht⟩
   ·simp [Builtin.append_,run_underlying Tryz.underlying29,sizeOf,typeInfo,Y,Builtin.lenOf,Builtin.firstCells]
   ·simp [Builtin.append_,run_underlying Tryz.underlying29,sizeOf,typeInfo,Y,Builtin.lenOf,Builtin.firstCells,storeCells,W]
  refine wpList_plain H fun K hK=>?_;unfold Oper.wp;simp only [List.length_nil] at hx;simp [execOp,J,resolve,invoke,builtin,hs,hx,ac,Result.andThen];exact hK _ _ (h v w (by simpa using A) ⟨rfl,rfl,rfl,Nat.le_refl _,fun _ _ _=>rfl⟩)
 | some S =>
  refine wpList_append_own _ H s x 29 J B 9 i (.string ⟨#[]⟩) 1 16 Tryz.underlying29 Y ae af ag rfl (by omega) v D.length (D.map txv) hs A S r.length E (r.map txv) hx (by simp) ?_ ?_ (by unfold maxLen;omega) (by omega) hB ?_
  ·intro j u hj;rcases U with h | ⟨b,L,e,U⟩
   ·subst h;simp at hj
   ·have I:j < r.length:=by simpa using (List.getElem?_eq_some_iff.1 hj).1
    obtain rfl:S=⟨b,L,none⟩:=by simpa using e
    rw [Addr.add_mid,U j I];simpa [I] using hj
  ·intro u hu;obtain⟨t,_,rfl⟩:=List.mem_map.1 hu;rfl
  ·intro V w' aa X _;refine h V w' ?_ X;rw [List.length_append,List.map_append];exact aa
abbrev aT:List Nat:=[64,51,189,100,39,9]
structure Num (n:Nat)(x:Wd)(d:Dk)(s:List Nat):Prop where
 apart:za1 d.fs
 data:∀ f∈d.fs,f.2.length≤1048576
 count:d.fs.length≤4096+n*180400
 among:zy5 (yp d.fs) s
 small:s.length≤4096+n
 key:x.key.length≤1048577
 turned:d.turned=false
structure Ent (x:Wd)(d:Dk)(s:List Nat)(es:List (List UInt8))(put:Nat):Prop where
 short:∀ e∈es,e.length≤20
 ins:∀ j,4*j < es.length→j∈s
 le:put≤es.length
 there:x.failed=false→zia d∧∀ f∈xd (es.take put),yp d.fs f.1=some f.2
def Pub (w:World)(O:Nat→Prop)(D:Nat)(A r:Value)(x:Wd)(d:Dk)(s:List Nat):Prop :=
 A= .pointer none∨∃ h lb es put,A= .pointer (some ⟨h,0,none⟩)∧O h∧zf2 w h lb∧qz w O D lb { key:=x.key,es:=es,put:=put,live:=!x.failed }∧w.ownsRow 0 9 1 r es.length (es.map txv)∧(∀ g,r.ownBlock=some g→O g)∧Ent x d s es put
def yad (w:World)(O:Nat→Prop)(D h:Nat)(A r:Value)(x:Wd)(d:Dk)(s:List Nat)(n:Nat):Prop :=
 x.foreign=false∧WAt w D h A r x∧zq w O h d∧Num n x d s∧Pub w O h A r x d s
theorem zhu {x:Wd}{d:Dk}{s:List Nat}{es:List (List UInt8)}{put:Nat}(h:Ent x d s es put):es.length≤4*s.length:=by
 have:=zq9 ((es.length+3) / 4) s (fun j r=>h.ins j (by omega));omega
theorem zh2 {w w':World}{O:Nat→Prop}{T:List Nat}{r lb:Nat}(h:zf2 w r lb)(D:zg O T w w')(A:131∉T):zf2 w' r lb:=D.keep h A
theorem Num.more {n m:Nat}{x:Wd}{d:Dk}{s:List Nat}(h:Num n x d s)(hm:n≤m):Num m x d s :=
 ⟨h.apart,h.data,Nat.le_trans h.count (Nat.add_le_add_left (Nat.mul_le_mul_right _ hm) _),h.among,Nat.le_trans h.small (Nat.add_le_add_left hm _),h.key,h.turned⟩
theorem zgp {w:World}{r A:Nat}{E D:Value}{x:Wd}(h:WAt w r A E D x):(w.cell? ⟨r,0,none⟩=some (vr A)∧w.frozen? ⟨r,0,none⟩=false)∧(w.cell? ⟨r,1,none⟩=some (txv x.key)∧w.frozen? ⟨r,1,none⟩=false)∧(w.cell? ⟨r,2,none⟩=some E∧w.frozen? ⟨r,2,none⟩=false)∧(w.cell? ⟨r,3,none⟩=some D∧w.frozen? ⟨r,3,none⟩=false)∧(w.cell? ⟨r,4,none⟩=some (.int .i64 x.published)∧w.frozen? ⟨r,4,none⟩=false)∧(w.cell? ⟨r,5,none⟩=some (.bool x.failed)∧w.frozen? ⟨r,5,none⟩=false)∧(w.cell? ⟨r,6,none⟩=some (.bool x.foreign)∧w.frozen? ⟨r,6,none⟩=false) :=
 ⟨zf h 0 _ rfl,zf h 1 _ rfl,zf h 2 _ rfl,zf h 3 _ rfl,zf h 4 _ rfl,zf h 5 _ rfl,zf h 6 _ rfl⟩
theorem zxi {w:World}{r A:Nat}{E D:Value}{x:Wd}(h:WAt w r A E D x):
  (∀ u,WAt (w.setCell ⟨r,2,none⟩ u) r A u D x)∧(∀ u,WAt (w.setCell ⟨r,3,none⟩ u) r A E u x)∧(∀ n:Int,WAt (w.setCell ⟨r,4,none⟩ (.int .i64 n)) r A E D { x with published:=n })∧(∀ b:Bool,WAt (w.setCell ⟨r,5,none⟩ (.bool b)) r A E D { x with failed:=b })∧(∀ b:Bool,WAt (w.setCell ⟨r,6,none⟩ (.bool b)) r A E D { x with foreign:=b }) :=
 ⟨fun u=>qo h 2 u,fun u=>qo h 3 u,fun _=>qo h 4 _,fun _=>qo h 5 _,fun _=>qo h 6 _⟩
theorem z2u {w:World}{O:Nat→Prop}{A r:Nat}{I D:Value}{x:Wd}{d:Dk}(h:WAt w A r I D x)(H:zq w O r d):¬ r=A:=by
 rintro rfl;obtain⟨J,-,E,-⟩:=H;unfold WAt at h;rw [E] at h;simp at h
theorem zs4 {n:Nat}{x x':Wd}{d A:Dk}{s:List Nat}(h:Num n x d s)(D:x'.key=x.key)(r:A.fs=d.fs)(E:A.turned=d.turned):Num n x' A s :=
 ⟨by rw [r];exact h.apart,by rw [r];exact h.data,by rw [r];exact h.count,by rw [r];exact h.among,h.small,by rw [D];exact h.key,by rw [E];exact h.turned⟩
def zdf (l:Int)(data:List (List UInt8))(k:Nat):Fs:=(List.range k).map fun(j:Nat)=>(qi l j (wid data.length j),((data.drop (4*j)).take (wid data.length j)).flatten)
def zub (l:Int)(data:List (List UInt8)):Fs:=zdf l data ((data.length+3) / 4)
theorem zv5 (l:Int)(data:List (List UInt8))(k:Nat):zdf l data (k+1)=zdf l data k++[(qi l k (wid data.length k),((data.drop (4*k)).take (wid data.length k)).flatten)]:=by
 unfold zdf;rw [List.range_succ,List.map_append];rfl
theorem z00 (l:Int)(data:List (List UInt8))(k:Nat):(zdf l data k).length=k:=by simp [zdf]
theorem zo2 (es:List (List UInt8))(l:Int)(c:Nat):zub l ((List.range c).map (xo es l))=zhb es l 0 c:=by
 unfold zub zdf zhb;rw [List.length_map,List.length_range,Nat.sub_zero,← List.range_eq_range'];refine List.map_congr_left fun j h=>?_;unfold zbg zcj;rw [← List.map_drop,← List.map_take];have:((List.range c).drop (4*j)).take (wid c j)=List.range' (4*j) (wid c j):=by
  apply List.ext_getElem
  ·simp [wid]
  ·intro i h1 h2;simp
 rw [this]
theorem znz (data:List (List UInt8))(a j:Nat)(h:a+j < data.length):((data.drop a).take (j+1)).flatten=((data.drop a).take j).flatten++data[a+j]:=by
 rw [List.take_succ_eq_append_getElem (by simp;omega),List.flatten_append,List.getElem_drop];simp
theorem zx3 (data:List (List UInt8))(a j:Nat)(H:j≤4)(h:∀ d∈data,d.length≤21):((data.drop a).take j).flatten.length≤84:=by
 have:∀ A:List (List UInt8),(∀ d∈A,d.length≤21)→A.flatten.length≤A.length*21:=by
  intro A
  induction A with
  | nil=>simp
  | cons x r ih =>
   intro E;have h1:=E x (by simp);have h2:=ih (fun d D=>E d (by simp [D]));rw [List.flatten_cons,List.length_append,List.length_cons,Nat.add_mul];omega
 have h1:=this ((data.drop a).take j) (fun d D=>h d (List.mem_of_mem_drop (List.mem_of_mem_take D)));have h2:((data.drop a).take j).length≤4:=by rw [List.length_take];omega
 omega
end Go.Proofs.YtndkblnpbjffhaaGreatDoor
