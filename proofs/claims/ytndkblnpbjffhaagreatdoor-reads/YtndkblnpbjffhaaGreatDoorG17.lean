import Derived.Test.YtndkblnpbjffhaaGreatDoorG16
set_option maxHeartbeats 4000000
set_option maxRecDepth 100000
open Go.RowKit
namespace Go.Proofs.YtndkblnpbjffhaaGreatDoor
section
attribute [local go_sem ↓] yv yl yy yo yj ym yx yk
theorem zvn (A B H E r:List Value)(h:r.length=H.length):(A++(B++(H++E))).take (A.length+B.length)++(r++(A++(B++(H++E))).drop (A.length+B.length+r.length))=A++(B++(r++E)):=by
 have D:A++(B++(H++E))=(A++B)++(H++E):=by simp
 have I:A++(B++(H++E))=(A++B++H)++E:=by simp
 have t:(A++(B++(H++E))).take (A.length+B.length)=A++B:=by
  rw [D,show A.length+B.length=(A++B).length by simp,List.take_left]
 have d:(A++(B++(H++E))).drop (A.length+B.length+r.length)=E:=by
  rw [I,h,show A.length+B.length+H.length=(A++B++H).length by simp;omega,List.drop_left]
 rw [t,d];simp
theorem zn.setH {w:World}{fb:Nat}{xs:List Px}(h:zn w fb xs)(D:∀ x∈xs,x.ok){k:Nat}(E:k < xs.length){A:List UInt8}(I:A.length=8):zn (w.setCells fb (k*11+2) (A.map bv)) fb (xs.set k { xs[k] with hash:=A }):=by
 have Q:=zh6 D;have r:=D _ (List.getElem_mem E);have K:({ xs[k] with hash:=A }:Px).ok:=⟨I,r.2⟩
 have H:fcs xs=(fcs xs).take (k*11)++(xs[k].cs++(fcs xs).drop (k*11+11)):=by
  have:=zjd D k E xs[k] r;rw [List.set_getElem_self] at this;exact this
 have L:((fcs xs).take (k*11)).length=k*11:=by simp;omega
 unfold zn;rw [zas (A.map bv) (k*11+2) h (by simp;omega),zjd D k E _ K];have key:=zvn ((fcs xs).take (k*11)) [.bool xs[k].there,.bool xs[k].fits] (xs[k].hash.map bv) (xs[k].ent::(fcs xs).drop (k*11+11)) (A.map bv) (by simp [I,r.1]);have e:(fcs xs).take (k*11)++([.bool xs[k].there,.bool xs[k].fits]++(xs[k].hash.map bv++(xs[k].ent::(fcs xs).drop (k*11+11))))=fcs xs:=by
  conv=>rhs;rw [H]
  simp [Px.cs]
 rw [e,L] at key;have J:(k*11+[Value.bool xs[k].there,Value.bool xs[k].fits].length)=k*11+2:=rfl;rw [J] at key;rw [key];simp [Px.cs]
def zdv:Value:= .slice none 0 0
def zfp (k:Nat)(d:List UInt8):List Px:=(List.range 4).map fun j=>if j < k then ⟨true,false,(d.drop (8*j)).take 8,zdv⟩ else .no
theorem z0u (d:List UInt8){k:Nat}(h:k < 4):zfp (k+1) d=(zfp k d).set k ⟨true,false,(d.drop (8*k)).take 8,zdv⟩:=by
 match k,h with
 | 0,_=>rfl
 | 1,_=>rfl
 | 2,_=>rfl
 | 3,_=>rfl
theorem z7x (d:List UInt8){k:Nat}(r:k < 4):∃ h:k < (zfp k d).length,(zfp k d)[k]=Px.no:=by
 match k,r with
 | 0,_=>exact⟨by simp [zfp],rfl⟩
 | 1,_=>exact⟨by simp [zfp],rfl⟩
 | 2,_=>exact⟨by simp [zfp],rfl⟩
 | 3,_=>exact⟨by simp [zfp],rfl⟩
theorem zre (d:List UInt8){k:Nat}(r:8*k≤d.length):FOk (zfp k d):=by
 refine⟨by simp [zfp],fun x h=>?_⟩;obtain⟨j,-,rfl⟩:=List.mem_map.1 h;show Px.ok (if j < k then _ else _)
 split
 ·exact⟨by simp;omega,_,_,_,rfl⟩
 ·exact Px.no_ok
theorem z9j:(Tryz.prog.info? 5).map (·.size)=some 1:=by kernel_rfl
theorem zqe (n:Nat)(hn:n≤4)(aq:0 < n)(v:Value)(d:List UInt8)(hd:d.length=8*n)(w:World)(h:Bq w v d):
  Calls Tryz.prog 240 #[.int .i64 n,v] w fun r w'=>r= .returned (.tuple #[.agg (fcs (zfp n d)).toArray,.bool true])∧Below w.heap.size w w':=by
 obtain⟨g,ah,C,fr,rfl,Z,hg,hC⟩:=h;have HG:=za hg;have HC:=za hC;have aj:g < w.heap.size:=zb hg;have HD:=za hd;have ac:((d.length:Int)==(n:Int)*8)=true:=by simp;omega
 clear hg hC;rw [hd] at Z ac;rw [hd];have ap:((8*(n:Int)) != (n:Int)*8)=false:=by simp;omega
 clear hd ac;go_enter Tryz.func240,Tryz.ntmps240;go_wp2_with fail;have H0:Hid (Below w.heap.size w (w.alloc (.cells qt zt))∧zn (w.alloc (.cells qt zt)) w.heap.size Fx.no):=⟨ze _ _,heap_alloc_last _ _⟩
 generalize w.alloc (.cells qt zt)=W0 at *
 go_loopw [1,14] (fun dv i wr=>∃ k L R A:Nat,k≤n∧i= .int .i64 k∧L=8*(n - k)∧L≤R∧(k < n→A=8*k)∧dv= .slice (some ⟨g,A,none⟩) L R∧Below w.heap.size w wr∧zn wr w.heap.size (zfp k d)) (fun _ i _=>n - (intOf i).toNat)
 case atStart=>exact⟨0,8*n,ah,0,by omega,rfl,by omega,Z,fun _=>rfl,rfl,H0.o.1,H0.o.2⟩
 case round =>
  obtain⟨k,L,R,A,hk,rfl,hL,am,I,rfl,ht,Q⟩:=hrel;by_cases al:k < n
  ·replace I:=I al
   have aa:k < 4:=by omega
   have hz:=zre d (k:=k) (by rw [HD.o];omega);obtain⟨H,K⟩:=z7x d aa;have ai:8≤L:=by omega
   have i0:(0:Int)≤(k:Int):=by omega
   have i1:(k:Int) < 4:=by omega
   have c0:wr.cell? ⟨w.heap.size,k*11,none⟩=some (.bool false):=(Q.cell hz.2 H (j:=0) (by omega) (by rw [K];rfl)).1;have f0:wr.frozen? ⟨w.heap.size,k*11,none⟩=false:=(Q.cell hz.2 H (j:=0) (by omega) (by rw [K];rfl)).2;have E:((d.drop (8*k)).take 8).length=8:=by simp;rw [HD.o];omega
   have U:zn (wr.setCell ⟨w.heap.size,k*11,none⟩ (.bool true)) w.heap.size ((zfp k d).set k { Px.no with there:=true }):=Q.set1 hz.2 H (j:=0) (v:= .bool true) (by omega) Px.no_ok (by rw [K];rfl);have X:=zj1 hz.2 k (x:={ Px.no with there:=true }) Px.no_ok;have W:k < ((zfp k d).set k { Px.no with there:=true }).length:=by simpa using H
   have V:=U.setH X W E;rw [List.getElem_set_self,List.set_set] at V;have S:Below w.heap.size w (wr.setCell ⟨w.heap.size,k*11,none⟩ (.bool true)):=ht.setCell (Nat.le_refl _) _;have an:(Builtin.copy_ #[100,100] 3 #[.slice (some ⟨w.heap.size,k*11+2,none⟩) 8 8,.slice (some ⟨g,A,none⟩) L R]).run Tryz.prog (wr.setCell ⟨w.heap.size,k*11,none⟩ (.bool true))= .ok (.int .i64 8) ((wr.setCell ⟨w.heap.size,k*11,none⟩ (.bool true)).setCells w.heap.size (k*11+2) (((d.drop (8*k)).take 8).map bv)):=by
    have ad:=U.there X W (o:=2) (n:=8) (by omega);have:=run_copy_cells (P:=Tryz.prog) (wr.setCell ⟨w.heap.size,k*11,none⟩ (.bool true)) 100 100 3 5 w.heap.size (k*11+2) 8 8 ⟨g,A,none⟩ L R (((d.drop (8*k)).take 8).map bv) Tryz.underlying100 z9j
     (by rw [List.length_map,E];exact(Nat.min_eq_right ai).symm) (fun j u hu=>by
      obtain⟨hj,rfl⟩:=List.getElem?_eq_some_iff.1 hu;rw [List.length_map,E] at hj;have ak:=(S.block g aj).trans HG.o;have hi:A+j < d.length:=by rw [HD.o];omega
      have:=HC.o (A+j) hi;rw [show(⟨g,A,none⟩:Addr).add j=⟨g,A+j,none⟩ by simp [Addr.add],cell_of_row _ _ _ _ _ _ ak,this];simp [I]) (fun j hj=>(ad j (by rwa [List.length_map,E] at hj)).1) (fun j hj=>(ad j (by rwa [List.length_map,E] at hj)).2) (fun x hx=>by
       obtain⟨b,-,rfl⟩:=List.mem_map.1 hx;rfl)
    rw [List.length_map,E] at this;exact this
   have ae:=za (zr S (Nat.le_refl _) (((d.drop (8*k)).take 8).map bv) (k*11+2));have af:Hid (zn ((wr.setCell ⟨w.heap.size,k*11,none⟩ (.bool true)).setCells w.heap.size (k*11+2) (((d.drop (8*k)).take 8).map bv)) w.heap.size (zfp (k+1) d)):=by
    show zn _ _ _;rw [z0u d aa];exact V
   have ag:=za I;have Y:=za hL;clear V U X W S K H hz Q ht E I hL;generalize ((d.drop (8*k)).take 8).map bv=cs at *
   go_wp2_with fail;go_roundw
   case rel=>exact⟨k+1,L - 8,R - 8,if R=8 then A else A+8,by omega,by go_num,by rw [Y.o];omega,by omega,fun h=>by have:=Y.o;have:=ag.o;rw [if_neg (by omega)];omega,by split<;>rfl,ae.o,af.o⟩
   case measure=>simp [intOf];omega
  ·obtain rfl:k=n:=by omega
   have D:=zre d (k:=k) (by rw [HD.o];omega);have ao:=zad (y9 Q) D.len;have ar:=qj (xj Q D) D.len (jp D.2);have HW:=za (qb Q D D);have HB:=za (zr ht (Nat.le_refl w.heap.size) (fcs (zfp k d)) 0);have HL:=za D.len;clear D ht Q;go_wp2_with fail;exact bodyPost_ret (v:= .tuple #[.agg (fcs (zfp k d)).toArray,.bool true]) (zv Tryz.results240 _ _ w.heap.size zt _ (0,0) _ rfl HW.o Tryz.underlying104 rfl (by rw [jt,List.size_toArray,HL.o]) _ rfl) rfl ⟨rfl,HB.o⟩
end
section
attribute [local go_sem ↓] yv yl yy yo yj ym yx yk
theorem OB.kept {w w':World}{B:Nat}{x:Value}{l:List UInt8}(h:OB w B x l)(I:∀ k,B≤k→k < w.heap.size→w'.heap[k]?=w.heap[k]?):OB w' B x l:=by
 refine⟨⟨h.1.1,?_⟩,h.2⟩;rcases h.1.2 with h0 | ⟨g,A,D,rfl,E,H,r⟩
 ·exact .inl h0
 ·exact .inr ⟨g,A,D,rfl,E,by rw [I g E (xk H)];exact H,r⟩
theorem OB.bs {w:World}{B:Nat}{x:Value}{l:List UInt8}(h:OB w B x l):Bs w x l:=by
 obtain⟨g,r,rfl,-,-,A⟩:=h.form;exact⟨_,_,rfl,.inr ⟨g,0,rfl,fun j D=>by rw [Nat.zero_add];exact A j D⟩⟩
theorem OB.one {w:World}{B:Nat}{x:Value}{l:List UInt8}(h:OB w B x l):x.oneCell'=true:=by
 obtain⟨g,r,rfl,-⟩:=h.form;rfl
theorem OBs.cells {w:World}{B:Nat}{v:Value}{A:List (List UInt8)}(h:OBs w B v A)(D:A≠[]):
  ∃(b r:Nat) (E:List Value),v= .slice (some ⟨b,0,none⟩) A.length r∧B≤b∧b < w.heap.size∧E.length=A.length∧∀ j (V:j < A.length),w.cell? ⟨b,j,none⟩=some (E.getD j zdv)∧OB w B (E.getD j zdv) A[j]:=by
 obtain⟨xs,⟨W,R⟩,U⟩:=h;rcases R with ⟨rfl,h0⟩ | ⟨g,r,J,rfl,K,H,X,hm,Y,S⟩
 ·exact absurd (List.length_eq_zero_iff.1 h0) D
 ·refine⟨g,r,xs,rfl,K,xk H,by omega,fun i I=>?_⟩;obtain⟨x,e,L⟩:=U i I;have Q:xs.getD i zdv=x:=by rw [List.getD_eq_getElem?_getD,e];rfl
  rw [Q];refine⟨?_,L⟩;rw [cell_of_row _ _ _ _ _ _ H];rw [← S,Nat.mul_one] at e;rw [List.getElem?_take,if_pos I] at e;simpa using e
def zg4 (k:Nat)(es:List (List UInt8))(h:List Value):List Px:=(List.range 4).map fun j=>if j < k then ⟨true,false,jc (es.getD j []),h.getD j zdv⟩ else .no
theorem zz1 (es:List (List UInt8))(h:List Value){k:Nat}(r:k < 4):zg4 (k+1) es h=(zg4 k es h).set k ⟨true,false,jc (es.getD k []),h.getD k zdv⟩:=by
 match k,r with
 | 0,_=>rfl
 | 1,_=>rfl
 | 2,_=>rfl
 | 3,_=>rfl
theorem zsg (k:Nat)(es:List (List UInt8))(h:List Value):(zg4 k es h).length=4:=by simp [zg4]
theorem zyq (es:List (List UInt8))(r:List Value){k:Nat}(h:∀ j,j < k→∃ a n c,r.getD j zdv= .slice a n c):FOk (zg4 k es r):=by
 refine⟨zsg _ _ _,fun x D=>?_⟩;obtain⟨j,-,rfl⟩:=List.mem_map.1 D;show Px.ok (if j < k then _ else _)
 split
 ·rename_i A;exact⟨zjs _,h j A⟩
 ·exact Px.no_ok
theorem z1l {x:Option (List UInt8)}{n:Nat}{es:List (List UInt8)}(h:zgn x n=some es):es.length=n∧1≤es.length∧es.length≤4∧∀ e∈es,e.length≤20:=by
 unfold zgn zfb at h;cases x with
 | none=>simp at h
 | some d =>
  simp only at h;cases hu:unb d with
  | none=>simp [hu] at h
  | some ls =>
   simp only [hu] at h;by_cases r:okB ls=true
   ·simp only [r,if_true] at h;by_cases A:ls.length=n
    ·simp only [A,if_true,Option.some.injEq] at h;subst h;unfold okB at r;simp at r;exact⟨A,r.1,r.2.1,r.2.2⟩
    ·simp [A] at h
   ·simp [r] at h
theorem znl (n:Nat)(v:Value)(x:Option (List UInt8))(w:World)(h:zgo w v x):
  Calls Tryz.prog 239 #[.int .i64 n,v] w fun r w'=>Below w.heap.size w w'∧((∃ es A,zgn x n=some es∧r= .returned (.tuple #[.agg (fcs (zg4 es.length es A)).toArray,.bool true])∧∀ j (Z:j < es.length),OB w' w.heap.size (A.getD j zdv) es[j])∨(zgn x n=none∧r= .returned (.tuple #[.agg (fcs Fx.no).toArray,.bool false]))):=by
 have H:=za h;have HG:Hid (∀ o,zgo (w.alloc o) v x):=by
  intro o;rcases h with ⟨d,rfl,hq⟩ | ⟨rfl,rfl⟩
  ·exact .inl ⟨d,rfl,hq.below (ze _ _)⟩
  ·exact .inr ⟨rfl,rfl⟩
 clear h;go_enter Tryz.func239,Tryz.ntmps239;go_wp2_with fail;have X:Hid (Below w.heap.size w (w.alloc (.cells qt zt))∧zn (w.alloc (.cells qt zt)) w.heap.size Fx.no∧(w.alloc (.cells qt zt)).heap.size=w.heap.size+1):=⟨ze _ _,heap_alloc_last _ _,by simp⟩
 have al:=za (HG.o (.cells qt zt));clear HG;generalize w.alloc (.cells qt zt)=W0 at *
 refine(zpg n v x W0 al.o).mono ?_;rintro r K ⟨L,hr⟩;rw [X.o.2.2] at hr;have I:Hid (Below w.heap.size w K∧zn K w.heap.size Fx.no∧w.heap.size+1≤K.heap.size):=⟨X.o.1.trans (L.mono X.o.1.size),(L.block _ (zb X.o.2.1)).trans X.o.2.1,by have:=L.size;rw [X.o.2.2] at this;exact this⟩
 clear L;rcases hr with ⟨es,y,Y,rfl,ho⟩ | ⟨Y,rfl⟩
 ·obtain⟨-,h1,h4,h20⟩:=z1l Y;obtain⟨b,ay,A,rfl,aq,ar,a0,af⟩:=ho.cells (by intro h;rw [h] at h1;simp at h1);have HE:=za Y;have HC:=za af;have ak:=za h20;clear Y ho af h20;have ac:Hid (∀ k,k≤es.length→FOk (zg4 k es A)):=fun k hk=>zyq es A (fun j Z=>by
   obtain⟨g,c,e,-⟩:=((HC.o j (by omega)).2).form;exact⟨_,_,_,e⟩)
  go_wp2_with fail;go_loopw [17] (fun i wr=>∃ k:Nat,k≤es.length∧i= .int .i64 k∧Below w.heap.size w wr∧zn wr w.heap.size (zg4 k es A)∧(∀ j,w.heap.size+1≤j→j < K.heap.size→wr.heap[j]?=K.heap[j]?)∧K.heap.size≤wr.heap.size) (fun i _=>es.length - (intOf i).toNat)
  case atStart=>exact⟨0,by omega,rfl,I.o.1,I.o.2.1,fun _ _ _=>rfl,Nat.le_refl _⟩
  case round =>
   obtain⟨k,hk,rfl,ht,S,J,W⟩:=hrel;by_cases V:k < es.length
   ·have ai:k < 4:=by omega
    have hz:=ac.o k hk;have U:k < (zg4 k es A).length:=by rw [zsg];exact ai
    have R:=HC.o k V;have Q:OB wr (w.heap.size+1) (A.getD k zdv) es[k]:=R.2.kept J;have hc:wr.cell? ⟨b,k,none⟩=some (A.getD k zdv):=by
     rw [World.cell?_of_block (w:=K) (J b aq ar)];exact R.1
    have i0:(0:Int)≤(k:Int):=by omega
    have i1:(k:Int) < es.length:=by omega
    have ah:es.getD k []=es[k]:=by rw [List.getD_eq_getElem?_getD,List.getElem?_eq_getElem V];rfl
    have an:Hid (Calls Tryz.prog 69 #[A.getD k zdv] wr fun r w'=>r= .returned (.agg (hv (jc (es.getD k []))))∧Below wr.heap.size wr w'):=by
     show Calls _ _ _ _ _;rw [ah];exact zui _ _ wr (Nat.le_trans (ak.o _ (List.getElem_mem V)) (by unfold maxLen;omega)) Q.bs
    have h8:(jc (es.getD k [])).length=8:=zjs _;have H8:=za h8;have ax:=Q.one;have ae:=fun w'=>zs8 (jc (es.getD k [])) h8 (A.getD k zdv) ax w';have aa:Hid (∀ w',Below wr.heap.size wr w'→(zhj (.pointer (some ⟨w.heap.size,k*11,none⟩)) (.agg (Px.cs ⟨true,false,jc (es.getD k []),A.getD k zdv⟩).toArray)).run Tryz.prog w'= .ok () (w'.setCells w.heap.size (k*11) (Px.cs ⟨true,false,jc (es.getD k []),A.getD k zdv⟩))∧Below w.heap.size w (w'.setCells w.heap.size (k*11) (Px.cs ⟨true,false,jc (es.getD k []),A.getD k zdv⟩))∧zn (w'.setCells w.heap.size (k*11) (Px.cs ⟨true,false,jc (es.getD k []),A.getD k zdv⟩)) w.heap.size (zg4 (k+1) es A)∧(∀ j,w.heap.size+1≤j→j < K.heap.size→(w'.setCells w.heap.size (k*11) (Px.cs ⟨true,false,jc (es.getD k []),A.getD k zdv⟩)).heap[j]?=K.heap[j]?)∧K.heap.size≤(w'.setCells w.heap.size (k*11) (Px.cs ⟨true,false,jc (es.getD k []),A.getD k zdv⟩)).heap.size):=by
     intro w' hb;have hp:Px.ok ⟨true,false,jc (es.getD k []),A.getD k zdv⟩:=by
      obtain⟨g,c,e,-⟩:=Q.form;exact⟨h8,_,_,_,e⟩
     have ag:zn w' w.heap.size (zg4 k es A):=(hb.block _ (zb S)).trans S;refine⟨zb2 (ag.there hz.2 U (o:=0) (by omega)) (Px.cs_len hp) (Px.cs_one hp),zr (ht.trans (hb.mono ht.size)) (Nat.le_refl _) _ _,?_,fun j Z av=>?_,?_⟩
     ·rw [zz1 es A ai];exact ag.set hz.2 U hp
     ·rw [qc _ _ (by omega),hb.block j (by omega)];exact J j Z av
     ·rw [vh];exact Nat.le_trans W hb.size
    clear ht S J W hz U R Q ah h8;generalize ao:jc (es.getD k [])=lf at *
    generalize ap:A.getD k zdv=ev at *
    clear ao ap;go_wp2_with fail;refine an.o.mono ?_;rintro r w2 ⟨rfl,ad⟩;have hN:=aa.o w2 ad;have HN:=za hN.2;have aj:=hN.1;have az:=ae w2;clear hN ae ad aa;go_wp2_with fail;go_roundw
    case rel=>exact⟨k+1,by omega,by go_num,HN.o.1,HN.o.2.1,HN.o.2.2.1,HN.o.2.2.2⟩
    case measure=>simp [intOf];omega
   ·obtain rfl:k=es.length:=by omega
    have D:=ac.o _ (Nat.le_refl _);have aw:=zad (y9 S) D.len;have aj:=qj (xj S D) D.len (jp D.2);have HW:=za (qb S D D);have HB:=za (zr ht (Nat.le_refl w.heap.size) (fcs (zg4 es.length es A)) 0);have HL:=za D.len;have am:Hid (∀ j (Z:j < es.length),OB (wr.setCells w.heap.size 0 (fcs (zg4 es.length es A))) w.heap.size (A.getD j zdv) es[j]):=fun j Z=>((HC.o j Z).2.kept (fun i hi au=>by rw [qc _ _ (by omega)];exact J i hi au)).weaken (Nat.le_succ _);clear D ht S J W;go_wp2_with fail;exact bodyPost_ret (v:= .tuple #[.agg (fcs (zg4 es.length es A)).toArray,.bool true]) (zv Tryz.results239 _ _ w.heap.size zt _ (0,0) _ rfl HW.o Tryz.underlying104 rfl (by rw [jt,List.size_toArray,HL.o]) _ rfl) rfl ⟨HB.o,.inl ⟨es,A,HE.o,rfl,am.o⟩⟩
 ·have HE:=za Y;clear Y;have aw:=zad (y9 I.o.2.1) Fx.no_ok.len;have aj:=qj (xj I.o.2.1 Fx.no_ok) Fx.no_ok.len (jp Fx.no_ok.2);have HW:=za (qb I.o.2.1 Fx.no_ok Fx.no_ok);have HB:=za (zr I.o.1 (Nat.le_refl w.heap.size) (fcs Fx.no) 0);go_wp2_with fail;go_loopw [17] (fun i wr=>i= .int .i64 0∧wr=K) (fun i _=>0)
  case atStart=>exact⟨rfl,rfl⟩
  case round =>
   obtain⟨rfl,rfl⟩:=hrel;go_wp2_with fail;exact bodyPost_ret (v:= .tuple #[.agg (fcs Fx.no).toArray,.bool false]) (zv Tryz.results239 _ _ w.heap.size zt _ (0,0) _ rfl HW.o Tryz.underlying104 rfl (by rw [jt,List.size_toArray,Fx.no_ok.len]) _ rfl) rfl ⟨HB.o,.inr ⟨HE.o,rfl⟩⟩
end
theorem ztu {w:World}{v:Value}{l:List UInt8}(h:Bq w v l):∃ a n c,v= .slice a n c:=by
 obtain⟨g,r,C,A,rfl,-⟩:=h;exact⟨_,_,_,rfl⟩
theorem Ext.undrew {O:Nat→Prop}{w w':World}:∀ k,Ext O w.drew w' k→Ext O w w' k:=fun _ h=>h
theorem z36 (O:Nat→Prop)(D lb H I J:Nat)(d:Dk)(p x:List UInt8)(v:Value)(w:World)(W:d.fs.length≤1000000000)(h:zq w O D d)(hv:Bq w v x)
  (h1:w.cell? ⟨H,0,none⟩=some (.pointer (some ⟨lb,0,none⟩))) (h2:w.cell? ⟨I,0,none⟩=some (txv p)) (X:w.cell? ⟨J,0,none⟩=some v) (A:w.cell? ⟨lb,0,none⟩=some (stV D true)) :
  Calls Tryz.prog 230 #[.pointer (some ⟨H,0,none⟩),.pointer (some ⟨I,0,none⟩),.pointer (some ⟨J,0,none⟩)] w fun r w'=>∃ e,r= .returned e∧zcn (zh9 d p x) w.heap.size e w'∧zg O dT w w'∧zq w' (Ext O w w') D (za8 d p x):=by
 unfold stV vr at A;simp only [if_true] at A;unfold txv at h2;have R:=za h;have V:=za hv;clear h hv;have hm:=z5i;go_enter Tryz.func230,Tryz.ntmps230;go_wp2_with fail
 go_region_with (go_at_call 261;refine(z8a O D d p x v _ W (by exact R.o) (by exact V.o)).mono ?_;rintro r Y ⟨e,rfl,L,Q,K⟩;have S:=za L;have U:=za Q;have E:=za K;clear L Q K)
 all_goals go_wp2
 all_goals go_ret
 all_goals exact⟨_,rfl,S.o,U.o.undrew,E.o.mono Ext.undrew⟩
theorem zy1 {O:Nat→Prop}{w I A w' D:World}{R:Nat}{Q:Dk}{b:Bool}{p:List UInt8}{e:Value}{r:Ending}(E:Below w.heap.size w A)(V:w.heap.size≤I.heap.size)(h0:A.heap[I.heap.size]?=some (.cells #[.nilIface] 68 (0,0)))
  (X:zcn b A.heap.size e w') (Y:zg O dT A w') (W:zq w' (Ext O A w') R Q)
  (h:(e= .nilIface∧r= .returned .nilIface∧D=w'.setCell ⟨I.heap.size,0,none⟩ .nilIface)∨((∃ g,e=zb5 g)∧r= .returned (qq w'.heap.size)∧D=(w'.alloc (.cells #[txv p,e] 141)).setCell ⟨I.heap.size,0,none⟩ (qq w'.heap.size))) :
  ∃ S,r= .returned S∧zc1 b p w.heap.size S D∧zg O dT w D∧zq D (Ext O w D) R Q:=by
 have L:zg O dT w w':=(zg.of_below E).trans (Y.mono (fun _ h=> .inl h) (fun _ h=>h));have q0:=Y.keep h0 (by decide);have aa:w.heap.size≤A.heap.size:=E.size;have Z:∀ k,Ext O A w' k→Ext O w w' k:=by
  rintro k (h | h)
  ·exact .inl h
  ·exact .inr (by omega)
 rcases h with ⟨rfl,rfl,rfl⟩ | ⟨⟨J,rfl⟩,rfl,rfl⟩
 ·have K:b=false:=by
   rcases X with ⟨h,-⟩ | ⟨-,g,h,-⟩
   ·exact h
   ·simp [zb5] at h
  have H:=zaa q0 (by decide) .nilIface;exact⟨_,rfl,.inl ⟨K,rfl⟩,L.setNew V _ _,((W.mono Z).stay H (by decide) (by decide)).mono (Ext.more (by simp [World.setCell]))⟩
 ·have K:b=true∧znh w' J:=by
   rcases X with ⟨-,h⟩ | ⟨h,g,U,-,h2⟩
   ·simp [zb5] at h
   ·simp [zb5] at U;exact⟨h,U▸h2⟩
  have tP:zg (fun _=>True) cT w' (w'.alloc (.cells #[txv p,zb5 J] 141)):=(zg.refl _ _ _).alloc _;have H:=zaa (zc (o:= .cells #[txv p,zb5 J] 141) q0) (by decide) (qq w'.heap.size);refine⟨_,rfl,.inr ⟨K.1,_,rfl,L.size,J,H.keep (heap_alloc_last _ _) (by decide),(K.2.turn tP (by decide)).turn H (by decide)⟩,(L.alloc _).setNew V _ _,(((W.mono Z).stay tP (by decide) (by decide)).stay H (by decide) (by decide)).mono (Ext.more (by simp [World.setCell]))⟩
theorem z3o (O:Nat→Prop)(I lb:Nat)(d:Dk)(p x:List UInt8)(v:Value)(w:World)(hn:d.fs.length≤1000000000)(h:zq w O I d)(hv:Bq w v x)(K:w.cell? ⟨lb,0,none⟩=some (stV I true)):
  Calls Tryz.prog 215 #[.pointer (some ⟨lb,0,none⟩),txv p,v] w fun r w'=>∃ e,r= .returned e∧zc1 (zh9 d p x) p w.heap.size e w'∧zg O dT w w'∧zq w' (Ext O w w') I (za8 d p x):=by
 have aa:∀(Y:Fn) (first H:Array Value) (w:World),(Instr.makeFunc Y first H).run Tryz.prog w= .ok (.func Y first H) w:=fun _ _ _ _=>rfl;have eg:∀ args w,(callFunc 230 args).run Tryz.prog w= .ok (.enter 230 args) w:=enters_of Tryz.func230 (by kernel_rfl) rfl;obtain⟨a,n,c,rfl⟩:=ztu hv;have HD:=za h;have HV:=za hv;have R:=za K;clear h hv K;have V:txv p= .string ⟨p.toArray⟩:=rfl;rw [V];go_enter Tryz.func215,Tryz.ntmps215;go_wp2_with fail;obtain⟨s3,p1,p2,p3,A⟩:=zvp w (.cells #[.pointer (some ⟨lb,0,none⟩)] 127) (.cells #[.string ⟨p.toArray⟩] 9) (.cells #[.slice a n c] 100);generalize (((w.alloc (.cells #[.pointer (some ⟨lb,0,none⟩)] 127)).alloc (.cells #[.string ⟨p.toArray⟩] 9)).alloc (.cells #[.slice a n c] 100))=D at *
 have S3:=za s3;have J:=z36 O I lb w.heap.size (w.heap.size+1) (w.heap.size+1+1) d p x (.slice a n c) (D.alloc (.cells #[.nilIface] 68)) hn
  (HD.o.stay (O1:=fun _=>False) (T:=[]) ((zg.of_below A).alloc _) (by simp) (by simp)) ((HV.o.below A).below (ze _ _))
  (zf (zc p1) 0 _ rfl).1 (zf (zc p2) 0 _ rfl).1 (zf (zc p3) 0 _ rfl).1 (by rw [zl _ _ ⟨_,0,none⟩ (Nat.lt_of_lt_of_le (zk R.o) A.size),A.cell (p:=⟨lb,0,none⟩) (zk R.o)];exact R.o)
 have W:Hid ((D.alloc (.cells #[.nilIface] 68)).heap[D.heap.size]?=some (.cells #[.nilIface] 68 (0,0))):=heap_alloc_last _ _;have U:Hid (Below w.heap.size w (D.alloc (.cells #[.nilIface] 68))):=A.alloc (by omega) _;refine(zqu p 230 _ D (fun e w'=>zcn (zh9 d p x) (D.alloc (.cells #[.nilIface] 68)).heap.size e w'∧zg O dT (D.alloc (.cells #[.nilIface] 68)) w'∧zq w' (Ext O (D.alloc (.cells #[.nilIface] 68)) w') I (za8 d p x)) eg J ?_).mono ?_
 ·rintro e w' ⟨L,Q,-⟩;exact⟨zj6 L,Q.keep W.o (by decide)⟩
 clear J p1 p2 p3 A s3;generalize D.alloc (.cells #[.nilIface] 68)=W4 at *
 have S:w.heap.size≤D.heap.size:=by have:=S3.out;omega
 rintro r w5 ⟨e,w',⟨L,Q,Z⟩,h⟩;have X:=za (zy1 U.out S W.o L Q Z h);clear L Q Z h;obtain⟨e',E⟩:=X.o;obtain rfl:=E.1;have HX:=za E.2;clear E X;go_wp2_with fail;go_ret;exact⟨_,rfl,HX.o⟩
end Go.Proofs.YtndkblnpbjffhaaGreatDoor
