import Derived.Test.YtinhekmmdlhfkaaGreatDoorG14
import Derived.Test.YtinhekmmdlhfkaaGreatDoorG08
import Derived.Laws.IdiomCopy
import Derived.Laws.BytesArg
import Derived.Test.YtinhekmmdlhfkaaGreatDoorG05
namespace Go.Proofs.YtinhekmmdlhfkaaGreatDoor
section
set_option maxHeartbeats 4000000
open Go.RowKit
set_option maxRecDepth 100000
attribute [local go_sem ↓] yq yk yt yp yn yo yu yl
theorem zu2 (A B H E H':List Value)(h:H'.length=H.length):(A++(B++(H++E))).take (A.length+B.length)++(H'++(A++(B++(H++E))).drop (A.length+B.length+H'.length))=A++(B++(H'++E)):=by
 have e1:A++(B++(H++E))=(A++B)++(H++E):=by simp
 have e2:A++(B++(H++E))=(A++B++H)++E:=by simp
 have t:(A++(B++(H++E))).take (A.length+B.length)=A++B:=by
  rw [e1,show A.length+B.length=(A++B).length by simp,List.take_left]
 have d:(A++(B++(H++E))).drop (A.length+B.length+H'.length)=E:=by
  rw [e2,h,show A.length+B.length+H.length=(A++B++H).length by simp;omega,List.drop_left]
 rw [t,d]
 simp
theorem zn.setH {w:World}{fb:Nat}{xs:List Px}(h:zn w fb xs)(hx:∀ x∈xs,x.ok){k:Nat}(hk:k < xs.length){hs:List UInt8}(h8:hs.length=8):zn (w.setCells fb (k*11+2) (hs.map bv)) fb (xs.set k { xs[k] with hash:=hs }):=by
 have hl:=zhm hx
 have hxk:=hx _ (List.getElem_mem hk)
 have hp:({ xs[k] with hash:=hs }:Px).ok:=⟨h8,hxk.2⟩
 have hsplit:fcs xs=(fcs xs).take (k*11)++(xs[k].cs++(fcs xs).drop (k*11+11)):=by
  have:=zi7 hx k hk xs[k] hxk
  rw [List.set_getElem_self] at this
  exact this
 have ht:((fcs xs).take (k*11)).length=k*11:=by simp;omega
 unfold zn
 rw [zan (hs.map bv) (k*11+2) h (by simp;omega),zi7 hx k hk _ hp]
 have key:=zu2 ((fcs xs).take (k*11)) [.bool xs[k].there,.bool xs[k].fits] (xs[k].hash.map bv) (xs[k].ent::(fcs xs).drop (k*11+11)) (hs.map bv) (by simp [h8,hxk.1])
 have e:(fcs xs).take (k*11)++([.bool xs[k].there,.bool xs[k].fits]++(xs[k].hash.map bv++(xs[k].ent::(fcs xs).drop (k*11+11))))=fcs xs:=by
  conv=>rhs;rw [hsplit]
  simp [Px.cs]
 rw [e,ht] at key
 have e2:(k*11+[Value.bool xs[k].there,Value.bool xs[k].fits].length)=k*11+2:=rfl
 rw [e2] at key
 rw [key]
 simp [Px.cs]
def zc8:Value:= .slice none 0 0
def zep (k:Nat)(d:List UInt8):List Px:=(List.range 4).map fun j=>if j < k then ⟨true,false,(d.drop (8*j)).take 8,zc8⟩ else .no
theorem z0p (d:List UInt8){k:Nat}(hk:k < 4):zep (k+1) d=(zep k d).set k ⟨true,false,(d.drop (8*k)).take 8,zc8⟩:=by
 match k,hk with
 | 0,_=>rfl
 | 1,_=>rfl
 | 2,_=>rfl
 | 3,_=>rfl
theorem z6v (d:List UInt8){k:Nat}(hk:k < 4):∃ h:k < (zep k d).length,(zep k d)[k]=Px.no:=by
 match k,hk with
 | 0,_=>exact⟨by simp [zep],rfl⟩
 | 1,_=>exact⟨by simp [zep],rfl⟩
 | 2,_=>exact⟨by simp [zep],rfl⟩
 | 3,_=>exact⟨by simp [zep],rfl⟩
theorem zqp (d:List UInt8){k:Nat}(hd:8*k≤d.length):FOk (zep k d):=by
 refine⟨by simp [zep],fun x hx=>?_⟩
 obtain⟨j,-,rfl⟩:=List.mem_map.1 hx
 show Px.ok (if j < k then _ else _)
 split
 ·exact⟨by simp;omega,_,_,_,rfl⟩
 ·exact Px.no_ok
theorem z8z:(Tryz.prog.info? 5).map (·.size)=some 1:=by kernel_rfl
theorem zqj (n:Nat)(hn:n≤4)(hn0:0 < n)(v:Value)(d:List UInt8)(hd:d.length=8*n)(w:World)(h:Bq w v d):
  Calls Tryz.prog 210 #[.int .i64 n,v] w fun r w'=>r= .returned (.tuple #[.agg (fcs (zep n d)).toArray,.bool true])∧Below w.heap.size w w':=by
 obtain⟨g,cap,C,fr,rfl,hcap,hg,hC⟩:=h
 have HG:=za hg
 have HC:=za hC
 have hgl:g < w.heap.size:=zb hg
 have HD:=za hd
 have hlen:((d.length:Int)==(n:Int)*8)=true:=by simp;omega
 clear hg hC
 rw [hd] at hcap hlen
 rw [hd]
 have hlen2:((8*(n:Int)) != (n:Int)*8)=false:=by simp;omega
 clear hd hlen
 go_enter Tryz.func210,Tryz.ntmps210
 go_wp2_with fail
 have H0:Hid (Below w.heap.size w (w.alloc (.cells qh zr))∧zn (w.alloc (.cells qh zr)) w.heap.size Fx.no):=⟨ze _ _,heap_alloc_last _ _⟩
 generalize w.alloc (.cells qh zr)=W0 at *
 go_loopw [1,14] (fun dv i wr=>∃ k L cp off:Nat,k≤n∧i= .int .i64 k∧L=8*(n - k)∧L≤cp∧(k < n→off=8*k)∧dv= .slice (some ⟨g,off,none⟩) L cp∧Below w.heap.size w wr∧zn wr w.heap.size (zep k d)) (fun _ i _=>n - (intOf i).toNat)
 case atStart=>exact⟨0,8*n,cap,0,by omega,rfl,by omega,hcap,fun _=>rfl,rfl,H0.o.1,H0.o.2⟩
 case round =>
  obtain⟨k,L,cp,off,hk,rfl,hL,hLc,hoff,rfl,ht,hf⟩:=hrel
  by_cases hlt:k < n
  ·replace hoff:=hoff hlt
   have hk4:k < 4:=by omega
   have hz:=zqp d (k:=k) (by rw [HD.o];omega)
   obtain⟨hkl,hat⟩:=z6v d hk4
   have hL8:8≤L:=by omega
   have i0:(0:Int)≤(k:Int):=by omega
   have i1:(k:Int) < 4:=by omega
   have c0:wr.cell? ⟨w.heap.size,k*11,none⟩=some (.bool false):=(hf.cell hz.2 hkl (j:=0) (by omega) (by rw [hat];rfl)).1
   have f0:wr.frozen? ⟨w.heap.size,k*11,none⟩=false:=(hf.cell hz.2 hkl (j:=0) (by omega) (by rw [hat];rfl)).2
   have hh8:((d.drop (8*k)).take 8).length=8:=by simp;rw [HD.o];omega
   have hf1:zn (wr.setCell ⟨w.heap.size,k*11,none⟩ (.bool true)) w.heap.size ((zep k d).set k { Px.no with there:=true }):=hf.set1 hz.2 hkl (j:=0) (v:= .bool true) (by omega) Px.no_ok (by rw [hat];rfl)
   have hz1:=zj8 hz.2 k (x:={ Px.no with there:=true }) Px.no_ok
   have hkl1:k < ((zep k d).set k { Px.no with there:=true }).length:=by simpa using hkl
   have hf2:=hf1.setH hz1 hkl1 hh8
   rw [List.getElem_set_self,List.set_set] at hf2
   have hb1:Below w.heap.size w (wr.setCell ⟨w.heap.size,k*11,none⟩ (.bool true)):=ht.setCell (Nat.le_refl _) _
   have hcp:(Builtin.copy_ #[76,76] 3 #[.slice (some ⟨w.heap.size,k*11+2,none⟩) 8 8,.slice (some ⟨g,off,none⟩) L cp]).run Tryz.prog (wr.setCell ⟨w.heap.size,k*11,none⟩ (.bool true))= .ok (.int .i64 8) ((wr.setCell ⟨w.heap.size,k*11,none⟩ (.bool true)).setCells w.heap.size (k*11+2) (((d.drop (8*k)).take 8).map bv)):=by
    have hth:=hf1.there hz1 hkl1 (o:=2) (n:=8) (by omega)
    have:=run_copy_cells (P:=Tryz.prog) (wr.setCell ⟨w.heap.size,k*11,none⟩ (.bool true)) 76 76 3 5 w.heap.size (k*11+2) 8 8 ⟨g,off,none⟩ L cp (((d.drop (8*k)).take 8).map bv) Tryz.underlying76 z8z
     (by rw [List.length_map,hh8];exact(Nat.min_eq_right hL8).symm) (fun j u hu=>by
      obtain⟨hj,rfl⟩:=List.getElem?_eq_some_iff.1 hu
      rw [List.length_map,hh8] at hj
      have hgw:=(hb1.block g hgl).trans HG.o
      have hi:off+j < d.length:=by rw [HD.o];omega
      have:=HC.o (off+j) hi
      rw [show(⟨g,off,none⟩:Addr).add j=⟨g,off+j,none⟩ by simp [Addr.add],cell_of_row _ _ _ _ _ _ hgw,this]
      simp [hoff]) (fun j hj=>(hth j (by rwa [List.length_map,hh8] at hj)).1) (fun j hj=>(hth j (by rwa [List.length_map,hh8] at hj)).2) (fun x hx=>by
       obtain⟨b,-,rfl⟩:=List.mem_map.1 hx;rfl)
    rw [List.length_map,hh8] at this
    exact this
   have HB2:=za (zu hb1 (Nat.le_refl _) (((d.drop (8*k)).take 8).map bv) (k*11+2))
   have HF2:Hid (zn ((wr.setCell ⟨w.heap.size,k*11,none⟩ (.bool true)).setCells w.heap.size (k*11+2) (((d.drop (8*k)).take 8).map bv)) w.heap.size (zep (k+1) d)):=by
    show zn _ _ _
    rw [z0p d hk4];exact hf2
   have HOF:=za hoff
   have HLL:=za hL
   clear hf2 hf1 hz1 hkl1 hb1 hat hkl hz hf ht hh8 hoff hL
   generalize ((d.drop (8*k)).take 8).map bv=cs at *
   go_wp2_with fail
   go_roundw
   case rel=>exact⟨k+1,L - 8,cp - 8,if cp=8 then off else off+8,by omega,by go_num,by rw [HLL.o];omega,by omega,fun h=>by have:=HLL.o;have:=HOF.o;rw [if_neg (by omega)];omega,by split<;>rfl,HB2.o,HF2.o⟩
   case measure=>simp [intOf];omega
  ·obtain rfl:k=n:=by omega
   have hok:=zqp d (k:=k) (by rw [HD.o];omega)
   have hld:=vy (yv hf) hok.len
   have hst:=qc (xg hf hok) hok.len (ji hok.2)
   have HW:=za (xt hf hok hok)
   have HB:=za (zu ht (Nat.le_refl w.heap.size) (fcs (zep k d)) 0)
   have HL:=za hok.len
   clear hok ht hf
   go_wp2_with fail
   exact bodyPost_ret (v:= .tuple #[.agg (fcs (zep k d)).toArray,.bool true]) (zy Tryz.results210 _ _ w.heap.size zr _ (0,0) _ rfl HW.o Tryz.underlying130 rfl (by rw [jk,List.size_toArray,HL.o]) _ rfl) rfl ⟨rfl,HB.o⟩
end
section
set_option maxHeartbeats 4000000
open Go.RowKit
set_option maxRecDepth 100000
attribute [local go_sem ↓] yq yk yt yp yn yo yu yl
theorem OB.kept {w w':World}{B:Nat}{x:Value}{l:List UInt8}(h:OB w B x l)(hk:∀ k,B≤k→k < w.heap.size→w'.heap[k]?=w.heap[k]?):OB w' B x l:=by
 refine⟨⟨h.1.1,?_⟩,h.2⟩
 rcases h.1.2 with h0 | ⟨g,cap,cur,rfl,hB,hg,r⟩
 ·exact .inl h0
 ·exact .inr ⟨g,cap,cur,rfl,hB,by rw [hk g hB (xe hg)];exact hg,r⟩
theorem OB.bs {w:World}{B:Nat}{x:Value}{l:List UInt8}(h:OB w B x l):Bs w x l:=by
 obtain⟨g,cap,rfl,-,-,hc⟩:=h.form
 exact⟨_,_,rfl,.inr ⟨g,0,rfl,fun j hj=>by rw [Nat.zero_add];exact hc j hj⟩⟩
theorem OB.one {w:World}{B:Nat}{x:Value}{l:List UInt8}(h:OB w B x l):x.oneCell'=true:=by
 obtain⟨g,cap,rfl,-⟩:=h.form
 rfl
theorem OBs.cells {w:World}{B:Nat}{v:Value}{ls:List (List UInt8)}(h:OBs w B v ls)(hne:ls≠[]):
  ∃(b cap:Nat) (vs:List Value),v= .slice (some ⟨b,0,none⟩) ls.length cap∧B≤b∧b < w.heap.size∧vs.length=ls.length∧∀ j (hj:j < ls.length),w.cell? ⟨b,j,none⟩=some (vs.getD j zc8)∧OB w B (vs.getD j zc8) ls[j]:=by
 obtain⟨xs,⟨hl,ho⟩,hx⟩:=h
 rcases ho with ⟨rfl,h0⟩ | ⟨g,cap,cur,rfl,hB,hg,hn,hm,hs,ht⟩
 ·exact absurd (List.length_eq_zero_iff.1 h0) hne
 ·refine⟨g,cap,xs,rfl,hB,xe hg,by omega,fun i hi=>?_⟩
  obtain⟨x,e,hb⟩:=hx i hi
  have hd:xs.getD i zc8=x:=by rw [List.getD_eq_getElem?_getD,e];rfl
  rw [hd]
  refine⟨?_,hb⟩
  rw [cell_of_row _ _ _ _ _ _ hg]
  rw [← ht,Nat.mul_one] at e
  rw [List.getElem?_take,if_pos hi] at e
  simpa using e
def zgd (k:Nat)(es:List (List UInt8))(vs:List Value):List Px:=(List.range 4).map fun j=>if j < k then ⟨true,false,qu (es.getD j []),vs.getD j zc8⟩ else .no
theorem zyk (es:List (List UInt8))(vs:List Value){k:Nat}(hk:k < 4):zgd (k+1) es vs=(zgd k es vs).set k ⟨true,false,qu (es.getD k []),vs.getD k zc8⟩:=by
 match k,hk with
 | 0,_=>rfl
 | 1,_=>rfl
 | 2,_=>rfl
 | 3,_=>rfl
theorem ztg (k:Nat)(es:List (List UInt8))(vs:List Value):(zgd k es vs).length=4:=by simp [zgd]
theorem zw1 (es:List (List UInt8))(vs:List Value){k:Nat}(h:∀ j,j < k→∃ a n c,vs.getD j zc8= .slice a n c):FOk (zgd k es vs):=by
 refine⟨ztg _ _ _,fun x hx=>?_⟩
 obtain⟨j,-,rfl⟩:=List.mem_map.1 hx
 show Px.ok (if j < k then _ else _)
 split
 ·rename_i hj
  exact⟨zi6 _,h j hj⟩
 ·exact Px.no_ok
theorem z0l {x:Option (List UInt8)}{n:Nat}{es:List (List UInt8)}(h:zei x n=some es):es.length=n∧1≤es.length∧es.length≤4∧∀ e∈es,e.length≤20:=by
 unfold zei zch at h
 cases x with
 | none=>simp at h
 | some d =>
  simp only at h
  cases hu:unb d with
  | none=>simp [hu] at h
  | some ls =>
   simp only [hu] at h
   by_cases ho:okB ls=true
   ·simp only [ho,if_true] at h
    by_cases hl:ls.length=n
    ·simp only [hl,if_true,Option.some.injEq] at h
     subst h
     unfold okB at ho
     simp at ho
     exact⟨hl,ho.1,ho.2.1,ho.2.2⟩
    ·simp [hl] at h
   ·simp [ho] at h
theorem znd (n:Nat)(v:Value)(x:Option (List UInt8))(w:World)(h:zfd w v x):
  Calls Tryz.prog 209 #[.int .i64 n,v] w fun r w'=>Below w.heap.size w w'∧((∃ es vs,zei x n=some es∧r= .returned (.tuple #[.agg (fcs (zgd es.length es vs)).toArray,.bool true])∧∀ j (hj:j < es.length),OB w' w.heap.size (vs.getD j zc8) es[j])∨(zei x n=none∧r= .returned (.tuple #[.agg (fcs Fx.no).toArray,.bool false]))):=by
 have H:=za h
 have HG:Hid (∀ o,zfd (w.alloc o) v x):=by
  intro o
  rcases h with ⟨d,rfl,hq⟩ | ⟨rfl,rfl⟩
  ·exact .inl ⟨d,rfl,hq.below (ze _ _)⟩
  ·exact .inr ⟨rfl,rfl⟩
 clear h
 go_enter Tryz.func209,Tryz.ntmps209
 go_wp2_with fail
 have H0:Hid (Below w.heap.size w (w.alloc (.cells qh zr))∧zn (w.alloc (.cells qh zr)) w.heap.size Fx.no∧(w.alloc (.cells qh zr)).heap.size=w.heap.size+1):=⟨ze _ _,heap_alloc_last _ _,by simp⟩
 have HG1:=za (HG.o (.cells qh zr))
 clear HG
 generalize w.alloc (.cells qh zr)=W0 at *
 refine(zhc n v x W0 HG1.o).mono ?_
 rintro r w1 ⟨hb1,hr⟩
 rw [H0.o.2.2] at hr
 have HB1:Hid (Below w.heap.size w w1∧zn w1 w.heap.size Fx.no∧w.heap.size+1≤w1.heap.size):=⟨H0.o.1.trans (hb1.mono H0.o.1.size),(hb1.block _ (zb H0.o.2.1)).trans H0.o.2.1,by have:=hb1.size;rw [H0.o.2.2] at this;exact this⟩
 clear hb1
 rcases hr with ⟨es,y,he,rfl,ho⟩ | ⟨he,rfl⟩
 ·obtain⟨-,h1,h4,h20⟩:=z0l he
  obtain⟨b,cap,vs,rfl,hbB,hbl,hvl,hcell⟩:=ho.cells (by intro h;rw [h] at h1;simp at h1)
  have HE:=za he
  have HC:=za hcell
  have H20:=za h20
  clear he ho hcell h20
  have HOK:Hid (∀ k,k≤es.length→FOk (zgd k es vs)):=fun k hk=>zw1 es vs (fun j hj=>by
   obtain⟨g,c,e,-⟩:=((HC.o j (by omega)).2).form
   exact⟨_,_,_,e⟩)
  go_wp2_with fail
  go_loopw [17] (fun i wr=>∃ k:Nat,k≤es.length∧i= .int .i64 k∧Below w.heap.size w wr∧zn wr w.heap.size (zgd k es vs)∧(∀ j,w.heap.size+1≤j→j < w1.heap.size→wr.heap[j]?=w1.heap[j]?)∧w1.heap.size≤wr.heap.size) (fun i _=>es.length - (intOf i).toNat)
  case atStart=>exact⟨0,by omega,rfl,HB1.o.1,HB1.o.2.1,fun _ _ _=>rfl,Nat.le_refl _⟩
  case round =>
   obtain⟨k,hk,rfl,ht,hf,hkp,hsz⟩:=hrel
   by_cases hlt:k < es.length
   ·have hk4:k < 4:=by omega
    have hz:=HOK.o k hk
    have hkl:k < (zgd k es vs).length:=by rw [ztg];exact hk4
    have hce:=HC.o k hlt
    have hob:OB wr (w.heap.size+1) (vs.getD k zc8) es[k]:=hce.2.kept hkp
    have hc:wr.cell? ⟨b,k,none⟩=some (vs.getD k zc8):=by
     rw [World.cell?_of_block (w:=w1) (hkp b hbB hbl)];exact hce.1
    have i0:(0:Int)≤(k:Int):=by omega
    have i1:(k:Int) < es.length:=by omega
    have hgd:es.getD k []=es[k]:=by rw [List.getD_eq_getElem?_getD,List.getElem?_eq_getElem hlt];rfl
    have HLF:Hid (Calls Tryz.prog 63 #[vs.getD k zc8] wr fun r w'=>r= .returned (.agg (hv (qu (es.getD k []))))∧Below wr.heap.size wr w'):=by
     show Calls _ _ _ _ _
     rw [hgd]
     exact zsn _ _ wr (Nat.le_trans (H20.o _ (List.getElem_mem hlt)) (by unfold maxLen;omega)) hob.bs
    have h8:(qu (es.getD k [])).length=8:=zi6 _
    have H8:=za h8
    have hone:=hob.one
    have hbp:=fun w'=>zse (qu (es.getD k [])) h8 (vs.getD k zc8) hone w'
    have HNX:Hid (∀ w',Below wr.heap.size wr w'→(zgm (.pointer (some ⟨w.heap.size,k*11,none⟩)) (.agg (Px.cs ⟨true,false,qu (es.getD k []),vs.getD k zc8⟩).toArray)).run Tryz.prog w'= .ok () (w'.setCells w.heap.size (k*11) (Px.cs ⟨true,false,qu (es.getD k []),vs.getD k zc8⟩))∧Below w.heap.size w (w'.setCells w.heap.size (k*11) (Px.cs ⟨true,false,qu (es.getD k []),vs.getD k zc8⟩))∧zn (w'.setCells w.heap.size (k*11) (Px.cs ⟨true,false,qu (es.getD k []),vs.getD k zc8⟩)) w.heap.size (zgd (k+1) es vs)∧(∀ j,w.heap.size+1≤j→j < w1.heap.size→(w'.setCells w.heap.size (k*11) (Px.cs ⟨true,false,qu (es.getD k []),vs.getD k zc8⟩)).heap[j]?=w1.heap[j]?)∧w1.heap.size≤(w'.setCells w.heap.size (k*11) (Px.cs ⟨true,false,qu (es.getD k []),vs.getD k zc8⟩)).heap.size):=by
     intro w' hb
     have hp:Px.ok ⟨true,false,qu (es.getD k []),vs.getD k zc8⟩:=by
      obtain⟨g,c,e,-⟩:=hob.form
      exact⟨h8,_,_,_,e⟩
     have hf':zn w' w.heap.size (zgd k es vs):=(hb.block _ (zb hf)).trans hf
     refine⟨zbr (hf'.there hz.2 hkl (o:=0) (by omega)) (Px.cs_len hp) (Px.cs_one hp),zu (ht.trans (hb.mono ht.size)) (Nat.le_refl _) _ _,?_,fun j hj hj1=>?_,?_⟩
     ·rw [zyk es vs hk4];exact hf'.set hz.2 hkl hp
     ·rw [xy _ _ (by omega),hb.block j (by omega)];exact hkp j hj hj1
     ·rw [j6];exact Nat.le_trans hsz hb.size
    clear ht hf hkp hsz hz hkl hce hob hgd h8
    generalize hLv:qu (es.getD k [])=lf at *
    generalize hVv:vs.getD k zc8=ev at *
    clear hLv hVv
    go_wp2_with fail
    refine HLF.o.mono ?_
    rintro r w2 ⟨rfl,hb2⟩
    have hN:=HNX.o w2 hb2
    have HN:=za hN.2
    have hst:=hN.1
    have hbp2:=hbp w2
    clear hN hbp hb2 HNX
    go_wp2_with fail
    go_roundw
    case rel=>exact⟨k+1,by omega,by go_num,HN.o.1,HN.o.2.1,HN.o.2.2.1,HN.o.2.2.2⟩
    case measure=>simp [intOf];omega
   ·obtain rfl:k=es.length:=by omega
    have hok:=HOK.o _ (Nat.le_refl _)
    have hld:=vy (yv hf) hok.len
    have hst:=qc (xg hf hok) hok.len (ji hok.2)
    have HW:=za (xt hf hok hok)
    have HB:=za (zu ht (Nat.le_refl w.heap.size) (fcs (zgd es.length es vs)) 0)
    have HL:=za hok.len
    have HKP:Hid (∀ j (hj:j < es.length),OB (wr.setCells w.heap.size 0 (fcs (zgd es.length es vs))) w.heap.size (vs.getD j zc8) es[j]):=fun j hj=>((HC.o j hj).2.kept (fun i hi hi1=>by rw [xy _ _ (by omega)];exact hkp i hi hi1)).weaken (Nat.le_succ _)
    clear hok ht hf hkp hsz
    go_wp2_with fail
    exact bodyPost_ret (v:= .tuple #[.agg (fcs (zgd es.length es vs)).toArray,.bool true]) (zy Tryz.results209 _ _ w.heap.size zr _ (0,0) _ rfl HW.o Tryz.underlying130 rfl (by rw [jk,List.size_toArray,HL.o]) _ rfl) rfl ⟨HB.o,.inl ⟨es,vs,HE.o,rfl,HKP.o⟩⟩
 ·have HE:=za he
  clear he
  have hld:=vy (yv HB1.o.2.1) Fx.no_ok.len
  have hst:=qc (xg HB1.o.2.1 Fx.no_ok) Fx.no_ok.len (ji Fx.no_ok.2)
  have HW:=za (xt HB1.o.2.1 Fx.no_ok Fx.no_ok)
  have HB:=za (zu HB1.o.1 (Nat.le_refl w.heap.size) (fcs Fx.no) 0)
  go_wp2_with fail
  go_loopw [17] (fun i wr=>i= .int .i64 0∧wr=w1) (fun i _=>0)
  case atStart=>exact⟨rfl,rfl⟩
  case round =>
   obtain⟨rfl,rfl⟩:=hrel
   go_wp2_with fail
   exact bodyPost_ret (v:= .tuple #[.agg (fcs Fx.no).toArray,.bool false]) (zy Tryz.results209 _ _ w.heap.size zr _ (0,0) _ rfl HW.o Tryz.underlying130 rfl (by rw [jk,List.size_toArray,Fx.no_ok.len]) _ rfl) rfl ⟨HB.o,.inr ⟨HE.o,rfl⟩⟩
end
section
set_option maxHeartbeats 1000000
open Go.RowKit
set_option maxRecDepth 100000
theorem Bs.conv {w:World}{v:Value}{l:List UInt8}(h:Bs w v l):(convert 76 9 v).run Tryz.prog w= .ok (.string ⟨l.toArray⟩) w:=by
 obtain⟨a,cap,rfl,h⟩:=h
 rcases h with rfl | ⟨b,off,rfl,hc⟩
 ·cases a with
  | none=>exact run_convert_bytes_nil w _ _ Tryz.underlying76 Tryz.underlying5 _ _ _ Tryz.underlying9
  | some a=>exact run_convert_bytes_back w _ _ 5 a cap [] Tryz.underlying76 Tryz.underlying5 Tryz.underlying9 (fun j hj=>by simp at hj)
 ·refine run_convert_bytes_back w _ _ 5 ⟨b,off,none⟩ cap l Tryz.underlying76 Tryz.underlying5 Tryz.underlying9 (fun j hj=>?_)
  rw [Addr.add_mid]
  exact hc j hj
theorem z64 (x y:Value)(a b:List UInt8)(w:World)(ha:Bs w x a)(hb:Bs w y b):
  Calls Tryz.prog 74 #[x,y] w fun r w'=>r= .returned (.bool (decide (a=b)))∧w'=w:=by
 have h1:=ha.conv
 have h2:=hb.conv
 clear ha hb
 go_enter Tryz.func74,Tryz.ntmps74
 go_wp2_with fail
 go_ret
 exact⟨congrArg (fun b=>Ending.returned (.bool b)) (by show(a==b)=_;rw [Bool.eq_iff_iff];simp),rfl⟩
theorem Bss.at {w:World}{v:Value}{ls:List (List UInt8)}(h:Bss w v ls):∃ a cap,v= .slice a ls.length cap∧∀ j (hj:j < ls.length),∃ b off,a=some ⟨b,off,none⟩∧ls.length≤cap∧∃ x,w.cell? ⟨b,off+j,none⟩=some x∧Bs w x ls[j]:=by
 obtain⟨a,cap,rfl,hc,h⟩:=h
 refine⟨a,cap,rfl,fun j hj=>?_⟩
 rcases h with rfl | ⟨b,off,rfl,h⟩
 ·simp at hj
 ·obtain⟨x,h1,h2⟩:=h j hj
  exact⟨b,off,rfl,hc,x,h1,h2⟩
theorem zwy (x y:Value)(as_ bs:List (List UInt8))(w:World)(hl:as_.length=bs.length)(hn:as_.length≤1000000)(ha:Bss w x as_)(hb:Bss w y bs):
  Calls Tryz.prog 73 #[x,y,.func (.func 74) #[] #[]] w fun r w'=>r= .returned (.bool (decide (as_=bs)))∧w'=w:=by
 have eg:∀ args w,(callFunc 74 args).run Tryz.prog w= .ok (.enter 74 args) w:=enters_of Tryz.func74 (by kernel_rfl) rfl
 obtain⟨a,ca,rfl,ha'⟩:=ha.at
 obtain⟨b,cb,rfl,hb'⟩:=hb.at
 have HA:=za ha'
 have HB:=za hb'
 clear ha hb ha' hb'
 rw [← hl]
 have HLL:=za hl
 have hbl:as_.length≤bs.length:=by omega
 have hbl2:bs.length≤as_.length:=by omega
 clear hl
 go_enter Tryz.func73,Tryz.ntmps73
 go_wp2_with fail
 go_loopw [7,8,9,17] (fun _ _ _ s wr=>∃ k:Nat,k≤as_.length∧s= .int .i64 k∧wr=w∧∀ j (h:j < as_.length),j < k→as_[j]=bs[j]'(by omega)) (fun _ _ _ s _=>as_.length - (intOf s).toNat)
 case atStart=>exact⟨0,Nat.zero_le _,rfl,rfl,fun j _ h=>absurd h (Nat.not_lt_zero _)⟩
 case round =>
  obtain⟨k,hk,rfl,rfl,hno⟩:=hrel
  have HN:=za hno
  clear hno
  by_cases hlt:k < as_.length
  ·obtain⟨b1,o1,rfl,hc1,x1,cx,bx⟩:=HA.o k hlt
   obtain⟨b2,o2,rfl,hc2,y1,cy,by_⟩:=HB.o k (by omega)
   obtain⟨u1,m1,n1,rfl⟩:∃ u m n,x1= .slice u m n:=by obtain⟨u,c,e,-⟩:=bx;exact⟨_,_,_,e⟩
   obtain⟨u2,m2,n2,rfl⟩:∃ u m n,y1= .slice u m n:=by obtain⟨u,c,e,-⟩:=by_;exact⟨_,_,_,e⟩
   have hlt2:k < bs.length:=by omega
   have hcall:=z64 _ _ _ _ wr bx by_
   clear bx by_
   by_cases he:as_[k]=bs[k]
   ·rw [show decide (as_[k]=bs[k])=true by simp [he]] at hcall
    have HN':Hid (∀ j (h:j < as_.length),j < k+1→as_[j]=bs[j]'(by omega)):=fun j h hj=>by
     by_cases e:j=k
     ·subst e;exact he
     ·exact HN.o j h (by omega)
    clear he HN
    go_wp2_with (go_at_fn 74;refine hcall.mono ?_;rintro e w' ⟨rfl,rfl⟩)
    go_roundw
    case rel =>
     exact⟨k+1,by omega,by go_num,by first | trivial | rfl,HN'.o⟩
    case measure=>simp [intOf];omega
   ·rw [show decide (as_[k]=bs[k])=false by simp [he]] at hcall
    have HR:Hid (decide (as_=bs)=false):=by
     show decide (as_=bs)=false
     simp only [decide_eq_false_iff_not]
     rintro rfl
     exact he rfl
    clear he HN
    go_wp2_with (go_at_fn 74;refine hcall.mono ?_;rintro e w' ⟨rfl,rfl⟩)
    go_ret
    exact⟨by rw [HR.o];rfl,rfl⟩
  ·have HR:Hid (decide (as_=bs)=true):=by
    show decide (as_=bs)=true
    simp only [decide_eq_true_eq]
    exact List.ext_getElem HLL.o (fun j h1 h2=>HN.o j h1 (by omega))
   go_wp2_with fail
   go_ret
   exact⟨by rw [HR.o];rfl,rfl⟩
end
section
set_option maxHeartbeats 1000000
open Go.RowKit
set_option maxRecDepth 100000
theorem zrc {w:World}{v:Value}{l:List UInt8}(h:Bq w v l):∃ a n c,v= .slice a n c:=by
 obtain⟨g,cap,C,fr,rfl,-⟩:=h
 exact⟨_,_,_,rfl⟩
theorem Ext.undrew {O:Nat→Prop}{w w':World}:∀ k,Ext O w.drew w' k→Ext O w w' k:=fun _ h=>h
theorem z2g (O:Nat→Prop)(db lb B1 B2 B3:Nat)(d:Dk)(p x:List UInt8)(v:Value)(w:World)(hn:d.fs.length≤1000000000)(h:zm w O db d)(hv:Bq w v x)
  (h1:w.cell? ⟨B1,0,none⟩=some (.pointer (some ⟨lb,0,none⟩))) (h2:w.cell? ⟨B2,0,none⟩=some (txv p)) (h3:w.cell? ⟨B3,0,none⟩=some v) (hst:w.cell? ⟨lb,0,none⟩=some (stV db true)) :
  Calls Tryz.prog 163 #[.pointer (some ⟨B1,0,none⟩),.pointer (some ⟨B2,0,none⟩),.pointer (some ⟨B3,0,none⟩)] w fun r w'=>∃ e,r= .returned e∧zcc (zfv d p x) w.heap.size e w'∧zf O dT w w'∧zm w' (Ext O w w') db (zab d p x):=by
 unfold stV vv at hst
 simp only [if_true] at hst
 unfold txv at h2
 have HD:=za h
 have HV:=za hv
 clear h hv
 have hm:=z12
 go_enter Tryz.func163,Tryz.ntmps163
 go_wp2_with fail
 go_region_with (go_at_call 234;refine(z7o O db d p x v _ hn (by exact HD.o) (by exact HV.o)).mono ?_;rintro r w1 ⟨e,rfl,ho,ht,hd⟩;have HO:=za ho;have HT:=za ht;have HDD:=za hd;clear ho ht hd)
 all_goals go_wp2
 all_goals go_ret
 all_goals exact⟨_,rfl,HO.o,HT.o.undrew,HDD.o.mono Ext.undrew⟩
theorem zwl {O:Nat→Prop}{w W3 W4 w' w5:World}{db:Nat}{d':Dk}{b:Bool}{p:List UInt8}{e:Value}{r:Ending}(hbl:Below w.heap.size w W4)(h3:w.heap.size≤W3.heap.size)(h0:W4.heap[W3.heap.size]?=some (.cells #[.nilIface] 70 (0,0)))
  (ho:zcc b W4.heap.size e w') (ht:zf O dT W4 w') (hd:zm w' (Ext O W4 w') db d')
  (h:(e= .nilIface∧r= .returned .nilIface∧w5=w'.setCell ⟨W3.heap.size,0,none⟩ .nilIface)∨((∃ g,e=zar g)∧r= .returned (xm w'.heap.size)∧w5=(w'.alloc (.cells #[txv p,e] 115)).setCell ⟨W3.heap.size,0,none⟩ (xm w'.heap.size))) :
  ∃ e',r= .returned e'∧zbd b p w.heap.size e' w5∧zf O dT w w5∧zm w5 (Ext O w w5) db d':=by
 have tw:zf O dT w w':=(zf.of_below hbl).trans (ht.mono (fun _ h=> .inl h) (fun _ h=>h))
 have q0:=ht.keep h0 (by decide)
 have hw4:w.heap.size≤W4.heap.size:=hbl.size
 have hx:∀ k,Ext O W4 w' k→Ext O w w' k:=by
  rintro k (h | h)
  ·exact .inl h
  ·exact .inr (by omega)
 rcases h with ⟨rfl,rfl,rfl⟩ | ⟨⟨g',rfl⟩,rfl,rfl⟩
 ·have hb:b=false:=by
   rcases ho with ⟨h,-⟩ | ⟨-,g,h,-⟩
   ·exact h
   ·simp [zar] at h
  have tB:=vq q0 (by decide) .nilIface
  exact⟨_,rfl,.inl ⟨hb,rfl⟩,tw.setNew h3 _ _,((hd.mono hx).stay tB (by decide) (by decide)).mono (Ext.more (by simp [World.setCell]))⟩
 ·have hb:b=true∧zng w' g':=by
   rcases ho with ⟨-,h⟩ | ⟨h,g,h',-,h2⟩
   ·simp [zar] at h
   ·simp [zar] at h'
    exact⟨h,h'▸h2⟩
  have tP:zf (fun _=>True) cT w' (w'.alloc (.cells #[txv p,zar g'] 115)):=(zf.refl _ _ _).alloc _
  have tB:=vq (zc (o:= .cells #[txv p,zar g'] 115) q0) (by decide) (xm w'.heap.size)
  refine⟨_,rfl,.inr ⟨hb.1,_,rfl,tw.size,g',tB.keep (heap_alloc_last _ _) (by decide),(hb.2.turn tP (by decide)).turn tB (by decide)⟩,(tw.alloc _).setNew h3 _ _,(((hd.mono hx).stay tP (by decide) (by decide)).stay tB (by decide) (by decide)).mono (Ext.more (by simp [World.setCell]))⟩
theorem z3n (O:Nat→Prop)(db lb:Nat)(d:Dk)(p x:List UInt8)(v:Value)(w:World)(hn:d.fs.length≤1000000000)(h:zm w O db d)(hv:Bq w v x)(hst:w.cell? ⟨lb,0,none⟩=some (stV db true)):
  Calls Tryz.prog 123 #[.pointer (some ⟨lb,0,none⟩),txv p,v] w fun r w'=>∃ e,r= .returned e∧zbd (zfv d p x) p w.heap.size e w'∧zf O dT w w'∧zm w' (Ext O w w') db (zab d p x):=by
 have hmf:∀(fn:Fn) (first cap:Array Value) (w:World),(Instr.makeFunc fn first cap).run Tryz.prog w= .ok (.func fn first cap) w:=fun _ _ _ _=>rfl
 have eg:∀ args w,(callFunc 163 args).run Tryz.prog w= .ok (.enter 163 args) w:=enters_of Tryz.func163 (by kernel_rfl) rfl
 obtain⟨a,n,c,rfl⟩:=zrc hv
 have HD:=za h
 have HV:=za hv
 have HS:=za hst
 clear h hv hst
 have htx:txv p= .string ⟨p.toArray⟩:=rfl
 rw [htx]
 go_enter Tryz.func123,Tryz.ntmps123
 go_wp2_with fail
 obtain⟨s3,p1,p2,p3,hb3⟩:=zp2 w (.cells #[.pointer (some ⟨lb,0,none⟩)] 68) (.cells #[.string ⟨p.toArray⟩] 9) (.cells #[.slice a n c] 76)
 generalize (((w.alloc (.cells #[.pointer (some ⟨lb,0,none⟩)] 68)).alloc (.cells #[.string ⟨p.toArray⟩] 9)).alloc (.cells #[.slice a n c] 76))=W3 at *
 have S3:=za s3
 have hcall:=z2g O db lb w.heap.size (w.heap.size+1) (w.heap.size+1+1) d p x (.slice a n c) (W3.alloc (.cells #[.nilIface] 70)) hn
  (HD.o.stay (O1:=fun _=>False) (T:=[]) ((zf.of_below hb3).alloc _) (by simp) (by simp)) ((HV.o.below hb3).below (ze _ _))
  (zg (zc p1) 0 _ rfl).1 (zg (zc p2) 0 _ rfl).1 (zg (zc p3) 0 _ rfl).1 (by rw [zk _ _ ⟨_,0,none⟩ (Nat.lt_of_lt_of_le (zj HS.o) hb3.size),hb3.cell (p:=⟨lb,0,none⟩) (zj HS.o)];exact HS.o)
 have H0:Hid ((W3.alloc (.cells #[.nilIface] 70)).heap[W3.heap.size]?=some (.cells #[.nilIface] 70 (0,0))):=heap_alloc_last _ _
 have hbl:Hid (Below w.heap.size w (W3.alloc (.cells #[.nilIface] 70))):=hb3.alloc (by omega) _
 refine(zq1 p 163 _ W3 (fun e w'=>zcc (zfv d p x) (W3.alloc (.cells #[.nilIface] 70)).heap.size e w'∧zf O dT (W3.alloc (.cells #[.nilIface] 70)) w'∧zm w' (Ext O (W3.alloc (.cells #[.nilIface] 70)) w') db (zab d p x)) eg hcall ?_).mono ?_
 ·rintro e w' ⟨ho,ht,-⟩
  exact⟨zkl ho,ht.keep H0.o (by decide)⟩
 clear hcall p1 p2 p3 hb3 s3
 generalize W3.alloc (.cells #[.nilIface] 70)=W4 at *
 have h34:w.heap.size≤W3.heap.size:=by have:=S3.out;omega
 rintro r w5 ⟨e,w',⟨ho,ht,hd⟩,h⟩
 have HE:=za (zwl hbl.out h34 H0.o ho ht hd h)
 clear ho ht hd h
 obtain⟨e',he'⟩:=HE.o
 obtain rfl:=he'.1
 have HX:=za he'.2
 clear he' HE
 go_wp2_with fail
 go_ret
 exact⟨_,rfl,HX.o⟩
end
end Go.Proofs.YtinhekmmdlhfkaaGreatDoor
