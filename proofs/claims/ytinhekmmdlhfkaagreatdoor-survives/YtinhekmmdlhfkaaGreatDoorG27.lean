import Derived.Test.YtinhekmmdlhfkaaGreatDoorG26
import Derived.Deep.CutRange
namespace Go.Proofs.YtinhekmmdlhfkaaGreatDoor
section
set_option maxHeartbeats 1000000
open Go.RowKit
set_option maxRecDepth 100000
attribute [local go_sem ↓] yq yk yt yp yn yo yu yl
abbrev zbw:Array Value:=#[.bool false,.bool false,.int .u8 0,.int .u8 0,.int .u8 0,.int .u8 0,.int .u8 0,.int .u8 0,.int .u8 0,.int .u8 0,.slice none 0 0]
def zqf (w wx:World)(A:Nat→Prop)(LN:LsN)(p:Pl)(f:Fl)(fb:Nat):Prop:=∃ xs,zn wx fb xs∧FOk xs∧j4 wx xs f∧((A fb∧∃ b,LN.get p=some (b,zt fb))∨(LN.get p=none∧w.heap.size+2≤fb))
theorem z5d {w wc w4:World}{A:Nat→Prop}{LN:LsN}{p:Pl}{f:Fl}{xs:List Px}{pb:Nat}(hg:LN.get p=none)(hz:w.heap.size+1≤pb∧pb < wc.heap.size)(hc:Below w.heap.size w wc)(h4:Below wc.heap.size wc w4)(hf:zn (w4.alloc (.cells qh zr)) w4.heap.size Fx.no)(hk:FOk xs)(hi:j4 w xs f):
  zqf w ((w4.alloc (.cells qh zr)).setCells w4.heap.size 0 (fcs xs)) A LN p f w4.heap.size:=by
 have h1:=h4.size
 have hb:Below w.heap.size w ((w4.alloc (.cells qh zr)).setCells w4.heap.size 0 (fcs xs)):=hc.trans ((zu (h4.alloc h4.size _) h4.size _ _).mono hc.size)
 exact⟨xs,xt hf Fx.no_ok hk,hk,hi.below hb,.inr ⟨hg,by omega⟩⟩
theorem z7c {w wc w4:World}{A:Nat→Prop}{LN:LsN}{p:Pl}{f:Fl}{xs:List Px}{pb:Nat}(hg:LN.get p=none)(hz:w.heap.size+1≤pb∧pb < wc.heap.size)(hc:Below w.heap.size w wc)(h4:Below (wc.alloc (.cells qh zr)).heap.size (wc.alloc (.cells qh zr)) w4)(hf:zn w4 wc.heap.size Fx.no)(hk:FOk xs)(hi:j4 w xs f):
  zqf w (w4.setCells wc.heap.size 0 (fcs xs)) A LN p f wc.heap.size:=by
 have hb:Below w.heap.size w (w4.setCells wc.heap.size 0 (fcs xs)):=hc.trans ((zu ((ze wc _).trans (h4.mono (by simp))) (Nat.le_refl _) _ _).mono hc.size)
 exact⟨xs,xt hf Fx.no_ok hk,hk,hi.below hb,.inr ⟨hg,by omega⟩⟩
theorem CS.next {W0 w:World}{O A OP:Nat→Prop}{cb nb db pm nm:Nat}{C:Array Value}{d:Dk}{room:Int}{pr:Mm}{m:Ms Nt}{k:Nat}(h:CS W0 w O A OP cb nb db pm nm C d room pr m k){w':World}(ht:zf (fun b=>O b∨A b) qT w w')(m':Ms Nt)(k':Nat)
  (hn:j5 w' O nb db m'.net) (hs:NSt d m'.net) (hf:m'.net.fetches+2*k' < 4611686018427387904) (hnd:zf0 w' (Ext A w w') nm m'.needed) (hsh:m'.needed.length+k'≤1000000000):CS W0 w' O (Ext A w w') OP cb nb db pm nm C d room pr m' k':=by
 have hsz:=ht.size
 refine⟨h.base.trans (ht.below h.own h.base.size),?_,?_,?_,h.disk.stay ht (by decide) (by decide),hn,hs,hf,ht.keep h.cli (by decide),h.cells,h.prv.stay ht h.away (by decide) (fun _ h=>h),?_,hnd,hsh⟩
 ·rintro b (hb | hb | hb)
  ·exact h.own b (.inl hb)
  ·exact h.own b (.inr hb)
  ·exact Nat.le_trans h.base.size hb.1
 ·rintro b hb (hA | hA)
  ·exact h.apart b hb hA
  ·have:=h.lt b (.inl hb);omega
 ·rintro b (hb | (hb | hb) | hb)
  ·exact Nat.lt_of_lt_of_le (h.lt b (.inl hb)) hsz
  ·exact Nat.lt_of_lt_of_le (h.lt b (.inr (.inl hb))) hsz
  ·exact hb.2
  ·exact Nat.lt_of_lt_of_le (h.lt b (.inr (.inr hb))) hsz
 ·rintro b hb (hO | hA | hA)
  ·exact h.away b hb (.inl hO)
  ·exact h.away b hb (.inr hA)
  ·have:=h.lt b (.inr (.inr hb));omega
theorem zu3 {σ:Type}{fe:σ→List UInt8→(List UInt8×Bool)×σ}{proved:Mm}{size:Nat}{m:Ms σ}{l:Int}{j:Nat}{s:σ}(h1:((yx proved m.needed (zi size l j)).getD (j % 4) .no).there=false)(h2:qy fe m.net (zi size l j)=(none,s)):xu fe proved size m l j=(.inl (zdw (zi size l j)),{ m with net:=s }):=by
 unfold xu
 rw [if_neg (by rw [h1];simp),h2]
theorem zto {xs ys:List Px}(hx:FOk xs)(hy:FOk ys):FOk (zgy xs ys):=by rw [← zhb hx hy];exact zg4 hx hy 4
theorem zq8 {w:World}{xs ys:List Px}{f g:Fl}(h:j4 w xs f)(h':j4 w ys g):j4 w (zgy xs ys) (zb1 f g):=by
 obtain⟨a1,a2,a3⟩:=h
 obtain⟨b1,b2,b3⟩:=h'
 refine⟨by simp [zgy,a1,b1],by simp [zb1,a2,b2],fun k hk=>?_⟩
 have e1:(zgy xs ys).getD k .no=if (xs.getD k .no).fits then xs.getD k .no else ys.getD k .no:=by
  unfold zgy
  have h1:k < xs.length:=by omega
  have h2:k < ys.length:=by omega
  simp only [List.getD_eq_getElem?_getD,List.getElem?_zipWith,List.getElem?_eq_getElem h1,List.getElem?_eq_getElem h2,Option.getD_some]
 rw [e1,zbt f g (by rw [a2,b2]) k (by omega),(a3 k hk).fits]
 split
 ·exact a3 k hk
 ·exact b3 k hk
theorem vt.keep {w w':World}{O1 A:Nat→Prop}{T:List Nat}{mb:Nat}{room:Int}{L:LsN}(h:vt w A mb room L)(ht:zf O1 T w w')(h1:LkN∉T)(h2:MeN∉T)(hm:∀ k,A k→O1 k→∃ c t x,w.heap[k]?=some (.cells c t x)):vt w' A mb room L:=by
 obtain⟨hb,eb,nx,pv,h⟩:=h
 refine⟨hb,eb,nx,pv,h.own,ht.keep h.mem h2,⟨ht.keep h.ring.ends h1,fun x hx=>ht.keep (h.ring.link x hx) h1,h.ring.circ⟩,h.map.same ?_,h.ok⟩
 rcases ht.block hb h.map.lt with e | ⟨e,-⟩
 ·exact e
 ·obtain⟨c,t,x,e2⟩:=hm hb h.own.2.1 e
  exact absurd rfl (h.map.not e2)
theorem zxb {σ:Type}{fe:σ→List UInt8→(List UInt8×Bool)×σ}{proved:Mm}{size:Nat}{m:Ms σ}{l:Int}{j:Nat}(h1:((yx proved m.needed (zi size l j)).getD (j % 4) .no).there=true):xu fe proved size m l j=(.inr ((qx (yx proved m.needed (zi size l j)) (j % 4)).getD (j % 4) .no),{ m with needed:=m.needed.drop (zi size l j)++[(zi size l j,qx (yx proved m.needed (zi size l j)) (j % 4))] }):=by
 unfold xu
 rw [if_pos h1]
theorem zu4 {σ:Type}{fe:σ→List UInt8→(List UInt8×Bool)×σ}{proved:Mm}{size:Nat}{m:Ms σ}{l:Int}{j:Nat}{s:σ}{came:Fl}(h1:((yx proved m.needed (zi size l j)).getD (j % 4) .no).there=false)(h2:qy fe m.net (zi size l j)=(some came,s)):xu fe proved size m l j=(.inr ((qx (zb1 (yx proved m.needed (zi size l j)) came) (j % 4)).getD (j % 4) .no),{ net:=s,needed:=m.needed.drop (zi size l j)++[(zi size l j,qx (zb1 (yx proved m.needed (zi size l j)) came) (j % 4))] }):=by
 unfold xu
 rw [if_neg (by rw [h1];simp),h2]
def z6c (X wx:World)(O:Nat→Prop)(nb db fb:Nat)(d:Dk)(n:Nt)(F:Fl)(p:Pl)(kk:Nat):Prop :=
 ∃ ys F' n',zf (fun b=>O b∨b=fb) [85,3,zr] X wx∧j5 wx O nb db n'∧zn wx fb ys∧FOk ys∧j4 wx ys F' ∧
  (((F.getD kk .no).there=true∧n'=n∧F'=F)∨((F.getD kk .no).there=false∧∃ came,qy (zq d.fs) n p=(some came,n')∧F'=zb1 F came))
theorem z29 {W0 w X Y V w8:World}{at_:Nat→Addr}{O A OP:Nat→Prop}{cb nb db pm nm:Nat}{C:Array Value}{d:Dk}{room:Int}{pr:Mm}{m:Ms Nt}{k size:Nat}{l:Int}{j:Nat}(h:CS W0 w O A OP cb nb db pm nm C d room pr m (k+1)){LN:LsN}(hnd:qo (NdR w A) LN m.needed)(hndup:(LN.map (·.2.2)).Nodup)
  (hbx:Below w.heap.size w X) (hwx:w.heap.size < X.heap.size) {fb:Nat} {xs:List Px} (hfx:zn X fb xs) (hfb:(A fb∧∃ b,LN.get (zi size l j)=some (b,zt fb))∨(LN.get (zi size l j)=none∧w.heap.size+2≤fb)) (ht:zf (fun b=>O b∨b=fb) [85,3,zr] X Y) (ht8:zf (fun b=>b=fb) [zr] Y V) (htp:zf A [LkN] V w8) {nbb:Nat} (hnb:V.heap.size≤nbb∧nbb < w8.heap.size)
  (hm8:vt w8 (Ext A V.drew w8) nm zbe (zxo zbe (LN.drop (zi size l j)++[(nbb,zi size l j,.pointer (some ⟨fb,0,none⟩))]))) (hlen:LN.length≤1000000000000) {ys:List Px} {z:Px} {kk:Nat} (hf8:zn V fb (ys.set kk z)) (hky:FOk (ys.set kk z)) {F':Fl} (hyv:j4 V ys F') (hz:z={ ys.getD kk .no with fits:=true }) (hzk:z.ok) (hkk:kk=j % 4) (hk4:kk < 4) {n':Nt} (hnv:j5 V O nb db n')
  (hstep:((((yx pr m.needed (zi size l j)).getD kk .no).there=true∧n'=m.net∧F'=yx pr m.needed (zi size l j))∨(((yx pr m.needed (zi size l j)).getD kk .no).there=false∧∃ came,qy (zq d.fs) m.net (zi size l j)=(some came,n')∧F'=zb1 (yx pr m.needed (zi size l j)) came)))
  (hr8:w8.heap[w.heap.size]?=some (.cells Px.no.cs.toArray qr (0,0))) :
  zf (fun b=>O b∨A b) qT w (w8.setCells w.heap.size 0 z.cs)∧CS W0 (w8.setCells w.heap.size 0 z.cs) O (Ext A w (w8.setCells w.heap.size 0 z.cs)) OP cb nb db pm nm C d room pr (xu (zq d.fs) pr size m l j).2 k∧z7r at_ (w8.setCells w.heap.size 0 z.cs) (xu (zq d.fs) pr size m l j).1 (.returned (.tuple #[.agg z.cs.toArray,.nilIface])):=by
 have hT9:zf (fun b=>b=w.heap.size) [qr] w8 (w8.setCells w.heap.size 0 z.cs):=(zf.refl (fun b=>b=w.heap.size) [qr] w8).setCells (.inl rfl) hr8 (by simp) _ _
 have hsz9:(w8.setCells w.heap.size 0 z.cs).heap.size=w8.heap.size:=j6 _ _
 have s1:=hbx.size
 have s2:=ht.size
 have s3:=ht8.size
 have s4:=htp.size
 have hfw:A fb∨w.heap.size+2≤fb:=hfb.imp (·.1) (·.2)
 have hfl:fb < X.heap.size:=zb hfx
 have hT:zf (fun b=>O b∨A b) qT w w8:=by
  have a1:zf (fun b=>O b∨A b) qT w X:= .of_below hbx
  have a2:=a1.trans (ht.mono (fun b hb=>by
   rcases hb with hb | rfl
   ·exact Or.inl (Or.inl hb)
   ·rcases hfw with hA | hA
    ·exact Or.inl (Or.inr hA)
    ·exact Or.inr ⟨by omega,hfl⟩) (by decide))
  have a3:=a2.trans (ht8.mono (fun b hb=>by
   subst hb
   rcases hfw with hA | hA
   ·exact Or.inl (Or.inr hA)
   ·exact Or.inr ⟨by omega,by omega⟩) (by decide))
  exact a3.trans (htp.mono (fun b hb=>Or.inl (Or.inr hb)) (by decide))
 have hTw:zf (fun b=>O b∨A b) qT w (w8.setCells w.heap.size 0 z.cs):=hT.setCellsNew (Nat.le_refl _) _ _
 generalize w8.setCells w.heap.size 0 z.cs=w9 at *
 have hkey:(xu (zq d.fs) pr size m l j)=(.inr ((qx F' kk).getD kk .no),{ net:=n',needed:=m.needed.drop (zi size l j)++[(zi size l j,qx F' kk)] })∧NSt d n'∧n'.fetches≤m.net.fetches+2:=by
  rcases hstep with ⟨e1,rfl,rfl⟩ | ⟨e1,came,e2,rfl⟩
  ·rw [hkk] at e1 ⊢
   exact⟨zxb e1,h.st,by omega⟩
  ·rw [hkk] at e1 ⊢
   have:=(zi0 d.fs m.net (zi size l j)).2
   have h2:=h.st.file (zi size l j)
   rw [e2] at this h2
   exact⟨zu4 e1 e2,h2,this⟩
 obtain⟨hkey,hst,hft⟩:=hkey
 have hzis:j4 w9 (ys.set kk z) (qx F' kk):=by
  have hv:j4 V (ys.set kk z) (qx F' kk):=by
   refine⟨hky.1,by rw [zio];exact hyv.2.1,fun i hi=>?_⟩
   have e1:(ys.set kk z).getD i .no=if i=kk then z else ys.getD i .no:=by
    simp only [List.getD_eq_getElem?_getD,List.getElem?_set,hyv.1]
    by_cases hik:kk=i
    ·subst hik;simp [hk4]
    ·have:¬ i=kk:=fun e=>hik e.symm
     simp [hik,this]
   rw [e1,zag]
   by_cases hik:i=kk
   ·rw [if_pos hik,if_pos ⟨hik,by rw [hyv.2.1];exact hk4⟩,hz,hik]
    have:=hyv.2.2 kk hk4
    exact⟨this.there,rfl,this.hash,this.ent⟩
   ·rw [if_neg hik,if_neg (by intro hh;exact hik hh.1)]
    exact hyv.2.2 i hi
  exact(hv.turn htp (by decide)).turn hT9 (by decide)
 have hpr:zxo zbe (LN.drop (zi size l j)++[(nbb,zi size l j,.pointer (some ⟨fb,0,none⟩))])=LN.drop (zi size l j)++[(nbb,zi size l j,zt fb)]:=by
  unfold zxo
  rw [if_neg]
  ·rfl
  ·have:(LN.drop (zi size l j)).length≤LN.length:=List.length_filter_le _ _
   simp only [List.length_append,List.length_cons,List.length_nil]
   unfold zbe
   omega
 rw [hpr] at hm8
 have hother:∀ x∈LN.drop (zi size l j),x.2.2≠zt fb:=by
  intro x hx e
  have hx':=List.mem_filter.1 hx
  have hxp:¬ x.2.1=zi size l j:=by simpa using hx'.2
  rcases hfb with ⟨-,b,hg⟩ | ⟨-,hn⟩
  ·have hmem:=ze8 hg
   have hpw:=List.pairwise_map.1 hndup
   obtain⟨i1,hi1,e1⟩:=List.getElem_of_mem hx'.1
   obtain⟨i2,hi2,e2⟩:=List.getElem_of_mem hmem
   have hpi:=List.pairwise_iff_getElem.1 hpw
   rcases Nat.lt_trichotomy i1 i2 with hlt | heq | hgt
   ·exact hpi i1 i2 hi1 hi2 hlt (by rw [e1,e2];exact e)
   ·subst heq
    rw [e1] at e2
    exact hxp (by rw [e2])
   ·exact hpi i2 i1 hi2 hi1 hgt (by rw [e1,e2];exact e.symm)
  ·obtain⟨y,-,hr⟩:=hnd.mem x hx'.1
   obtain⟨fb2,xs2,e2,-,hf2,-⟩:=hr.2
   rw [e2] at e
   have:=zrz e
   have:=zb hf2
   omega
 rw [hkey]
 refine⟨hTw,h.next hTw _ k ((hnv.turn htp (by decide) (by decide) (by decide)).turn hT9 (by decide) (by decide) (by decide)) hst (by have:=h.few;simp only;omega) ?_ ?_,.inl ⟨z,_,rfl,hzk,?_,rfl⟩⟩
 ·refine⟨LN.drop (zi size l j)++[(nbb,zi size l j,zt fb)],?_,?_,?_⟩
  ·refine hm8.stay hT9 ?_ ?_
   ·rintro b hb rfl
    rcases hb with hb | hb
    ·have:=h.lt _ (.inr (.inl hb));omega
    ·have:V.drew.heap.size=V.heap.size:=rfl
     omega
   ·rintro b (hb | hb)
    ·exact .inl hb
    ·have:V.drew.heap.size=V.heap.size:=rfl
     exact .inr ⟨by omega,by omega⟩
  ·refine qo.snoc ?_ ⟨rfl,fb,ys.set kk z,rfl,?_,hT9.keep (htp.keep hf8 (by decide)) (by decide),hky,hzis⟩
   ·refine(hnd.filter _ _ (fun a b hr=>by rw [hr.1])).mono (fun x hx y hr=>⟨hr.1,?_⟩)
    obtain⟨fb2,xs2,e2,hA2,hf2,hk2,hi2⟩:=hr.2
    have hne:fb2≠fb:=fun e=>hother x hx (by rw [e2,e])
    have f1:zn X fb2 xs2:=(hbx.block _ (zb hf2)).trans hf2
    have f2:zn Y fb2 xs2:=ht.stay f1 (by
     rintro(hO | e)
     ·exact h.apart _ hO hA2
     ·exact hne e)
    have f3:zn V fb2 xs2:=ht8.stay f2 hne
    refine⟨fb2,xs2,e2,.inl hA2,hT9.keep (htp.keep f3 (by decide)) (by decide),hk2,?_⟩
    exact((((hi2.below hbx).turn ht (by decide)).turn ht8 (by decide)).turn htp (by decide)).turn hT9 (by decide)
   ·rcases hfw with hA | hA
    ·exact .inl hA
    ·exact .inr ⟨by omega,by omega⟩
  ·rw [List.map_append,List.nodup_append]
   refine⟨(List.filter_sublist.map _).nodup hndup,by simp,?_⟩
   intro v hv u hu
   simp only [List.map_cons,List.map_nil,List.mem_singleton] at hu
   subst hu
   obtain⟨x,hx,rfl⟩:=List.mem_map.1 hv
   exact hother x hx
 ·have hd:(m.needed.drop (zi size l j)).length≤m.needed.length:=List.length_filter_le _ _
  have:=h.short
  simp only [List.length_append,List.length_cons,List.length_nil]
  omega
 ·have:=hzis.2.2 kk hk4
  have e1:(ys.set kk z).getD kk .no=z:=by
   have:kk < ys.length:=by rw [hyv.1];exact hk4
   simp [List.getD_eq_getElem?_getD,this]
  rw [e1] at this
  exact this
theorem qk {B:Nat}{a w:World}(h:Below B a.drew w):Below B a w:=⟨h.os,h.tape,h.output,h.size,h.block⟩
theorem zro (W0:World)(at_:Nat→Addr)(O A OP:Nat→Prop)(cb nb db pm nm:Nat)(C:Array Value)(d:Dk)(room:Int)(pr:Mm)(m:Ms Nt)(k size:Nat)(l:Int)(j:Nat)(hsz:size < 9223372036854775808)(hl1:-1≤l)(hl2:l≤100)(hj:j < zz l size)(w:World)(hE:Env W0)(hS:qm W0 at_)
  (h:CS W0 w O A OP cb nb db pm nm C d room pr m (k+1)) :
  Calls Tryz.prog 101 #[zt cb,.int .i64 size,.int .i64 l,.int .i64 j] w fun r w' =>
   zf (fun b=>O b∨A b) qT w w'∧CS W0 w' O (Ext A w w') OP cb nb db pm nm C d room pr (xu (zq d.fs) pr size m l j).2 k∧z7r at_ w' (xu (zq d.fs) pr size m l j).1 r:=by
 have hjs:j < 9223372036854775808:=Nat.lt_trans (Nat.lt_of_lt_of_le hj (zc2 l size)) hsz
 obtain⟨wd,hpl,hw1,hw4,hwc⟩:=zno size l j hj
 obtain⟨kk,hkk⟩:∃ kk,kk=j % 4:=⟨_,rfl⟩
 obtain⟨q,hq⟩:∃ q,q=j / 4:=⟨_,rfl⟩
 have hrem:(j:Int) % 4=(kk:Int):=by omega
 have HKK:=za hkk
 have HQ:=za hq
 have hk4:kk < 4:=by omega
 rw [← hq] at hpl hwc
 have HK4:=za hk4
 have HPL:=za hpl
 have HH:=za h
 have HE:=za hE
 have HS:=za hS
 obtain⟨LN,hmn,hnd,hndup⟩:=h.nee
 obtain⟨LP,hmp,hpr⟩:=h.prv
 have HMN:=za hmn
 have HND:=za hnd
 have HNDUP:=za hndup
 have HMP:=za hmp
 have HPR:=za hpr
 have HJ:=za hj
 have HJS:=za hjs
 have HW:Hid (1≤wd∧wd≤4∧4*q+wd≤zz l size):=⟨hw1,hw4,hwc⟩
 have HPIN:=za (fun w=>zbs size hsz l hl1 hl2 j hjs w)
 have hpok:zcb (zi size l j):=by
  rw [hpl]
  refine⟨⟨by simp only;omega,by simp only;omega⟩,⟨by simp only;omega,by simp only;omega⟩,⟨by simp only;omega,by simp only;omega⟩⟩
 have HPOK:=za hpok
 clear h hE hS hmn hnd hndup hmp hpr hj hjs hpok hw1 hw4 hwc hk4 hpl hkk hq
 have HPV:Hid (plV (zi size l j)= .agg #[.int .i64 l,.int .i64 (q:Int),.int .i64 (wd:Int)]):=by show _=_;rw [HPL.o];rfl
 unfold zt
 go_enter Tryz.func101,Tryz.ntmps101
 go_wp2_with fail
 refine(HPIN.o _).mono ?_
 rintro r w1 ⟨rfl,hb1⟩
 rw [HPV.o]
 go_wp2_with fail
 rw [hrem]
 clear hrem
 have hB1:Below w.heap.size w w1:=(ze w _).trans (hb1.mono (by simp))
 have HR1:Hid (w1.heap[w.heap.size]?=some (.cells zbw qr (0,0))):=(hb1.block _ (by simp)).trans (heap_alloc_last _ _)
 have hP2:(w1.alloc (.cells #[.int .i64 l,.int .i64 (q:Int),.int .i64 (wd:Int)] 126)).heap[w1.heap.size]?=some (.cells #[.int .i64 l,.int .i64 (q:Int),.int .i64 (wd:Int)] 126 (0,0)):=heap_alloc_last _ _
 have hB2:Below w.heap.size w (w1.alloc (.cells #[.int .i64 l,.int .i64 (q:Int),.int .i64 (wd:Int)] 126)):=hB1.alloc hB1.size _
 have HR2:Hid ((w1.alloc (.cells #[.int .i64 l,.int .i64 (q:Int),.int .i64 (wd:Int)] 126)).heap[w.heap.size]?=some (.cells zbw qr (0,0))):=zc HR1.o
 have HP2:=za hP2
 have HB2:=za hB2
 have HZ1:Hid (w.heap.size+1≤w1.heap.size):=za (by have:=hb1.size;simpa using this)
 clear hb1 hB1 hP2 hB2 HR1
 generalize w1.heap.size=pb at *
 generalize w1.alloc (.cells #[.int .i64 l,.int .i64 (q:Int),.int .i64 (wd:Int)] 126)=W2 at *
 have HC2:Hid (W2.heap[cb]?=some (.cells C qw (0,0))):=(HB2.o.block _ (zb HH.o.cli)).trans HH.o.cli
 go_cut [12,13] from 24 to 32 (fun s12 s13 wx=>Below W2.heap.size W2 wx∧∃ a b,s12= .pointer a∧s13= .bool b∧((b=true∧∃ bb,LN.get (zi size l j)=some (bb,.pointer a))∨(b=false∧a=none∧LN.get (zi size l j)=none)))
 case first =>
  have c14:W2.cell? ⟨cb,14,none⟩=some (.pointer (some ⟨nm,0,none⟩)):=(zg HC2.o 14 _ HH.o.cells.nee).1
  obtain⟨p0,-⟩:=zg HP2.o 0 _ rfl
  obtain⟨p1,-⟩:=zg HP2.o 1 _ rfl
  obtain⟨p2,-⟩:=zg HP2.o 2 _ rfl
  simp only [List.getElem_toArray,List.getElem_cons_zero,List.getElem_cons_succ] at p0 p1 p2
  obtain⟨a,b,hab,hget⟩:∃ a b,((b=true∧∃ bb,LN.get (zi size l j)=some (bb,.pointer a))∨(b=false∧a=none∧LN.get (zi size l j)=none))∧∀ w0,Below w.heap.size w w0→Calls Tryz.prog 144 #[zt nm,plV (zi size l j)] w0 fun r w'=>r= .returned (.tuple #[.pointer a,.bool b])∧Below w0.heap.size w0 w':=by
   rcases zf0.get HND.o (zi size l j) with ⟨g1,g2⟩ | ⟨b,v,f,g1,g2,⟨fb,xs,rfl,-⟩,-⟩
   ·exact⟨none,false,.inr ⟨rfl,rfl,g1⟩,fun w0 hb=>zp3 A nm zbe LN _ HPOK.o w0 (HMN.o.below hb (fun _ h=>h)) g1⟩
   ·exact⟨_,true,.inl ⟨rfl,b,g1⟩,fun w0 hb=>zmy A nm zbe LN _ HPOK.o w0 (HMN.o.below hb (fun _ h=>h)) b _ g1⟩
  have HAB:=za hab
  have HGET:=za hget
  clear hab hget
  unfold zt at HGET
  rw [HPV.o] at HGET
  go_region_with (go_at_call 144;refine(HGET.o _ (by exact HB2.o.drew)).mono ?_;rintro r w3 ⟨rfl,hb3⟩;have HB3:=za hb3;clear hb3)
  all_goals go_wp2_with fail
  all_goals go_meet
  all_goals exact⟨qk HB3.o,a,b,rfl,rfl,HAB.o⟩
 case rest =>
  obtain⟨hbc,a,b,rfl,rfl,hab⟩:=hcut
  obtain⟨W3,hW3⟩:∃ W3,W3=wc:=⟨_,rfl⟩
  subst hW3
  have HAB:=za hab
  have HBC:=za (HB2.o.trans (hbc.mono HB2.o.size))
  have HCC:Hid (W3.heap[cb]?=some (.cells C qw (0,0))):=(hbc.block _ (zb HC2.o)).trans HC2.o
  have HPC:Hid (W3.heap[pb]?=some (.cells #[.int .i64 l,.int .i64 (q:Int),.int .i64 (wd:Int)] 126 (0,0))):=(hbc.block _ (zb HP2.o)).trans HP2.o
  have HRC:Hid (W3.heap[w.heap.size]?=some (.cells zbw qr (0,0))):=(hbc.block _ (zb HR2.o)).trans HR2.o
  have HZC:Hid (w.heap.size+1≤pb∧pb < W3.heap.size):=⟨HZ1.o,zb HPC.o⟩
  clear hbc hab HB2 HC2 HP2 HR2 HZ1
  go_upto_if 34 with fail
  go_cut [12,14,15] from 33 to 43 (fun s12 _ _ wx=>∃ fb,s12= .pointer (some ⟨fb,0,none⟩)∧zqf w wx A LN (zi size l j) (yx pr m.needed (zi size l j)) fb∧Below W3.heap.size W3 wx)
  case first =>
   rcases HAB.o with ⟨rfl,bb,hg⟩ | ⟨rfl,rfl,hg⟩
   ·go_wp2_with fail
    go_meet
    rcases zf0.get HND.o (zi size l j) with ⟨g1,g2⟩ | ⟨b,v,f,g1,g2,⟨fb,xs,rfl,hA,hf,hfk,hfx⟩,-⟩
    ·rw [g1] at hg;simp at hg
    ·rw [g1] at hg
     simp only [Option.some.injEq,Prod.mk.injEq] at hg
     obtain⟨rfl,hg⟩:=hg
     refine⟨fb,hg.symm,⟨xs,(HBC.o.block _ (zb hf)).trans hf,hfk,?_,.inl ⟨hA,_,g1⟩⟩,Below.refl _ _⟩
     unfold yx
     rw [g2]
     exact hfx.below HBC.o
   ·have HG:=za hg
    obtain⟨xs,b,hxk,hxi,hget⟩:∃ xs b,FOk xs∧j4 w xs (yx pr m.needed (zi size l j))∧∀ w0,Below w.heap.size w w0→Calls Tryz.prog 150 #[zt pm,plV (zi size l j)] w0 fun r w'=>r= .returned (.tuple #[.agg (fcs xs).toArray,.bool b])∧Below w0.heap.size w0 w':=by
     have hn:m.needed.get (zi size l j)=none:=by
      rcases zf0.get HND.o (zi size l j) with ⟨g1,g2⟩ | ⟨b,v,f,g1,g2,-,-⟩
      ·exact g2
      ·rw [g1] at hg;simp at hg
     unfold yx
     rw [hn]
     rcases zgl.get HPR.o (zi size l j) with ⟨g1,g2⟩ | ⟨b,xs,f,g1,g2,h3,h4⟩
     ·rw [g2]
      exact⟨Fx.no,false,Fx.no_ok,j4.none w,fun w0 hb=>z7n OP pm room LP _ HPOK.o w0 (HMP.o.below hb (fun _ h=>h)) g1⟩
     ·rw [g2]
      exact⟨xs,true,h3,h4,fun w0 hb=>z3c OP pm room LP _ HPOK.o w0 (HMP.o.below hb (fun _ h=>h)) b _ g1⟩
    have HXK:=za hxk
    have HXI:=za hxi
    have HGET:=za hget
    clear hxk hxi hget hg
    have c13:W3.cell? ⟨cb,13,none⟩=some (.pointer (some ⟨pm,0,none⟩)):=(zg HCC.o 13 _ HH.o.cells.prv).1
    obtain⟨p0,-⟩:=zg HPC.o 0 _ rfl
    obtain⟨p1,-⟩:=zg HPC.o 1 _ rfl
    obtain⟨p2,-⟩:=zg HPC.o 2 _ rfl
    simp only [List.getElem_toArray,List.getElem_cons_zero,List.getElem_cons_succ] at p0 p1 p2
    have c13':∀ o,(W3.alloc o).cell? ⟨cb,13,none⟩=some (.pointer (some ⟨pm,0,none⟩)):=fun o=>by rw [zk _ _ ⟨cb,13,none⟩ (zj c13)];exact c13
    have p0':∀ o,(W3.alloc o).cell? ⟨pb,0,none⟩=some (.int .i64 l):=fun o=>by rw [zk _ _ ⟨pb,0,none⟩ (zj p0)];exact p0
    have p1':∀ o,(W3.alloc o).cell? ⟨pb,1,none⟩=some (.int .i64 (q:Int)):=fun o=>by rw [zk _ _ ⟨pb,1,none⟩ (zj p1)];exact p1
    have p2':∀ o,(W3.alloc o).cell? ⟨pb,2,none⟩=some (.int .i64 (wd:Int)):=fun o=>by rw [zk _ _ ⟨pb,2,none⟩ (zj p2)];exact p2
    unfold zt at HGET
    rw [HPV.o] at HGET
    go_wp2_with fail
    go_region_with (first
     | (go_at_call 150;refine(HGET.o W3.drew (by exact HBC.o.drew)).mono ?_;rintro r w4 ⟨rfl,hb4⟩;have HB4:=za (qk hb4);have hf4:zn (w4.alloc (.cells qh zr)) w4.heap.size Fx.no:=heap_alloc_last w4 _;have hst:=qc (xg hf4 Fx.no_ok) HXK.o.len (ji HXK.o.2);have HF4:=za hf4;clear hb4 hf4)
     | (go_at_call 150;refine(HGET.o (W3.alloc (.cells qh zr)).drew (by exact(HBC.o.alloc HBC.o.size _).drew)).mono ?_;rintro r w4 ⟨rfl,hb4⟩;have HB4:=za (qk hb4);have hf4:zn w4 W3.heap.size Fx.no:=((qk hb4).block _ (by simp)).trans (heap_alloc_last W3 _);have hst:=qc (xg hf4 Fx.no_ok) HXK.o.len (ji HXK.o.2);have HF4:=za hf4;clear hb4 hf4))
    all_goals go_wp2_with fail
    all_goals go_meet
    all_goals (first
     | exact⟨w4.heap.size,rfl,z5d HG.o HZC.o HBC.o HB4.o HF4.o HXK.o HXI.o,zu (HB4.o.alloc HB4.o.size _) HB4.o.size _ _⟩
     | exact⟨W3.heap.size,rfl,z7c HG.o HZC.o HBC.o HB4.o HF4.o HXK.o HXI.o,zu ((ze W3 _).trans (HB4.o.mono (by simp))) (Nat.le_refl _) _ _⟩)
  case rest =>
   obtain⟨fb,rfl,hkn,hbx⟩:=hcut
   obtain⟨X,hX⟩:∃ X,X=wc:=⟨_,rfl⟩
   subst hX
   have HBX:=za (HBC.o.trans (hbx.mono HBC.o.size))
   have HCX:Hid (X.heap[cb]?=some (.cells C qw (0,0))):=(hbx.block _ (zb HCC.o)).trans HCC.o
   have HPX:Hid (X.heap[pb]?=some (.cells #[.int .i64 l,.int .i64 (q:Int),.int .i64 (wd:Int)] 126 (0,0))):=(hbx.block _ (zb HPC.o)).trans HPC.o
   have HRX:Hid (X.heap[w.heap.size]?=some (.cells zbw qr (0,0))):=(hbx.block _ (zb HRC.o)).trans HRC.o
   have HZX:Hid (w.heap.size+1≤pb∧pb < X.heap.size):=⟨HZC.o.1,zb HPX.o⟩
   obtain⟨xs,hfx,hfk,hfi,hfb⟩:=hkn
   have HFX:=za hfx
   have HFK:=za hfk
   have HFI:=za hfi
   have HFB:=za hfb
   clear hfx hfk hfi hfb hbx HAB HBC HCC HPC HRC HZC
   have hkx:kk < xs.length:=by rw [HFK.o.1];exact HK4.o
   have hk4:kk < 4:=HK4.o
   have hgd:xs[kk]=xs.getD kk .no:=by simp [List.getD_eq_getElem?_getD,hkx]
   have h6:=(HFX.o.cell HFK.o.2 hkx (j:=0) (by omega) (v:= .bool xs[kk].there) rfl)
   rw [Nat.add_zero,hgd] at h6
   obtain⟨h6,h6f⟩:=h6
   obtain⟨t,ht⟩:∃ t,(xs.getD kk .no).there=t:=⟨_,rfl⟩
   rw [ht] at h6
   have HTH:=za ht
   clear ht hgd hkx
   have HKX:Hid ((yx pr m.needed (zi size l j)).getD kk .no=(yx pr m.needed (zi size l j)).getD kk .no∧((yx pr m.needed (zi size l j)).getD kk .no).there=t):=⟨rfl,by rw [← (HFI.o.2.2 kk hk4).there];exact HTH.o⟩
   go_upto_if 50 with fail
   go_cut [16,17] from 44 to 63 (fun _ _ wx=>z6c X wx O nb db fb d m.net (yx pr m.needed (zi size l j)) (zi size l j) kk)
   case first =>
    cases t with
    | true =>
     go_wp2_with fail
     go_meet
     exact⟨xs,_,_,zf.refl _ _ _,HH.o.net.below HBX.o,HFX.o,HFK.o,HFI.o,.inl ⟨HKX.o.2,rfl,rfl⟩⟩
    | false =>
     obtain⟨p0,-⟩:=zg HPX.o 0 _ rfl
     obtain⟨p1,-⟩:=zg HPX.o 1 _ rfl
     obtain⟨p2,-⟩:=zg HPX.o 2 _ rfl
     simp only [List.getElem_toArray,List.getElem_cons_zero,List.getElem_cons_succ] at p0 p1 p2
     have hTX:zf O [] w X:= .of_below HBX.o
     have hcnt:=zi0 d.fs m.net (zi size l j)
     rw [HPL.o] at hcnt
     have hfew:=HH.o.few
     have HF:=za (zz3 W0 at_ O nb db cb m.net d l q wd HW.o.1 HW.o.2.1 (by have:=HQ.o;have:=HJS.o;omega) X (HH.o.base.trans (HBX.o.mono HH.o.base.size)) HE.o HS.o (fun b hb=>HH.o.own b (.inl hb)) HH.o.st (by omega) (HH.o.disk.stay hTX (by simp) (by simp)) (HH.o.net.below HBX.o) C HCX.o HH.o.cells.net)
     have HNM:Hid (yr l (q:Int) (wd:Int)=zdw (zi size l j)):=by show _=_;rw [HPL.o];rfl
     rw [← HPL.o,HNM.o] at HF
     clear hcnt hfew hTX
     unfold plV zt at HF
     rw [HPL.o] at HF
     simp only at HF
     rw [← HPL.o] at HF
     go_wp2_with fail
     refine HF.o.mono ?_
     rintro r w5 ⟨ht5,hN5,hg5⟩
     have HT5:=za ht5
     have HN5:=za hN5
     have HTW:Hid (zf O nT w w5):=(zf.of_below HBX.o).trans (ht5.mono (fun _ h=> .inl h) (fun _ h=>h))
     have HF5:Hid (zn w5 fb xs):=ht5.keep HFX.o (by decide)
     have HR5:Hid (w5.heap[w.heap.size]?=some (.cells Px.no.cs.toArray qr (0,0))):=ht5.keep HRX.o (by decide)
     have HG:Hid (∀ ys,FOk ys→(zcd (.pointer (some ⟨w5.heap.size,0,none⟩)) (.agg (fcs ys).toArray)).run Tryz.prog (w5.alloc (.cells qh zr))= .ok () ((w5.alloc (.cells qh zr)).setCells w5.heap.size 0 (fcs ys))∧zn ((w5.alloc (.cells qh zr)).setCells w5.heap.size 0 (fcs ys)) w5.heap.size ys∧Below w5.heap.size w5 ((w5.alloc (.cells qh zr)).setCells w5.heap.size 0 (fcs ys))):=by
      intro ys hy
      have hf4:zn (w5.alloc (.cells qh zr)) w5.heap.size Fx.no:=heap_alloc_last _ _
      exact⟨qc (xg hf4 Fx.no_ok) hy.len (ji hy.2),xt hf4 Fx.no_ok hy,zu (ze _ _) (Nat.le_refl _) _ _⟩
     clear ht5 hN5 p0 p1 p2 h6 h6f HF
     have HST:=za (HH.o.st.file (zi size l j))
     have HCN:=za (zi0 d.fs m.net (zi size l j))
     generalize hFM:qy (zq d.fs) m.net (zi size l j)=FM at *
     have HFM:=za hFM
     clear hFM
     obtain⟨o,n'⟩:=FM
     simp only at *
     rcases hg5 with ⟨ys,f,rfl,hyk,hyi,rfl⟩ | ⟨rfl,g,hgs,hgb,rfl⟩
     ·obtain⟨hst,hf6,hb6⟩:=HG.o ys hyk
      have hld:=vy (yv hf6) hyk.len
      have HB6:=za hb6
      have HF6:Hid (zn ((w5.alloc (.cells qh zr)).setCells w5.heap.size 0 (fcs ys)) fb xs):=(hb6.block _ (zb HF5.o)).trans HF5.o
      have HYK:=za hyk
      have HYI:=za hyi
      clear hyk hyi hf6 hb6 HG
      go_wp2_with fail
      refine(z2w (fun b=>b=fb) fb xs ys HFK.o HYK.o _ rfl HF6.o).mono ?_
      rintro r w7 ⟨rfl,ht7,hf7⟩
      have HT7:=za ht7
      have HF7:=za hf7
      clear ht7 hf7
      go_wp2_with fail
      go_meet
      have hb7:zf (fun b=>O b∨b=fb) [85,3,zr] X w7:=((HT5.o.mono (fun _ h=> .inl h) (by decide)).then_below HB6.o).trans (HT7.o.mono (fun _ h=> .inl (.inr h)) (by decide))
      have hN7:j5 w7 O nb db n':=(HN5.o.below HB6.o).turn HT7.o (by decide) (by decide) (by decide)
      refine⟨_,_,n',hb7,hN7,HF7.o,zto HFK.o HYK.o,zq8 (HFI.o.turn hb7 (by decide)) ((HYI.o.below HB6.o).turn HT7.o (by decide)),.inr ⟨HKX.o.2,f,HFM.o,rfl⟩⟩
     ·obtain⟨hst,hf6,hb6⟩:=HG.o Fx.no Fx.no_ok
      have HB6:=za hb6
      have HR6:Hid (((w5.alloc (.cells qh zr)).setCells w5.heap.size 0 (fcs Fx.no)).heap[w.heap.size]?=some (.cells Px.no.cs.toArray qr (0,0))):=(hb6.block _ (zb HR5.o)).trans HR5.o
      have HG6:Hid (((w5.alloc (.cells qh zr)).setCells w5.heap.size 0 (fcs Fx.no)).heap[g]?=some (.cells #[txv (zdw (zi size l j)),jo at_ 5] 115 (0,0))):=(hb6.block _ (zb hgb)).trans hgb
      have hbp:=fun w0=>zo5 w0
      have hs8:=zbr (jb HR6.o) (Px.cs_len Px.no_ok) (Px.cs_one Px.no_ok)
      have HW8:=za (qz HR6.o (ds:=Px.no.cs) rfl)
      have HTN:=za ((zf.refl (fun b=>b=w.heap.size) [qr] _).setCells (.inl rfl) HR6.o (by simp) Px.no.cs 0)
      have HT8:=za ((HTW.o.then_below hb6).setCellsNew (Nat.le_refl w.heap.size) Px.no.cs 0)
      clear hf6 hb6 HG hgs hgb
      unfold xm
      go_wp2_with fail
      refine bodyPost_ret (v:= .tuple #[.agg Px.no.cs.toArray,xm g]) (zy Tryz.results101 _ _ w.heap.size qr _ (0,0) _ rfl HW8.o Tryz.underlying128 rfl (by rw [zhe];rfl) _ rfl) rfl ?_
      have hnm:=zu3 (by have:=HKX.o.2;rw [HKK.o] at this;exact this) HFM.o
      rw [hnm]
      refine⟨HT8.o.mono (fun _ h=> .inl h) (by decide),HH.o.next (HT8.o.mono (fun _ h=> .inl h) (by decide)) _ _ ((HN5.o.below HB6.o).turn HTN.o (by decide) (by decide) (by decide)) HST.o (by have:=HH.o.few;have:=HCN.o.2;simp only;omega) (HH.o.nee.stay HT8.o (fun b hA hO=>HH.o.apart b hO hA) (by decide) (by decide) (fun _ h=> .inl h)) (by have:=HH.o.short;simp only;omega),.inr ⟨_,g,rfl,HTN.o.keep HG6.o (by decide),rfl⟩⟩
   case rest =>
    obtain⟨Y,hY⟩:∃ Y,Y=wc:=⟨_,rfl⟩
    subst hY
    obtain⟨ys,F',n',ht,hN,hfy,hyk,hyi,hstep⟩:=hcut
    have HT:=za ht
    have HN:=za hN
    have HFY:=za hfy
    have HYK:=za hyk
    have HYI:=za hyi
    have HSTEP:=za hstep
    have HCY:Hid (Y.heap[cb]?=some (.cells C qw (0,0))):=ht.keep HCX.o (by decide)
    have HPY:Hid (Y.heap[pb]?=some (.cells #[.int .i64 l,.int .i64 (q:Int),.int .i64 (wd:Int)] 126 (0,0))):=ht.keep HPX.o (by decide)
    have HRY:Hid (Y.heap[w.heap.size]?=some (.cells Px.no.cs.toArray qr (0,0))):=ht.keep HRX.o (by decide)
    have HMY:Hid (vt Y A nm zbe LN):=(HMN.o.below HBX.o (fun _ h=>h)).keep ht (by decide) (by decide) (fun b hA hO=>by
     rcases hO with hO | rfl
     ·exact absurd hA (HH.o.apart b hO)
     ·exact⟨_,_,_,HFX.o⟩)
    clear ht hN hfy hyk hyi hstep HKX HCX HPX HRX h6 h6f HTH
    have hky:kk < ys.length:=by rw [HYK.o.1];exact HK4.o
    have hgd:ys[kk]=ys.getD kk .no:=by simp [List.getD_eq_getElem?_getD,hky]
    obtain⟨z,hz⟩:∃ z:Px,z={ ys.getD kk .no with fits:=true }:=⟨_,rfl⟩
    have hzk:z.ok:=by rw [hz];have:=zbk HYK.o kk;exact⟨this.1,this.2⟩
    obtain⟨h7,h7f⟩:=HFY.o.cell HYK.o.2 hky (j:=1) (by omega) (v:= .bool ys[kk].fits) rfl
    have HF8:=za (HFY.o.set1 HYK.o.2 hky (j:=1) (v:= .bool true) (x:=z) (by omega) hzk (by rw [hz,hgd];rfl))
    have HT8:=za ((zf.refl (fun b=>b=fb) [zr] Y).set (o:=kk*11+1) (.inl rfl) HFY.o (by simp) (.bool true))
    have HZK:=za hzk
    have HZ:=za hz
    have HKY:Hid (FOk (ys.set kk z)):=⟨by rw [List.length_set];exact HYK.o.1,zj8 HYK.o.2 kk hzk⟩
    rw [hgd] at h7
    clear hky hgd hz hzk
    go_wp2_with fail
    generalize Y.setCell ⟨fb,kk*11+1,none⟩ (.bool true)=V at *
    have hcv:V.heap[cb]?=some (.cells C qw (0,0)):=HT8.o.keep HCY.o (by decide)
    have hpv:V.heap[pb]?=some (.cells #[.int .i64 l,.int .i64 (q:Int),.int .i64 (wd:Int)] 126 (0,0)):=HT8.o.keep HPY.o (by decide)
    have HRV:Hid (V.heap[w.heap.size]?=some (.cells Px.no.cs.toArray qr (0,0))):=HT8.o.keep HRY.o (by decide)
    have HMV:Hid (vt V A nm zbe LN):=HMY.o.keep HT8.o (by decide) (by decide) (fun b _ hb=>by subst hb;exact⟨_,_,_,HFY.o⟩)
    have HNV:Hid (j5 V O nb db n'):=HN.o.turn HT8.o (by decide) (by decide) (by decide)
    have HYV:Hid (j4 V ys F'):=HYI.o.turn HT8.o (by decide)
    have c14:V.cell? ⟨cb,14,none⟩=some (.pointer (some ⟨nm,0,none⟩)):=(zg hcv 14 _ HH.o.cells.nee).1
    obtain⟨p0,-⟩:=zg hpv 0 _ rfl
    obtain⟨p1,-⟩:=zg hpv 1 _ rfl
    obtain⟨p2,-⟩:=zg hpv 2 _ rfl
    simp only [List.getElem_toArray,List.getElem_cons_zero,List.getElem_cons_succ] at p0 p1 p2
    have hlen:LN.length≤1000000000000:=by have:=HND.o.len;have:=HH.o.short;omega
    have HPUT:=za (z4b A nm zbe LN (zi size l j) HPOK.o (some ⟨fb,0,none⟩) V.drew (HMV.o.below (Below.refl _ V).drew (fun _ h=>h)) hlen)
    have HLEN:=za hlen
    unfold zt at HPUT
    rw [HPV.o] at HPUT
    clear h7 h7f hcv hpv hlen
    go_region_with (go_at_call 153;refine HPUT.o.mono ?_;rintro r w8 ⟨rfl,ht8,nbb,hn1,hn2,hm8⟩;have HTP:=za ht8.undrew;have HM8:=za hm8;have HNB:Hid (V.heap.size≤nbb∧nbb < w8.heap.size):=⟨hn1,hn2⟩;clear ht8 hm8 hn1 hn2)
    all_goals (
     have HF9:Hid (zn w8 fb (ys.set kk z)):=HTP.o.keep HF8.o (by decide)
     have hkl:kk < (ys.set kk z).length:=by rw [HKY.o.1];exact HK4.o
     have hgz:(ys.set kk z)[kk]=z:=by simp
     have hpc:=HF9.o.piece HKY.o.2 hkl
     rw [hgz] at hpc
     have hld:=znu hpc (Px.cs_len HZK.o)
     have HR9:Hid (w8.heap[w.heap.size]?=some (.cells Px.no.cs.toArray qr (0,0))):=HTP.o.keep HRV.o (by decide)
     have hst:=zbr (jb HR9.o) (Px.cs_len HZK.o) (Px.cs_one HZK.o)
     have HW9:=za (qz HR9.o (ds:=z.cs) (by rw [Px.cs_len HZK.o,Px.cs_len Px.no_ok]))
     clear hkl hgz hpc
     go_wp2_with fail
     refine bodyPost_ret (v:= .tuple #[.agg z.cs.toArray,.nilIface]) (zy Tryz.results101 _ _ w.heap.size qr _ (0,0) _ rfl HW9.o Tryz.underlying128 rfl (by rw [zhe,List.size_toArray,Px.cs_len HZK.o]) _ rfl) rfl ?_
     exact z29 HH.o HND.o HNDUP.o HBX.o (by have:=HZX.o;omega) HFX.o HFB.o HT.o HT8.o HTP.o HNB.o HM8.o HLEN.o HF8.o HKY.o HYV.o HZ.o HZK.o HKK.o HK4.o HNV.o HSTEP.o HR9.o)
end
end Go.Proofs.YtinhekmmdlhfkaaGreatDoor
