import Derived.Test.YtinhekmmdlhfkaaGreatDoorG25
import Derived.Deep.CutRange
namespace Go.Proofs.YtinhekmmdlhfkaaGreatDoor
section
set_option maxHeartbeats 1000000
open Go.RowKit
set_option maxRecDepth 100000
attribute [local go_sem ↓] loadM_fold storeM_fold loadP_fold storeP_fold buildP_fold buildF_fold loadH_fold storeH_fold
abbrev noPA':Array Value:=#[.bool false,.bool false,.int .u8 0,.int .u8 0,.int .u8 0,.int .u8 0,.int .u8 0,.int .u8 0,.int .u8 0,.int .u8 0,.slice none 0 0]
def KnownAt (w wx:World)(A:Nat→Prop)(LN:LsN)(p:Pl)(f:Fl)(fb:Nat):Prop:=∃ xs,FileAt wx fb xs∧FOk xs∧FxIs wx xs f∧((A fb∧∃ b,LN.get p=some (b,ptrV fb))∨(LN.get p=none∧w.heap.size+2≤fb))
theorem known_a {w wc w4:World}{A:Nat→Prop}{LN:LsN}{p:Pl}{f:Fl}{xs:List Px}{pb:Nat}(hg:LN.get p=none)(hz:w.heap.size+1≤pb∧pb < wc.heap.size)(hc:Below w.heap.size w wc)(h4:Below wc.heap.size wc w4)(hf:FileAt (w4.alloc (.cells noVA TFile)) w4.heap.size Fx.no)(hk:FOk xs)(hi:FxIs w xs f):
  KnownAt w ((w4.alloc (.cells noVA TFile)).setCells w4.heap.size 0 (fcs xs)) A LN p f w4.heap.size:=by
 have h1:=h4.size
 have hb:Below w.heap.size w ((w4.alloc (.cells noVA TFile)).setCells w4.heap.size 0 (fcs xs)):=hc.trans ((below_setCells (h4.alloc h4.size _) h4.size _ _).mono hc.size)
 exact⟨xs,file_whole hf Fx.no_ok hk,hk,hi.below hb,.inr ⟨hg,by omega⟩⟩
theorem known_b {w wc w4:World}{A:Nat→Prop}{LN:LsN}{p:Pl}{f:Fl}{xs:List Px}{pb:Nat}(hg:LN.get p=none)(hz:w.heap.size+1≤pb∧pb < wc.heap.size)(hc:Below w.heap.size w wc)(h4:Below (wc.alloc (.cells noVA TFile)).heap.size (wc.alloc (.cells noVA TFile)) w4)(hf:FileAt w4 wc.heap.size Fx.no)(hk:FOk xs)(hi:FxIs w xs f):
  KnownAt w (w4.setCells wc.heap.size 0 (fcs xs)) A LN p f wc.heap.size:=by
 have hb:Below w.heap.size w (w4.setCells wc.heap.size 0 (fcs xs)):=hc.trans ((below_setCells ((below_alloc wc _).trans (h4.mono (by simp))) (Nat.le_refl _) _ _).mono hc.size)
 exact⟨xs,file_whole hf Fx.no_ok hk,hk,hi.below hb,.inr ⟨hg,by omega⟩⟩
theorem CS.next {W0 w:World}{O A OP:Nat→Prop}{cb nb db pm nm:Nat}{C:Array Value}{d:Dk}{room:Int}{pr:Mm}{m:Ms Nt}{k:Nat}(h:CS W0 w O A OP cb nb db pm nm C d room pr m k){w':World}(ht:Turn (fun b=>O b∨A b) qT w w')(m':Ms Nt)(k':Nat)
  (hn:NetAt w' O nb db m'.net) (hs:NSt d m'.net) (hf:m'.net.fetches+2*k' < 4611686018427387904) (hnd:NdIs w' (Ext A w w') nm m'.needed) (hsh:m'.needed.length+k'≤1000000000):CS W0 w' O (Ext A w w') OP cb nb db pm nm C d room pr m' k':=by
 have hsz:=ht.size
 refine⟨h.base.trans (ht.below h.own h.base.size),?_,?_,?_,h.disk.stay ht (by decide) (by decide),hn,hs,hf,ht.keep h.cli (by decide),h.cells,h.prv.stay ht h.away (by decide) (fun _ h=>h),?_,hnd,hsh⟩
 ·rintro b (hb | hb | hb)
  ·exact h.own b (.inl hb)
  ·exact h.own b (.inr hb)
  ·exact Nat.le_trans h.base.size hb.1
 ·rintro b hb (hA | hA)
  ·exact h.apart b hb hA
  ·have:=h.lt b (.inl hb);omega
 ·rintro b (hb | (hb | hb) | hb)
  ·exact Nat.lt_of_lt_of_le (h.lt b (.inl hb)) hsz
  ·exact Nat.lt_of_lt_of_le (h.lt b (.inr (.inl hb))) hsz
  ·exact hb.2
  ·exact Nat.lt_of_lt_of_le (h.lt b (.inr (.inr hb))) hsz
 ·rintro b hb (hO | hA | hA)
  ·exact h.away b hb (.inl hO)
  ·exact h.away b hb (.inr hA)
  ·have:=h.lt b (.inr (.inr hb));omega
theorem needM_miss {σ:Type}{fe:σ→List UInt8→(List UInt8×Bool)×σ}{proved:Mm}{size:Nat}{m:Ms σ}{l:Int}{j:Nat}{s:σ}(h1:((knownM proved m.needed (placeN size l j)).getD (j % 4) .no).there=false)(h2:fileM fe m.net (placeN size l j)=(none,s)):needM fe proved size m l j=(.inl (nameP (placeN size l j)),{ m with net:=s }):=by
 unfold needM
 rw [if_neg (by rw [h1];simp),h2]
theorem fillX_ok {xs ys:List Px}(hx:FOk xs)(hy:FOk ys):FOk (fillX xs ys):=by rw [← fillN_all hx hy];exact fillN_ok hx hy 4
theorem fillX_is {w:World}{xs ys:List Px}{f g:Fl}(h:FxIs w xs f)(h':FxIs w ys g):FxIs w (fillX xs ys) (fillF f g):=by
 obtain⟨a1,a2,a3⟩:=h
 obtain⟨b1,b2,b3⟩:=h'
 refine⟨by simp [fillX,a1,b1],by simp [fillF,a2,b2],fun k hk=>?_⟩
 have e1:(fillX xs ys).getD k .no=if (xs.getD k .no).fits then xs.getD k .no else ys.getD k .no:=by
  unfold fillX
  have h1:k < xs.length:=by omega
  have h2:k < ys.length:=by omega
  simp only [List.getD_eq_getElem?_getD,List.getElem?_zipWith,List.getElem?_eq_getElem h1,List.getElem?_eq_getElem h2,Option.getD_some]
 rw [e1,fillF_get f g (by rw [a2,b2]) k (by omega),(a3 k hk).fits]
 split
 ·exact a3 k hk
 ·exact b3 k hk
theorem MemN.keep {w w':World}{O1 A:Nat→Prop}{T:List Nat}{mb:Nat}{room:Int}{L:LsN}(h:MemN w A mb room L)(ht:Turn O1 T w w')(h1:LkN∉T)(h2:MeN∉T)(hm:∀ k,A k→O1 k→∃ c t x,w.heap[k]?=some (.cells c t x)):MemN w' A mb room L:=by
 obtain⟨hb,eb,nx,pv,h⟩:=h
 refine⟨hb,eb,nx,pv,h.own,ht.keep h.mem h2,⟨ht.keep h.ring.ends h1,fun x hx=>ht.keep (h.ring.link x hx) h1,h.ring.circ⟩,h.map.same ?_,h.ok⟩
 rcases ht.block hb h.map.lt with e | ⟨e,-⟩
 ·exact e
 ·obtain⟨c,t,x,e2⟩:=hm hb h.own.2.1 e
  exact absurd rfl (h.map.not e2)
theorem needM_hit {σ:Type}{fe:σ→List UInt8→(List UInt8×Bool)×σ}{proved:Mm}{size:Nat}{m:Ms σ}{l:Int}{j:Nat}(h1:((knownM proved m.needed (placeN size l j)).getD (j % 4) .no).there=true):needM fe proved size m l j=(.inr ((fitsAt (knownM proved m.needed (placeN size l j)) (j % 4)).getD (j % 4) .no),{ m with needed:=m.needed.drop (placeN size l j)++[(placeN size l j,fitsAt (knownM proved m.needed (placeN size l j)) (j % 4))] }):=by
 unfold needM
 rw [if_pos h1]
theorem needM_came {σ:Type}{fe:σ→List UInt8→(List UInt8×Bool)×σ}{proved:Mm}{size:Nat}{m:Ms σ}{l:Int}{j:Nat}{s:σ}{came:Fl}(h1:((knownM proved m.needed (placeN size l j)).getD (j % 4) .no).there=false)(h2:fileM fe m.net (placeN size l j)=(some came,s)):needM fe proved size m l j=(.inr ((fitsAt (fillF (knownM proved m.needed (placeN size l j)) came) (j % 4)).getD (j % 4) .no),{ net:=s,needed:=m.needed.drop (placeN size l j)++[(placeN size l j,fitsAt (fillF (knownM proved m.needed (placeN size l j)) came) (j % 4))] }):=by
 unfold needM
 rw [if_neg (by rw [h1];simp),h2]
def NeedMid (X wx:World)(O:Nat→Prop)(nb db fb:Nat)(d:Dk)(n:Nt)(F:Fl)(p:Pl)(kk:Nat):Prop :=
 ∃ ys F' n',Turn (fun b=>O b∨b=fb) [85,3,TFile] X wx∧NetAt wx O nb db n'∧FileAt wx fb ys∧FOk ys∧FxIs wx ys F' ∧
  (((F.getD kk .no).there=true∧n'=n∧F'=F)∨((F.getD kk .no).there=false∧∃ came,fileM (netF d.fs) n p=(some came,n')∧F'=fillF F came))
theorem need_end {W0 w X Y V w8:World}{at_:Nat→Addr}{O A OP:Nat→Prop}{cb nb db pm nm:Nat}{C:Array Value}{d:Dk}{room:Int}{pr:Mm}{m:Ms Nt}{k size:Nat}{l:Int}{j:Nat}(h:CS W0 w O A OP cb nb db pm nm C d room pr m (k+1)){LN:LsN}(hnd:All2 (NdR w A) LN m.needed)(hndup:(LN.map (·.2.2)).Nodup)
  (hbx:Below w.heap.size w X) (hwx:w.heap.size < X.heap.size) {fb:Nat} {xs:List Px} (hfx:FileAt X fb xs) (hfb:(A fb∧∃ b,LN.get (placeN size l j)=some (b,ptrV fb))∨(LN.get (placeN size l j)=none∧w.heap.size+2≤fb)) (ht:Turn (fun b=>O b∨b=fb) [85,3,TFile] X Y) (ht8:Turn (fun b=>b=fb) [TFile] Y V) (htp:Turn A [LkN] V w8) {nbb:Nat} (hnb:V.heap.size≤nbb∧nbb < w8.heap.size)
  (hm8:MemN w8 (Ext A V.drew w8) nm maxI (putR maxI (LN.drop (placeN size l j)++[(nbb,placeN size l j,.pointer (some ⟨fb,0,none⟩))]))) (hlen:LN.length≤1000000000000) {ys:List Px} {z:Px} {kk:Nat} (hf8:FileAt V fb (ys.set kk z)) (hky:FOk (ys.set kk z)) {F':Fl} (hyv:FxIs V ys F') (hz:z={ ys.getD kk .no with fits:=true }) (hzk:z.ok) (hkk:kk=j % 4) (hk4:kk < 4) {n':Nt} (hnv:NetAt V O nb db n')
  (hstep:((((knownM pr m.needed (placeN size l j)).getD kk .no).there=true∧n'=m.net∧F'=knownM pr m.needed (placeN size l j))∨(((knownM pr m.needed (placeN size l j)).getD kk .no).there=false∧∃ came,fileM (netF d.fs) m.net (placeN size l j)=(some came,n')∧F'=fillF (knownM pr m.needed (placeN size l j)) came)))
  (hr8:w8.heap[w.heap.size]?=some (.cells Px.no.cs.toArray TPiece (0,0))) :
  Turn (fun b=>O b∨A b) qT w (w8.setCells w.heap.size 0 z.cs)∧CS W0 (w8.setCells w.heap.size 0 z.cs) O (Ext A w (w8.setCells w.heap.size 0 z.cs)) OP cb nb db pm nm C d room pr (needM (netF d.fs) pr size m l j).2 k∧NeedR at_ (w8.setCells w.heap.size 0 z.cs) (needM (netF d.fs) pr size m l j).1 (.returned (.tuple #[.agg z.cs.toArray,.nilIface])):=by
 have hT9:Turn (fun b=>b=w.heap.size) [TPiece] w8 (w8.setCells w.heap.size 0 z.cs):=(Turn.refl (fun b=>b=w.heap.size) [TPiece] w8).setCells (.inl rfl) hr8 (by simp) _ _
 have hsz9:(w8.setCells w.heap.size 0 z.cs).heap.size=w8.heap.size:=setCells_size _ _
 have s1:=hbx.size
 have s2:=ht.size
 have s3:=ht8.size
 have s4:=htp.size
 have hfw:A fb∨w.heap.size+2≤fb:=hfb.imp (·.1) (·.2)
 have hfl:fb < X.heap.size:=heap_some_lt hfx
 have hT:Turn (fun b=>O b∨A b) qT w w8:=by
  have a1:Turn (fun b=>O b∨A b) qT w X:= .of_below hbx
  have a2:=a1.trans (ht.mono (fun b hb=>by
   rcases hb with hb | rfl
   ·exact Or.inl (Or.inl hb)
   ·rcases hfw with hA | hA
    ·exact Or.inl (Or.inr hA)
    ·exact Or.inr ⟨by omega,hfl⟩) (by decide))
  have a3:=a2.trans (ht8.mono (fun b hb=>by
   subst hb
   rcases hfw with hA | hA
   ·exact Or.inl (Or.inr hA)
   ·exact Or.inr ⟨by omega,by omega⟩) (by decide))
  exact a3.trans (htp.mono (fun b hb=>Or.inl (Or.inr hb)) (by decide))
 have hTw:Turn (fun b=>O b∨A b) qT w (w8.setCells w.heap.size 0 z.cs):=hT.setCellsNew (Nat.le_refl _) _ _
 generalize w8.setCells w.heap.size 0 z.cs=w9 at *
 have hkey:(needM (netF d.fs) pr size m l j)=(.inr ((fitsAt F' kk).getD kk .no),{ net:=n',needed:=m.needed.drop (placeN size l j)++[(placeN size l j,fitsAt F' kk)] })∧NSt d n'∧n'.fetches≤m.net.fetches+2:=by
  rcases hstep with ⟨e1,rfl,rfl⟩ | ⟨e1,came,e2,rfl⟩
  ·rw [hkk] at e1 ⊢
   exact⟨needM_hit e1,h.st,by omega⟩
  ·rw [hkk] at e1 ⊢
   have:=(file_cnt d.fs m.net (placeN size l j)).2
   have h2:=h.st.file (placeN size l j)
   rw [e2] at this h2
   exact⟨needM_came e1 e2,h2,this⟩
 obtain⟨hkey,hst,hft⟩:=hkey
 have hzis:FxIs w9 (ys.set kk z) (fitsAt F' kk):=by
  have hv:FxIs V (ys.set kk z) (fitsAt F' kk):=by
   refine⟨hky.1,by rw [fitsAt_len];exact hyv.2.1,fun i hi=>?_⟩
   have e1:(ys.set kk z).getD i .no=if i=kk then z else ys.getD i .no:=by
    simp only [List.getD_eq_getElem?_getD,List.getElem?_set,hyv.1]
    by_cases hik:kk=i
    ·subst hik;simp [hk4]
    ·have:¬ i=kk:=fun e=>hik e.symm
     simp [hik,this]
   rw [e1,fitsAt_get]
   by_cases hik:i=kk
   ·rw [if_pos hik,if_pos ⟨hik,by rw [hyv.2.1];exact hk4⟩,hz,hik]
    have:=hyv.2.2 kk hk4
    exact⟨this.there,rfl,this.hash,this.ent⟩
   ·rw [if_neg hik,if_neg (by intro hh;exact hik hh.1)]
    exact hyv.2.2 i hi
  exact(hv.turn htp (by decide)).turn hT9 (by decide)
 have hpr:putR maxI (LN.drop (placeN size l j)++[(nbb,placeN size l j,.pointer (some ⟨fb,0,none⟩))])=LN.drop (placeN size l j)++[(nbb,placeN size l j,ptrV fb)]:=by
  unfold putR
  rw [if_neg]
  ·rfl
  ·have:(LN.drop (placeN size l j)).length≤LN.length:=List.length_filter_le _ _
   simp only [List.length_append,List.length_cons,List.length_nil]
   unfold maxI
   omega
 rw [hpr] at hm8
 have hother:∀ x∈LN.drop (placeN size l j),x.2.2≠ptrV fb:=by
  intro x hx e
  have hx':=List.mem_filter.1 hx
  have hxp:¬ x.2.1=placeN size l j:=by simpa using hx'.2
  rcases hfb with ⟨-,b,hg⟩ | ⟨-,hn⟩
  ·have hmem:=lsN_mem hg
   have hpw:=List.pairwise_map.1 hndup
   obtain⟨i1,hi1,e1⟩:=List.getElem_of_mem hx'.1
   obtain⟨i2,hi2,e2⟩:=List.getElem_of_mem hmem
   have hpi:=List.pairwise_iff_getElem.1 hpw
   rcases Nat.lt_trichotomy i1 i2 with hlt | heq | hgt
   ·exact hpi i1 i2 hi1 hi2 hlt (by rw [e1,e2];exact e)
   ·subst heq
    rw [e1] at e2
    exact hxp (by rw [e2])
   ·exact hpi i2 i1 hi2 hi1 hgt (by rw [e1,e2];exact e.symm)
  ·obtain⟨y,-,hr⟩:=hnd.mem x hx'.1
   obtain⟨fb2,xs2,e2,-,hf2,-⟩:=hr.2
   rw [e2] at e
   have:=ptrV_inj e
   have:=heap_some_lt hf2
   omega
 rw [hkey]
 refine⟨hTw,h.next hTw _ k ((hnv.turn htp (by decide) (by decide) (by decide)).turn hT9 (by decide) (by decide) (by decide)) hst (by have:=h.few;simp only;omega) ?_ ?_,.inl ⟨z,_,rfl,hzk,?_,rfl⟩⟩
 ·refine⟨LN.drop (placeN size l j)++[(nbb,placeN size l j,ptrV fb)],?_,?_,?_⟩
  ·refine hm8.stay hT9 ?_ ?_
   ·rintro b hb rfl
    rcases hb with hb | hb
    ·have:=h.lt _ (.inr (.inl hb));omega
    ·have:V.drew.heap.size=V.heap.size:=rfl
     omega
   ·rintro b (hb | hb)
    ·exact .inl hb
    ·have:V.drew.heap.size=V.heap.size:=rfl
     exact .inr ⟨by omega,by omega⟩
  ·refine All2.snoc ?_ ⟨rfl,fb,ys.set kk z,rfl,?_,hT9.keep (htp.keep hf8 (by decide)) (by decide),hky,hzis⟩
   ·refine(hnd.filter _ _ (fun a b hr=>by rw [hr.1])).mono (fun x hx y hr=>⟨hr.1,?_⟩)
    obtain⟨fb2,xs2,e2,hA2,hf2,hk2,hi2⟩:=hr.2
    have hne:fb2≠fb:=fun e=>hother x hx (by rw [e2,e])
    have f1:FileAt X fb2 xs2:=(hbx.block _ (heap_some_lt hf2)).trans hf2
    have f2:FileAt Y fb2 xs2:=ht.stay f1 (by
     rintro(hO | e)
     ·exact h.apart _ hO hA2
     ·exact hne e)
    have f3:FileAt V fb2 xs2:=ht8.stay f2 hne
    refine⟨fb2,xs2,e2,.inl hA2,hT9.keep (htp.keep f3 (by decide)) (by decide),hk2,?_⟩
    exact((((hi2.below hbx).turn ht (by decide)).turn ht8 (by decide)).turn htp (by decide)).turn hT9 (by decide)
   ·rcases hfw with hA | hA
    ·exact .inl hA
    ·exact .inr ⟨by omega,by omega⟩
  ·rw [List.map_append,List.nodup_append]
   refine⟨(List.filter_sublist.map _).nodup hndup,by simp,?_⟩
   intro v hv u hu
   simp only [List.map_cons,List.map_nil,List.mem_singleton] at hu
   subst hu
   obtain⟨x,hx,rfl⟩:=List.mem_map.1 hv
   exact hother x hx
 ·have hd:(m.needed.drop (placeN size l j)).length≤m.needed.length:=List.length_filter_le _ _
  have:=h.short
  simp only [List.length_append,List.length_cons,List.length_nil]
  omega
 ·have:=hzis.2.2 kk hk4
  have e1:(ys.set kk z).getD kk .no=z:=by
   have:kk < ys.length:=by rw [hyv.1];exact hk4
   simp [List.getD_eq_getElem?_getD,this]
  rw [e1] at this
  exact this
theorem below_undrew {B:Nat}{a w:World}(h:Below B a.drew w):Below B a w:=⟨h.os,h.tape,h.output,h.size,h.block⟩
theorem need_any (W0:World)(at_:Nat→Addr)(O A OP:Nat→Prop)(cb nb db pm nm:Nat)(C:Array Value)(d:Dk)(room:Int)(pr:Mm)(m:Ms Nt)(k size:Nat)(l:Int)(j:Nat)(hsz:size < 9223372036854775808)(hl1:-1≤l)(hl2:l≤100)(hj:j < cntL l size)(w:World)(hE:Env W0)(hS:Sents W0 at_)
  (h:CS W0 w O A OP cb nb db pm nm C d room pr m (k+1)) :
  Calls Tryz.prog 101 #[ptrV cb,.int .i64 size,.int .i64 l,.int .i64 j] w fun r w' =>
   Turn (fun b=>O b∨A b) qT w w'∧CS W0 w' O (Ext A w w') OP cb nb db pm nm C d room pr (needM (netF d.fs) pr size m l j).2 k∧NeedR at_ w' (needM (netF d.fs) pr size m l j).1 r:=by
 have hjs:j < 9223372036854775808:=Nat.lt_trans (Nat.lt_of_lt_of_le hj (cntL_le l size)) hsz
 obtain⟨wd,hpl,hw1,hw4,hwc⟩:=placeN_wid size l j hj
 obtain⟨kk,hkk⟩:∃ kk,kk=j % 4:=⟨_,rfl⟩
 obtain⟨q,hq⟩:∃ q,q=j / 4:=⟨_,rfl⟩
 have hrem:(j:Int) % 4=(kk:Int):=by omega
 have HKK:=hide hkk
 have HQ:=hide hq
 have hk4:kk < 4:=by omega
 rw [← hq] at hpl hwc
 have HK4:=hide hk4
 have HPL:=hide hpl
 have HH:=hide h
 have HE:=hide hE
 have HS:=hide hS
 obtain⟨LN,hmn,hnd,hndup⟩:=h.nee
 obtain⟨LP,hmp,hpr⟩:=h.prv
 have HMN:=hide hmn
 have HND:=hide hnd
 have HNDUP:=hide hndup
 have HMP:=hide hmp
 have HPR:=hide hpr
 have HJ:=hide hj
 have HJS:=hide hjs
 have HW:Hid (1≤wd∧wd≤4∧4*q+wd≤cntL l size):=⟨hw1,hw4,hwc⟩
 have HPIN:=hide (fun w=>placeIn_any size hsz l hl1 hl2 j hjs w)
 have hpok:PlOk (placeN size l j):=by
  rw [hpl]
  refine⟨⟨by simp only;omega,by simp only;omega⟩,⟨by simp only;omega,by simp only;omega⟩,⟨by simp only;omega,by simp only;omega⟩⟩
 have HPOK:=hide hpok
 clear h hE hS hmn hnd hndup hmp hpr hj hjs hpok hw1 hw4 hwc hk4 hpl hkk hq
 have HPV:Hid (plV (placeN size l j)= .agg #[.int .i64 l,.int .i64 (q:Int),.int .i64 (wd:Int)]):=by show _=_;rw [HPL.out];rfl
 unfold ptrV
 go_enter Tryz.func101,Tryz.ntmps101
 go_wp2_with fail
 refine(HPIN.out _).mono ?_
 rintro r w1 ⟨rfl,hb1⟩
 rw [HPV.out]
 go_wp2_with fail
 rw [hrem]
 clear hrem
 have hB1:Below w.heap.size w w1:=(below_alloc w _).trans (hb1.mono (by simp))
 have HR1:Hid (w1.heap[w.heap.size]?=some (.cells noPA' TPiece (0,0))):=(hb1.block _ (by simp)).trans (heap_alloc_last _ _)
 have hP2:(w1.alloc (.cells #[.int .i64 l,.int .i64 (q:Int),.int .i64 (wd:Int)] 126)).heap[w1.heap.size]?=some (.cells #[.int .i64 l,.int .i64 (q:Int),.int .i64 (wd:Int)] 126 (0,0)):=heap_alloc_last _ _
 have hB2:Below w.heap.size w (w1.alloc (.cells #[.int .i64 l,.int .i64 (q:Int),.int .i64 (wd:Int)] 126)):=hB1.alloc hB1.size _
 have HR2:Hid ((w1.alloc (.cells #[.int .i64 l,.int .i64 (q:Int),.int .i64 (wd:Int)] 126)).heap[w.heap.size]?=some (.cells noPA' TPiece (0,0))):=heap_alloc_old HR1.out
 have HP2:=hide hP2
 have HB2:=hide hB2
 have HZ1:Hid (w.heap.size+1≤w1.heap.size):=hide (by have:=hb1.size;simpa using this)
 clear hb1 hB1 hP2 hB2 HR1
 generalize w1.heap.size=pb at *
 generalize w1.alloc (.cells #[.int .i64 l,.int .i64 (q:Int),.int .i64 (wd:Int)] 126)=W2 at *
 have HC2:Hid (W2.heap[cb]?=some (.cells C TCli (0,0))):=(HB2.out.block _ (heap_some_lt HH.out.cli)).trans HH.out.cli
 go_cut [12,13] from 24 to 32 (fun s12 s13 wx=>Below W2.heap.size W2 wx∧∃ a b,s12= .pointer a∧s13= .bool b∧((b=true∧∃ bb,LN.get (placeN size l j)=some (bb,.pointer a))∨(b=false∧a=none∧LN.get (placeN size l j)=none)))
 case first =>
  have c14:W2.cell? ⟨cb,14,none⟩=some (.pointer (some ⟨nm,0,none⟩)):=(dcell HC2.out 14 _ HH.out.cells.nee).1
  obtain⟨p0,-⟩:=dcell HP2.out 0 _ rfl
  obtain⟨p1,-⟩:=dcell HP2.out 1 _ rfl
  obtain⟨p2,-⟩:=dcell HP2.out 2 _ rfl
  simp only [List.getElem_toArray,List.getElem_cons_zero,List.getElem_cons_succ] at p0 p1 p2
  obtain⟨a,b,hab,hget⟩:∃ a b,((b=true∧∃ bb,LN.get (placeN size l j)=some (bb,.pointer a))∨(b=false∧a=none∧LN.get (placeN size l j)=none))∧∀ w0,Below w.heap.size w w0→Calls Tryz.prog 144 #[ptrV nm,plV (placeN size l j)] w0 fun r w'=>r= .returned (.tuple #[.pointer a,.bool b])∧Below w0.heap.size w0 w':=by
   rcases NdIs.get HND.out (placeN size l j) with ⟨g1,g2⟩ | ⟨b,v,f,g1,g2,⟨fb,xs,rfl,-⟩,-⟩
   ·exact⟨none,false,.inr ⟨rfl,rfl,g1⟩,fun w0 hb=>getN_no A nm maxI LN _ HPOK.out w0 (HMN.out.below hb (fun _ h=>h)) g1⟩
   ·exact⟨_,true,.inl ⟨rfl,b,g1⟩,fun w0 hb=>getN_yes A nm maxI LN _ HPOK.out w0 (HMN.out.below hb (fun _ h=>h)) b _ g1⟩
  have HAB:=hide hab
  have HGET:=hide hget
  clear hab hget
  unfold ptrV at HGET
  rw [HPV.out] at HGET
  go_region_with (go_at_call 144;refine(HGET.out _ (by exact HB2.out.drew)).mono ?_;rintro r w3 ⟨rfl,hb3⟩;have HB3:=hide hb3;clear hb3)
  all_goals go_wp2_with fail
  all_goals go_meet
  all_goals exact⟨below_undrew HB3.out,a,b,rfl,rfl,HAB.out⟩
 case rest =>
  obtain⟨hbc,a,b,rfl,rfl,hab⟩:=hcut
  obtain⟨W3,hW3⟩:∃ W3,W3=wc:=⟨_,rfl⟩
  subst hW3
  have HAB:=hide hab
  have HBC:=hide (HB2.out.trans (hbc.mono HB2.out.size))
  have HCC:Hid (W3.heap[cb]?=some (.cells C TCli (0,0))):=(hbc.block _ (heap_some_lt HC2.out)).trans HC2.out
  have HPC:Hid (W3.heap[pb]?=some (.cells #[.int .i64 l,.int .i64 (q:Int),.int .i64 (wd:Int)] 126 (0,0))):=(hbc.block _ (heap_some_lt HP2.out)).trans HP2.out
  have HRC:Hid (W3.heap[w.heap.size]?=some (.cells noPA' TPiece (0,0))):=(hbc.block _ (heap_some_lt HR2.out)).trans HR2.out
  have HZC:Hid (w.heap.size+1≤pb∧pb < W3.heap.size):=⟨HZ1.out,heap_some_lt HPC.out⟩
  clear hbc hab HB2 HC2 HP2 HR2 HZ1
  go_upto_if 34 with fail
  go_cut [12,14,15] from 33 to 43 (fun s12 _ _ wx=>∃ fb,s12= .pointer (some ⟨fb,0,none⟩)∧KnownAt w wx A LN (placeN size l j) (knownM pr m.needed (placeN size l j)) fb∧Below W3.heap.size W3 wx)
  case first =>
   rcases HAB.out with ⟨rfl,bb,hg⟩ | ⟨rfl,rfl,hg⟩
   ·go_wp2_with fail
    go_meet
    rcases NdIs.get HND.out (placeN size l j) with ⟨g1,g2⟩ | ⟨b,v,f,g1,g2,⟨fb,xs,rfl,hA,hf,hfk,hfx⟩,-⟩
    ·rw [g1] at hg;simp at hg
    ·rw [g1] at hg
     simp only [Option.some.injEq,Prod.mk.injEq] at hg
     obtain⟨rfl,hg⟩:=hg
     refine⟨fb,hg.symm,⟨xs,(HBC.out.block _ (heap_some_lt hf)).trans hf,hfk,?_,.inl ⟨hA,_,g1⟩⟩,Below.refl _ _⟩
     unfold knownM
     rw [g2]
     exact hfx.below HBC.out
   ·have HG:=hide hg
    obtain⟨xs,b,hxk,hxi,hget⟩:∃ xs b,FOk xs∧FxIs w xs (knownM pr m.needed (placeN size l j))∧∀ w0,Below w.heap.size w w0→Calls Tryz.prog 150 #[ptrV pm,plV (placeN size l j)] w0 fun r w'=>r= .returned (.tuple #[.agg (fcs xs).toArray,.bool b])∧Below w0.heap.size w0 w':=by
     have hn:m.needed.get (placeN size l j)=none:=by
      rcases NdIs.get HND.out (placeN size l j) with ⟨g1,g2⟩ | ⟨b,v,f,g1,g2,-,-⟩
      ·exact g2
      ·rw [g1] at hg;simp at hg
     unfold knownM
     rw [hn]
     rcases PrIs.get HPR.out (placeN size l j) with ⟨g1,g2⟩ | ⟨b,xs,f,g1,g2,h3,h4⟩
     ·rw [g2]
      exact⟨Fx.no,false,Fx.no_ok,FxIs.none w,fun w0 hb=>getP_no OP pm room LP _ HPOK.out w0 (HMP.out.below hb (fun _ h=>h)) g1⟩
     ·rw [g2]
      exact⟨xs,true,h3,h4,fun w0 hb=>getP_yes OP pm room LP _ HPOK.out w0 (HMP.out.below hb (fun _ h=>h)) b _ g1⟩
    have HXK:=hide hxk
    have HXI:=hide hxi
    have HGET:=hide hget
    clear hxk hxi hget hg
    have c13:W3.cell? ⟨cb,13,none⟩=some (.pointer (some ⟨pm,0,none⟩)):=(dcell HCC.out 13 _ HH.out.cells.prv).1
    obtain⟨p0,-⟩:=dcell HPC.out 0 _ rfl
    obtain⟨p1,-⟩:=dcell HPC.out 1 _ rfl
    obtain⟨p2,-⟩:=dcell HPC.out 2 _ rfl
    simp only [List.getElem_toArray,List.getElem_cons_zero,List.getElem_cons_succ] at p0 p1 p2
    have c13':∀ o,(W3.alloc o).cell? ⟨cb,13,none⟩=some (.pointer (some ⟨pm,0,none⟩)):=fun o=>by rw [cell_old _ _ ⟨cb,13,none⟩ (cell_lt c13)];exact c13
    have p0':∀ o,(W3.alloc o).cell? ⟨pb,0,none⟩=some (.int .i64 l):=fun o=>by rw [cell_old _ _ ⟨pb,0,none⟩ (cell_lt p0)];exact p0
    have p1':∀ o,(W3.alloc o).cell? ⟨pb,1,none⟩=some (.int .i64 (q:Int)):=fun o=>by rw [cell_old _ _ ⟨pb,1,none⟩ (cell_lt p1)];exact p1
    have p2':∀ o,(W3.alloc o).cell? ⟨pb,2,none⟩=some (.int .i64 (wd:Int)):=fun o=>by rw [cell_old _ _ ⟨pb,2,none⟩ (cell_lt p2)];exact p2
    unfold ptrV at HGET
    rw [HPV.out] at HGET
    go_wp2_with fail
    go_region_with (first
     | (go_at_call 150;refine(HGET.out W3.drew (by exact HBC.out.drew)).mono ?_;rintro r w4 ⟨rfl,hb4⟩;have HB4:=hide (below_undrew hb4);have hf4:FileAt (w4.alloc (.cells noVA TFile)) w4.heap.size Fx.no:=heap_alloc_last w4 _;have hst:=storeM_of (file_there hf4 Fx.no_ok) HXK.out.len (fcs_one HXK.out.2);have HF4:=hide hf4;clear hb4 hf4)
     | (go_at_call 150;refine(HGET.out (W3.alloc (.cells noVA TFile)).drew (by exact(HBC.out.alloc HBC.out.size _).drew)).mono ?_;rintro r w4 ⟨rfl,hb4⟩;have HB4:=hide (below_undrew hb4);have hf4:FileAt w4 W3.heap.size Fx.no:=((below_undrew hb4).block _ (by simp)).trans (heap_alloc_last W3 _);have hst:=storeM_of (file_there hf4 Fx.no_ok) HXK.out.len (fcs_one HXK.out.2);have HF4:=hide hf4;clear hb4 hf4))
    all_goals go_wp2_with fail
    all_goals go_meet
    all_goals (first
     | exact⟨w4.heap.size,rfl,known_a HG.out HZC.out HBC.out HB4.out HF4.out HXK.out HXI.out,below_setCells (HB4.out.alloc HB4.out.size _) HB4.out.size _ _⟩
     | exact⟨W3.heap.size,rfl,known_b HG.out HZC.out HBC.out HB4.out HF4.out HXK.out HXI.out,below_setCells ((below_alloc W3 _).trans (HB4.out.mono (by simp))) (Nat.le_refl _) _ _⟩)
  case rest =>
   obtain⟨fb,rfl,hkn,hbx⟩:=hcut
   obtain⟨X,hX⟩:∃ X,X=wc:=⟨_,rfl⟩
   subst hX
   have HBX:=hide (HBC.out.trans (hbx.mono HBC.out.size))
   have HCX:Hid (X.heap[cb]?=some (.cells C TCli (0,0))):=(hbx.block _ (heap_some_lt HCC.out)).trans HCC.out
   have HPX:Hid (X.heap[pb]?=some (.cells #[.int .i64 l,.int .i64 (q:Int),.int .i64 (wd:Int)] 126 (0,0))):=(hbx.block _ (heap_some_lt HPC.out)).trans HPC.out
   have HRX:Hid (X.heap[w.heap.size]?=some (.cells noPA' TPiece (0,0))):=(hbx.block _ (heap_some_lt HRC.out)).trans HRC.out
   have HZX:Hid (w.heap.size+1≤pb∧pb < X.heap.size):=⟨HZC.out.1,heap_some_lt HPX.out⟩
   obtain⟨xs,hfx,hfk,hfi,hfb⟩:=hkn
   have HFX:=hide hfx
   have HFK:=hide hfk
   have HFI:=hide hfi
   have HFB:=hide hfb
   clear hfx hfk hfi hfb hbx HAB HBC HCC HPC HRC HZC
   have hkx:kk < xs.length:=by rw [HFK.out.1];exact HK4.out
   have hk4:kk < 4:=HK4.out
   have hgd:xs[kk]=xs.getD kk .no:=by simp [List.getD_eq_getElem?_getD,hkx]
   have h6:=(HFX.out.cell HFK.out.2 hkx (j:=0) (by omega) (v:= .bool xs[kk].there) rfl)
   rw [Nat.add_zero,hgd] at h6
   obtain⟨h6,h6f⟩:=h6
   obtain⟨t,ht⟩:∃ t,(xs.getD kk .no).there=t:=⟨_,rfl⟩
   rw [ht] at h6
   have HTH:=hide ht
   clear ht hgd hkx
   have HKX:Hid ((knownM pr m.needed (placeN size l j)).getD kk .no=(knownM pr m.needed (placeN size l j)).getD kk .no∧((knownM pr m.needed (placeN size l j)).getD kk .no).there=t):=⟨rfl,by rw [← (HFI.out.2.2 kk hk4).there];exact HTH.out⟩
   go_upto_if 50 with fail
   go_cut [16,17] from 44 to 63 (fun _ _ wx=>NeedMid X wx O nb db fb d m.net (knownM pr m.needed (placeN size l j)) (placeN size l j) kk)
   case first =>
    cases t with
    | true =>
     go_wp2_with fail
     go_meet
     exact⟨xs,_,_,Turn.refl _ _ _,HH.out.net.below HBX.out,HFX.out,HFK.out,HFI.out,.inl ⟨HKX.out.2,rfl,rfl⟩⟩
    | false =>
     obtain⟨p0,-⟩:=dcell HPX.out 0 _ rfl
     obtain⟨p1,-⟩:=dcell HPX.out 1 _ rfl
     obtain⟨p2,-⟩:=dcell HPX.out 2 _ rfl
     simp only [List.getElem_toArray,List.getElem_cons_zero,List.getElem_cons_succ] at p0 p1 p2
     have hTX:Turn O [] w X:= .of_below HBX.out
     have hcnt:=file_cnt d.fs m.net (placeN size l j)
     rw [HPL.out] at hcnt
     have hfew:=HH.out.few
     have HF:=hide (ffile_any W0 at_ O nb db cb m.net d l q wd HW.out.1 HW.out.2.1 (by have:=HQ.out;have:=HJS.out;omega) X (HH.out.base.trans (HBX.out.mono HH.out.base.size)) HE.out HS.out (fun b hb=>HH.out.own b (.inl hb)) HH.out.st (by omega) (HH.out.disk.stay hTX (by simp) (by simp)) (HH.out.net.below HBX.out) C HCX.out HH.out.cells.net)
     have HNM:Hid (nameF l (q:Int) (wd:Int)=nameP (placeN size l j)):=by show _=_;rw [HPL.out];rfl
     rw [← HPL.out,HNM.out] at HF
     clear hcnt hfew hTX
     unfold plV ptrV at HF
     rw [HPL.out] at HF
     simp only at HF
     rw [← HPL.out] at HF
     go_wp2_with fail
     refine HF.out.mono ?_
     rintro r w5 ⟨ht5,hN5,hg5⟩
     have HT5:=hide ht5
     have HN5:=hide hN5
     have HTW:Hid (Turn O nT w w5):=(Turn.of_below HBX.out).trans (ht5.mono (fun _ h=> .inl h) (fun _ h=>h))
     have HF5:Hid (FileAt w5 fb xs):=ht5.keep HFX.out (by decide)
     have HR5:Hid (w5.heap[w.heap.size]?=some (.cells Px.no.cs.toArray TPiece (0,0))):=ht5.keep HRX.out (by decide)
     have HG:Hid (∀ ys,FOk ys→(storeM (.pointer (some ⟨w5.heap.size,0,none⟩)) (.agg (fcs ys).toArray)).run Tryz.prog (w5.alloc (.cells noVA TFile))= .ok () ((w5.alloc (.cells noVA TFile)).setCells w5.heap.size 0 (fcs ys))∧FileAt ((w5.alloc (.cells noVA TFile)).setCells w5.heap.size 0 (fcs ys)) w5.heap.size ys∧Below w5.heap.size w5 ((w5.alloc (.cells noVA TFile)).setCells w5.heap.size 0 (fcs ys))):=by
      intro ys hy
      have hf4:FileAt (w5.alloc (.cells noVA TFile)) w5.heap.size Fx.no:=heap_alloc_last _ _
      exact⟨storeM_of (file_there hf4 Fx.no_ok) hy.len (fcs_one hy.2),file_whole hf4 Fx.no_ok hy,below_setCells (below_alloc _ _) (Nat.le_refl _) _ _⟩
     clear ht5 hN5 p0 p1 p2 h6 h6f HF
     have HST:=hide (HH.out.st.file (placeN size l j))
     have HCN:=hide (file_cnt d.fs m.net (placeN size l j))
     generalize hFM:fileM (netF d.fs) m.net (placeN size l j)=FM at *
     have HFM:=hide hFM
     clear hFM
     obtain⟨o,n'⟩:=FM
     simp only at *
     rcases hg5 with ⟨ys,f,rfl,hyk,hyi,rfl⟩ | ⟨rfl,g,hgs,hgb,rfl⟩
     ·obtain⟨hst,hf6,hb6⟩:=HG.out ys hyk
      have hld:=loadM_of (range_row hf6) hyk.len
      have HB6:=hide hb6
      have HF6:Hid (FileAt ((w5.alloc (.cells noVA TFile)).setCells w5.heap.size 0 (fcs ys)) fb xs):=(hb6.block _ (heap_some_lt HF5.out)).trans HF5.out
      have HYK:=hide hyk
      have HYI:=hide hyi
      clear hyk hyi hf6 hb6 HG
      go_wp2_with fail
      refine(fill_any (fun b=>b=fb) fb xs ys HFK.out HYK.out _ rfl HF6.out).mono ?_
      rintro r w7 ⟨rfl,ht7,hf7⟩
      have HT7:=hide ht7
      have HF7:=hide hf7
      clear ht7 hf7
      go_wp2_with fail
      go_meet
      have hb7:Turn (fun b=>O b∨b=fb) [85,3,TFile] X w7:=((HT5.out.mono (fun _ h=> .inl h) (by decide)).then_below HB6.out).trans (HT7.out.mono (fun _ h=> .inl (.inr h)) (by decide))
      have hN7:NetAt w7 O nb db n':=(HN5.out.below HB6.out).turn HT7.out (by decide) (by decide) (by decide)
      refine⟨_,_,n',hb7,hN7,HF7.out,fillX_ok HFK.out HYK.out,fillX_is (HFI.out.turn hb7 (by decide)) ((HYI.out.below HB6.out).turn HT7.out (by decide)),.inr ⟨HKX.out.2,f,HFM.out,rfl⟩⟩
     ·obtain⟨hst,hf6,hb6⟩:=HG.out Fx.no Fx.no_ok
      have HB6:=hide hb6
      have HR6:Hid (((w5.alloc (.cells noVA TFile)).setCells w5.heap.size 0 (fcs Fx.no)).heap[w.heap.size]?=some (.cells Px.no.cs.toArray TPiece (0,0))):=(hb6.block _ (heap_some_lt HR5.out)).trans HR5.out
      have HG6:Hid (((w5.alloc (.cells noVA TFile)).setCells w5.heap.size 0 (fcs Fx.no)).heap[g]?=some (.cells #[txv (nameP (placeN size l j)),errS at_ 5] 115 (0,0))):=(hb6.block _ (heap_some_lt hgb)).trans hgb
      have hbp:=fun w0=>buildP_no w0
      have hs8:=storeP_of (row_there HR6.out) (Px.cs_len Px.no_ok) (Px.cs_one Px.no_ok)
      have HW8:=hide (row_whole HR6.out (ds:=Px.no.cs) rfl)
      have HTN:=hide ((Turn.refl (fun b=>b=w.heap.size) [TPiece] _).setCells (.inl rfl) HR6.out (by simp) Px.no.cs 0)
      have HT8:=hide ((HTW.out.then_below hb6).setCellsNew (Nat.le_refl w.heap.size) Px.no.cs 0)
      clear hf6 hb6 HG hgs hgb
      unfold pathE
      go_wp2_with fail
      refine bodyPost_ret (v:= .tuple #[.agg Px.no.cs.toArray,pathE g]) (results_cell_tmp Tryz.results101 _ _ w.heap.size TPiece _ (0,0) _ rfl HW8.out Tryz.underlying128 rfl (by rw [infoPiece];rfl) _ rfl) rfl ?_
      have hnm:=needM_miss (by have:=HKX.out.2;rw [HKK.out] at this;exact this) HFM.out
      rw [hnm]
      refine⟨HT8.out.mono (fun _ h=> .inl h) (by decide),HH.out.next (HT8.out.mono (fun _ h=> .inl h) (by decide)) _ _ ((HN5.out.below HB6.out).turn HTN.out (by decide) (by decide) (by decide)) HST.out (by have:=HH.out.few;have:=HCN.out.2;simp only;omega) (HH.out.nee.stay HT8.out (fun b hA hO=>HH.out.apart b hO hA) (by decide) (by decide) (fun _ h=> .inl h)) (by have:=HH.out.short;simp only;omega),.inr ⟨_,g,rfl,HTN.out.keep HG6.out (by decide),rfl⟩⟩
   case rest =>
    obtain⟨Y,hY⟩:∃ Y,Y=wc:=⟨_,rfl⟩
    subst hY
    obtain⟨ys,F',n',ht,hN,hfy,hyk,hyi,hstep⟩:=hcut
    have HT:=hide ht
    have HN:=hide hN
    have HFY:=hide hfy
    have HYK:=hide hyk
    have HYI:=hide hyi
    have HSTEP:=hide hstep
    have HCY:Hid (Y.heap[cb]?=some (.cells C TCli (0,0))):=ht.keep HCX.out (by decide)
    have HPY:Hid (Y.heap[pb]?=some (.cells #[.int .i64 l,.int .i64 (q:Int),.int .i64 (wd:Int)] 126 (0,0))):=ht.keep HPX.out (by decide)
    have HRY:Hid (Y.heap[w.heap.size]?=some (.cells Px.no.cs.toArray TPiece (0,0))):=ht.keep HRX.out (by decide)
    have HMY:Hid (MemN Y A nm maxI LN):=(HMN.out.below HBX.out (fun _ h=>h)).keep ht (by decide) (by decide) (fun b hA hO=>by
     rcases hO with hO | rfl
     ·exact absurd hA (HH.out.apart b hO)
     ·exact⟨_,_,_,HFX.out⟩)
    clear ht hN hfy hyk hyi hstep HKX HCX HPX HRX h6 h6f HTH
    have hky:kk < ys.length:=by rw [HYK.out.1];exact HK4.out
    have hgd:ys[kk]=ys.getD kk .no:=by simp [List.getD_eq_getElem?_getD,hky]
    obtain⟨z,hz⟩:∃ z:Px,z={ ys.getD kk .no with fits:=true }:=⟨_,rfl⟩
    have hzk:z.ok:=by rw [hz];have:=getD_ok HYK.out kk;exact⟨this.1,this.2⟩
    obtain⟨h7,h7f⟩:=HFY.out.cell HYK.out.2 hky (j:=1) (by omega) (v:= .bool ys[kk].fits) rfl
    have HF8:=hide (HFY.out.set1 HYK.out.2 hky (j:=1) (v:= .bool true) (x:=z) (by omega) hzk (by rw [hz,hgd];rfl))
    have HT8:=hide ((Turn.refl (fun b=>b=fb) [TFile] Y).set (o:=kk*11+1) (.inl rfl) HFY.out (by simp) (.bool true))
    have HZK:=hide hzk
    have HZ:=hide hz
    have HKY:Hid (FOk (ys.set kk z)):=⟨by rw [List.length_set];exact HYK.out.1,set_ok HYK.out.2 kk hzk⟩
    rw [hgd] at h7
    clear hky hgd hz hzk
    go_wp2_with fail
    generalize Y.setCell ⟨fb,kk*11+1,none⟩ (.bool true)=V at *
    have hcv:V.heap[cb]?=some (.cells C TCli (0,0)):=HT8.out.keep HCY.out (by decide)
    have hpv:V.heap[pb]?=some (.cells #[.int .i64 l,.int .i64 (q:Int),.int .i64 (wd:Int)] 126 (0,0)):=HT8.out.keep HPY.out (by decide)
    have HRV:Hid (V.heap[w.heap.size]?=some (.cells Px.no.cs.toArray TPiece (0,0))):=HT8.out.keep HRY.out (by decide)
    have HMV:Hid (MemN V A nm maxI LN):=HMY.out.keep HT8.out (by decide) (by decide) (fun b _ hb=>by subst hb;exact⟨_,_,_,HFY.out⟩)
    have HNV:Hid (NetAt V O nb db n'):=HN.out.turn HT8.out (by decide) (by decide) (by decide)
    have HYV:Hid (FxIs V ys F'):=HYI.out.turn HT8.out (by decide)
    have c14:V.cell? ⟨cb,14,none⟩=some (.pointer (some ⟨nm,0,none⟩)):=(dcell hcv 14 _ HH.out.cells.nee).1
    obtain⟨p0,-⟩:=dcell hpv 0 _ rfl
    obtain⟨p1,-⟩:=dcell hpv 1 _ rfl
    obtain⟨p2,-⟩:=dcell hpv 2 _ rfl
    simp only [List.getElem_toArray,List.getElem_cons_zero,List.getElem_cons_succ] at p0 p1 p2
    have hlen:LN.length≤1000000000000:=by have:=HND.out.len;have:=HH.out.short;omega
    have HPUT:=hide (putN_new A nm maxI LN (placeN size l j) HPOK.out (some ⟨fb,0,none⟩) V.drew (HMV.out.below (Below.refl _ V).drew (fun _ h=>h)) hlen)
    have HLEN:=hide hlen
    unfold ptrV at HPUT
    rw [HPV.out] at HPUT
    clear h7 h7f hcv hpv hlen
    go_region_with (go_at_call 153;refine HPUT.out.mono ?_;rintro r w8 ⟨rfl,ht8,nbb,hn1,hn2,hm8⟩;have HTP:=hide ht8.undrew;have HM8:=hide hm8;have HNB:Hid (V.heap.size≤nbb∧nbb < w8.heap.size):=⟨hn1,hn2⟩;clear ht8 hm8 hn1 hn2)
    all_goals (
     have HF9:Hid (FileAt w8 fb (ys.set kk z)):=HTP.out.keep HF8.out (by decide)
     have hkl:kk < (ys.set kk z).length:=by rw [HKY.out.1];exact HK4.out
     have hgz:(ys.set kk z)[kk]=z:=by simp
     have hpc:=HF9.out.piece HKY.out.2 hkl
     rw [hgz] at hpc
     have hld:=loadP_of hpc (Px.cs_len HZK.out)
     have HR9:Hid (w8.heap[w.heap.size]?=some (.cells Px.no.cs.toArray TPiece (0,0))):=HTP.out.keep HRV.out (by decide)
     have hst:=storeP_of (row_there HR9.out) (Px.cs_len HZK.out) (Px.cs_one HZK.out)
     have HW9:=hide (row_whole HR9.out (ds:=z.cs) (by rw [Px.cs_len HZK.out,Px.cs_len Px.no_ok]))
     clear hkl hgz hpc
     go_wp2_with fail
     refine bodyPost_ret (v:= .tuple #[.agg z.cs.toArray,.nilIface]) (results_cell_tmp Tryz.results101 _ _ w.heap.size TPiece _ (0,0) _ rfl HW9.out Tryz.underlying128 rfl (by rw [infoPiece,List.size_toArray,Px.cs_len HZK.out]) _ rfl) rfl ?_
     exact need_end HH.out HND.out HNDUP.out HBX.out (by have:=HZX.out;omega) HFX.out HFB.out HT.out HT8.out HTP.out HNB.out HM8.out HLEN.out HF8.out HKY.out HYV.out HZ.out HZK.out HKK.out HK4.out HNV.out HSTEP.out HR9.out)
end
end Go.Proofs.YtinhekmmdlhfkaaGreatDoor
