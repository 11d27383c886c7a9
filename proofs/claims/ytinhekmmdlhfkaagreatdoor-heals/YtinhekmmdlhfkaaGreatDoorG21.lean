import Derived.Test.YtinhekmmdlhfkaaGreatDoorG20
import Derived.Test.YtinhekmmdlhfkaaGreatDoorG14
import Derived.Laws.IdiomCopy
import Derived.Test.YtinhekmmdlhfkaaGreatDoorG10
import Derived.Test.YtinhekmmdlhfkaaGreatDoorG07
namespace Go.Proofs.YtinhekmmdlhfkaaGreatDoor
section
set_option maxHeartbeats 1000000
open Go.RowKit Go.Extern.Stop Go.Stop Go.Extern
set_option maxRecDepth 100000
theorem is_nil (b:Addr)(w:World):
  Calls Tryz.prog 46 #[.nilIface,.iface 326 (.pointer (some b))] w fun e w'=>e= .returned (.bool false)∧w'=w:=by
 have y:(binOp .eql 70 .nilIface (.iface 326 (.pointer (some b)))).run Tryz.prog w= .ok (.bool false) w:=by kernel_rfl
 go_enter Tryz.func46,Tryz.ntmps46
 go_wp2
 go_ret
 exact⟨rfl,rfl⟩
end
section
open Go.RowKit
set_option maxRecDepth 100000
abbrev noPA:Array Value:=#[.bool false,.bool false,.int .u8 0,.int .u8 0,.int .u8 0,.int .u8 0,.int .u8 0,.int .u8 0,.int .u8 0,.int .u8 0,.slice none 0 0]
theorem zeroN0:(Builtin.zeroCells noPA 0).toList=fcs (List.replicate 0 Px.no):=by kernel_rfl
theorem zeroN1:(Builtin.zeroCells noPA 1).toList=fcs (List.replicate 1 Px.no):=by kernel_rfl
theorem zeroN2:(Builtin.zeroCells noPA 2).toList=fcs (List.replicate 2 Px.no):=by kernel_rfl
theorem zeroN3:(Builtin.zeroCells noPA 3).toList=fcs (List.replicate 3 Px.no):=by kernel_rfl
theorem zeroN (n:Nat)(hn:n < 4):(Builtin.zeroCells noPA n).toList=fcs (List.replicate n Px.no):=by
 match n,hn with
 | 0,_=>exact zeroN0
 | 1,_=>exact zeroN1
 | 2,_=>exact zeroN2
 | 3,_=>exact zeroN3
theorem rep_ok (n:Nat):∀ x∈List.replicate n Px.no,x.ok:=fun x hx=>by rw [List.eq_of_mem_replicate hx];exact Px.no_ok
theorem FileAt.there' {w:World}{fb:Nat}{xs:List Px}(h:FileAt w fb xs)(hx:FOk xs)(j:Nat)(hj:j < 44):(w.cell? ⟨fb,j,none⟩).isSome=true∧w.frozen? ⟨fb,j,none⟩=false:=by
 have:=file_there h hx j hj
 rwa [Nat.zero_add] at this
theorem clear_any {fb:Nat}{xs:List Px}(hx:FOk xs){k:Nat}(h0:0 < k)(hk:k < 4){w:World}(h:FileAt w fb xs)(c:Nat)(ty:TypeId):
  (Builtin.clear_ #[305] ty #[.slice (some ⟨fb,k*11,none⟩) (4 - k) c]).run Tryz.prog w= .ok (.tuple #[]) (w.setCells fb (k*11) (fcs (List.replicate (4 - k) .no))) ∧
  FileAt (w.setCells fb (k*11) (fcs (List.replicate (4 - k) .no))) fb (xs.take k++List.replicate (4 - k) .no):=by
 have hl:(fcs (List.replicate (4 - k) Px.no)).length=11*(4 - k):=by rw [fcs_len (rep_ok _),List.length_replicate]
 have hst:=run_storeCells_cells (P:=Tryz.prog) fb (k*11) (fcs (List.replicate (4 - k) .no)) 0 w
  (fun j hj=>by rw [Nat.add_zero];exact(h.there' hx _ (by omega)).1)
  (fun j hj=>by rw [Nat.add_zero];exact(h.there' hx _ (by omega)).2)
  (fcs_one (rep_ok _))
 simp only [Nat.add_zero] at hst
 have hz:(Builtin.zeroCells noPA (4 - k)).toList=fcs (List.replicate (4 - k) Px.no):=zeroN (4 - k) (by omega)
 obtain⟨m,hm⟩:∃ m,4 - k=m+1:=⟨3 - k,by omega⟩
 refine⟨?_,?_⟩
 ·rw [hm] at hst hz ⊢
  simp [Builtin.clear_,run_underlying Tryz.underlying305,Value.cells]
  rw [hz,hst]
  rfl
 ·unfold FileAt
  rw [heap_setCells _ _ h (by rw [hl,hx.len];omega),hl]
  congr 3
  obtain⟨a,b,c',d,rfl⟩:=list4 hx.1
  have ha:=Px.cs_len (hx.2 a (by simp))
  have hb:=Px.cs_len (hx.2 b (by simp))
  have hc:=Px.cs_len (hx.2 c' (by simp))
  have hd:=Px.cs_len (hx.2 d (by simp))
  have ht:∀(ys zs:List Px),(∀ y∈ys,y.ok)→(fcs (ys++zs)).take (ys.length*11)=fcs ys:=fun ys zs hy=>by
   have:fcs (ys++zs)=fcs ys++fcs zs:=by simp [fcs]
   rw [this,show ys.length*11=(fcs ys).length by rw [fcs_len hy];omega,List.take_left]
  have hdr:(fcs [a,b,c',d]).drop (k*11+11*(4 - k))=[]:=List.drop_eq_nil_of_le (by rw [hx.len];omega)
  have hsp:fcs ([a,b,c',d].take k++List.replicate (4 - k) Px.no)=fcs ([a,b,c',d].take k)++fcs (List.replicate (4 - k) Px.no):=by simp [fcs]
  have e:=ht ([a,b,c',d].take k) ([a,b,c',d].drop k) (fun y hy=>hx.2 y (List.mem_of_mem_take hy))
  rw [List.take_append_drop,show([a,b,c',d].take k).length=k by simp;omega] at e
  rw [hdr,hsp,e]
  simp
end
section
open Go.RowKit
set_option maxRecDepth 100000
attribute [local go_sem ↓] loadM_fold storeM_fold loadP_fold storeP_fold buildP_fold buildF_fold loadH_fold storeH_fold
theorem fileM_some {σ:Type}{fe:σ→List UInt8→(List UInt8×Bool)×σ}{s:σ}{p:Pl}{f:Fl}(h:(placeM fe s p).1=some f):fileM fe s p=(some f,(placeM fe s p).2):=by
 unfold fileM
 split
 ·rename_i f' s1 e
  rw [e] at h ⊢
  exact Prod.ext h rfl
 ·rename_i s1 e
  rw [e] at h
  simp at h
theorem fileM_none4 {σ:Type}{fe:σ→List UInt8→(List UInt8×Bool)×σ}{s:σ}{p:Pl}(h:(placeM fe s p).1=none)(h4:p.2.2=4):fileM fe s p=(none,(placeM fe s p).2):=by
 unfold fileM
 split
 ·rename_i f' s1 e
  rw [e] at h
  simp at h
 ·rename_i s1 e
  rw [e,if_pos h4]
theorem fileM_none {σ:Type}{fe:σ→List UInt8→(List UInt8×Bool)×σ}{s:σ}{p:Pl}(h:(placeM fe s p).1=none)(h4:p.2.2≠4):
  fileM fe s p=(((placeM fe (placeM fe s p).2 (p.1,p.2.1,4)).1).map (clipF p.2.2),(placeM fe (placeM fe s p).2 (p.1,p.2.1,4)).2):=by
 unfold fileM
 split
 ·rename_i f' s1 e
  rw [e] at h
  simp at h
 ·rename_i s1 e
  rw [e,if_neg h4]
  simp only
  split
  ·rename_i e2
   rw [e2];rfl
  ·rename_i e2
   rw [e2];rfl
theorem clip_is {w:World}{xs:List Px}{f:Fl}(h:FxIs w xs f){k:Nat}(hk:k≤4):FxIs w (xs.take k++List.replicate (4 - k) .no) (clipF k f):=by
 obtain⟨hx,hf,hp⟩:=h
 obtain⟨a,b,c,d,rfl⟩:=list4 hx
 obtain⟨a',b',c',d',rfl⟩:=list4 hf
 have h0:=hp 0 (by omega)
 have h1:=hp 1 (by omega)
 have h2:=hp 2 (by omega)
 have h3:=hp 3 (by omega)
 have hno:=PxIs.none w
 refine⟨by simp;omega,by simp [clipF];omega,fun j hj=>?_⟩
 match k,hk,j,hj with
 | 0,_,0,_ | 0,_,1,_ | 0,_,2,_ | 0,_,3,_=>exact hno
 | 1,_,0,_=>exact h0
 | 1,_,1,_ | 1,_,2,_ | 1,_,3,_=>exact hno
 | 2,_,0,_=>exact h0
 | 2,_,1,_=>exact h1
 | 2,_,2,_ | 2,_,3,_=>exact hno
 | 3,_,0,_=>exact h0
 | 3,_,1,_=>exact h1
 | 3,_,2,_=>exact h2
 | 3,_,3,_=>exact hno
 | 4,_,0,_=>exact h0
 | 4,_,1,_=>exact h1
 | 4,_,2,_=>exact h2
 | 4,_,3,_=>exact h3
end
section
theorem fitsAt_len (f:Fl)(k:Nat):(fitsAt f k).length=f.length:=by simp [fitsAt]
theorem fitsAt_get (f:Fl)(k i:Nat):(fitsAt f k).getD i .no=if i=k∧k < f.length then { f.getD i .no with fits:=true } else f.getD i .no:=by
 unfold fitsAt
 simp only [List.getD_eq_getElem?_getD,List.getElem?_modify]
 by_cases h:k=i
 ·subst h
  by_cases hk:k < f.length
  ·simp [hk]
  ·simp [hk]
 ·have:¬ i=k:=fun e=>h e.symm
  simp [h,this]
theorem fillF_len (f c:Fl)(h:f.length=c.length):(fillF f c).length=f.length:=by simp [fillF,h]
theorem fillF_get (f c:Fl)(h:f.length=c.length)(i:Nat)(hi:i < f.length):(fillF f c).getD i .no=if (f.getD i .no).fits then f.getD i .no else c.getD i .no:=by
 have hc:i < c.length:=by omega
 unfold fillF
 simp only [List.getD_eq_getElem?_getD,List.getElem?_zipWith,List.getElem?_eq_getElem hi,List.getElem?_eq_getElem hc,Option.getD_some]
theorem fitF_get (f:Fl)(i:Nat):(fitF f).getD i .no=if (f.getD i .no).fits then f.getD i .no else .no:=by
 unfold fitF
 simp only [List.getD_eq_getElem?_getD,List.getElem?_map]
 by_cases hi:i < f.length
 ·simp [List.getElem?_eq_getElem hi]
 ·simp [List.getElem?_eq_none (Nat.not_lt.1 hi),Pc.no]
theorem set_get (f:Fl)(k i:Nat)(p:Pc):(f.set k p).getD i .no=if i=k∧k < f.length then p else f.getD i .no:=by
 simp only [List.getD_eq_getElem?_getD,List.getElem?_set]
 by_cases h:k=i
 ·subst h
  by_cases hk:k < f.length
  ·simp [hk]
  ·simp [hk]
 ·have:¬ i=k:=fun e=>h e.symm
  simp [h,this]
theorem tileFl_len (w:Nat)(d:List UInt8):(tileFl w d).length=4:=by simp [tileFl]
theorem bunFl_len (es:List (List UInt8)):(bunFl es).length=4:=by simp [bunFl]
theorem tileFl_get (w:Nat)(d:List UInt8)(k:Nat)(hk:k < 4):(tileFl w d).getD k .no=if k < w then ⟨true,false,(d.drop (8*k)).take 8,[]⟩ else .no:=by
 simp [tileFl,List.getD_eq_getElem?_getD,hk]
theorem bunFl_get (es:List (List UInt8))(k:Nat)(hk:k < 4):(bunFl es).getD k .no=if k < es.length then ⟨true,false,leafH (es.getD k []),es.getD k []⟩ else .no:=by
 simp [bunFl,List.getD_eq_getElem?_getD,hk]
theorem clipF_get (w:Int)(f:Fl)(k:Nat):(clipF w f).getD k .no=if k < w.toNat then f.getD k .no else .no:=by
 unfold clipF
 simp only [List.getD_eq_getElem?_getD,List.getElem?_append,List.length_take,List.getElem?_take,List.getElem?_replicate]
 by_cases h:k < w.toNat
 ·by_cases hf:k < f.length
  ·rw [if_pos (by omega)];simp [h]
  ·rw [if_neg (by omega)]
   rw [List.getElem?_eq_none (Nat.not_lt.1 hf)]
   split<;>simp
 ·rw [if_neg (by omega)]
  split<;>simp
theorem clipF_len (w:Int)(f:Fl)(hf:f.length=4)(hw:w≤4):(clipF w f).length=4:=by
 unfold clipF
 simp [hf];omega
structure Came (w:Int)(f:Fl):Prop where
 len:f.length=4
 fits:∀ k,(f.getD k .no).fits=false
 there:∀ k,k < 4→(f.getD k .no).there=decide ((k:Int) < w)
theorem readF_came {l w:Int}{d:List UInt8}{f:Fl}(h:readF l w d=some f):Came w f:=by
 unfold readF at h
 by_cases hl:l=-1
 ·rw [if_pos hl] at h
  cases hu:unbF d with
  | none=>rw [hu] at h;simp at h
  | some es =>
   rw [hu] at h
   by_cases he:(es.length:Int)=w
   ·simp only [he,if_true,Option.some.injEq] at h
    subst h
    refine⟨bunFl_len _,fun k=>?_,fun k hk=>?_⟩
    ·by_cases hk:k < 4
     ·rw [bunFl_get _ _ hk];split<;>rfl
     ·rw [List.getD_eq_getElem?_getD,List.getElem?_eq_none (by rw [bunFl_len];omega)];rfl
    ·rw [bunFl_get _ _ hk]
     by_cases hke:k < es.length
     ·rw [if_pos hke];simp;omega
     ·rw [if_neg hke];simp [Pc.no];omega
   ·simp [he] at h
 ·rw [if_neg hl] at h
  by_cases he:(d.length:Int)=w*8
  ·rw [if_pos he] at h
   simp only [Option.some.injEq] at h
   subst h
   refine⟨tileFl_len _ _,fun k=>?_,fun k hk=>?_⟩
   ·by_cases hk:k < 4
    ·rw [tileFl_get _ _ _ hk];split<;>rfl
    ·rw [List.getD_eq_getElem?_getD,List.getElem?_eq_none (by rw [tileFl_len];omega)];rfl
   ·rw [tileFl_get _ _ _ hk]
    by_cases hke:k < w.toNat
    ·rw [if_pos hke];simp;omega
    ·rw [if_neg hke];simp [Pc.no];omega
  ·rw [if_neg he] at h;simp at h
theorem clipF_came {w:Int}{f:Fl}(h:Came 4 f)(hw:w≤4):Came w (clipF w f):=by
 refine⟨clipF_len w f h.len hw,fun k=>?_,fun k hk=>?_⟩
 ·rw [clipF_get]
  split
  ·exact h.fits k
  ·rfl
 ·rw [clipF_get]
  by_cases hkw:k < w.toNat
  ·rw [if_pos hkw,h.there k hk];simp;omega
  ·rw [if_neg hkw];simp [Pc.no];omega
section
variable {σ : Type} {fe : σ → List UInt8 → (List UInt8 × Bool) × σ}
theorem placeM_came {s s':σ}{p:Pl}{f:Fl}(h:placeM fe s p=(some f,s')):Came p.2.2 f:=by
 unfold placeM at h
 simp only [Prod.mk.injEq] at h
 obtain⟨h,-⟩:=h
 split at h
 ·exact readF_came h
 ·simp at h
theorem fileM_came {s s':σ}{p:Pl}{f:Fl}(hp:p.2.2≤4)(h:fileM fe s p=(some f,s')):Came p.2.2 f:=by
 unfold fileM at h
 cases h1:placeM fe s p with
 | mk o s1 =>
  rw [h1] at h
  cases o with
  | some g =>
   simp only [Prod.mk.injEq,Option.some.injEq] at h
   obtain⟨rfl,-⟩:=h
   exact placeM_came h1
  | none =>
   by_cases h4:p.2.2=4
   ·simp [h4] at h
   ·simp only [h4,if_false] at h
    cases h2:placeM fe s1 (p.1,p.2.1,4) with
    | mk o2 s2 =>
     rw [h2] at h
     cases o2 with
     | none=>simp at h
     | some g =>
      simp only [Prod.mk.injEq,Option.some.injEq] at h
      obtain⟨rfl,-⟩:=h
      exact clipF_came (placeM_came h2) hp
theorem Mm.get_mem {m:Mm}{k:Pl}{f:Fl}(h:m.get k=some f):(k,f)∈m:=by
 unfold Mm.get at h
 cases e:m.find? (fun x=>decide (x.1=k)) with
 | none=>rw [e] at h;simp at h
 | some x =>
  rw [e] at h
  simp only [Option.some.injEq] at h
  have h1:=List.find?_some e
  have h2:=List.mem_of_find?_eq_some e
  simp only [decide_eq_true_eq] at h1
  obtain⟨a,b⟩:=x
  simp only at h h1
  subst h;subst h1
  exact h2
theorem Mm.get_none {m:Mm}{k:Pl}(h:m.get k=none):∀ x∈m,x.1≠k:=by
 unfold Mm.get at h
 cases e:m.find? (fun x=>decide (x.1=k)) with
 | some x=>rw [e] at h;simp at h
 | none =>
  intro x hx
  have:=List.find?_eq_none.1 e x hx
  simpa using this
theorem Mm.drop_mem {m:Mm}{k:Pl}{x:Pl×Fl}:x∈m.drop k↔x∈m∧x.1≠k:=by
 unfold Mm.drop
 rw [List.mem_filter]
 simp
theorem Mm.drop_ok {m:Mm}(h:m.ok)(k:Pl):(m.drop k).ok:=by
 unfold Mm.ok Mm.drop at *
 exact(List.filter_sublist.map _).nodup h
theorem Mm.snoc_ok {m:Mm}(h:m.ok)(k:Pl)(f:Fl):(m.drop k++[(k,f)]:Mm).ok:=by
 have hd:=Mm.drop_ok h k
 unfold Mm.ok at *
 rw [List.map_append,List.nodup_append]
 refine⟨hd,by simp,?_⟩
 intro a ha b hb
 simp only [List.map_cons,List.map_nil,List.mem_singleton] at hb
 subst hb
 obtain⟨x,hx,rfl⟩:=List.mem_map.1 ha
 exact(Mm.drop_mem.1 hx).2
theorem Mm.put_mem {room:Int}{m:Mm}{k:Pl}{f:Fl}{x:Pl×Fl}(h:x∈m.put room k f):x=(k,f)∨(x∈m∧x.1≠k):=by
 have h1:x∈m.drop k++[(k,f)]:=by
  unfold Mm.put at h
  split at h
  ·exact List.mem_of_mem_tail h
  ·exact h
 rcases List.mem_append.1 h1 with h | h
 ·exact .inr (Mm.drop_mem.1 h)
 ·exact .inl (by simpa using h)
theorem Mm.put_ok {room:Int}{m:Mm}(h:m.ok)(k:Pl)(f:Fl):(m.put room k f).ok:=by
 have:=Mm.snoc_ok h k f
 unfold Mm.put
 split
 ·unfold Mm.ok at *
  rw [List.map_tail]
  exact(List.tail_sublist _).nodup this
 ·exact this
theorem Mm.set_keys (m:Mm)(k:Pl)(f:Fl):(m.set k f).map (·.1)=m.map (·.1):=by
 unfold Mm.set
 rw [List.map_map]
 apply List.map_congr_left
 intro x _
 simp only [Function.comp_apply]
 split
 ·rename_i h;exact h.symm
 ·rfl
theorem Mm.set_ok {m:Mm}(h:m.ok)(k:Pl)(f:Fl):(m.set k f).ok:=by
 unfold Mm.ok at *
 rw [Mm.set_keys];exact h
theorem Mm.set_mem {m:Mm}{k:Pl}{f:Fl}{x:Pl×Fl}(h:x∈m.set k f):x=(k,f)∨(x∈m∧x.1≠k):=by
 unfold Mm.set at h
 obtain⟨y,hy,e⟩:=List.mem_map.1 h
 by_cases hk:y.1=k
 ·rw [if_pos hk] at e;exact .inl e.symm
 ·rw [if_neg hk] at e;subst e;exact .inr ⟨hy,hk⟩
def Gd (V:Pl→Nat→Pc→Prop)(p:Pl)(k:Nat)(c:Pc):Prop:=(c.fits=true→c.there=true)∧(c.there=true→V p k c)
def GdF (V:Pl→Nat→Pc→Prop)(p:Pl)(f:Fl):Prop:=f.length=4∧∀ k,k < 4→Gd V p k (f.getD k .no)
def GdM (V:Pl→Nat→Pc→Prop)(m:Mm):Prop:=m.ok∧∀ x∈m,GdF V x.1 x.2
theorem gd_no (V:Pl→Nat→Pc→Prop)(p:Pl)(k:Nat):Gd V p k .no:=⟨by simp [Pc.no],by simp [Pc.no]⟩
theorem gdF_no (V:Pl→Nat→Pc→Prop)(p:Pl):GdF V p .no:=⟨rfl,fun k hk=>by
 match k,hk with
 | 0,_=>exact gd_no _ _ _
 | 1,_=>exact gd_no _ _ _
 | 2,_=>exact gd_no _ _ _
 | 3,_=>exact gd_no _ _ _⟩
theorem GdM.get {V:Pl→Nat→Pc→Prop}{m:Mm}(h:GdM V m){k:Pl}{f:Fl}(e:m.get k=some f):GdF V k f:=h.2 _ (Mm.get_mem e)
theorem GdM.known {V:Pl→Nat→Pc→Prop}{pr nd:Mm}(h:GdM V pr)(h':GdM V nd)(p:Pl):GdF V p (knownM pr nd p):=by
 unfold knownM
 cases e:nd.get p with
 | some f=>exact h'.get e
 | none =>
  cases e2:pr.get p with
  | some f=>exact h.get e2
  | none=>exact gdF_no V p
theorem GdM.snoc {V:Pl→Nat→Pc→Prop}{m:Mm}(h:GdM V m){k:Pl}{f:Fl}(hf:GdF V k f):GdM V (m.drop k++[(k,f)]):=by
 refine⟨Mm.snoc_ok h.1 k f,fun x hx=>?_⟩
 rcases List.mem_append.1 hx with h1 | h1
 ·exact h.2 x (Mm.drop_mem.1 h1).1
 ·obtain rfl:x=(k,f):=by simpa using h1
  exact hf
theorem GdM.put {V:Pl→Nat→Pc→Prop}{m:Mm}(h:GdM V m){k:Pl}{f:Fl}(hf:GdF V k f)(room:Int):GdM V (m.put room k f):=by
 refine⟨Mm.put_ok h.1 k f,fun x hx=>?_⟩
 rcases Mm.put_mem hx with rfl | ⟨h1,-⟩
 ·exact hf
 ·exact h.2 x h1
theorem GdM.set {V:Pl→Nat→Pc→Prop}{m:Mm}(h:GdM V m){k:Pl}{f:Fl}(hf:GdF V k f):GdM V (m.set k f):=by
 refine⟨Mm.set_ok h.1 k f,fun x hx=>?_⟩
 rcases Mm.set_mem hx with rfl | ⟨h1,-⟩
 ·exact hf
 ·exact h.2 x h1
theorem gdM_nil (V:Pl→Nat→Pc→Prop):GdM V []:=⟨by simp [Mm.ok],fun x hx=>by simp at hx⟩
theorem GdF.fitsAt {V:Pl→Nat→Pc→Prop}(hV:∀ p k c b,V p k c→V p k { c with fits:=b }){p:Pl}{f:Fl}(h:GdF V p f){k:Nat}(ht:(f.getD k .no).there=true):GdF V p (fitsAt f k):=by
 refine⟨by rw [fitsAt_len];exact h.1,fun i hi=>?_⟩
 rw [fitsAt_get]
 by_cases hc:i=k∧k < f.length
 ·rw [if_pos hc]
  obtain⟨rfl,-⟩:=hc
  exact⟨fun _=>ht,fun hh=>hV _ _ _ _ ((h.2 i hi).2 hh)⟩
 ·rw [if_neg hc];exact h.2 i hi
theorem GdF.fill {V:Pl→Nat→Pc→Prop}{p:Pl}{f c:Fl}(h:GdF V p f)(hc:GdF V p c):GdF V p (fillF f c):=by
 have e:f.length=c.length:=by rw [h.1,hc.1]
 refine⟨by rw [fillF_len f c e];exact h.1,fun i hi=>?_⟩
 rw [fillF_get f c e i (by rw [h.1];exact hi)]
 split
 ·exact h.2 i hi
 ·exact hc.2 i hi
theorem GdF.fit {V:Pl→Nat→Pc→Prop}{p:Pl}{f:Fl}(h:GdF V p f):GdF V p (fitF f):=by
 refine⟨by simp [fitF,h.1],fun i hi=>?_⟩
 rw [fitF_get]
 split
 ·exact h.2 i hi
 ·exact gd_no _ _ _
theorem remember_gd {V:Pl→Nat→Pc→Prop}(room:Int):∀(nd pr:Mm),GdM V pr→(∀ x∈nd,GdF V x.1 x.2)→GdM V (rememberM room pr nd)
 | [],pr,h,_=>h
 | x::nd,pr,h,hn=>by
  show GdM V (rememberM room (pr.put room x.1 (fitF x.2)) nd)
  exact remember_gd room nd _ (h.put (hn x (by simp)).fit room) (fun y hy=>hn y (by simp [hy]))
structure Says (fe:σ→List UInt8→(List UInt8×Bool)×σ)(I:σ→Prop)(T:Pl→Option Fl):Prop where
 file:∀ s p,I s→(fileM fe s p).1=T p
 keep:∀ s p,I s→I (fileM fe s p).2
theorem needM_val {I:σ→Prop}{T:Pl→Option Fl}{V:Pl→Nat→Pc→Prop}(hS:Says fe I T)(hV:∀ p k c b,V p k c→V p k { c with fits:=b })
  {proved:Mm} {size:Nat} {m:Ms σ} {l:Int} {j:Nat} (hT:∀ came,T (placeN size l j)=some came→GdF V (placeN size l j) came)
  (hp:GdM V proved) (hm:GdM V m.needed) (hI:I m.net) (hj:j < cntL l size) :
  (∃ c m',needM fe proved size m l j=(.inr c,m')∧c.there=true∧V (placeN size l j) (j % 4) c∧GdM V m'.needed∧I m'.net) ∨
  (∃ m',needM fe proved size m l j=(.inl (nameP (placeN size l j)),m')∧T (placeN size l j)=none∧m'.needed=m.needed∧I m'.net):=by
 have hk:GdF V (placeN size l j) (knownM proved m.needed (placeN size l j)):=hp.known hm _
 have hw:(placeN size l j).2.2≤4:=by unfold placeN;simp;omega
 have hkw:((j % 4:Nat):Int) < (placeN size l j).2.2:=by unfold placeN;simp;omega
 unfold needM
 generalize placeN size l j=p at *
 by_cases ht:((knownM proved m.needed p).getD (j % 4) .no).there=true
 ·rw [if_pos ht]
  have hg:=hk.fitsAt hV ht
  have ht2:((fitsAt (knownM proved m.needed p) (j % 4)).getD (j % 4) .no).there=true:=by
   rw [fitsAt_get];split
   ·exact ht
   ·exact ht
  exact .inl ⟨_,_,rfl,ht2,(hg.2 (j % 4) (by omega)).2 ht2,hm.snoc hg,hI⟩
 ·rw [if_neg ht]
  have e1:=hS.file m.net p hI
  have e2:=hS.keep m.net p hI
  cases hf:fileM fe m.net p with
  | mk o s =>
   rw [hf] at e1 e2
   simp only at e1 e2
   cases o with
   | none=>exact .inr ⟨_,rfl,e1.symm,rfl,e2⟩
   | some came =>
    have hc:=hT came e1.symm
    have hcm:=fileM_came hw hf
    have hg:=hk.fill hc
    have ht2:((fillF (knownM proved m.needed p) came).getD (j % 4) .no).there=true:=by
     rw [fillF_get _ _ (by rw [hk.1,hc.1]) _ (by rw [hk.1];omega)]
     have hnf:((knownM proved m.needed p).getD (j % 4) .no).fits≠true:=fun hfi=>ht ((hk.2 (j % 4) (by omega)).1 hfi)
     rw [if_neg hnf,hcm.there _ (by omega)]
     simpa using hkw
    have hg2:=hg.fitsAt hV ht2
    have ht3:((fitsAt (fillF (knownM proved m.needed p) came) (j % 4)).getD (j % 4) .no).there=true:=by
     rw [fitsAt_get];split
     ·exact ht2
     ·exact ht2
    exact .inl ⟨_,_,rfl,ht3,(hg2.2 (j % 4) (by omega)).2 ht3,hm.snoc hg2,e2⟩
end
end
section
theorem pathS_in:∀(f a n i:Nat),n≤2 ^ f→∀ s∈pathS f a n i,a≤s.1∧s.1+s.2≤a+n∧1≤s.2:=by
 intro f
 induction f with
 | zero=>intro a n i h s hs;simp [pathS] at hs
 | succ f ih =>
  intro a n i h s hs
  by_cases h1:n≤1
  ·rw [pathS_one _ _ _ _ h1] at hs;simp at hs
  obtain⟨k1,k2,k3,k4,k5,k6⟩:=kOf_half n f (by omega) h
  by_cases hi:i < a+kOf n
  ·rw [pathS_left f a n i (by omega) hi] at hs
   rcases List.mem_append.1 hs with hs | hs
   ·have:=ih a (kOf n) i k1 s hs;omega
   ·obtain rfl:s=_:=List.mem_singleton.1 hs
    simp only;omega
  ·rw [pathS_right f a n i (by omega) hi] at hs
   rcases List.mem_append.1 hs with hs | hs
   ·have:=ih (a+kOf n) (n - kOf n) i k2 s hs;omega
   ·obtain rfl:s=_:=List.mem_singleton.1 hs
    simp only;omega
theorem partS_in:∀(f m a n:Nat) (whole:Bool),n≤2 ^ f→1≤n→a < m→m≤a+n→∀ s∈partS f m a n whole,a≤s.1∧s.1+s.2≤a+n∧1≤s.2:=by
 intro f
 induction f with
 | zero =>
  intro m a n whole h hn1 hm1 hm2 s hs
  unfold partS at hs
  split at hs
  ·split at hs
   ·simp at hs
   ·obtain rfl:s=_:=List.mem_singleton.1 hs
    simp only;omega
  ·simp at hs
 | succ f ih =>
  intro m a n whole h hn1 hm1 hm2 s hs
  by_cases hm:m=a+n
  ·rw [partS_end _ _ _ _ _ hm] at hs
   split at hs
   ·simp at hs
   ·obtain rfl:s=_:=List.mem_singleton.1 hs
    simp only;omega
  obtain⟨k1,k2,k3,k4,k5,k6⟩:=kOf_half n f (by omega) h
  by_cases hk:m≤a+kOf n
  ·rw [partS_left f m a n whole hm hk] at hs
   rcases List.mem_append.1 hs with hs | hs
   ·have:=ih m a (kOf n) whole k1 k3 hm1 hk s hs;omega
   ·obtain rfl:s=_:=List.mem_singleton.1 hs
    simp only;omega
  ·rw [partS_right f m a n whole hm hk] at hs
   rcases List.mem_append.1 hs with hs | hs
   ·have:=ih m (a+kOf n) (n - kOf n) false k2 k4 (by omega) (by omega) s hs;omega
   ·obtain rfl:s=_:=List.mem_singleton.1 hs
    simp only;omega
end
section
theorem ctz_spec (n:Nat)(h0:0 < n)(h:n < 2 ^ 64):∃ m,n=2 ^ Lib.ctz 64 n*(2*m+1)∧Lib.ctz 64 n < 64:=by
 unfold Lib.ctz
 rw [if_neg (by omega)]
 exact Lib.ctzFrom_spec 64 n h0 h
theorem four_pow (l:Nat):4 ^ l=2 ^ (2*l):=by rw [Nat.pow_mul]
theorem lvl_spec (n:Nat)(h0:0 < n)(h:n < 2 ^ 64):4 ^ lvl n ∣ n∧lvl n < 32∧(n / 4 ^ lvl n=1↔n=4 ^ lvl n):=by
 obtain⟨m,hm,hc⟩:=ctz_spec n h0 h
 unfold lvl
 generalize Lib.ctz 64 n=c at *
 have hd:4 ^ (c / 2) ∣ n:=by
  rw [four_pow]
  refine Nat.dvd_trans (Nat.pow_dvd_pow 2 (show 2*(c / 2)≤c by omega)) ?_
  rw [hm];exact Nat.dvd_mul_right _ _
 refine⟨hd,by omega,?_⟩
 obtain⟨q,hq⟩:=hd
 have hp:0 < 4 ^ (c / 2):=Nat.pow_pos (by omega)
 rw [hq,Nat.mul_div_cancel_left _ hp]
 constructor
 ·intro e;rw [e,Nat.mul_one]
 ·intro e
  exact Nat.eq_of_mul_eq_mul_left hp (by rw [e,Nat.mul_one])
theorem lvl_pow (L:Nat)(h:L < 32):lvl (4 ^ L)=L:=by
 have hp:0 < 4 ^ L:=Nat.pow_pos (by omega)
 have hl:4 ^ L < 2 ^ 64:=by rw [four_pow];exact Nat.pow_lt_pow_right (by omega) (by omega)
 obtain⟨m,hm,hc⟩:=ctz_spec (4 ^ L) hp hl
 unfold lvl
 generalize Lib.ctz 64 (4 ^ L)=c at *
 have key:2 ^ (2*L)=2 ^ c*(2*m+1):=by rw [← four_pow];exact hm
 have h1:c≤2*L:=by
  have:2 ^ c≤2 ^ (2*L):=by rw [key];exact Nat.le_mul_of_pos_right _ (by omega)
  exact(Nat.pow_le_pow_iff_right (by omega:1 < 2)).1 this
 have h2:2 ^ (2*L - c)=2*m+1:=by
  have:2 ^ c*2 ^ (2*L - c)=2 ^ c*(2*m+1):=by rw [← Nat.pow_add,← key];congr 1;omega
  exact Nat.eq_of_mul_eq_mul_left (Nat.pow_pos (by omega)) this
 have h3:2*L - c=0:=by
  cases e:2*L - c with
  | zero=>rfl
  | succ x=>rw [e,Nat.pow_succ] at h2;omega
 omega
section
variable {σ : Type} {fe : σ → List UInt8 → (List UInt8 × Bool) × σ}
def rootH (H:Pl→Nat→List UInt8)(size:Nat):Nat→Nat→Nat→List UInt8
 | 0,_,_=>none8
 | f+1,a,n=>if n / 4 ^ lvl n=1 then H (placeN size (lvl n:Nat) (a / 4 ^ lvl n)) (a / 4 ^ lvl n % 4)
  else nodeH (rootH H size f a (kOf n)) (rootH H size f (a+kOf n) (n - kOf n))
def rootPl (size:Nat):Nat→Nat→Nat→List (Pl×Nat)
 | 0,_,_=>[]
 | f+1,a,n=>if n / 4 ^ lvl n=1 then [(placeN size (lvl n:Nat) (a / 4 ^ lvl n),a / 4 ^ lvl n % 4)]
  else rootPl size f a (kOf n)++rootPl size f (a+kOf n) (n - kOf n)
def Has (nd:Mm)(ps:List (Pl×Nat)):Prop:=∀ x∈ps,∃ f,nd.get x.1=some f∧f.length=4∧(f.getD x.2 .no).there=true∧(f.getD x.2 .no).fits=true
structure Ctx (fe:σ→List UInt8→(List UInt8×Bool)×σ)(I:σ→Prop)(T:Pl→Option Fl)(V:Pl→Nat→Pc→Prop)(H:Pl→Nat→List UInt8)(proved:Mm)(size:Nat):Prop where
 says:Says fe I T
 bare:∀ p k c b,V p k c→V p k { c with fits:=b }
 told:∀ l j came,-1≤l→j < cntL l size→T (placeN size l j)=some came→GdF V (placeN size l j) came
 hash:∀(l j:Nat) c,j < cntL (l:Int) size→V (placeN size (l:Int) j) (j % 4) c→c.hash=H (placeN size (l:Int) j) (j % 4)
 proved:GdM V proved
theorem run_in' (a n l size:Nat)(h:a+n≤size)(hn:n=4 ^ l):a / 4 ^ l < cntL (l:Int) size:=by
 unfold cntL
 rw [Int.toNat_natCast]
 have hp:0 < 4 ^ l:=Nat.pow_pos (by omega)
 have h1:a / 4 ^ l+1≤size / 4 ^ l:=by
  rw [Nat.le_div_iff_mul_le hp,Nat.add_mul,Nat.one_mul]
  have:=Nat.div_mul_le_self a (4 ^ l)
  omega
 omega
theorem rootM_one {proved:Mm}{size f a n:Nat}{m m1:Ms σ}{c:Pc}(he:n / 4 ^ lvl n=1)(h:needM fe proved size m (lvl n:Nat) (a / 4 ^ lvl n)=(.inr c,m1)):rootM fe proved size (f+1) m a n=(.inr c.hash,m1):=by
 rw [rootM,if_pos he,h]
theorem rootM_miss {proved:Mm}{size f a n:Nat}{m m1:Ms σ}{e:List UInt8}(he:n / 4 ^ lvl n=1)(h:needM fe proved size m (lvl n:Nat) (a / 4 ^ lvl n)=(.inl e,m1)):rootM fe proved size (f+1) m a n=(.inl e,m1):=by
 rw [rootM,if_pos he,h]
theorem rootM_two {proved:Mm}{size f a n:Nat}{m m1 m2:Ms σ}{x y:List UInt8}(he:¬ n / 4 ^ lvl n=1)(h1:rootM fe proved size f m a (kOf n)=(.inr x,m1))(h2:rootM fe proved size f m1 (a+kOf n) (n - kOf n)=(.inr y,m2)):rootM fe proved size (f+1) m a n=(.inr (nodeH x y),m2):=by
 rw [rootM,if_neg he,h1];simp only [h2]
theorem rootM_left {proved:Mm}{size f a n:Nat}{m m1:Ms σ}{e:List UInt8}(he:¬ n / 4 ^ lvl n=1)(h1:rootM fe proved size f m a (kOf n)=(.inl e,m1)):rootM fe proved size (f+1) m a n=(.inl e,m1):=by
 rw [rootM,if_neg he,h1]
theorem rootM_right {proved:Mm}{size f a n:Nat}{m m1 m2:Ms σ}{x e:List UInt8}(he:¬ n / 4 ^ lvl n=1)(h1:rootM fe proved size f m a (kOf n)=(.inr x,m1))(h2:rootM fe proved size f m1 (a+kOf n) (n - kOf n)=(.inl e,m2)):rootM fe proved size (f+1) m a n=(.inl e,m2):=by
 rw [rootM,if_neg he,h1];simp only [h2]
theorem rootsM_more {proved:Mm}{size:Nat}{m m1 m2:Ms σ}{s:Nat×Nat}{r:List (Nat×Nat)}{x:List UInt8}{xs:List (List UInt8)}(h1:rootM fe proved size 64 m s.1 s.2=(.inr x,m1))(h2:rootsM fe proved size m1 r=(.inr xs,m2)):rootsM fe proved size m (s::r)=(.inr (x::xs),m2):=by
 rw [rootsM,h1];simp only [h2]
theorem rootsM_here {proved:Mm}{size:Nat}{m m1:Ms σ}{s:Nat×Nat}{r:List (Nat×Nat)}{e:List UInt8}(h1:rootM fe proved size 64 m s.1 s.2=(.inl e,m1)):rootsM fe proved size m (s::r)=(.inl e,m1):=by
 rw [rootsM,h1]
theorem rootsM_then {proved:Mm}{size:Nat}{m m1 m2:Ms σ}{s:Nat×Nat}{r:List (Nat×Nat)}{x e:List UInt8}(h1:rootM fe proved size 64 m s.1 s.2=(.inr x,m1))(h2:rootsM fe proved size m1 r=(.inl e,m2)):rootsM fe proved size m (s::r)=(.inl e,m2):=by
 rw [rootsM,h1];simp only [h2]
theorem rootM_val {I:σ→Prop}{T:Pl→Option Fl}{V:Pl→Nat→Pc→Prop}{H:Pl→Nat→List UInt8}{proved:Mm}{size:Nat}(hc:Ctx fe I T V H proved size)(hs:size < 2 ^ 63):
  ∀(f:Nat) (m:Ms σ) (a n:Nat),GdM V m.needed→I m.net→a+n≤size→1≤n→n≤2 ^ f →
   ∃ m',GdM V m'.needed∧I m'.net∧(rootM fe proved size (f+1) m a n=(.inr (rootH H size (f+1) a n),m')∨∃ p,rootM fe proved size (f+1) m a n=(.inl (nameP p.1),m')∧p∈rootPl size (f+1) a n∧T p.1=none):=by
 have base:∀(f:Nat) (m:Ms σ) (a n:Nat),GdM V m.needed→I m.net→a+n≤size→1≤n→n / 4 ^ lvl n=1 →
   ∃ m',GdM V m'.needed∧I m'.net∧(rootM fe proved size (f+1) m a n=(.inr (rootH H size (f+1) a n),m')∨∃ p,rootM fe proved size (f+1) m a n=(.inl (nameP p.1),m')∧p∈rootPl size (f+1) a n∧T p.1=none):=by
  intro f m a n hm hI hl h1 he
  obtain⟨-,-,hiff⟩:=lvl_spec n h1 (by omega)
  have hj:=run_in' a n (lvl n) size hl (hiff.1 he)
  rw [rootH,rootPl,if_pos he,if_pos he]
  rcases needM_val (proved:=proved) (m:=m) hc.says hc.bare (fun came h=>hc.told _ _ came (by omega) hj h) hc.proved hm hI hj with ⟨c,m1,e1,-,e2,e3,e4⟩ | ⟨m1,e1,e2,e3,e4⟩
  ·exact⟨m1,e3,e4,.inl (by rw [rootM_one he e1,hc.hash _ _ c hj e2])⟩
  ·exact⟨m1,by rw [e3];exact hm,e4,.inr ⟨_,rootM_miss he e1,List.mem_singleton.2 rfl,e2⟩⟩
 intro f
 induction f with
 | zero =>
  intro m a n hm hI hl h1 h2
  obtain rfl:n=1:=by omega
  exact base 0 m a 1 hm hI hl (by omega) (by decide)
 | succ f ih =>
  intro m a n hm hI hl h1 h2
  by_cases he:n / 4 ^ lvl n=1
  ·exact base (f+1) m a n hm hI hl h1 he
  ·have hn2:2≤n:=by
    rcases Nat.lt_or_ge n 2 with h | h
    ·exact absurd (by obtain rfl:n=1:=by omega
                      decide) he
    ·exact h
   obtain⟨k1,k2,k3,k4,k5,k6⟩:=kOf_half n f hn2 h2
   rw [rootH,rootPl,if_neg he,if_neg he]
   obtain⟨m1,g1,g2,e | ⟨p,e,hp,hT⟩⟩:=ih m a (kOf n) hm hI (by omega) k3 k1
   ·obtain⟨m2,q1,q2,e' | ⟨p,e',hp,hT⟩⟩:=ih m1 (a+kOf n) (n - kOf n) g1 g2 (by omega) k4 k2
    ·exact⟨m2,q1,q2,.inl (rootM_two he e e')⟩
    ·exact⟨m2,q1,q2,.inr ⟨p,rootM_right he e e',List.mem_append.2 (.inr hp),hT⟩⟩
   ·exact⟨m1,g1,g2,.inr ⟨p,rootM_left he e,List.mem_append.2 (.inl hp),hT⟩⟩
theorem rootsM_val {I:σ→Prop}{T:Pl→Option Fl}{V:Pl→Nat→Pc→Prop}{H:Pl→Nat→List UInt8}{proved:Mm}{size:Nat}(hc:Ctx fe I T V H proved size)(hs:size < 2 ^ 63):
  ∀(ss:List (Nat×Nat)) (m:Ms σ),GdM V m.needed→I m.net→(∀ s∈ss,s.1+s.2≤size∧1≤s.2) →
   ∃ m',GdM V m'.needed∧I m'.net∧(rootsM fe proved size m ss=(.inr (ss.map fun s=>rootH H size 64 s.1 s.2),m')∨∃ s∈ss,∃ p,rootsM fe proved size m ss=(.inl (nameP p.1),m')∧p∈rootPl size 64 s.1 s.2∧T p.1=none):=by
 intro ss
 induction ss with
 | nil=>intro m hm hI _;exact⟨m,hm,hI,.inl rfl⟩
 | cons s ss ih =>
  intro m hm hI hl
  obtain⟨h1,h2⟩:=hl s (by simp)
  obtain⟨m1,g1,g2,e | ⟨p,e,hp,hT⟩⟩:=rootM_val hc hs 63 m s.1 s.2 hm hI h1 h2 (by omega)
  ·obtain⟨m2,q1,q2,e' | ⟨s',hs',p,e',hp,hT⟩⟩:=ih m1 g1 g2 (fun s' hs'=>hl s' (by simp [hs']))
   ·exact⟨m2,q1,q2,.inl (rootsM_more e e')⟩
   ·exact⟨m2,q1,q2,.inr ⟨s',by simp [hs'],p,rootsM_then e e',hp,hT⟩⟩
  ·exact⟨m1,g1,g2,.inr ⟨s,by simp,p,rootsM_here e,hp,hT⟩⟩
end
end
end Go.Proofs.YtinhekmmdlhfkaaGreatDoor
