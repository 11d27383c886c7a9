import Derived.Test.YtlcllcgngjhoaaaGreatDoorG10
import Derived.Lib.TrailingZeros
set_option maxHeartbeats 8000000
set_option maxRecDepth 100000
set_option linter.all false
namespace Go.Proofs.YtlcllcgngjhoaaaGreatDoor
open Go.RowKit Go.Proofs.Tryz
def xm:=@List.mem_singleton
def zaz:=@List.getElem?_eq_none
def zdm:=@List.mem_of_find?_eq_some
def zfd:=@List.mem_filter
def zig:=@Nat.eq_of_mul_eq_mul_left
def zju:=@List.find?_some
def zj3:=@Nat.mul_div_cancel_left
def zll:=@List.getElem?_zipWith
def zmw:=@Nat.pow_dvd_pow
def zqb:=@List.getElem?_set
def zqq:=@Nat.dvd_trans
def z15:=@Nat.le_of_lt
def z91:=@Nat.one_mul
section
abbrev Pl:=Int×Int×Int
structure Pc where
 there:Bool
 fits:Bool
 hash:zc
 entry:zc
def vg:zc:=[0,0,0,0,0,0,0,0]
def Pc.no:Pc:=⟨false,false,vg,[]⟩
abbrev Fl:=List Pc
def Fl.no:Fl:=[.no,.no,.no,.no]
abbrev Mm:=List (Pl×Fl)
def Mm.get (m:Mm)(k:Pl):Option Fl:=match m.find? (fun x=>decide (x.1=k)) with
 | some x=>some x.2
 | none=>none
def Mm.drop (m:Mm)(k:Pl):Mm:=m.filter fun x=>!decide (x.1=k)
def Mm.put (a:Int)(m:Mm)(k:Pl)(f:Fl):Mm:=if a < ((m.drop k++[(k,f)]).length:Int) then (m.drop k++[(k,f)]).tail else m.drop k++[(k,f)]
def Mm.set (m:Mm)(k:Pl)(f:Fl):Mm:=m.map fun x=>if x.1=k then (k,f) else x
def Mm.ok (m:Mm):Prop:=(m.map (·.1)).Nodup
def lvl (n:Nat):Nat:=Lib.ctz 64 n / 2
def zv (a:Nat)(l:Int)(j:Nat):Pl:=(l,((j / 4:Nat):Int),min ((qg l a:Int) - ((j / 4:Nat):Int)*4) 4)
def zld (w:Nat)(d:zc):Fl:=(List.range 4).map fun k=>if k < w then ⟨true,false,(d.drop (8*k)).take 8,[]⟩ else .no
def zma (es:za):Fl:=(List.range 4).map fun k=>if k < es.length then ⟨true,false,zae (es.getD k []),es.getD k []⟩ else .no
def zfl (l w:Int)(d:zc):Option Fl :=
 if l=-1 then (match zd6 d with
  | some es=>if (es.length:Int)=w then some (zma es) else none
  | none=>none)
 else if (d.length:Int)=w*8 then some (zld w.toNat d) else none
def znw (w:Int)(f:Fl):Fl:=f.take w.toNat++List.replicate (4 - w.toNat) .no
def zh3 (f c:Fl):Fl:=List.zipWith (fun a b=>if a.fits then a else b) f c
def zqy (f:Fl):Fl:=f.map fun p=>if p.fits then p else .no
def zr9 (f:Fl):Option (zc):=match f with
 | [a,b,c,d]=>if a.fits&&b.fits&&c.fits&&d.fits then some (jx (jx a.hash b.hash) (jx c.hash d.hash)) else none
 | _=>none
def zgc (p:Pl):zc:=qq p.1 p.2.1 p.2.2
section
variable {σ : Type} (fe : σ → zc → (zc × Bool) × σ)
def j7 (s:σ)(p:Pl):Option Fl×σ:=(if (fe s (zgc p)).1.2 then zfl p.1 p.2.2 (fe s (zgc p)).1.1 else none,(fe s (zgc p)).2)
def zb0 (s:σ)(p:Pl):Option Fl×σ:=match j7 fe s p with
 | (some f,a)=>(some f,a)
 | (none,a)=>if p.2.2=4 then (none,a) else match j7 fe a (p.1,p.2.1,4) with
  | (some f,b)=>(some (znw p.2.2 f),b)
  | (none,b)=>(none,b)
structure Ms (σ:Type) where
 net:σ
 needed:Mm
def j9 (proved needed:Mm)(p:Pl):Fl:=match needed.get p with
 | some f=>f
 | none=>match proved.get p with
  | some f=>f
  | none=> .no
def zby (f:Fl)(k:Nat):Fl:=f.modify k fun p=>{ p with fits:=true }
def zaq (b:Mm)(a:Nat)(m:Ms σ)(l:Int)(j:Nat):Sum (zc) Pc×Ms σ :=
 if ((j9 b m.needed (zv a l j)).getD (j % 4) .no).there then
  (.inr ((zby (j9 b m.needed (zv a l j)) (j % 4)).getD (j % 4) .no),
   { m with needed:=m.needed.drop (zv a l j)++[(zv a l j,zby (j9 b m.needed (zv a l j)) (j % 4))] })
 else match zb0 fe m.net (zv a l j) with
  | (none,s)=>(.inl (zgc (zv a l j)),{ m with net:=s })
  | (some c,s)=>(.inr ((zby (zh3 (j9 b m.needed (zv a l j)) c) (j % 4)).getD (j % 4) .no),
   { net:=s,needed:=m.needed.drop (zv a l j)++[(zv a l j,zby (zh3 (j9 b m.needed (zv a l j)) c) (j % 4))] })
def vm (proved:Mm)(size:Nat):Nat→Ms σ→Nat→Nat→Sum (zc) (zc)×Ms σ
 | 0,m,_,_=>(.inr vg,m)
 | f+1,m,a,n =>
  if n / 4 ^ lvl n=1 then (match zaq fe proved size m (lvl n:Nat) (a / 4 ^ lvl n) with
   | (.inl e,b)=>(.inl e,b)
   | (.inr p,b)=>(.inr p.hash,b))
  else match vm proved size f m a (yo n) with
   | (.inl e,b)=>(.inl e,b)
   | (.inr x,b)=>match vm proved size f b (a+yo n) (n - yo n) with
    | (.inl e,c)=>(.inl e,c)
    | (.inr y,c)=>(.inr (jx x y),c)
def qx (proved:Mm)(size:Nat)(m:Ms σ):List (Nat×Nat)→Sum (zc) (za)×Ms σ
 | []=>(.inr [],m)
 | s::r=>match vm fe proved size 64 m s.1 s.2 with
  | (.inl e,a)=>(.inl e,a)
  | (.inr x,a)=>match qx proved size a r with
   | (.inl e,b)=>(.inl e,b)
   | (.inr c,b)=>(.inr (x::c),b)
end
def zai (size:Nat):Nat→Mm→Nat→Nat→zc→Mm
 | 0,a,_,_,_=>a
 | f+1,a,l,j,h=>match a.get (zv size l j) with
  | none=>a
  | some b=>match zr9 (b.set (j % 4) ⟨true,true,h,[]⟩) with
   | some c=>zai size f (a.set (zv size l j) (b.set (j % 4) ⟨true,true,h,[]⟩)) (l+1) (j / 4) c
   | none=>a.set (zv size l j) (b.set (j % 4) ⟨true,true,h,[]⟩)
def zj7 (b l:Fl):Fl:=List.zipWith (fun p q=>if p.there&&q.fits&&decide (p.hash=q.hash) then { p with fits:=true } else p) b l
def zc8 (a:Nat)(d:Mm)(i:Nat)(c:zc):Mm :=
 match (zai a 64 d 0 i c).get (zv a 0 i) with
 | none=>zai a 64 d 0 i c
 | some e=>match (zai a 64 d 0 i c).get (zv a (-1) i) with
  | none=>zai a 64 d 0 i c
  | some b=>(zai a 64 d 0 i c).set (zv a (-1) i) (zj7 b e)
def zfy (b:Nat)(d:Mm)(a:Nat)(c:zc):Mm :=
 match d.get (zv b (lvl a:Nat) (a / 4 ^ lvl a - 1)) with
 | none=>d
 | some e =>
  if a / 4 ^ lvl a - 1=0 then zai b 64 d (lvl a) 0 c
  else if a / 4 ^ lvl a - 1=1 then
   (if jx (e.getD 0 .no).hash (e.getD 1 .no).hash=c then zai b 64 (d.set (zv b (lvl a:Nat) 1) (zby e 0)) (lvl a) 1 (e.getD 1 .no).hash else d)
  else zai b 64 d (lvl a) (a / 4 ^ lvl a - 1) (e.getD ((a / 4 ^ lvl a - 1) % 4) .no).hash
def jl (b:Int)(a c:Mm):Mm:=c.foldl (fun d x=>d.put b x.1 (zqy x.2)) a
end
variable {j k:Nat}
section
theorem zqz (f:Fl)(k:Nat):(zby f k).length=f.length:=by simp [zby]
theorem ze7 (f:Fl)(k i:Nat):(zby f k).getD i .no=if i=k∧k < f.length then { f.getD i .no with fits:=true } else f.getD i .no:=by
 unfold zby;simp only [zl,List.getElem?_modify]
 by_cases h:k=i
 ·subst h
  by_cases a:k < f.length
  ·simp [a]
  ·simp [a]
 ·have:¬ i=k:=fun e=>h e.symm;simp [h,this]
theorem ycc (f c:Fl)(h:f.length=c.length):(zh3 f c).length=f.length:=by simp [zh3,h]
theorem zhp (f c:Fl)(h:f.length=c.length)(i:Nat)(b:i < f.length):(zh3 f c).getD i .no=if (f.getD i .no).fits then f.getD i .no else c.getD i .no:=by
 have a:i < c.length:=by omega
 unfold zh3;simp only [zl,zll,zt b,zt a,zc2]
theorem ygu (f:Fl)(i:Nat):(zqy f).getD i .no=if (f.getD i .no).fits then f.getD i .no else .no:=by
 unfold zqy;simp only [zl,List.getElem?_map]
 by_cases a:i < f.length
 ·simp [zt a]
 ·simp [zaz (Nat.not_lt.1 a),Pc.no]
theorem yax (f:Fl)(k i:Nat)(p:Pc):(f.set k p).getD i .no=if i=k∧k < f.length then p else f.getD i .no:=by
 simp only [zl,zqb]
 by_cases h:k=i
 ·subst h
  by_cases a:k < f.length
  ·simp [a]
  ·simp [a]
 ·have:¬ i=k:=fun e=>h e.symm;simp [h,this]
theorem zxu (w:Nat)(d:zc):(zld w d).length=4:=by simp [zld]
theorem zyp (es:za):(zma es).length=4:=by simp [zma]
theorem zi6 (w:Nat)(d:zc)(k:Nat)(a:k < 4):(zld w d).getD k .no=if k < w then ⟨true,false,(d.drop (8*k)).take 8,[]⟩ else .no:=by
 simp [zld,zl,a]
theorem zho (es:za)(k:Nat)(a:k < 4):(zma es).getD k .no=if k < es.length then ⟨true,false,zae (es.getD k []),es.getD k []⟩ else .no:=by
 simp [zma,zl,a]
theorem zis (w:Int)(f:Fl)(k:Nat):(znw w f).getD k .no=if k < w.toNat then f.getD k .no else .no:=by
 unfold znw;simp only [zl,List.getElem?_append,vi,qj,List.getElem?_replicate]
 by_cases h:k < w.toNat
 ·by_cases a:k < f.length
  ·rw [if_pos (by omega)];simp [h]
  ·rw [if_neg (by omega)];rw [zaz (Nat.not_lt.1 a)];split<;>simp
 ·rw [if_neg (by omega)];split<;>simp
theorem zyr (w:Int)(f:Fl)(a:f.length=4)(b:w≤4):(znw w f).length=4:=by
 unfold znw;simp [a];omega
structure z0j (w:Int)(f:Fl):Prop where
 len:f.length=4
 fits:∀ k,(f.getD k .no).fits=false
 there:∀ k,k < 4→(f.getD k .no).there=decide ((k:Int) < w)
theorem znf {l w:Int}{d:zc}{f:Fl}(h:zfl l w d=some f):z0j w f:=by
 unfold zfl at h
 by_cases e:l=-1
 ·rw [if_pos e] at h;cases g:zd6 d with
  | none=>rw [g] at h;simp at h
  | some es =>
   rw [g] at h
   by_cases c:(es.length:Int)=w
   ·simp only [c,if_true,zr] at h;subst h;refine⟨zyp _,fun k=>?_,fun k b=>?_⟩
    ·by_cases b:k < 4
     ·rw [zho _ _ b];split<;>rfl
     ·rw [zl,zaz (by rw [zyp];omega)];rfl
    ·rw [zho _ _ b]
     by_cases a:k < es.length
     ·rw [if_pos a];simp;omega
     ·rw [if_neg a];simp [Pc.no];omega
   ·simp [c] at h
 ·rw [if_neg e] at h
  by_cases c:(d.length:Int)=w*8
  ·rw [if_pos c] at h;simp only [zr] at h;subst h;refine⟨zxu _ _,fun k=>?_,fun k b=>?_⟩
   ·by_cases b:k < 4
    ·rw [zi6 _ _ _ b];split<;>rfl
    ·rw [zl,zaz (by rw [zxu];omega)];rfl
   ·rw [zi6 _ _ _ b]
    by_cases a:k < w.toNat
    ·rw [if_pos a];simp;omega
    ·rw [if_neg a];simp [Pc.no];omega
  ·rw [if_neg c] at h;simp at h
theorem zvs {w:Int}{f:Fl}(h:z0j 4 f)(c:w≤4):z0j w (znw w f):=by
 refine⟨zyr w f h.len c,fun k=>?_,fun k b=>?_⟩
 ·rw [zis];split
  ·exact h.fits k
  ·rfl
 ·rw [zis]
  by_cases a:k < w.toNat
  ·rw [if_pos a,h.there k b];simp;omega
  ·rw [if_neg a];simp [Pc.no];omega
section
variable {σ : Type} {fe : σ → zc → (zc × Bool) × σ}
theorem zt5 {s a:σ}{p:Pl}{f:Fl}(h:j7 fe s p=(some f,a)):z0j p.2.2 f:=by
 unfold j7 at h;simp only [ye] at h;obtain⟨h,-⟩:=h;split at h
 ·exact znf h
 ·simp at h
theorem zqv {s i:σ}{p:Pl}{f:Fl}(d:p.2.2≤4)(h:zb0 fe s p=(some f,i)):z0j p.2.2 f:=by
 unfold zb0 at h;cases a:j7 fe s p with
 | mk o j =>
  rw [a] at h;cases o with
  | some g =>
   simp only [ye,zr] at h;obtain⟨rfl,-⟩:=h;exact zt5 a
  | none =>
   by_cases c:p.2.2=4
   ·simp [c] at h
   ·simp only [c,zd3] at h;cases b:j7 fe j (p.1,p.2.1,4) with
    | mk e k =>
     rw [b] at h;cases e with
     | none=>simp at h
     | some g =>
      simp only [ye,zr] at h;obtain⟨rfl,-⟩:=h;exact zvs (zt5 b) d
theorem Mm.get_mem {m:Mm}{k:Pl}{f:Fl}(h:m.get k=some f):(k,f)∈m:=by
 unfold Mm.get at h;cases e:m.find? (fun x=>decide (x.1=k)) with
 | none=>rw [e] at h;simp at h
 | some x =>
  rw [e] at h;simp only [zr] at h;have c:=zju e;have d:=zdm e;simp only [vj] at c;obtain⟨a,b⟩:=x;simp only at h c;subst h;subst c;exact d
theorem Mm.get_none {m:Mm}{k:Pl}(h:m.get k=none):∀ x∈m,x.1≠k:=by
 unfold Mm.get at h;cases e:m.find? (fun x=>decide (x.1=k)) with
 | some x=>rw [e] at h;simp at h
 | none =>
  intro x a;have:=vx.1 e x a;simpa using this
theorem Mm.drop_mem {m:Mm}{k:Pl}{x:Pl×Fl}:x∈m.drop k↔x∈m∧x.1≠k:=by
 unfold Mm.drop;rw [zfd];simp
theorem Mm.drop_ok {m:Mm}(h:m.ok)(k:Pl):(m.drop k).ok:=by
 unfold Mm.ok Mm.drop at *;exact(List.filter_sublist.map _).nodup h
theorem Mm.snoc_ok {m:Mm}(h:m.ok)(k:Pl)(f:Fl):(m.drop k++[(k,f)]:Mm).ok:=by
 have e:=Mm.drop_ok h k;unfold Mm.ok at *;rw [yy,zao];refine⟨e,by simp,?_⟩;intro a d b c;simp only [ve,zku,xm] at c;subst c;obtain⟨x,g,rfl⟩:=yl.1 d;exact(Mm.drop_mem.1 g).2
theorem Mm.put_mem {a:Int}{m:Mm}{k:Pl}{f:Fl}{x:Pl×Fl}(h:x∈m.put a k f):x=(k,f)∨(x∈m∧x.1≠k):=by
 have b:x∈m.drop k++[(k,f)]:=by
  unfold Mm.put at h;split at h
  ·exact List.mem_of_mem_tail h
  ·exact h
 rcases yt.1 b with h | h
 ·exact .inr (Mm.drop_mem.1 h)
 ·exact .inl (by simpa using h)
theorem Mm.put_ok {a:Int}{m:Mm}(h:m.ok)(k:Pl)(f:Fl):(m.put a k f).ok:=by
 have:=Mm.snoc_ok h k f;unfold Mm.put;split
 ·unfold Mm.ok at *;rw [List.map_tail];exact(List.tail_sublist _).nodup this
 ·exact this
theorem Mm.set_keys (m:Mm)(k:Pl)(f:Fl):(m.set k f).map (·.1)=m.map (·.1):=by
 unfold Mm.set;rw [zgv];apply zin;intro x _;simp only [Function.comp_apply];split
 ·rename_i h;exact h.symm
 ·rfl
theorem Mm.set_ok {m:Mm}(h:m.ok)(k:Pl)(f:Fl):(m.set k f).ok:=by
 unfold Mm.ok at *;rw [Mm.set_keys];exact h
theorem Mm.set_mem {m:Mm}{k:Pl}{f:Fl}{x:Pl×Fl}(h:x∈m.set k f):x=(k,f)∨(x∈m∧x.1≠k):=by
 unfold Mm.set at h;obtain⟨y,b,e⟩:=yl.1 h
 by_cases a:y.1=k
 ·rw [if_pos a] at e;exact .inl e.symm
 ·rw [if_neg a] at e;subst e;exact .inr ⟨b,a⟩
def Gd (V:Pl→Nat→Pc→Prop)(p:Pl)(k:Nat)(c:Pc):Prop:=(c.fits=true→c.there=true)∧(c.there=true→V p k c)
def GdF (V:Pl→Nat→Pc→Prop)(p:Pl)(f:Fl):Prop:=f.length=4∧∀ k,k < 4→Gd V p k (f.getD k .no)
def GdM (V:Pl→Nat→Pc→Prop)(m:Mm):Prop:=m.ok∧∀ x∈m,GdF V x.1 x.2
theorem zyz (V:Pl→Nat→Pc→Prop)(p:Pl)(k:Nat):Gd V p k .no:=⟨by simp [Pc.no],by simp [Pc.no]⟩
theorem ym7 (V:Pl→Nat→Pc→Prop)(p:Pl):GdF V p .no:=⟨rfl,fun k a=>by
 match k,a with
 | 0,_=>exact zyz _ _ _
 | 1,_=>exact zyz _ _ _
 | 2,_=>exact zyz _ _ _
 | 3,_=>exact zyz _ _ _⟩
theorem GdM.get {V:Pl→Nat→Pc→Prop}{m:Mm}(h:GdM V m){k:Pl}{f:Fl}(e:m.get k=some f):GdF V k f:=h.2 _ (Mm.get_mem e)
theorem GdM.known {V:Pl→Nat→Pc→Prop}{b a:Mm}(h:GdM V b)(d:GdM V a)(p:Pl):GdF V p (j9 b a p):=by
 unfold j9;cases e:a.get p with
 | some f=>exact d.get e
 | none =>
  cases c:b.get p with
  | some f=>exact h.get c
  | none=>exact ym7 V p
theorem GdM.snoc {V:Pl→Nat→Pc→Prop}{m:Mm}(h:GdM V m){k:Pl}{f:Fl}(b:GdF V k f):GdM V (m.drop k++[(k,f)]):=by
 refine⟨Mm.snoc_ok h.1 k f,fun x c=>?_⟩;rcases yt.1 c with a | a
 ·exact h.2 x (Mm.drop_mem.1 a).1
 ·obtain rfl:x=(k,f):=by simpa using a
  exact b
theorem GdM.put {V:Pl→Nat→Pc→Prop}{m:Mm}(h:GdM V m){k:Pl}{f:Fl}(c:GdF V k f)(a:Int):GdM V (m.put a k f):=by
 refine⟨Mm.put_ok h.1 k f,fun x d=>?_⟩;rcases Mm.put_mem d with rfl | ⟨b,-⟩
 ·exact c
 ·exact h.2 x b
theorem GdM.set {V:Pl→Nat→Pc→Prop}{m:Mm}(h:GdM V m){k:Pl}{f:Fl}(b:GdF V k f):GdM V (m.set k f):=by
 refine⟨Mm.set_ok h.1 k f,fun x c=>?_⟩;rcases Mm.set_mem c with rfl | ⟨a,-⟩
 ·exact b
 ·exact h.2 x a
theorem ze8 (V:Pl→Nat→Pc→Prop):GdM V []:=⟨by simp [Mm.ok],fun x a=>by simp at a⟩
theorem GdF.fitsAt {V:Pl→Nat→Pc→Prop}(e:∀ p k c b,V p k c→V p k { c with fits:=b }){p:Pl}{f:Fl}(h:GdF V p f)(j:(f.getD k .no).there=true):GdF V p (zby f k):=by
 refine⟨by rw [zqz];exact h.1,fun i d=>?_⟩;rw [ze7]
 by_cases a:i=k∧k < f.length
 ·rw [if_pos a];obtain⟨rfl,-⟩:=a;exact⟨fun _=>j,fun g=>e _ _ _ _ ((h.2 i d).2 g)⟩
 ·rw [if_neg a];exact h.2 i d
theorem GdF.fill {V:Pl→Nat→Pc→Prop}{p:Pl}{f c:Fl}(h:GdF V p f)(b:GdF V p c):GdF V p (zh3 f c):=by
 have e:f.length=c.length:=by rw [h.1,b.1]
 refine⟨by rw [ycc f c e];exact h.1,fun i a=>?_⟩;rw [zhp f c e i (by rw [h.1];exact a)];split
 ·exact h.2 i a
 ·exact b.2 i a
theorem GdF.fit {V:Pl→Nat→Pc→Prop}{p:Pl}{f:Fl}(h:GdF V p f):GdF V p (zqy f):=by
 refine⟨by simp [zqy,h.1],fun i a=>?_⟩;rw [ygu];split
 ·exact h.2 i a
 ·exact zyz _ _ _
theorem zjr {V:Pl→Nat→Pc→Prop}(a:Int):∀(b c:Mm),GdM V c→(∀ x∈b,GdF V x.1 x.2)→GdM V (jl a c b)
 | [],c,h,_=>h
 | x::b,c,h,d=>by
  show GdM V (jl a (c.put a x.1 (zqy x.2)) b);exact zjr a b _ (h.put (d x (by simp)).fit a) (fun y e=>d y (by simp [e]))
structure z19 (fe:σ→zc→(zc×Bool)×σ)(I:σ→Prop)(T:Pl→Option Fl):Prop where
 file:∀ s p,I s→(zb0 fe s p).1=T p
 keep:∀ s p,I s→I (zb0 fe s p).2
theorem zs6 {I:σ→Prop}{T:Pl→Option Fl}{V:Pl→Nat→Pc→Prop}(z:z19 fe I T)(A:∀ p k c b,V p k c→V p k { c with fits:=b })
 {proved:Mm} {a:Nat} {m:Ms σ} {l:Int} (D:∀ d,T (zv a l j)=some d→GdF V (zv a l j) d)
 (E:GdM V proved) (x:GdM V m.needed) (hI:I m.net) (G:j < qg l a) :
  (∃ c f,zaq fe proved a m l j=(.inr c,f)∧c.there=true∧V (zv a l j) (j % 4) c∧GdM V f.needed∧I f.net) ∨
  (∃ f,zaq fe proved a m l j=(.inl (zgc (zv a l j)),f)∧T (zv a l j)=none∧f.needed=m.needed∧I f.net):=by
 have i:GdF V (zv a l j) (j9 proved m.needed (zv a l j)):=E.known x _;have F:(zv a l j).2.2≤4:=by unfold zv;simp;omega
 have w:((j % 4:Nat):Int) < (zv a l j).2.2:=by unfold zv;simp;omega
 unfold zaq;generalize zv a l j=p at *
 by_cases g:((j9 proved m.needed p).getD (j % 4) .no).there=true
 ·rw [if_pos g];have t:=i.fitsAt A g;have e:((zby (j9 proved m.needed p) (j % 4)).getD (j % 4) .no).there=true:=by
   rw [ze7];split
   ·exact g
   ·exact g
  exact .inl ⟨_,_,rfl,e,(t.2 (j % 4) (by omega)).2 e,x.snoc t,hI⟩
 ·rw [if_neg g];have q:=z.file m.net p hI;have r:=z.keep m.net p hI;cases C:zb0 fe m.net p with
  | mk o s =>
   rw [C] at q r;simp only at q r;cases o with
   | none=>exact .inr ⟨_,rfl,q.symm,rfl,r⟩
   | some d =>
    have B:=D d q.symm;have u:=zqv F C;have t:=i.fill B;have e:((zh3 (j9 proved m.needed p) d).getD (j % 4) .no).there=true:=by
     rw [zhp _ _ (by rw [i.1,B.1]) _ (by rw [i.1];omega)];have y:((j9 proved m.needed p).getD (j % 4) .no).fits≠true:=fun v=>g ((i.2 (j % 4) (by omega)).1 v);rw [if_neg y,u.there _ (by omega)];simpa using w
    have h:=t.fitsAt A e;have n:((zby (zh3 (j9 proved m.needed p) d) (j % 4)).getD (j % 4) .no).there=true:=by
     rw [ze7];split
     ·exact e
     ·exact e
    exact .inl ⟨_,_,rfl,n,(h.2 (j % 4) (by omega)).2 n,x.snoc h,r⟩
end
end
theorem zg5:∀(f a n i:Nat),n≤2 ^ f→∀ s∈qz f a n i,a≤s.1∧s.1+s.2≤a+n∧1≤s.2:=by
 intro f
 induction f with
 | zero=>intro a n i h s b;simp [qz] at b
 | succ f d =>
  intro a n i h s b
  by_cases e:n≤1
  ·rw [zkl _ _ _ _ e] at b;simp at b
  obtain⟨g,j,k,l,m,o⟩:=zaw n f (by omega) h
  by_cases c:i < a+yo n
  ·rw [ziy f a n i (by omega) c] at b;rcases yt.1 b with b | b
   ·have:=d a (yo n) i g s b;omega
   ·obtain rfl:s=_:=xm.1 b;simp only;omega
  ·rw [zht f a n i (by omega) c] at b;rcases yt.1 b with b | b
   ·have:=d (a+yo n) (n - yo n) i j s b;omega
   ·obtain rfl:s=_:=xm.1 b;simp only;omega
theorem zg4:∀(f m a n:Nat) (whole:Bool),n≤2 ^ f→1≤n→a < m→m≤a+n→∀ s∈qk f m a n whole,a≤s.1∧s.1+s.2≤a+n∧1≤s.2:=by
 intro f
 induction f with
 | zero =>
  intro m a n whole h i c g s b;unfold qk at b;split at b
  ·split at b
   ·simp at b
   ·obtain rfl:s=_:=xm.1 b;simp only;omega
  ·simp at b
 | succ f j =>
  intro m a n whole h i c g s b
  by_cases e:m=a+n
  ·rw [zef _ _ _ _ _ e] at b;split at b
   ·simp at b
   ·obtain rfl:s=_:=xm.1 b;simp only;omega
  obtain⟨k,l,o,p,q,r⟩:=zaw n f (by omega) h
  by_cases d:m≤a+yo n
  ·rw [zge f m a n whole e d] at b;rcases yt.1 b with b | b
   ·have:=j m a (yo n) whole k o c d s b;omega
   ·obtain rfl:s=_:=xm.1 b;simp only;omega
  ·rw [zgf f m a n whole e d] at b;rcases yt.1 b with b | b
   ·have:=j m (a+yo n) (n - yo n) false l p (by omega) (by omega) s b;omega
   ·obtain rfl:s=_:=xm.1 b;simp only;omega
variable {f:Nat}
section
theorem zvu (n:Nat)(h0:0 < n)(h:n < 2 ^ 64):∃ m,n=2 ^ Lib.ctz 64 n*(2*m+1)∧Lib.ctz 64 n < 64:=by
 unfold Lib.ctz;rw [if_neg (by omega)];exact Lib.ctzFrom_spec 64 n h0 h
theorem zbm (l:Nat):4 ^ l=2 ^ (2*l):=by rw [Nat.pow_mul]
theorem zg3 (n:Nat)(h0:0 < n)(h:n < 2 ^ 64):4 ^ lvl n ∣ n∧lvl n < 32∧(n / 4 ^ lvl n=1↔n=4 ^ lvl n):=by
 obtain⟨m,d,g⟩:=zvu n h0 h;unfold lvl;generalize Lib.ctz 64 n=c at *;have a:4 ^ (c / 2) ∣ n:=by
  rw [zbm];refine zqq (zmw 2 (show 2*(c / 2)≤c by omega)) ?_;rw [d];exact Nat.dvd_mul_right _ _
 refine⟨a,by omega,?_⟩;obtain⟨q,f⟩:=a;have b:0 < 4 ^ (c / 2):=jp (by omega);rw [f,zj3 _ b];constructor
 ·intro e;rw [e,zfj]
 ·intro e;exact zig b (by rw [e,zfj])
theorem zuu (L:Nat)(h:L < 32):lvl (4 ^ L)=L:=by
 have g:0 < 4 ^ L:=jp (by omega);have d:4 ^ L < 2 ^ 64:=by rw [zbm];exact Nat.pow_lt_pow_right (by omega) (by omega)
 obtain⟨m,f,k⟩:=zvu (4 ^ L) g d;unfold lvl;generalize Lib.ctz 64 (4 ^ L)=c at *;have a:2 ^ (2*L)=2 ^ c*(2*m+1):=by rw [← zbm];exact f
 have i:c≤2*L:=by
  have:2 ^ c≤2 ^ (2*L):=by rw [a];exact Nat.le_mul_of_pos_right _ (by omega)
  exact(zcr (by omega:1 < 2)).1 this
 have b:2 ^ (2*L - c)=2*m+1:=by
  have:2 ^ c*2 ^ (2*L - c)=2 ^ c*(2*m+1):=by rw [← Nat.pow_add,← a];congr 1;omega
  exact zig (jp (by omega)) this
 have j:2*L - c=0:=by
  cases e:2*L - c with
  | zero=>rfl
  | succ x=>rw [e,qy] at b;omega
 omega
section
variable {σ : Type} {fe : σ → zc → (zc × Bool) × σ}
def zbf (H:Pl→Nat→zc)(b:Nat):Nat→Nat→Nat→zc
 | 0,_,_=>vg
 | f+1,a,n=>if n / 4 ^ lvl n=1 then H (zv b (lvl n:Nat) (a / 4 ^ lvl n)) (a / 4 ^ lvl n % 4)
  else jx (zbf H b f a (yo n)) (zbf H b f (a+yo n) (n - yo n))
def xr (b:Nat):Nat→Nat→Nat→List (Pl×Nat)
 | 0,_,_=>[]
 | f+1,a,n=>if n / 4 ^ lvl n=1 then [(zv b (lvl n:Nat) (a / 4 ^ lvl n),a / 4 ^ lvl n % 4)]
  else xr b f a (yo n)++xr b f (a+yo n) (n - yo n)
def Has (a:Mm)(ps:List (Pl×Nat)):Prop:=∀ x∈ps,∃ f,a.get x.1=some f∧f.length=4∧(f.getD x.2 .no).there=true∧(f.getD x.2 .no).fits=true
structure Ctx (fe:σ→zc→(zc×Bool)×σ)(I:σ→Prop)(T:Pl→Option Fl)(V:Pl→Nat→Pc→Prop)(H:Pl→Nat→zc)(proved:Mm)(size:Nat):Prop where
 says:z19 fe I T
 bare:∀ p k c b,V p k c→V p k { c with fits:=b }
 told:∀ l j came,-1≤l→j < qg l size→T (zv size l j)=some came→GdF V (zv size l j) came
 hash:∀(l j:Nat) c,j < qg (l:Int) size→V (zv size (l:Int) j) (j % 4) c→c.hash=H (zv size (l:Int) j) (j % 4)
 proved:GdM V proved
theorem zsd (a n l b:Nat)(h:a+n≤b)(e:n=4 ^ l):a / 4 ^ l < qg (l:Int) b:=by
 unfold qg;rw [yj];have c:0 < 4 ^ l:=jp (by omega);have d:a / 4 ^ l+1≤b / 4 ^ l:=by
  rw [zbu c,zdg,z91];have:=Nat.div_mul_le_self a (4 ^ l);omega
 omega
theorem zpx {b:Mm}{d a n:Nat}{m e:Ms σ}{c:Pc}(g:n / 4 ^ lvl n=1)(h:zaq fe b d m (lvl n:Nat) (a / 4 ^ lvl n)=(.inr c,e)):vm fe b d (f+1) m a n=(.inr c.hash,e):=by
 rw [vm,if_pos g,h]
theorem znj {b:Mm}{c a n:Nat}{m d:Ms σ}{e:zc}(g:n / 4 ^ lvl n=1)(h:zaq fe b c m (lvl n:Nat) (a / 4 ^ lvl n)=(.inl e,d)):vm fe b c (f+1) m a n=(.inl e,d):=by
 rw [vm,if_pos g,h]
theorem zpy {b:Mm}{c a n:Nat}{m d e:Ms σ}{x y:zc}(i:¬ n / 4 ^ lvl n=1)(g:vm fe b c f m a (yo n)=(.inr x,d))(h:vm fe b c f d (a+yo n) (n - yo n)=(.inr y,e)):vm fe b c (f+1) m a n=(.inr (jx x y),e):=by
 rw [vm,if_neg i,g];simp only [h]
theorem zni {b:Mm}{c a n:Nat}{m d:Ms σ}{e:zc}(h:¬ n / 4 ^ lvl n=1)(g:vm fe b c f m a (yo n)=(.inl e,d)):vm fe b c (f+1) m a n=(.inl e,d):=by
 rw [vm,if_neg h,g]
theorem zlz {b:Mm}{c a n:Nat}{m d g:Ms σ}{x e:zc}(j:¬ n / 4 ^ lvl n=1)(h:vm fe b c f m a (yo n)=(.inr x,d))(i:vm fe b c f d (a+yo n) (n - yo n)=(.inl e,g)):vm fe b c (f+1) m a n=(.inl e,g):=by
 rw [vm,if_neg j,h];simp only [i]
theorem zpe {a:Mm}{b:Nat}{m c d:Ms σ}{s:Nat×Nat}{r:List (Nat×Nat)}{x:zc}{e:za}(f:vm fe a b 64 m s.1 s.2=(.inr x,c))(g:qx fe a b c r=(.inr e,d)):qx fe a b m (s::r)=(.inr (x::e),d):=by
 rw [qx,f];simp only [g]
theorem zpd {a:Mm}{b:Nat}{m c:Ms σ}{s:Nat×Nat}{r:List (Nat×Nat)}{e:zc}(d:vm fe a b 64 m s.1 s.2=(.inl e,c)):qx fe a b m (s::r)=(.inl e,c):=by
 rw [qx,d]
theorem zpf {a:Mm}{b:Nat}{m c d:Ms σ}{s:Nat×Nat}{r:List (Nat×Nat)}{x e:zc}(f:vm fe a b 64 m s.1 s.2=(.inr x,c))(g:qx fe a b c r=(.inl e,d)):qx fe a b m (s::r)=(.inl e,d):=by
 rw [qx,f];simp only [g]
theorem yd8 {I:σ→Prop}{T:Pl→Option Fl}{V:Pl→Nat→Pc→Prop}{H:Pl→Nat→zc}{d:Mm}{b:Nat}(q:Ctx fe I T V H d b)(Q:b < 2 ^ 63):
  ∀(f:Nat) (m:Ms σ) (a n:Nat),GdM V m.needed→I m.net→a+n≤b→1≤n→n≤2 ^ f →
   ∃ i,GdM V i.needed∧I i.net∧(vm fe d b (f+1) m a n=(.inr (zbf H b (f+1) a n),i)∨∃ p,vm fe d b (f+1) m a n=(.inl (zgc p.1),i)∧p∈xr b (f+1) a n∧T p.1=none):=by
 have j:∀(f:Nat) (m:Ms σ) (a n:Nat),GdM V m.needed→I m.net→a+n≤b→1≤n→n / 4 ^ lvl n=1 →
   ∃ i,GdM V i.needed∧I i.net∧(vm fe d b (f+1) m a n=(.inr (zbf H b (f+1) a n),i)∨∃ p,vm fe d b (f+1) m a n=(.inl (zgc p.1),i)∧p∈xr b (f+1) a n∧T p.1=none):=by
  intro f m a n k hI s t g;obtain⟨-,-,r⟩:=zg3 n t (by omega);have A:=zsd a n (lvl n) b s (r.1 g);rw [zbf,xr,if_pos g,if_pos g];rcases zs6 (proved:=d) (m:=m) q.says q.bare (fun o h=>q.told _ _ o (by omega) A h) q.proved k hI A with ⟨c,l,v,-,w,x,y⟩ | ⟨l,v,w,x,y⟩
  ·exact⟨l,x,y,.inl (by rw [zpx g v,q.hash _ _ c A w])⟩
  ·exact⟨l,by rw [x];exact k,y,.inr ⟨_,znj g v,xm.2 rfl,w⟩⟩
 intro f
 induction f with
 | zero =>
  intro m a n k hI s t F;obtain rfl:n=1:=by omega
  exact j 0 m a 1 k hI s (by omega) (by decide)
 | succ f G =>
  intro m a n k hI s t F
  by_cases g:n / 4 ^ lvl n=1
  ·exact j (f+1) m a n k hI s t g
  ·have B:2≤n:=by
    rcases qu n 2 with h | h
    ·exact absurd (by
       obtain rfl:n=1:=by omega
       decide) g
    ·exact h
   obtain⟨M,N,O,P,R,S⟩:=zaw n f B F;rw [zbf,xr,if_neg g,if_neg g];obtain⟨l,D,E,e | ⟨p,e,C,z⟩⟩:=G m a (yo n) k hI (by omega) O M
   ·obtain⟨J,K,L,u | ⟨p,u,C,z⟩⟩:=G l (a+yo n) (n - yo n) D E (by omega) P N
    ·exact⟨J,K,L,.inl (zpy g e u)⟩
    ·exact⟨J,K,L,.inr ⟨p,zlz g e u,yt.2 (.inr C),z⟩⟩
   ·exact⟨l,D,E,.inr ⟨p,zni g e,yt.2 (.inl C),z⟩⟩
theorem zxe {I:σ→Prop}{T:Pl→Option Fl}{V:Pl→Nat→Pc→Prop}{H:Pl→Nat→zc}{b:Mm}{a:Nat}(x:Ctx fe I T V H b a)(y:a < 2 ^ 63):
  ∀(c:List (Nat×Nat)) (m:Ms σ),GdM V m.needed→I m.net→(∀ s∈c,s.1+s.2≤a∧1≤s.2) →
   ∃ f,GdM V f.needed∧I f.net∧(qx fe b a m c=(.inr (c.map fun s=>zbf H a 64 s.1 s.2),f)∨∃ s∈c,∃ p,qx fe b a m c=(.inl (zgc p.1),f)∧p∈xr a 64 s.1 s.2∧T p.1=none):=by
 intro c
 induction c with
 | nil=>intro m i hI _;exact⟨m,i,hI,.inl rfl⟩
 | cons s c z =>
  intro m i hI o;obtain⟨v,w⟩:=o s (by simp);obtain⟨q,l,n,e | ⟨p,e,j,h⟩⟩:=yd8 x y 63 m s.1 s.2 i hI v w (by omega)
  ·obtain⟨r,t,u,g | ⟨k,d,p,g,j,h⟩⟩:=z q l n (fun k d=>o k (by simp [d]))
   ·exact⟨r,t,u,.inl (zpe e g)⟩
   ·exact⟨r,t,u,.inr ⟨k,by simp [d],p,zpf e g,j,h⟩⟩
  ·exact⟨q,l,n,.inr ⟨s,by simp,p,zpd e,j,h⟩⟩
end
end
section
abbrev Say:=zc→Option (zc)
def zc6 (say:Say)(p:Pl):Option Fl:=match say (zgc p) with
 | some d=>zfl p.1 p.2.2 d
 | none=>none
def qt (say:Say)(p:Pl):Option Fl:=match zc6 say p with
 | some f=>some f
 | none=>if p.2.2=4 then none else match zc6 say (p.1,p.2.1,4) with
  | some f=>some (znw p.2.2 f)
  | none=>none
section
variable {σ : Type} {fe : σ → zc → (zc × Bool) × σ}
structure zvf (fe:σ→zc→(zc×Bool)×σ)(I:σ→Prop)(say:Say):Prop where
 says:∀ s q,I s→say q=if (fe s q).1.2 then some (fe s q).1.1 else none
 keep:∀ s q,I s→I (fe s q).2
theorem zvf.place {I:σ→Prop}{say:Say}(h:zvf fe I say){s:σ}(hI:I s)(p:Pl):(j7 fe s p).1=zc6 say p∧I (j7 fe s p).2:=by
 refine⟨?_,h.keep s _ hI⟩;unfold j7 zc6;rw [h.says s (zgc p) hI];cases (fe s (zgc p)).1.2<;>rfl
theorem zvf.says_file {I:σ→Prop}{say:Say}(h:zvf fe I say):z19 fe I (qt say):=by
 have b:∀ s p,I s→(zb0 fe s p).1=qt say p∧I (zb0 fe s p).2:=by
  intro s p hI;obtain⟨d,a⟩:=h.place hI p;unfold zb0 qt;cases i:j7 fe s p with
  | mk o l =>
   rw [i] at d a;simp only at d a;rw [← d];cases o with
   | some f=>exact⟨rfl,a⟩
   | none =>
    by_cases g:p.2.2=4
    ·simp only [g,if_true];exact⟨trivial,a⟩
    ·simp only [g,zd3];obtain⟨e,c⟩:=h.place a (p.1,p.2.1,4);cases j:j7 fe l (p.1,p.2.1,4) with
     | mk k m =>
      rw [j] at e c;simp only at e c;rw [← e];cases k with
      | some f=>exact⟨rfl,c⟩
      | none=>exact⟨rfl,c⟩
 exact⟨fun s p hI=>(b s p hI).1,fun s p hI=>(b s p hI).2⟩
end
def zj6 (p:Pl)(k:Nat):Nat:=4*p.2.1.toNat+k
def yfm (es:za)(p:Pl)(k:Nat)(c:Pc):Prop :=
 (p.1=-1→c.hash=zae (es.getD (zj6 p k) [])∧c.entry=es.getD (zj6 p k) [])∧(p.1≠-1→c.hash=zad es p.1 (zj6 p k))
def z0b (es:za)(p:Pl)(k:Nat):zc:=zad es p.1 (zj6 p k)
theorem zjt (a:Nat)(l:Int)(j:Nat):zj6 (zv a l j) (j % 4)=j:=by
 unfold zj6 zv;simp only [yj];omega
theorem z9k (es:za)(a:Nat)(l j:Nat)(c:Pc)(h:yfm es (zv a (l:Int) j) (j % 4) c):c.hash=z0b es (zv a (l:Int) j) (j % 4) :=
 h.2 (by show(l:Int)≠-1;omega)
def Al (a n:Nat):Prop:=∃ e,n≤2 ^ e∧2 ^ e ∣ a
theorem zmy (n:Nat):Al 0 n:=⟨n,z15 Nat.lt_two_pow_self,Nat.dvd_zero _⟩
theorem zpt (n:Nat):∃ q,yo n=2 ^ q:=⟨_,rfl⟩
theorem Al.left {a n:Nat}(h:Al a n)(b:2≤n):Al a (yo n):=by
 obtain⟨e,d,c⟩:=h;obtain⟨f,g,i⟩:=vz n b;exact⟨e,by omega,c⟩
theorem Al.right {a n:Nat}(h:Al a n)(d:2≤n):Al (a+yo n) (n - yo n):=by
 obtain⟨e,g,f⟩:=h;obtain⟨i,j,k⟩:=vz n d;obtain⟨q,c⟩:=zpt n;refine⟨q,by omega,?_⟩;have b:q≤e:=by
  have:2 ^ q≤2 ^ e:=by rw [← c];omega
  exact(zcr (by omega:1 < 2)).1 this
 rw [c];exact Nat.dvd_add (zqq (zmw 2 b) f) (Nat.dvd_refl _)
theorem Al.four {a l:Nat}(h:Al a (4 ^ l)):a / 4 ^ l*4 ^ l=a:=by
 obtain⟨e,b,c⟩:=h;rw [zbm] at *;have:2*l≤e:=(zcr (by omega:1 < 2)).1 b;exact Nat.div_mul_cancel (zqq (zmw 2 this) c)
theorem zwz:∀(f a n i:Nat),n≤2 ^ f→Al a n→∀ s∈qz f a n i,Al s.1 s.2:=by
 intro f
 induction f with
 | zero=>intro a n i h c s b;simp [qz] at b
 | succ f e =>
  intro a n i h c s b
  by_cases g:n≤1
  ·rw [zkl _ _ _ _ g] at b;simp at b
  obtain⟨j,k,l,m,o,p⟩:=zaw n f (by omega) h
  by_cases d:i < a+yo n
  ·rw [ziy f a n i (by omega) d] at b;rcases yt.1 b with b | b
   ·exact e a (yo n) i j (c.left (by omega)) s b
   ·obtain rfl:s=_:=xm.1 b;exact c.right (by omega)
  ·rw [zht f a n i (by omega) d] at b;rcases yt.1 b with b | b
   ·exact e (a+yo n) (n - yo n) i k (c.right (by omega)) s b
   ·obtain rfl:s=_:=xm.1 b;exact c.left (by omega)
theorem zwx:∀(f m a n:Nat) (whole:Bool),n≤2 ^ f→a < m→m≤a+n→Al a n→∀ s∈qk f m a n whole,Al s.1 s.2:=by
 intro f
 induction f with
 | zero =>
  intro m a n whole h d i c s b;unfold qk at b;split at b
  ·split at b
   ·simp at b
   ·obtain rfl:s=_:=xm.1 b;exact c
  ·simp at b
 | succ f j =>
  intro m a n whole h d i c s b
  by_cases g:m=a+n
  ·rw [zef _ _ _ _ _ g] at b;split at b
   ·simp at b
   ·obtain rfl:s=_:=xm.1 b;exact c
  obtain⟨k,l,o,p,q,r⟩:=zaw n f (by omega) h
  by_cases e:m≤a+yo n
  ·rw [zge f m a n whole g e] at b;rcases yt.1 b with b | b
   ·exact j m a (yo n) whole k d e (c.left (by omega)) s b
   ·obtain rfl:s=_:=xm.1 b;exact c.right (by omega)
  ·rw [zgf f m a n whole g e] at b;rcases yt.1 b with b | b
   ·exact j m (a+yo n) (n - yo n) false l (by omega) (by omega) (c.right (by omega)) s b
   ·obtain rfl:s=_:=xm.1 b;exact c.left (by omega)
theorem z82 (es:za)(b:Nat)(w:b≤es.length)(q:b < 2 ^ 63):∀(f a n:Nat),a+n≤b→1≤n→n≤2 ^ f→Al a n→zbf (z0b es) b (f+1) a n=qm (run es (a,n)):=by
 have c:∀(f a n:Nat),a+n≤b→1≤n→Al a n→n / 4 ^ lvl n=1→zbf (z0b es) b (f+1) a n=qm (run es (a,n)):=by
  intro f a n k j d g;obtain⟨-,-,i⟩:=zg3 n j (by omega);have o:=i.1 g;rw [zbf,if_pos g];unfold z0b;rw [zjt];show zad es ((lvl n:Nat):Int) _=_;unfold zad;rw [if_neg (by omega),yj];unfold run;rw [Al.four (l:=lvl n) (o▸d)];exact congrArg (fun x=>qm ((es.drop a).take x)) o.symm
 intro f
 induction f with
 | zero =>
  intro a n k j m d;obtain rfl:n=1:=by omega
  exact c 0 a 1 k (by omega) d (by decide)
 | succ f p =>
  intro a n k j m d
  by_cases g:n / 4 ^ lvl n=1
  ·exact c (f+1) a n k j d g
  ·have e:2≤n:=by
    rcases qu n 2 with h | h
    ·exact absurd (by
       obtain rfl:n=1:=by omega
       decide) g
    ·exact h
   obtain⟨s,t,u,v,y,z⟩:=zaw n f e m;rw [zbf,if_neg g,p a (yo n) (by omega) u s (d.left e),p (a+yo n) (n - yo n) (by omega) v t (d.right e)];have r:=zje es a n (by omega);rw [zub (run es (a,n)) (by omega),r,zmp es a n _ (by omega),zmo]
theorem ye2:∀(a:za),(∀ l∈a,l.length≤20)→unb (zf6 a)=some a:=by
 intro a
 induction a with
 | nil=>intro _;rfl
 | cons l a d =>
  intro h;have f:=h l (by simp);have e:zf6 (l::a)=UInt8.ofNat l.length::(l++zf6 a):=by simp [zf6,zss]
  have b:(UInt8.ofNat l.length).toNat=l.length:=by rw [zjy];omega
  rw [e,z1u _ _ (by rw [b];simp),b];simp only [zdx,zob];rw [d (fun x c=>h x (by simp [c]))]
  rfl
theorem ye1 (a:za)(h:okB a=true):zd6 (zf6 a)=some a:=by
 have b:∀ l∈a,l.length≤20:=by
  intro l b;unfold okB at h;simp only [zbr,zcd,vj] at h;exact h.2.2 l b
 unfold zd6;rw [ye2 a b];simp [h]
theorem yb9 (es:za)(j w:Nat)(h:4*j+w≤es.length):zih es (-1) j w=zf6 ((es.drop (4*j)).take w):=by
 unfold zih zf6;congr 1;apply zre
 ·simp;omega
 ·intro i a b;simp only [yi,List.length_range'] at a;simp only [za4,List.getElem_range',vv,zcn];unfold zad;rw [if_pos rfl,zl,zt (by omega)];simp
theorem ydz (es:za)(d:∀ e∈es,e.length≤20)(l:Int)(s:-1≤l)(j w:Nat)(p:1≤w)(q:w≤4)(m:4*j+w≤qg l es.length):
  ∃ f,zfl l w (zih es l j w)=some f∧∀ k,k < 4→(f.getD k .no).there=true→yfm es (l,(j:Int),(w:Int)) k (f.getD k .no):=by
 unfold zfl
 by_cases h:l=-1
 ·subst h;have o:qg (-1) es.length=es.length:=by unfold qg;simp
  rw [o] at m;rw [if_pos rfl,yb9 es j w m];have c:((es.drop (4*j)).take w).length=w:=by simp;omega
  have i:okB ((es.drop (4*j)).take w)=true:=by
   unfold okB;simp only [zbr,zcd,vj];refine⟨by omega,by omega,fun x r=>d x (zb5 (qh r))⟩
  rw [ye1 _ i];simp only [c,if_true];refine⟨_,rfl,fun k g b=>?_⟩;rw [zho _ _ g] at b ⊢
  by_cases a:k < ((es.drop (4*j)).take w).length
  ·rw [if_pos a];have e:((es.drop (4*j)).take w).getD k []=es.getD (zj6 (-1,(j:Int),(w:Int)) k) []:=by
    unfold zj6;simp only [yj,zl,qj,zeu];rw [if_pos (by omega)]
   rw [e];exact⟨fun _=>⟨rfl,rfl⟩,fun h=>absurd rfl h⟩
  ·rw [if_neg a] at b;simp [Pc.no] at b
 ·rw [if_neg h];obtain⟨L,rfl⟩:∃ L:Nat,l=(L:Int):=⟨l.toNat,by omega⟩;rw [yjw,if_pos (by omega)];refine⟨_,rfl,fun k g b=>?_⟩;rw [zi6 _ _ _ g] at b ⊢
  by_cases a:k < (w:Int).toNat
  ·rw [if_pos a];refine⟨fun n=>absurd n h,fun _=>?_⟩;have:=yew es L (4*j+k) w (by omega);rw [show(4*j+k) / 4=j by omega,show(4*j+k) % 4=k by omega] at this;unfold zj6;simpa using this
  ·rw [if_neg a] at b;simp [Pc.no] at b
theorem zty (es:za)(n:Nat)(l:Int)(k:Nat)(h:k < qg l n)(_:n≤es.length):zad (es.take n) l k=zad es l k:=by
 unfold zad qg at *
 by_cases a:l=-1
 ·rw [if_pos a,if_pos a];subst a;have h:k < n:=by simpa using h
  simp [zl,h]
 ·rw [if_neg a,if_neg a];have b:0 < 4 ^ l.toNat:=jp (by omega);have:(k+1)*4 ^ l.toNat≤n:=(zbu b).1 h;rw [zdg,z91] at this;congr 1;rw [zvb,zkv];congr 1;omega
theorem ztz (es:za)(n:Nat)(l:Int)(j w:Nat)(h:4*j+w≤qg l n)(b:n≤es.length):zih (es.take n) l j w=zih es l j w:=by
 unfold zih;congr 1;apply zin;intro k a;rw [zqc] at a;exact zty es n l k (by omega) b
end
end Go.Proofs.YtlcllcgngjhoaaaGreatDoor
