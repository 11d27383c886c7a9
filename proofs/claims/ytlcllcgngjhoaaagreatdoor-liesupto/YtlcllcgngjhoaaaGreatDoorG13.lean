import Derived.Test.YtlcllcgngjhoaaaGreatDoorG12
import Derived.DeepKeys4
set_option maxHeartbeats 8000000
set_option maxRecDepth 100000
set_option linter.all false
namespace Go.Proofs.YtlcllcgngjhoaaaGreatDoor
open Go.RowKit Go.Proofs.Tryz
def za1:=@List.filter_eq_self
def zcp:=@List.length_filter_le
def zcy:=@Nat.lt_of_le_of_lt
def zfg:=@Int.le_refl
def zkw:=@MapKept.run_getObj_map
def zkx:=@MapKept.run_setObj_map
def zl1:=@List.filter_cons
def zn9:=@List.filter_append
variable {i j:Nat}{r:zc}
section
structure Cl where
 key:zc
 size:Nat
 root:zc
 room:Int
 proved:Mm
structure Er where
 n:Int
 p:zc
def Er.cp:Er:=⟨3,[]⟩
def Er.old:Er:=⟨4,[]⟩
def Er.proof:Er:=⟨5,[]⟩
def Er.range:Er:=⟨2,[]⟩
def Er.tile (p:zc):Er:=⟨6,p⟩
section
variable {σ : Type} (fe : σ → zc → (zc × Bool) × σ)
def zbd (inc:zc→Nat→Nat→za→zc→Bool)(c:Cl)(s:σ)(i:Nat):Sum Er (zc×za)×Cl×σ :=
 match zaq fe c.proved c.size ⟨s,[]⟩ (-1) i with
 | (.inl p,m)=>(.inl (.tile p),c,m.net)
 | (.inr a,m)=>match qx fe c.proved c.size m (qz 64 0 c.size i) with
  | (.inl p,m)=>(.inl (.tile p),c,m.net)
  | (.inr ps,m)=>if inc a.hash i c.size ps c.root then (.inr (a.entry,ps),{ c with proved:=jl c.room c.proved (zc8 c.size m.needed i a.hash) },m.net) else (.inl .proof,c,m.net)
def vt (con:Nat→Nat→zc→zc→za→Bool)(c:Cl)(s:σ)(n:Nat)(r:zc):Sum Er (za)×Mm×σ :=
 if n < c.size then (.inl .old,c.proved,s)
 else if n=c.size then (if r=c.root then (.inr [],c.proved,s) else (.inl .proof,c.proved,s))
 else if c.size=0 then (.inr [],c.proved,s)
 else match qx fe c.proved n ⟨s,[]⟩ (qk 64 c.size 0 n true) with
  | (.inl p,m)=>(.inl (.tile p),c.proved,m.net)
  | (.inr ps,m)=>if con c.size n c.root r ps then (.inr ps,jl c.room c.proved (zfy n m.needed c.size c.root),m.net) else (.inl .proof,c.proved,m.net)
def zi8 (con:Nat→Nat→zc→zc→za→Bool)(c:Cl)(s:σ)(o:Option (Nat×zc)):Sum Er (za)×Cl×σ :=
 match o with
 | none=>(.inl .cp,c,s)
 | some (n,r)=>match vt fe con c s n r with
  | (.inl e,_,a)=>(.inl e,c,a)
  | (.inr ps,b,a)=>(.inr ps,{ c with size:=n,root:=r,proved:=b },a)
end
def zkt (key:zc)(x:zc×Bool)(o:Option (Nat×zc)):Prop:=match o with
 | some (n,r)=>x.2=true∧zba x.1 key n r
 | none=>x.2=false∨∀ n r,¬ zba x.1 key n r
theorem zkt.yes {a d:zc}{o:Option (Nat×zc)}{n:Nat}(h:zkt a (d,true) o)(b:zba d a n r):o=some (n,r):=by
 cases o with
 | none =>
  rcases h with h | h
  ·simp at h
  ·exact absurd b (h n r)
 | some x =>
  obtain⟨c,e⟩:=x;obtain⟨rfl,rfl⟩:=h.2.inj b
  rfl
section
variable {σ : Type} {fe : σ → zc → (zc × Bool) × σ}
structure Tru (fe:σ→zc→(zc×Bool)×σ)(I:σ→Prop)(say:Say)(es:za)(size:Nat):Prop where
 tells:zvf fe I say
 h20:∀ e∈es,e.length≤20
 le:size≤es.length
 lt:size < 2 ^ 63
 files:∀(l:Int) (j w:Nat),-1≤l→j < qg l size→zv size l j=(l,((j / 4:Nat):Int),(w:Int))→say (zgc (zv size l j))=some (zih es l (j / 4) w)
theorem zw2 (a:Nat)(l:Int)(j:Nat)(h:j < qg l a):∃ w:Nat,zv a l j=(l,((j / 4:Nat):Int),(w:Int))∧1≤w∧w≤4∧4*(j / 4)+w≤qg l a:=by
 refine⟨min (qg l a - j / 4*4) 4,?_,by omega,by omega,by omega⟩;unfold zv;simp only [ye,zxw];omega
theorem Tru.file {I:σ→Prop}{say:Say}{es:za}{a:Nat}(h:Tru fe I say es a)(l:Int)(m:-1≤l)(j:Nat)(g:j < qg l a):∃ f,qt say (zv a l j)=some f∧GdF (zfx es) (zv a l j) f:=by
 obtain⟨w,e,p,q,r⟩:=zw2 a l j g;have n:=zsu l h.le;obtain⟨f,d,o⟩:=ydz es h.h20 l m (j / 4) w p q (by omega);have c:=znf d;refine⟨f,?_,c.len,fun k i=>⟨fun b=>by rw [c.fits k] at b;simp at b,fun b=>?_⟩⟩
 ·unfold qt zc6;rw [h.files l j w m g e,e];simp only;rw [d]
 ·rw [e];refine⟨o k i b,?_⟩;rw [c.there k i] at b;have:(k:Int) < w:=by simpa using b
  unfold zj6;simp only [yj];omega
theorem Tru.ctx {I:σ→Prop}{say:Say}{es:za}{b:Nat}(h:Tru fe I say es b){a:Mm}(n:GdM (zfx es) a):Ctx fe I (qt say) (zfx es) (z0b es) a b :=
 ⟨h.tells.says_file,znr es,fun l j d m k e=>by
  obtain⟨f,g,i⟩:=h.file l m j k;rw [g] at e;simp only [zr] at e;rw [← e];exact i,fun l j c _ hv=>z9k es b l j c hv.1,n⟩
theorem Tru.there {I:σ→Prop}{say:Say}{es:za}{b:Nat}(h:Tru fe I say es b)(a n:Nat)(c:a+n≤b)(d:1≤n):∀ p∈xr b 64 a n,qt say p.1≠none:=by
 intro p i;have:=h.lt;obtain⟨l,j,rfl,-,g,-⟩:=zko b h.lt 63 a n c d (by omega) p i;obtain⟨f,e,-⟩:=h.file (l:Int) (by omega) j g;simp only;rw [e];simp
theorem Tru.roots {I:σ→Prop}{say:Say}{es:za}{a:Nat}(h:Tru fe I say es a){b:Mm}(u:GdM (zfx es) b)(d:List (Nat×Nat))(m:Ms σ)(t:GdM (zfx es) m.needed)(hI:I m.net)(g:∀ s∈d,s.1+s.2≤a∧1≤s.2)(q:∀ s∈d,Al s.1 s.2):
  ∃ f,qx fe b a m d=(.inr (d.map fun s=>qm (run es s)),f)∧GdM (zfx es) f.needed∧I f.net∧zc3 fe b a m (d.flatMap fun s=>xr a 64 s.1 s.2) f:=by
 have r:=h.lt;obtain⟨f,l,n,e | ⟨s,c,p,e,i,o⟩⟩:=zxe (h.ctx u) h.lt d m t hI g
 ·have v:(d.map fun s=>zbf (z0b es) a 64 s.1 s.2)=d.map fun s=>qm (run es s):=by
   apply zin;intro s c;obtain⟨j,k⟩:=g s c;exact z82 es a h.le h.lt 63 s.1 s.2 j k (by omega) (q s c)
  rw [v] at e;exact⟨f,e,l,n,zi1 h.lt d m f _ g e⟩
 ·obtain⟨j,k⟩:=g s c;exact absurd o (h.there s.1 s.2 j k p i)
theorem z8k {I:σ→Prop}{say:Say}{es:za}{c:Cl}(h:Tru fe I say es c.size)(o:GdM (zfx es) c.proved)(N:InS c.size c.proved){s:σ}(hI:I s)(L:i < c.size)(inc:zc→Nat→Nat→za→zc→Bool)
 (k:inc (zae (es.getD i [])) i c.size ((qz 64 0 c.size i).map fun s=>qm (run es s)) c.root=true) :
  ∃ m,zc3 fe c.proved c.size ⟨s,[]⟩ (zw5 c.size i) m∧I m.net∧zbd fe inc c s i=(.inr (es.getD i [],(qz 64 0 c.size i).map fun s=>qm (run es s)),{ c with proved:=jl c.room c.proved (zc8 c.size m.needed i (zae (es.getD i []))) },m.net) ∧
   GdM (zfx es) (jl c.room c.proved (zc8 c.size m.needed i (zae (es.getD i []))))∧InS c.size (jl c.room c.proved (zc8 c.size m.needed i (zae (es.getD i [])))):=by
 have z:=h.lt;have M:=h.le;have t:i < qg (-1) c.size:=by simpa [qg] using L
 have n:GdM (zfx es) ([]:Mm):=ze8 _;rcases zs6 (fe:=fe) (proved:=c.proved) (m:=⟨s,[]⟩) (l:=-1) (j:=i) h.tells.says_file (znr es) (fun d e=>(h.ctx o).told _ _ d (by omega) t e) o n hI t with ⟨p,D,v,U,hv,K,w⟩ | ⟨D,v,r,-,-⟩
 ·have C:p.hash=zae (es.getD i [])∧p.entry=es.getD i []:=by
   have:=hv.1.1 rfl;rw [zjt] at this;exact this
  have g:∀ s∈qz 64 0 c.size i,s.1+s.2≤c.size∧1≤s.2:=fun s P=>by
   have:=zg5 64 0 c.size i (by omega) s P;omega
  obtain⟨u,r,E,F,O⟩:=h.roots o (qz 64 0 c.size i) D K w g (zwz 64 0 c.size i (by omega) (zmy _));have B:zc3 fe c.proved c.size ⟨s,[]⟩ (zw5 c.size i) u:= .cons t v O;have J:=z89 es c.size u.needed i (zae (es.getD i [])) E (by omega) rfl;refine⟨u,B,F,?_,zjr c.room _ _ o J.2,InS.remember c.room _ _ N ?_⟩
  ·unfold zbd;rw [v];simp only;rw [r];simp only;rw [C.1,C.2,k]
   rfl
  ·refine InS.keys (a:=u.needed) ?_ (zkd ..);intro x Q;rcases B.keys o.wf (ze8 _) x Q with ⟨y,R,-⟩ | ⟨q,b,e⟩
   ·simp at R
   ·rw [← e];rcases jr.1 b with rfl | b
    ·exact zkm ..
    ·obtain⟨A,G,H⟩:=zce.1 b;obtain⟨S,T⟩:=g A G;obtain⟨l,j,rfl,-⟩:=zko c.size z 63 A.1 A.2 S T (by omega) q H;exact zkm ..
 ·exfalso;obtain⟨f,e,-⟩:=h.file (-1) (by omega) i t;rw [e] at r;simp at r
theorem z4q {I:σ→Prop}{say:Say}{es:za}{c:Cl}{n:Nat}(h:Tru fe I say es n)(d:GdM (zfx es) c.proved)(o:InS c.size c.proved){s:σ}(hI:I s)(w:c.root=qm (es.take c.size))(F:c.size≤n)(con:Nat→Nat→zc→zc→za→Bool)
 (f:0 < c.size→c.size < n→con c.size n c.root (qm (es.take n)) ((qk 64 c.size 0 n true).map fun s=>qm (run es s))=true) :
  ∃ k p,vt fe con c s n (qm (es.take n))=(.inr (if 0 < c.size∧c.size < n then (qk 64 c.size 0 n true).map (fun s=>qm (run es s)) else []),k,p)∧GdM (zfx es) k∧InS n k∧I p∧((k=c.proved∧p=s)∨∃ b,zc3 fe c.proved n ⟨s,[]⟩ ((qk 64 c.size 0 n true).flatMap fun s=>xr n 64 s.1 s.2) b∧k=jl c.room c.proved (zfy n b.needed c.size c.root)∧p=b.net∧0 < c.size):=by
 have i:=h.lt;have G:=h.le;unfold vt;rw [if_neg (by omega)]
 by_cases m:n=c.size
 ·rw [if_pos m,if_pos (by rw [w,m]),if_neg (by omega)];exact⟨_,_,rfl,d,m▸o,hI,.inl ⟨rfl,rfl⟩⟩
 ·rw [if_neg m]
  by_cases v:c.size=0
  ·rw [if_pos v,if_neg (by omega)];exact⟨_,_,rfl,d,o.more (by omega),hI,.inl ⟨rfl,rfl⟩⟩
  ·rw [if_neg v,if_pos (by omega)];have g:∀ s∈qk 64 c.size 0 n true,s.1+s.2≤n∧1≤s.2:=fun s H=>by
    have:=zg4 64 c.size 0 n true (by omega) (by omega) (by omega) (by omega) s H;omega
   obtain⟨b,z,A,B,r⟩:=h.roots d (qk 64 c.size 0 n true) ⟨s,[]⟩ (ze8 _) hI g (zwx 64 c.size 0 n true (by omega) (by omega) (by omega) (zmy _));rw [z];simp only;rw [f (by omega) (by omega)];have E:=z9b es n b.needed c.size c.root A (by omega) (by omega) (by omega) w (zxi i (by omega) (by omega) d.wf o r);refine⟨_,_,rfl,zjr c.room _ _ d E.2,InS.remember c.room _ _ (o.more F) ?_,B,.inr ⟨b,r,rfl,rfl,by omega⟩⟩;refine InS.keys (a:=b.needed) ?_ (zke ..);intro x J;rcases r.keys d.wf (ze8 _) x J with ⟨y,K,-⟩ | ⟨q,t,e⟩
   ·simp at K
   ·rw [← e];obtain⟨u,C,D⟩:=zce.1 t;obtain⟨L,M⟩:=g u C;obtain⟨l,j,rfl,-⟩:=zko n i 63 u.1 u.2 L M (by omega) q D;exact zkm ..
theorem yi5 (a:Int)(h:a≤0)(p:Pl)(f:Fl):Mm.put a [] p f=[]:=by
 unfold Mm.put Mm.drop;rw [if_pos (by simp;omega)]
 rfl
theorem zqm (a:Int)(h:a≤0):∀ b:Mm,jl a [] b=[]
 | []=>rfl
 | x::b=>by
  show jl a (Mm.put a [] x.1 (zqy x.2)) b=[];rw [yi5 a h];exact zqm a h b
theorem yi6 (m:Mm)(h:m.length≤1)(p:Pl)(f:Fl):m.put 1 p f=[(p,f)]:=by
 have a:(m.drop p).length≤1:=zu (zcp ..) h;unfold Mm.put
 match b:m.drop p,a with
 | [],_=>rfl
 | [y],_=>rfl
theorem zpc:∀(b a:Mm),a.length≤1→(jl 1 a b).length≤1
 | [],a,h=>h
 | x::b,a,h=>by
  show(jl 1 (a.put 1 x.1 (zqy x.2)) b).length≤1;exact zpc b _ (by rw [yi6 a h];simp)
def ykf (a:Int)(m:Mm):Prop:=(a≤0→m=[])∧(a=1→m.length≤1)
theorem ykf.remember {a:Int}{m:Mm}(h:ykf a m)(c:Mm):ykf a (jl a m c) :=
 ⟨fun b=>by rw [h.1 b];exact zqm a b c,fun b=>by subst b;exact zpc c m (h.2 rfl)⟩
theorem zzf (a:σ→Int)(w:∀ s p,a (fe s p).2=a s+1){b:Mm}{c:Nat}{m k:Ms σ}{l:Int}{o:Sum (zc) Pc}(h:zaq fe b c m l j=(o,k)):
  a m.net≤a k.net∧(((j9 b m.needed (zv c l j)).getD (j % 4) .no).there=false→a m.net < a k.net):=by
 have d:∀ s p,a (j7 fe s p).2=a s+1:=fun s p=>w s _;have g:∀ s p,a s < a (zb0 fe s p).2:=by
  intro s p;have e:=d s p;unfold zb0;cases u:j7 fe s p with
  | mk o t =>
   rw [u] at e;simp only at e;cases o with
   | some f=>simp only;omega
   | none =>
    simp only;split
    ·simp only;omega
    ·have n:=d t (p.1,p.2.1,4);cases v:j7 fe t (p.1,p.2.1,4) with
     | mk y z =>
      rw [v] at n;simp only at n;cases y<;>simp only<;>omega
 unfold zaq at h
 by_cases i:((j9 b m.needed (zv c l j)).getD (j % 4) .no).there=true
 ·rw [if_pos i] at h;simp only [ye] at h;obtain⟨-,rfl⟩:=h;exact⟨zfg _,fun r=>by rw [i] at r;simp at r⟩
 ·rw [if_neg i] at h;have e:=g m.net (zv c l j);cases x:zb0 fe m.net (zv c l j) with
  | mk o s =>
   rw [x] at h e;cases o with
   | none =>
    simp only [ye] at h;obtain⟨-,rfl⟩:=h;simp only at *;exact⟨by omega,fun _=>by omega⟩
   | some q =>
    simp only [ye] at h;obtain⟨-,rfl⟩:=h;simp only at *;exact⟨by omega,fun _=>by omega⟩
theorem zc3.cnt {b:Mm}{c:Nat}{m d:Ms σ}{ps:List (Pl×Nat)}(h:zc3 fe b c m ps d)(a:σ→Int)(f:∀ s p,a (fe s p).2=a s+1):a m.net≤a d.net:=by
 induction h using zc3.ind with
 | nil m=>exact zfg _
 | cons g e _ i =>
  have:=(zzf a f e).1;omega
end
end
variable {k:Nat}
structure Ly where
 path:zc
 data:zc
 fails:Bool
 times:Int
structure Nt where
 lies:List Ly
 told:List Int
 fetches:Int
def Ly.none:Ly:=⟨[],[],false,0⟩
def zga (n:Nt)(p:zc)(k:Nat):Bool:=decide ((n.lies.getD k .none).path=p)&&!(decide (0 < (n.lies.getD k .none).times)&&decide ((n.lies.getD k .none).times≤n.told.getD k 0))
def zk4 (n:Nt)(p:zc):Option Nat:=(List.range n.lies.length).find? (zga n p)
def yz (fs:Fs)(n:Nt)(p:zc):(zc×Bool)×Nt:=match zk4 n p with
 | some k=>(((n.lies.getD k .none).data,!(n.lies.getD k .none).fails),{ n with told:=n.told.set k (n.told.getD k 0+1),fetches:=n.fetches+1 })
 | none=>match je fs p with
  | some d=>((d,true),{ n with fetches:=n.fetches+1 })
  | none=>(([],false),{ n with fetches:=n.fetches+1 })
theorem yhp {n:Nt}{p:zc}(c:k < n.lies.length)(h:zga n p k=true)(b:∀ j,j < k→zga n p j=false):zk4 n p=some k:=by
 unfold zk4;rw [List.find?_range_eq_some];exact⟨h,by simpa using c,fun j a=>by rw [b j a];rfl⟩
theorem z7l {n:Nt}{p:zc}(h:∀ j,j < n.lies.length→zga n p j=false):zk4 n p=none:=by
 unfold zk4;rw [vx];intro j a;rw [h j (by simpa using a)];simp
theorem zwd {n:Nt}{p:zc}(h:zk4 n p=some k):k < n.lies.length∧zga n p k=true:=by
 unfold zk4 at h;exact⟨by simpa using zdm h,zju h⟩
variable {c:Cl}
section
def qc (fs:Fs)(L:List Ly):Say:=fun p=>match L.find? (fun l=>decide (l.path=p)) with
 | some l=>if l.fails then none else some l.data
 | none=>je fs p
theorem zrn {L:List Ly}(h:k < L.length):L.getD k .none=L[k]:=by
 rw [zl,zt h];rfl
theorem znp (fs:Fs)(L:List Ly)(c:∀ l∈L,l.times=0):zvf (yz fs) (fun n=>n.lies=L) (qc fs L):=by
 refine⟨fun s q hI=>?_,fun s q hI=>?_⟩
 ·have b:∀ k,k < L.length→zga s q k=decide ((L.getD k .none).path=q):=fun k a=>by
   unfold zga;rw [show s.lies=L from hI,zrn a,c _ (yd a)];simp
  unfold qc yz;cases h:zk4 s q with
  | some k =>
   obtain⟨a,g⟩:=zwd h;rw [show s.lies=L from hI] at a;have e:L.find? (fun l=>decide (l.path=q))=some (L.getD k .none):=by
    rw [List.find?_eq_some_iff_getElem];refine⟨by rw [← b k a];exact g,k,a,(zrn a).symm,fun j d=>?_⟩;unfold zk4 at h;rw [List.find?_range_eq_some] at h;have:=h.2.2 j d;rw [b j (by omega),zrn (by omega)] at this;exact this
   rw [e,show s.lies=L from hI];simp only;cases (L.getD k .none).fails<;>rfl
  | none =>
   have e:L.find? (fun l=>decide (l.path=q))=none:=by
    rw [vx];intro l f;obtain⟨k,a,rfl⟩:=vo f;unfold zk4 at h;rw [vx] at h;have:=h k (by rw [show s.lies=L from hI];exact zew.2 a)
    rwa [b k a,zrn a] at this
   rw [e];simp only;cases je fs q<;>rfl
 ·show(yz fs s q).2.lies=L;unfold yz;split
  ·exact hI
  ·split<;>exact hI
def yn6 (T:Pl→Option Fl)(p:Pl)(k:Nat)(c:Pc):Prop:=∃ f,T p=some f∧c.hash=(f.getD k .no).hash∧c.entry=(f.getD k .no).entry
def zfk (T:Pl→Option Fl)(p:Pl)(k:Nat):zc:=match T p with
 | some f=>(f.getD k .no).hash
 | none=>[]
def zcj (T:Pl→Option Fl)(ps:List (Pl×Nat)):za:=ps.filterMap fun p=>if (T p.1).isNone then some (zgc p.1) else none
theorem zka (T:Pl→Option Fl)(a b:List (Pl×Nat)):zcj T (a++b)=zcj T a++zcj T b:=List.filterMap_append
theorem zza {T:Pl→Option Fl}{ps:List (Pl×Nat)}{p:Pl×Nat}(h:p∈ps)(a:T p.1=none):zgc p.1∈zcj T ps :=
 List.mem_filterMap.2 ⟨p,h,by rw [a];rfl⟩
theorem zzb {T:Pl→Option Fl}{ps:List (Pl×Nat)}(h:∀ p∈ps,T p.1≠none):zcj T ps=[]:=by
 unfold zcj;rw [List.filterMap_eq_nil_iff];intro p a;rw [if_neg];intro e;exact h p a (Option.isNone_iff_eq_none.1 e)
theorem zv0 {say:Say}{p:Pl}{f:Fl}(j:p.2.2≤4)(h:qt say p=some f):z0j p.2.2 f:=by
 have i:∀ {q:Pl} {g:Fl},zc6 say q=some g→z0j q.2.2 g:=fun {q g} e=>by
  unfold zc6 at e;cases c:say (zgc q) with
  | none=>rw [c] at e;simp at e
  | some d=>rw [c] at e;exact znf e
 unfold qt at h;cases a:zc6 say p with
 | some g=>rw [a] at h;cases h;exact i a
 | none =>
  rw [a] at h;simp only at h;split at h
  ·simp at h
  ·cases b:zc6 say (p.1,p.2.1,4) with
   | none=>rw [b] at h;simp at h
   | some g=>rw [b] at h;cases h;exact zvs (i b) j
section
variable {σ : Type} {fe : σ → zc → (zc × Bool) × σ} {I : σ → Prop} {say : Say}
theorem yal (m:z19 fe I (qt say))(b:Nat):Ctx fe I (qt say) (yn6 (qt say)) (zfk (qt say)) [] b where
 says:=m
 bare:=fun _ _ _ _ h=>h
 told:=fun l j a _ _ h=>by
  have d:=zv0 (by unfold zv;simp;omega) h;exact⟨d.len,fun k _=>⟨fun e=>by rw [d.fits k] at e;simp at e,fun _=>⟨a,h,rfl,rfl⟩⟩⟩
 hash:=fun l j c _ ⟨f,g,i,_⟩=>by unfold zfk;rw [g];exact i
 proved:=ze8 _
def zct (say:Say)(a:Nat)(b:List (Nat×Nat)):za:=b.map fun s=>zbf (zfk (qt say)) a 64 s.1 s.2
def zdv (say:Say)(a:Nat)(b:List (Nat×Nat)):za:=zcj (qt say) (b.flatMap fun s=>xr a 64 s.1 s.2)
theorem zxf (t:z19 fe I (qt say)){a:Nat}(q:a < 2 ^ 63)(b:List (Nat×Nat))(m:Ms σ)(o:GdM (yn6 (qt say)) m.needed)(hI:I m.net)(n:∀ s∈b,s.1+s.2≤a∧1≤s.2):
  ∃ c,I c.net∧((zdv say a b=[]∧qx fe [] a m b=(.inr (zct say a b),c))∨∃ p∈zdv say a b,qx fe [] a m b=(.inl p,c)):=by
 obtain⟨c,j,k,e | ⟨s,g,p,e,v,d⟩⟩:=zxe (yal t a) q b m o hI n
 ·refine⟨c,k,.inl ⟨zzb fun x w d=>?_,e⟩⟩;obtain⟨f,r,-,i,-⟩:=((zi1 q b m c _ n e).has (ze8 _) o.wf).1 x w;have u:x.2 < 4:=by
   rcases qu x.2 4 with h | h
   ·exact h
   ·rw [zl,zaz (by rw [(j.get r).1];exact h)] at i;simp [Pc.no] at i
  obtain⟨y,l,-⟩:=((j.get r).2 x.2 u).2 i;rw [d] at l;simp at l
 ·exact⟨c,k,.inr ⟨_,zza (zce.2 ⟨s,g,v⟩) d,e⟩⟩
theorem z8g (d:z19 fe I (qt say)){con:Nat→Nat→zc→zc→za→Bool}{s:σ}{n:Nat}(hI:I s)(f:c.proved=[])(h0:0 < c.size)(j:c.size < n)(g:n < 2 ^ 63):
  (∃ p∈zdv say n (qk 64 c.size 0 n true),(vt fe con c s n r).1= .inl (.tile p)) ∨
  (zdv say n (qk 64 c.size 0 n true)=[]∧(vt fe con c s n r).1=if con c.size n c.root r (zct say n (qk 64 c.size 0 n true)) then .inr (zct say n (qk 64 c.size 0 n true)) else .inl .proof):=by
 unfold vt;rw [if_neg (by omega),if_neg (by omega),if_neg (by omega),f];obtain⟨k,i,⟨b,e⟩ | ⟨p,a,e⟩⟩:=zxf d g (qk 64 c.size 0 n true) ⟨s,[]⟩ (ze8 _) hI (fun x h=>by
  have:=zg4 64 c.size 0 n true (by omega) (by omega) (by omega) (by omega) x h;omega)
 ·refine .inr ⟨b,?_⟩;rw [e];simp only;split<;>rfl
 ·exact .inl ⟨p,a,by rw [e]⟩
theorem z7a {p:Pl}{f:Fl}(i:p.1=-1)(h:qt say p=some f)(k:Nat)(n:k < 4)(a:(f.getD k .no).there=true):(f.getD k .no).hash=zae (f.getD k .no).entry:=by
 have m:∀ {q:Pl} {g:Fl},q.1=-1→zc6 say q=some g→(g.getD k .no).there=true→(g.getD k .no).hash=zae (g.getD k .no).entry:=fun {q g} o e a=>by
  unfold zc6 at e;cases j:say (zgc q) with
  | none=>rw [j] at e;simp at e
  | some d =>
   rw [j] at e;simp only [zfl,o,if_true] at e;cases l:zd6 d with
   | none=>rw [l] at e;simp at e
   | some es =>
    rw [l] at e;simp only at e;split at e
    ·cases e;rw [zho _ _ n] at a ⊢;split
     ·rfl
     ·next hn=>rw [if_neg hn] at a;simp [Pc.no] at a
    ·simp at e
 unfold qt at h;cases b:zc6 say p with
 | some g=>rw [b] at h;cases h;exact m i b a
 | none =>
  rw [b] at h;simp only at h;split at h
  ·simp at h
  ·cases c:zc6 say (p.1,p.2.1,4) with
   | none=>rw [c] at h;simp at h
   | some g =>
    rw [c] at h;cases h;rw [zis] at a ⊢;split
    ·next hn=>rw [if_pos hn] at a;exact m (q:=(p.1,p.2.1,4)) i c a
    ·next hn=>rw [if_neg hn] at a;simp [Pc.no] at a
def zrj (say:Say)(size i:Nat):zc:=match qt say (zv size (-1) i) with
 | some f=>(f.getD (i % 4) .no).entry
 | none=>[]
def zng (say:Say)(a i:Nat):za:=zcj (qt say) [(zv a (-1) i,i % 4)]++zdv say a (qz 64 0 a i)
theorem ydy (t:z19 fe I (qt say)){inc:zc→Nat→Nat→za→zc→Bool}{s:σ}(hI:I s)(E:c.proved=[])(B:i < c.size)(G:c.size < 2 ^ 63):
  (∃ p∈zng say c.size i,(zbd fe inc c s i).1= .inl (.tile p)∧(zbd fe inc c s i).2.1=c) ∨
  (zng say c.size i=[]∧inc (zae (zrj say c.size i)) i c.size (zct say c.size (qz 64 0 c.size i)) c.root=false∧(zbd fe inc c s i).1= .inl .proof∧(zbd fe inc c s i).2.1=c) ∨
  (zng say c.size i=[]∧inc (zae (zrj say c.size i)) i c.size (zct say c.size (qz 64 0 c.size i)) c.root=true∧(zbd fe inc c s i).1= .inr (zrj say c.size i,zct say c.size (qz 64 0 c.size i))):=by
 have u:i < qg (-1) c.size:=by simpa [qg] using B
 have b:=yal t c.size;unfold zbd zng;rw [E];rcases zs6 (proved:=[]) (m:=⟨s,[]⟩) b.says b.bare (fun d h=>b.told _ _ d (by omega) u h) b.proved (ze8 _) hI u with ⟨o,v,a,K,⟨f,j,k,g⟩,w,y⟩ | ⟨v,a,k,-,-⟩
 ·have z:=zv0 (by unfold zv;simp;omega) j;have l:(f.getD (i % 4) .no).there=true:=by
   rw [z.there _ (by omega)];unfold zv;simp;omega
  have C:=z7a (by rfl) j (i % 4) (by omega) l;have A:zrj say c.size i=o.entry:=by unfold zrj;rw [j];exact g.symm
  have D:zcj (qt say) [(zv c.size (-1) i,i % 4)]=[]:=zzb fun q F=>by
   rw [xm.1 F,j];simp
  rw [D,zal,A,show zae o.entry=o.hash by rw [k,C,g]];obtain⟨L,H,⟨r,e⟩ | ⟨p,n,e⟩⟩:=zxf t G (qz 64 0 c.size i) v w y (fun x b=>by
   have:=zg5 64 0 c.size i (by omega) x b;omega)
  ·simp only [a,e];cases J:inc o.hash i c.size (zct say c.size (qz 64 0 c.size i)) c.root with
   | false=>exact .inr (.inl ⟨r,rfl,by simp,by simp⟩)
   | true=>exact .inr (.inr ⟨r,rfl,by simp⟩)
  ·exact .inl ⟨p,n,by simp only [a,e],by simp only [a,e]⟩
 ·exact .inl ⟨_,yt.2 (.inl (zza (p:=(zv c.size (-1) i,i % 4)) (by simp) k)),by simp only [a],by simp only [a]⟩
end
end
variable {b hb:Nat}{e t:TypeId}{w w':World}
section
open Go.RowKit Go.Maps Go.MapKept Go.ChangeMaps
def plV (p:Pl):Value:= .agg #[.int .i64 p.1,.int .i64 p.2.1,.int .i64 p.2.2]
def yg6 (x:Int):Prop:=-9223372036854775808≤x∧x≤9223372036854775807
def zip (p:Pl):Prop:=yg6 p.1∧yg6 p.2.1∧yg6 p.2.2
def yx (b:Nat):Value:= .pointer (some ⟨b,0,none⟩)
theorem ylj:laidOutB prog=true:=by kernel_rfl
theorem z4o:(150:TypeId) < prog.types.size:=zhs (by kernel_rfl)
theorem ydk:prog.keyType 150=true:=by kernel_rfl
theorem ydl:(match prog.underlying 150 with | some (.array _ _) | some (.struct _)=>true | _=>false)=true:=by rw [underlying150]
theorem zk9:Keyed prog 150:=Keyed.of_law (deep_law_laid ylj (m:=2) (by omega) z4o (by kernel_rfl) ydl)
theorem zw1:prog.cellsOf 150=3:=by kernel_rfl
theorem yhc:prog.cellsOf 3=1:=by kernel_rfl
theorem z4n (p:Pl):(plV p).formed prog 150=true:=by simp [plV,Value.formed,underlying150,zw1]
theorem zow (d:Nat)(n:Int)(h:(Lit.int .i64 n).wf=true):prog.keyLits (d+1) 3 [.int .i64 n]=some [.int .i64 n]:=by
 unfold Program.keyLits;rw [zf5];simp [h]
theorem ydm (p:Pl)(h:zip p):∃ l,keyOf prog 150 (plV p)=some l:=by
 obtain⟨a,b,c⟩:=h;have e:(Lit.int .i64 p.1).wf=true:=WalkArith.wf_i64 a;have f:(Lit.int .i64 p.2.1).wf=true:=WalkArith.wf_i64 b;have g:(Lit.int .i64 p.2.2).wf=true:=WalkArith.wf_i64 c;obtain⟨m,d⟩:∃ m,prog.types.size=m+1:=⟨_,(Nat.succ_pred_eq_of_pos (zcy (yv _) z4o)).symm⟩;unfold keyOf;rw [underlying150];simp only [ydk,z4n,Bool.and_self,if_true];rw [d];unfold Program.keyLits;rw [underlying150];simp [plV,Value.cells,zw1,yhc,zow m _ e,zow m _ f,zow m _ g]
def zn4 (P:Program)(p:Pl):Lit:=(keyOf P 150 (plV p)).getD (.bool false)
theorem zs4 {p:Pl}(h:zip p):keyOf prog 150 (plV p)=some (zn4 prog p):=by
 obtain⟨l,a⟩:=ydm p h;unfold zn4;rw [a];rfl
theorem yhh {p q:Pl}(h:zip p)(f:zip q)(e:zn4 prog p=zn4 prog q):p=q:=by
 have g:=zs4 h;have d:=zs4 f;rw [← e] at d;have:=zk9.inj g d;obtain⟨a,b,c⟩:=p;obtain⟨i,j,k⟩:=q;simp only [plV,Value.agg.injEq,Array.mk.injEq,ztr,Value.int.injEq,zxw,zl9] at this;obtain⟨rfl,rfl,rfl⟩:=this
 rfl
def z3i (v:Value):Option (DataW Value×List MemPlace):=some (.held v,[])
abbrev Ks:=List (Pl×Nat)
def Ks.get (l:Ks)(p:Pl):Option Nat:=match l.find? (fun x=>decide (x.1=p)) with
 | some x=>some x.2
 | none=>none
def zx9:Option Nat→Value
 | some b=>yx b
 | none=> .pointer none
def zb6 (w:World)(a:Nat)(l:Ks):Prop :=
 ∃ D:DataW Value,w.ownsMap prog 150 z3i a l.length D∧Maps.size D=l.length∧(l.map (·.1)).Nodup ∧
  ∀ p,zip p→Maps.has D (zn4 prog p)=(l.get p).isSome∧D.atKey (zn4 prog p) (.held (.pointer none))= .held (zx9 (l.get p))
theorem zb6.lt {l:Ks}(h:zb6 w hb l):hb < w.heap.size:=by
 obtain⟨D,h,-⟩:=h;exact h.lt
theorem zb6.isMap {l:Ks}(h:zb6 w hb l):∃ es c,w.heap[hb]?=some (.map es c):=by
 obtain⟨D,⟨es,c,e,-⟩,-⟩:=h;exact⟨es,c,e⟩
theorem zb6.same {l:Ks}(h:zb6 w hb l)(e:w'.heap[hb]?=w.heap[hb]?):zb6 w' hb l:=by
 obtain⟨D,⟨es,c,a,b⟩,d⟩:=h;exact⟨D,⟨es,c,e.trans a,b⟩,d⟩
theorem zb6.drew {l:Ks}(h:zb6 w hb l):zb6 w.drew hb l:=h.same rfl
theorem zwu {n:Nat}{D:DataW Value}(h:w.ownsMap prog 150 z3i b n D):w.ownsMap prog 150 z3i b (Maps.size D) D:=by
 obtain⟨es,c,a,F,d,rfl⟩:=h;refine⟨es,c,a,F,?_,rfl⟩;show es.size≤((es.toList.map _).foldr DataW.insert []).length;rw [length_sorted];simp
theorem zx6 {l:Ks}{p q:Pl}(h:l.get p=none):Ks.get (l++[(p,b)]) q=if q=p then some b else l.get q:=by
 unfold Ks.get at *;rw [List.find?_append]
 by_cases e:q=p
 ·subst e;cases a:l.find? (fun x=>decide (x.1=q)) with
  | some x=>rw [a] at h;simp at h
  | none=>simp
 ·rw [if_neg e];cases a:l.find? (fun x=>decide (x.1=q)) with
  | some x=>simp
  | none =>
   have:¬ p=q:=fun h=>e h.symm;simp [this]
def Ks.drop (l:Ks)(p:Pl):Ks:=l.filter fun x=>!decide (x.1=p)
theorem z3r {l:Ks}{p q:Pl}:Ks.get (l.drop p) q=if q=p then none else l.get q:=by
 unfold Ks.get Ks.drop;rw [List.find?_filter]
 by_cases e:q=p
 ·subst e;rw [if_pos rfl];have:l.find? (fun a=>decide ((!decide (a.1=q))=true∧decide (a.1=q)=true))=none:=by
   rw [vx];intro x _;simp
  rw [this]
 ·rw [if_neg e];have:(fun a:Pl×Nat=>decide ((!decide (a.1=p))=true∧decide (a.1=q)=true))=fun a=>decide (a.1=q):=by
   funext a
   by_cases h:a.1=q
   ·have:¬ a.1=p:=fun b=>e (h▸b);simp [h,e]
   ·simp [h]
  rw [this]
theorem yli {l:Ks}{p:Pl}(h:l.get p=none):∀ x∈l,x.1≠p:=by
 unfold Ks.get at h;cases e:l.find? (fun x=>decide (x.1=p)) with
 | some x=>rw [e] at h;simp at h
 | none =>
  intro x a;simpa using vx.1 e x a
theorem yhk {l:Ks}{p:Pl}(j:(l.map (·.1)).Nodup)(h:l.get p=some b):∃ a c,l=a++(p,b)::c∧l.drop p=a++c:=by
 unfold Ks.get at h;cases e:l.find? (fun x=>decide (x.1=p)) with
 | none=>rw [e] at h;simp at h
 | some x =>
  rw [e] at h;simp only [zr] at h;have f:=zju e;simp only [vj] at f;obtain⟨a,c,rfl⟩:=List.append_of_mem (zdm e);obtain⟨k,v⟩:=x;simp only at h f;subst h;subst f;refine⟨a,c,rfl,?_⟩;rw [yy,zao] at j;obtain⟨-,d,g⟩:=j;rw [ve,zbj] at d;unfold Ks.drop;rw [zn9,zl1];have m:a.filter (fun y=>!decide (y.1=k))=a:=by
   rw [za1];intro y i;simpa using g y.1 (yl.2 ⟨y,i,rfl⟩) k (by simp)
  have n:c.filter (fun y=>!decide (y.1=k))=c:=by
   rw [za1];intro y i;have:y.1≠k:=fun o=>d.1 (o▸yl.2 ⟨y,i,rfl⟩);simpa using this
  rw [m,n];simp
theorem zb6.look {l:Ks}(h:zb6 w hb l)(i:prog.underlying t=some (.map 150 e))(j:∀ w,(zeroValue e).run prog w= .ok (.pointer none) w){p:Pl}(d:zip p):
  (Instr.lookup t (.map (some hb)) (plV p) true).run prog w= .ok (.tuple #[zx9 (l.get p),.bool (l.get p).isSome]) w:=by
 obtain⟨D,f,-,-,g⟩:=h;obtain⟨a,b⟩:=g p d;obtain⟨v,ps,c,hv⟩:=f.look_ok zk9 i (j w) (zd:= .held (.pointer none)) (zp:=[]) rfl (zs4 d);rw [b] at hv;simp only [z3i,zr,ye,DataW.held.injEq] at hv;rw [c,a,hv.1]
theorem zb6.put {l:Ks}(h:zb6 w hb l)(E:prog.underlying t=some (.map 150 e)){p:Pl}(m:zip p)(B:l.length < maxLen)(d:l.get p=none)(b:Nat):
  ∃ j,(Instr.mapUpdate t (.map (some hb)) (plV p) (yx b)).run prog w= .ok () j∧zb6 j hb (l++[(p,b)])∧w.grownBy j (some hb):=by
 obtain⟨D,k,v,y,o⟩:=h;obtain⟨j,g,C,A⟩:=k.update zk9 E B (zs4 m) (show z3i (yx b)=some (.held (yx b),[]) from rfl);have s:WideAt.IsKeyLit (zn4 prog p):=zk9.key (zs4 m);have f:Maps.has D (zn4 prog p)=false:=by rw [(o p m).1,d];rfl
 have i:Maps.size (D.put (zn4 prog p) (.held (yx b)))=l.length+1:=by
  rw [Maps.size_put (k.tidy zk9),f,v];rfl
 refine⟨j,g,⟨D.put (zn4 prog p) (.held (yx b)),?_,?_,?_,?_⟩,A⟩
 ·have:=zwu C;rw [i] at this;simpa using this
 ·rw [i];simp
 ·rw [yy,zao];refine⟨y,by simp,?_⟩;intro a z c r;simp only [ve,zku,xm] at r;subst r;obtain⟨x,F,rfl⟩:=yl.1 z;exact yli d x F
 ·intro q u;rw [zx6 d]
  by_cases n:q=p
  ·subst n;rw [if_pos rfl,Maps.has_put_same k.isMap s,Maps.atKey_put_same k.isMap s];exact⟨rfl,rfl⟩
  ·have:zn4 prog q≠zn4 prog p:=fun e=>n (yhh u m e);rw [if_neg n,Maps.has_put_other this,Maps.atKey_put_other this];exact o q u
theorem zb6.del {l:Ks}(h:zb6 w hb l)(B:prog.underlying t=some (.map 150 e)){p:Pl}(j:zip p)(a:l.get p=some b)(u:TypeId):
  ∃ g,(Builtin.delete_ #[t,150] u #[.map (some hb),plV p]).run prog w= .ok (.tuple #[]) g∧zb6 g hb (l.drop p)∧w.grownBy g (some hb):=by
 obtain⟨D,m,y,n,o⟩:=h;obtain⟨g,c,A,z⟩:=m.drop zk9 B (zs4 j) u;have f:Maps.has D (zn4 prog p)=true:=by rw [(o p j).1,a];rfl
 have r:(l.drop p).length+1=l.length:=by
  obtain⟨C,E,v,x⟩:=yhk n a;rw [x,v];simp;omega
 have d:Maps.size (D.del (zn4 prog p))=(l.drop p).length:=by
  have:=Maps.size_del (k:=zn4 prog p) (m.tidy zk9);rw [f,y] at this;simp at this;omega
 refine⟨g,c,⟨D.del (zn4 prog p),?_,d,?_,?_⟩,z.grown⟩
 ·have:=zwu A;rw [d] at this;exact this
 ·unfold Ks.drop;exact(List.filter_sublist.map _).nodup n
 ·intro q s;rw [z3r]
  by_cases i:q=p
  ·subst i;rw [if_pos rfl,Maps.has_del_same,Maps.atKey_del_same];exact⟨rfl,rfl⟩
  ·have:zn4 prog q≠zn4 prog p:=fun e=>i (yhh s j e);rw [if_neg i,Maps.has_del_other this,Maps.atKey_del_other this];exact o q s
theorem zb6.len {l:Ks}(h:zb6 w hb l)(d:prog.underlying t=some (.map 150 e))(a:TypeId):
  (Builtin.len_ #[t] a #[.map (some hb)]).run prog w= .ok (.int .i64 (l.length:Int)) w:=by
 obtain⟨D,b,c,-⟩:=h;rw [b.len d a,c]
theorem zo4 {c:Nat}(h:w.heap[hb]?=some (.map #[] c)):zb6 w hb []:=by
 refine⟨.map [],⟨#[],c,h,⟨by simp,stamped_empty c,by simp⟩,zm _,rfl⟩,rfl,by simp,fun p _=>⟨rfl,rfl⟩⟩
theorem zb6.clear {l:Ks}(h:zb6 w hb l)(f:prog.underlying t=some (.map 150 e))(g:TypeId):
  ∃ b,(Builtin.clear_ #[t] g #[.map (some hb)]).run prog w= .ok (.tuple #[]) b∧zb6 b hb []∧w.grownBy b (some hb):=by
 obtain⟨es,c,a⟩:=h.isMap;refine⟨setBlock w hb (.map #[] c),?_,zo4 (c:=c) (heap_setBlock_same a _),⟨rfl,rfl,rfl,by simp [setBlock],fun i _ d=>heap_setBlock_other a _ (fun e=>d (by rw [e]))⟩⟩;simp [Builtin.clear_,zcu f,zkw a,zkx _ a,Result.andThen,setBlock]
end
end Go.Proofs.YtlcllcgngjhoaaaGreatDoor
