import Derived.Test.YtlcllcgngjhoaaaGreatDoorG11
set_option maxHeartbeats 8000000
set_option maxRecDepth 100000
set_option linter.all false
namespace Go.Proofs.YtlcllcgngjhoaaaGreatDoor
open Go.RowKit Go.Proofs.Tryz
def zc9:=@Nat.mod_two_eq_zero_or_one
def zdo:=@List.mem_cons_self
def zeh:=@List.mem_map_of_mem
def zft:=@Nat.mul_assoc
def zsl:=@Nat.div_self
def zsm:=@Nat.mul_comm
def z16:=@Nat.lt_trichotomy
variable {j k:Nat}
section
abbrev WfF (p:Pl)(f:Fl):Prop:=GdF (fun _ _ _=>True) p f
abbrev WfM (m:Mm):Prop:=GdM (fun _ _ _=>True) m
theorem GdF.wf {V:Pl→Nat→Pc→Prop}{p:Pl}{f:Fl}(h:GdF V p f):WfF p f:=⟨h.1,fun k a=>⟨(h.2 k a).1,fun _=>trivial⟩⟩
theorem GdM.wf {V:Pl→Nat→Pc→Prop}{m:Mm}(h:GdM V m):WfM m:=⟨h.1,fun x a=>(h.2 x a).wf⟩
theorem Mm.get_snoc (m:Mm)(p q:Pl)(g:Fl):Mm.get (m.drop p++[(p,g)]) q=if q=p then some g else m.get q:=by
 unfold Mm.get;rw [List.find?_append]
 by_cases h:q=p
 ·subst h;have:(m.drop q).find? (fun x=>decide (x.1=q))=none:=by
   rw [vx];intro x a;have:=(Mm.drop_mem.1 a).2;simpa using this
  rw [this];simp
 ·have b:¬ p=q:=fun e=>h e.symm;have:(m.drop p).find? (fun x=>decide (x.1=q))=m.find? (fun x=>decide (x.1=q)):=by
   unfold Mm.drop;rw [List.find?_filter];congr 1;funext x
   by_cases a:x.1=q
   ·simp [a,h]
   ·simp [a]
  rw [this,if_neg h];cases m.find? (fun x=>decide (x.1=q)) with
  | none=>simp [b]
  | some x=>simp
section
variable {σ : Type} {fe : σ → zc → (zc × Bool) × σ}
theorem zk5 {b:Mm}{a:Nat}{m r:Ms σ}{l:Int}{c:Pc}(h:zaq fe b a m l j=(.inr c,r))(y:WfM b)(x:WfM m.needed)(A:j < qg l a):
  ∃ f,WfF (zv a l j) f∧r.needed=m.needed.drop (zv a l j)++[(zv a l j,zby f (j % 4))]∧(f.getD (j % 4) .no).there=true∧c=(zby f (j % 4)).getD (j % 4) .no ∧
   ((f=j9 b m.needed (zv a l j)∧r.net=m.net)∨(∃ d,z0j (zv a l j).2.2 d∧f=zh3 (j9 b m.needed (zv a l j)) d∧zb0 fe m.net (zv a l j)=(some d,r.net)∧((j9 b m.needed (zv a l j)).getD (j % 4) .no).there=false)):=by
 have z:(zv a l j).2.2≤4:=by unfold zv;simp;omega
 have u:((j % 4:Nat):Int) < (zv a l j).2.2:=by unfold zv;simp;omega
 have n:=y.known x (zv a l j);unfold zaq at h;generalize zv a l j=p at *
 by_cases q:((j9 b m.needed p).getD (j % 4) .no).there=true
 ·rw [if_pos q] at h;simp only [ye,Sum.inr.injEq] at h;obtain⟨rfl,rfl⟩:=h;exact⟨_,n,rfl,q,rfl,.inl ⟨rfl,rfl⟩⟩
 ·rw [if_neg q] at h;cases v:zb0 fe m.net p with
  | mk o s =>
   rw [v] at h;cases o with
   | none=>simp at h
   | some d =>
    simp only [ye,Sum.inr.injEq] at h;obtain⟨rfl,rfl⟩:=h;have g:=zqv z v;have e:(j9 b m.needed p).length=d.length:=by rw [n.1,g.len]
    have t:WfF p d:=⟨g.len,fun k _=>⟨fun w=>by rw [g.fits k] at w;simp at w,fun _=>trivial⟩⟩;refine⟨_,n.fill t,rfl,?_,rfl,.inr ⟨d,g,rfl,rfl,by simpa using q⟩⟩;rw [zhp _ _ e _ (by rw [n.1];omega)];split
    ·rename_i i;exact absurd ((n.2 (j % 4) (by omega)).1 i) q
    ·rw [g.there _ (by omega)];simpa using u
def zc3 (fe:σ→zc→(zc×Bool)×σ)(proved:Mm)(a:Nat):Ms σ→List (Pl×Nat)→Ms σ→Prop
 | m,[],d=>d=m
 | m,x::r,e=>∃(l:Int) (j:Nat) (c:Pc) (b:Ms σ),x=(zv a l j,j % 4)∧j < qg l a∧zaq fe proved a m l j=(.inr c,b)∧zc3 fe proved a b r e
theorem zc3.nil {a:Mm}{b:Nat}(m:Ms σ):zc3 fe a b m [] m:=rfl
theorem zc3.cons {a:Mm}{b:Nat}{m d f:Ms σ}{l:Int}{c:Pc}{r:List (Pl×Nat)}(g:j < qg l b)(e:zaq fe a b m l j=(.inr c,d))(h:zc3 fe a b d r f):zc3 fe a b m ((zv b l j,j % 4)::r) f:=⟨l,j,c,d,rfl,g,e,h⟩
theorem zc3.ind {b:Mm}{d:Nat}{a:(m:Ms σ)→(ps:List (Pl×Nat))→(f:Ms σ)→zc3 fe b d m ps f→Prop}(nil:∀ m,a m [] m (zc3.nil m))(cons:∀ {m g k:Ms σ} {l:Int} {j:Nat} {c:Pc} {r:List (Pl×Nat)} (i:j < qg l d) (e:zaq fe b d m l j=(.inr c,g)) (h:zc3 fe b d g r k),a g r k h→a m ((zv d l j,j % 4)::r) k (zc3.cons i e h)):∀ {m:Ms σ} {ps:List (Pl×Nat)} {f:Ms σ} (h:zc3 fe b d m ps f),a m ps f h:=by
 intro m ps
 induction ps generalizing m with
 | nil =>
  intro f h;have e:f=m:=h;subst e;exact nil f
 | cons x r n =>
  intro f h;obtain⟨l,j,c,g,rfl,i,e,h⟩:=h;exact cons i e h (n h)
theorem zc3.append {c:Mm}{d:Nat}{m g i:Ms σ}{a b:List (Pl×Nat)}(h:zc3 fe c d m a g)(f:zc3 fe c d g b i):zc3 fe c d m (a++b) i:=by
 induction h using zc3.ind with
 | nil m=>exact f
 | cons j e _ k=>exact .cons j e (k f)
theorem yd6 {d:Mm}{b:Nat}(D:b < 2 ^ 63):∀(f:Nat) (m i:Ms σ) (a n:Nat) (x:zc),a+n≤b→1≤n→n≤2 ^ f→vm fe d b (f+1) m a n=(.inr x,i)→zc3 fe d b m (xr b (f+1) a n) i:=by
 have j:∀(f:Nat) (m i:Ms σ) (a n:Nat) (x:zc),a+n≤b→1≤n→n / 4 ^ lvl n=1→vm fe d b (f+1) m a n=(.inr x,i)→zc3 fe d b m (xr b (f+1) a n) i:=by
  intro f m i a n x l q g h;obtain⟨-,-,k⟩:=zg3 n q (by omega);have y:=zsd a n (lvl n) b l (k.1 g);rw [xr,if_pos g];cases s:zaq fe d b m (lvl n:Nat) (a / 4 ^ lvl n) with
  | mk o w =>
   cases o with
   | inl e=>rw [znj g s] at h;simp at h
   | inr c =>
    rw [zpx g s] at h;simp only [ye] at h;obtain⟨-,rfl⟩:=h;exact .cons y s (.nil _)
 intro f
 induction f with
 | zero =>
  intro m i a n x l q u h;obtain rfl:n=1:=by omega
  exact j 0 m i a 1 x l (by omega) (by decide) h
 | succ f v =>
  intro m i a n x l q u h
  by_cases g:n / 4 ^ lvl n=1
  ·exact j (f+1) m i a n x l q g h
  ·have t:2≤n:=by
    rcases qu n 2 with h | h
    ·exact absurd (by
       obtain rfl:n=1:=by omega
       decide) g
    ·exact h
   obtain⟨z,A,B,C,E,F⟩:=zaw n f t u;rw [xr,if_neg g];cases p:vm fe d b (f+1) m a (yo n) with
   | mk o w =>
    cases o with
    | inl e=>rw [zni g p] at h;simp at h
    | inr H =>
     cases r:vm fe d b (f+1) w (a+yo n) (n - yo n) with
     | mk o G =>
      cases o with
      | inl e=>rw [zlz g p r] at h;simp at h
      | inr I =>
       rw [zpy g p r] at h;simp only [ye] at h;obtain⟨-,rfl⟩:=h;exact(v _ _ _ _ _ (by omega) B z p).append (v _ _ _ _ _ (by omega) C A r)
theorem zi1 {a:Mm}{b:Nat}(p:b < 2 ^ 63):∀(c:List (Nat×Nat)) (m f:Ms σ) (j:za),(∀ s∈c,s.1+s.2≤b∧1≤s.2)→qx fe a b m c=(.inr j,f)→zc3 fe a b m (c.flatMap fun s=>xr b 64 s.1 s.2) f:=by
 intro c
 induction c with
 | nil =>
  intro m f j _ h;simp only [qx,ye] at h;obtain⟨-,rfl⟩:=h;exact .nil _
 | cons s r q =>
  intro m f j k h;obtain⟨l,n⟩:=k s (by simp);cases d:vm fe a b 64 m s.1 s.2 with
  | mk o t =>
   cases o with
   | inl e=>rw [zpd d] at h;simp at h
   | inr w =>
    cases g:qx fe a b t r with
    | mk o v =>
     cases o with
     | inl e=>rw [zpf d g] at h;simp at h
     | inr x =>
      rw [zpe d g] at h;simp only [ye] at h;obtain⟨-,rfl⟩:=h;rw [zd9];exact(yd6 p 63 _ _ _ _ _ l n (by omega) d).append (q _ _ _ (fun u i=>k u (by simp [i])) g)
theorem zm5 (f:Fl)(k i:Nat):((zby f k).getD i .no).there=(f.getD i .no).there:=by
 rw [ze7];split<;>rfl
theorem zmd {p:Pl}{f:Fl}(h:WfF p f)(a:(f.getD k .no).there=true):WfF p (zby f k):=GdF.fitsAt (fun _ _ _ _ _=>trivial) h a
theorem zc3.wf {a:Mm}{b:Nat}{m d:Ms σ}{ps:List (Pl×Nat)}(h:zc3 fe a b m ps d)(k:WfM a)(c:WfM m.needed):WfM d.needed:=by
 induction h using zc3.ind with
 | nil m=>exact c
 | cons j e _ n =>
  obtain⟨f,i,g,l,-,-⟩:=zk5 e k c j;exact n (by rw [g];exact c.snoc (zmd i l))
theorem zc3.keys {a:Mm}{c:Nat}{m k:Ms σ}{ps:List (Pl×Nat)}(h:zc3 fe a c m ps k)(p:WfM a)(j:WfM m.needed):∀ x∈k.needed,(∃ y∈m.needed,y.1=x.1)∨∃ q∈ps,q.1=x.1:=by
 induction h using zc3.ind with
 | nil m=>exact fun x d=> .inl ⟨x,d,rfl⟩
 | cons o e _ t =>
  obtain⟨f,n,g,s,-,-⟩:=zk5 e p j o;intro x d;rcases t (by rw [g];exact j.snoc (zmd n s)) x d with ⟨y,b,i⟩ | ⟨q,r,l⟩
  ·rw [g] at b;rcases yt.1 b with b | b
   ·exact .inl ⟨y,(Mm.drop_mem.1 b).1,i⟩
   ·obtain rfl:=xm.1 b;exact .inr ⟨_,zdo,i⟩
  ·exact .inr ⟨q,by simp [r],l⟩
theorem zc3.has {a:Mm}{b:Nat}{m z:Ms σ}{ps:List (Pl×Nat)}(h:zc3 fe a b m ps z)(K:WfM a)(F:WfM m.needed):Has z.needed ps∧∀ d,Has m.needed d→Has z.needed d:=by
 induction h using zc3.ind with
 | nil m=>exact⟨fun x i=>by simp at i,fun d t=>t⟩
 | cons J e _ O =>
  rename_i m A P l j c r _;obtain⟨f,y,u,G,-,I⟩:=zk5 e K F J;have L:WfM A.needed:=by rw [u];exact F.snoc (zmd y G)
  obtain⟨N,H⟩:=O L;have E:(zby f (j % 4)).length=4:=by rw [zqz];exact y.1
  have s:Has A.needed [(zv b l j,j % 4)]:=by
   intro x i;obtain rfl:=xm.1 i;refine⟨zby f (j % 4),by rw [u,Mm.get_snoc,if_pos rfl],E,by rw [zm5];exact G,?_⟩;rw [ze7,if_pos ⟨rfl,by rw [y.1];omega⟩]
  have q:∀ d,Has m.needed d→Has A.needed d:=by
   intro d t x i;obtain⟨g,C,D,n,v⟩:=t x i
   by_cases k:x.1=zv b l j
   ·refine⟨zby f (j % 4),by rw [u,Mm.get_snoc,if_pos k],E,?_⟩;have p:j9 a m.needed (zv b l j)=g:=by unfold j9;rw [← k,C]
    have M:x.2 < 4:=by
     rcases qu x.2 4 with h | h
     ·exact h
     ·rw [zl,zaz (by omega)] at n;simp [Pc.no] at n
    have o:(f.getD x.2 .no).there=true∧(f.getD x.2 .no).fits=true:=by
     rcases I with ⟨rfl,-⟩ | ⟨B,w,rfl,-,-⟩
     ·rw [p];exact⟨n,v⟩
     ·rw [p] at *;rw [zhp _ _ (by rw [D,w.len]) _ (by omega),if_pos v];exact⟨n,v⟩
    refine⟨by rw [zm5];exact o.1,?_⟩;rw [ze7];split
    ·rfl
    ·exact o.2
   ·exact⟨g,by rw [u,Mm.get_snoc,if_neg k];exact C,D,n,v⟩
  refine⟨?_,fun d t=>H d (q d t)⟩;intro x i;rcases jr.1 i with rfl | i
  ·exact H _ s _ (by simp)
  ·exact N x i
def Wh (a:Mm)(x:Pl×Fl):Prop:=a.get x.1=none→∀ k:Nat,k < 4→(k:Int) < x.1.2.2→(x.2.getD k .no).there=true
theorem zc3.whole {a:Mm}{o:Nat}{m E:Ms σ}{ps:List (Pl×Nat)}(h:zc3 fe a o m ps E)(I:WfM a)(z:WfM m.needed)(B:∀ x∈m.needed,Wh a x):∀ x∈E.needed,Wh a x:=by
 induction h using zc3.ind with
 | nil m=>exact B
 | cons H e _ J =>
  rename_i m K L l j c r _;obtain⟨f,F,C,A,-,D⟩:=zk5 e I z H;refine J (by rw [C];exact z.snoc (zmd F A)) (fun x u=>?_);rw [C] at u;rcases yt.1 u with u | u
  ·exact B x (Mm.drop_mem.1 u).1
  ·obtain rfl:=xm.1 u;intro t k d n;rw [zm5];simp only at t n;generalize zv o l j=p at *;cases w:m.needed.get p with
   | some g =>
    have i:j9 a m.needed p=g:=by unfold j9;rw [w]
    have s:=B _ (Mm.get_mem w) t k d n;simp only at s;rcases D with ⟨rfl,-⟩ | ⟨v,b,rfl,-,-⟩
    ·rw [i];exact s
    ·have y:=(z.get w).1;rw [i,zhp _ _ (by rw [y,b.len]) _ (by omega)];split
     ·exact s
     ·rw [b.there k d];simpa using n
   | none =>
    have i:j9 a m.needed p=Fl.no:=by unfold j9;rw [w,t]
    rcases D with ⟨rfl,-⟩ | ⟨v,b,rfl,-,-⟩
    ·rw [i] at A;have:j % 4 < 4:=Nat.mod_lt _ (by omega);generalize j % 4=q at *
     match q,this with
     | 0,_ | 1,_ | 2,_ | 3,_=>simp [Fl.no,Pc.no] at A
    ·rw [i,zhp _ _ (by rw [b.len];rfl) _ (by show k < 4;exact d)];split
     ·rename_i G
      match k,d with
      | 0,_ | 1,_ | 2,_ | 3,_=>simp [Fl.no,Pc.no] at G
     ·rw [b.there k d];simpa using n
theorem zc3.last {b:Mm}{d:Nat}{m k:Ms σ}{ps:List (Pl×Nat)}(h:zc3 fe b d m ps k)(t:WfM b)(i:WfM m.needed):ps=[]∨∃(a:Mm) (x:Pl×Fl),k.needed=a++[x]∧∃ q∈ps,q.1=x.1:=by
 induction h using zc3.ind with
 | nil m=>exact .inl rfl
 | cons s e v y =>
  rename_i m A B l j c r;obtain⟨f,p,g,w,-,z⟩:=zk5 e t i s;rcases y (by rw [g];exact i.snoc (zmd p w)) with rfl | ⟨a,x,n,q,u,o⟩
  ·cases v;exact .inr ⟨_,_,g,_,zdo,rfl⟩
  ·exact .inr ⟨a,x,n,q,by simp [u],o⟩
end
end
variable {b:Nat}
def zfx (es:za)(p:Pl)(k:Nat)(c:Pc):Prop:=yfm es p k c∧zj6 p k < qg p.1 es.length
theorem znr (es:za)(p:Pl)(k:Nat)(c:Pc)(b:Bool)(h:zfx es p k c):zfx es p k { c with fits:=b }:=h
theorem zsu (l:Int){a:Nat}(h:a≤b):qg l a≤qg l b:=zd0 h
theorem z63 (es fs:za)(l:Int)(k:Nat)(h:k < qg l es.length):zad (es++fs) l k=zad es l k:=by
 have:=zty (es++fs) es.length l k h (by simp);rw [List.take_left'] at this
 ·exact this.symm
 ·rfl
theorem z9l {es:za}{p:Pl}{c:Pc}(h:zfx es p k c)(fs:za):zfx (es++fs) p k c:=by
 obtain⟨⟨b,d⟩,a⟩:=h;refine⟨⟨fun e=>?_,fun e=>?_⟩,zx a (zsu _ (by simp))⟩
 ·have f:zj6 p k < es.length:=by rw [e] at a;simpa [qg] using a
  have:(es++fs).getD (zj6 p k) []=es.getD (zj6 p k) []:=by
   simp only [zl,qd f]
  rw [this];exact b e
 ·rw [z63 es fs _ _ a];exact d e
theorem GdF.weak {V a:Pl→Nat→Pc→Prop}{p:Pl}{f:Fl}(h:GdF V p f)(hv:∀ k c,V p k c→a p k c):GdF a p f:=⟨h.1,fun k b=>⟨(h.2 k b).1,fun d=>hv k _ ((h.2 k b).2 d)⟩⟩
theorem GdM.weak {V a:Pl→Nat→Pc→Prop}{m:Mm}(h:GdM V m)(hv:∀ p k c,V p k c→a p k c):GdM a m:=⟨h.1,fun x b=>(h.2 x b).weak (hv x.1)⟩
theorem zsw (es:za)(l k:Nat):zad es (l:Int) k=qm (run es (k*4 ^ l,4 ^ l)):=by
 unfold zad run;rw [if_neg (by omega),yj]
theorem ztl (es:za)(a q:Nat)(h:a+2 ^ (q+1)≤es.length):qm (run es (a,2 ^ (q+1)))=jx (qm (run es (a,2 ^ q))) (qm (run es (a+2 ^ q,2 ^ q))):=by
 have b:=zje es a (2 ^ (q+1)) h;have c:2 ^ (q+1)=2*2 ^ q:=by rw [qy];omega
 have d:0 < 2 ^ q:=jp (by omega);rw [zub _ (by omega),b,zus,zmp es a _ _ (by omega),zmo];congr 4;omega
theorem yge (es:za)(l k:Nat)(h:4*k+3 < qg (l:Int) es.length):
  zad es ((l+1:Nat):Int) k=jx (jx (zad es (l:Int) (4*k)) (zad es (l:Int) (4*k+1))) (jx (zad es (l:Int) (4*k+2)) (zad es (l:Int) (4*k+3))):=by
 simp only [zsw];have g:0 < 4 ^ l:=jp (by omega);have e:(4*k+4)*4 ^ l≤es.length:=by
  unfold qg at h;rw [yj] at h;exact(zbu g).1 h
 have a:4 ^ l=2 ^ (2*l):=zbm l;have c:4 ^ (l+1)=2 ^ (2*l+1+1):=by rw [zbm];congr 1
 have d:2 ^ (2*l+1+1)=4*4 ^ l:=by rw [a,qy,qy];omega
 have b:2 ^ (2*l+1)=2*4 ^ l:=by rw [a,qy];omega
 have f:k*4 ^ (l+1)=4*k*4 ^ l:=by rw [c,d,zsm 4 k,zft]
 rw [zdg] at e;rw [f,c,ztl es _ _ (by rw [d];exact e),ztl es _ _ (by rw [b];omega),ztl es _ _ (by rw [b];omega),b,← a];congr 4
 ·congr 2;rw [zdg];omega
 ·congr 2;rw [zdg]
 ·congr 2;rw [zdg];omega
theorem yex (es:za)(a l j:Nat)(h:zc)(c:j < qg (l:Int) es.length)(b:h=zad es (l:Int) j):zfx es (zv a (l:Int) j) (j % 4) ⟨true,true,h,[]⟩:=by
 refine⟨⟨fun e=>?_,fun _=>?_⟩,?_⟩
 ·have:((l:Nat):Int)=-1:=e;omega
 ·rw [zjt];exact b
 ·rw [zjt];exact c
theorem GdF.set {V:Pl→Nat→Pc→Prop}{p:Pl}{f:Fl}(h:GdF V p f){c:Pc}(a:Gd V p k c):GdF V p (f.set k c):=by
 refine⟨by rw [zg0];exact h.1,fun i d=>?_⟩;rw [yax];split
 ·rename_i b;obtain⟨rfl,-⟩:=b;exact a
 ·exact h.2 i d
theorem zxb {f:Fl}{u:zc}(h:zr9 f=some u):f.length=4∧(∀ k,k < 4→(f.getD k .no).fits=true)∧u=jx (jx (f.getD 0 .no).hash (f.getD 1 .no).hash) (jx (f.getD 2 .no).hash (f.getD 3 .no).hash):=by
 match f,h with
 | [a,b,c,d],h =>
  unfold zr9 at h;simp only at h;split at h
  ·rename_i e;simp only [zbr] at e;simp only [zr] at h;refine⟨rfl,fun k g=>?_,h.symm⟩
   match k,g with
   | 0,_=>exact e.1.1.1
   | 1,_=>exact e.1.1.2
   | 2,_=>exact e.1.2
   | 3,_=>exact e.2
  ·simp at h
theorem znm (es:za)(a:Nat):∀(f:Nat) (d:Mm) (l j:Nat) (h:zc),GdM (zfx es) d→j < qg (l:Int) es.length→h=zad es (l:Int) j→GdM (zfx es) (zai a f d l j h):=by
 intro f
 induction f with
 | zero=>intro d l j h b _ _;exact b
 | succ f u =>
  intro d l j h b s r;rw [zai];cases q:d.get (zv a (l:Int) j) with
  | none=>exact b
  | some g =>
   simp only;have i:GdF (zfx es) (zv a (l:Int) j) (g.set (j % 4) ⟨true,true,h,[]⟩):=(b.get q).set ⟨fun _=>rfl,fun _=>yex es a l j h s r⟩;have m:=b.set i;cases t:zr9 (g.set (j % 4) ⟨true,true,h,[]⟩) with
   | none=>exact m
   | some y =>
    simp only;obtain⟨z,w,x⟩:=zxb t;have c:∀ k,k < 4→((g.set (j % 4) ⟨true,true,h,[]⟩).getD k .no).hash=zad es (l:Int) (4*(j / 4)+k)∧4*(j / 4)+k < qg (l:Int) es.length:=by
     intro k n;obtain⟨o,p⟩:=i.2 k n;obtain⟨⟨-,t1⟩,t2⟩:=p (o (w k n));have e:zj6 (zv a (l:Int) j) k=4*(j / 4)+k:=by unfold zj6 zv;simp only [yj]
     rw [e] at t1 t2;exact⟨t1 (by show((l:Nat):Int)≠-1;omega),t2⟩
    have v:=(c 3 (by omega)).2;refine u _ (l+1) (j / 4) y m ?_ ?_
    ·unfold qg at *;rw [yj] at *;rw [qy,← Nat.div_div_eq_div_mul];omega
    ·rw [x,(c 0 (by omega)).1,(c 1 (by omega)).1,(c 2 (by omega)).1,(c 3 (by omega)).1];exact(yge es l (j / 4) v).symm
theorem zfa (a:Nat):∀(f:Nat) (b:Mm) (l j:Nat) (h:zc),(zai a f b l j h).map (·.1)=b.map (·.1):=by
 intro f
 induction f with
 | zero=>intro b l j h;rfl
 | succ f d =>
  intro b l j h;rw [zai];cases e:b.get (zv a (l:Int) j) with
  | none=>rfl
  | some c =>
   simp only;cases g:zr9 (c.set (j % 4) ⟨true,true,h,[]⟩) with
   | none=>exact Mm.set_keys _ _ _
   | some i=>rw [d];exact Mm.set_keys _ _ _
theorem ztu (b l:Fl)(d:b.length=4)(f:l.length=4)(k:Nat)(e:k < 4):(zj7 b l).getD k .no=if ((b.getD k .no).there&&(l.getD k .no).fits&&decide ((b.getD k .no).hash=(l.getD k .no).hash))=true then { b.getD k .no with fits:=true } else b.getD k .no:=by
 have a:k < b.length:=by omega
 have c:k < l.length:=by omega
 unfold zj7;simp only [zl,zll,zt a,zt c,zc2]
theorem z2h (b l:Fl)(a:b.length=4)(c:l.length=4):(zj7 b l).length=4:=by simp [zj7,a,c]
theorem z6s {V:Pl→Nat→Pc→Prop}(f:∀ p k c b,V p k c→V p k { c with fits:=b }){p:Pl}{b l:Fl}(a:GdF V p b)(e:l.length=4):GdF V p (zj7 b l):=by
 refine⟨z2h b l a.1 e,fun k d=>?_⟩;rw [ztu b l a.1 e k d];split
 ·rename_i h;simp only [zbr] at h;exact⟨fun _=>h.1.1,fun g=>f _ _ _ _ ((a.2 k d).2 g)⟩
 ·exact a.2 k d
theorem zud {V:Pl→Nat→Pc→Prop}(j:∀ p k c b,V p k c→V p k { c with fits:=b })(a:Nat)(e:Mm)(i:Nat)(d:zc)(h:GdM V (zai a 64 e 0 i d)):GdM V (zc8 a e i d):=by
 unfold zc8;cases f:(zai a 64 e 0 i d).get (zv a 0 i) with
 | none=>exact h
 | some l =>
  simp only;cases g:(zai a 64 e 0 i d).get (zv a (-1) i) with
  | none=>exact h
  | some b=>exact h.set (z6s j (h.get g) (h.get f).1)
theorem z89 (es:za)(b:Nat)(c:Mm)(i:Nat)(a:zc)(h:GdM (zfx es) c)(d:i < es.length)(e:a=zae (es.getD i [])):GdM (zfx es) (zc8 b c i a):=by
 refine zud (znr es) b c i a (znm es b 64 c 0 i a h (by simpa [qg] using d) ?_);rw [e,zsw];have:run es (i*4 ^ 0,4 ^ 0)=[es.getD i []]:=by
  unfold run;simp only [Nat.pow_zero,zfj];rw [zie d,zl,zt d]
  rfl
 rw [this,yea]
theorem zkd (a:Nat)(d:Mm)(i:Nat)(c:zc):(zc8 a d i c).map (·.1)=d.map (·.1):=by
 unfold zc8;cases e:(zai a 64 d 0 i c).get (zv a 0 i) with
 | none=>exact zfa ..
 | some g =>
  simp only;cases f:(zai a 64 d 0 i c).get (zv a (-1) i) with
  | none=>exact zfa ..
  | some b=>simp only;rw [Mm.set_keys];exact zfa ..
section
theorem ymm (a b x y:Nat)(h:2 ^ a*(2*x+1)=2 ^ b*(2*y+1)):a=b:=by
 rcases z16 a b with f | d | e
 ·obtain⟨c,rfl⟩:∃ c,b=a+(c+1):=⟨b - a - 1,by omega⟩;rw [Nat.pow_add,zft] at h;have:=zig (jp (by omega)) h;rw [qy,zsm _ 2,zft] at this;omega
 ·exact d
 ·obtain⟨c,rfl⟩:∃ c,a=b+(c+1):=⟨a - b - 1,by omega⟩;rw [Nat.pow_add,zft] at h;have:=zig (jp (by omega)) h;rw [qy,zsm _ 2,zft] at this;omega
theorem yhu (r c:Nat)(h:2 ^ r*(2*c+1) < 2 ^ 64):lvl (2 ^ r*(2*c+1))=r / 2:=by
 have b:0 < 2 ^ r:=jp (by omega);obtain⟨m,a,-⟩:=zvu (2 ^ r*(2*c+1)) (Nat.mul_pos b (by omega)) h;unfold lvl;rw [← ymm _ _ _ _ a]
theorem zry (r:Nat)(h:r < 64):lvl (2 ^ r)=r / 2:=by
 have:=yhu r 0 (by simpa using Nat.pow_lt_pow_right (by omega:1 < 2) h);simpa using this
theorem zko (b:Nat)(z:b < 2 ^ 63):∀(f a n:Nat),a+n≤b→1≤n→n≤2 ^ f→∀ p∈xr b (f+1) a n,∃ l j:Nat,p=(zv b (l:Int) j,j % 4)∧a / 4 ^ l≤j∧j < qg (l:Int) b∧4 ^ l≤n:=by
 have d:∀(f a n:Nat),a+n≤b→1≤n→n / 4 ^ lvl n=1→∀ p∈xr b (f+1) a n,∃ l j:Nat,p=(zv b (l:Int) j,j % 4)∧a / 4 ^ l≤j∧j < qg (l:Int) b∧4 ^ l≤n:=by
  intro f a n k m i p c;obtain⟨-,-,g⟩:=zg3 n m (by omega);rw [xr,if_pos i] at c;obtain rfl:=xm.1 c;exact⟨lvl n,a / 4 ^ lvl n,rfl,zm _,zsd a n (lvl n) b k (g.1 i),by rw [← g.1 i];exact zm _⟩
 intro f
 induction f with
 | zero =>
  intro a n k m s;obtain rfl:n=1:=by omega
  exact d 0 a 1 k (by omega) (by decide)
 | succ f t =>
  intro a n k m s p c
  by_cases i:n / 4 ^ lvl n=1
  ·exact d (f+1) a n k m i p c
  ·have r:2≤n:=by
    rcases qu n 2 with h | h
    ·exact absurd (by
       obtain rfl:n=1:=by omega
       decide) i
    ·exact h
   obtain⟨v,w,x,y,A,B⟩:=zaw n f r s;rw [xr,if_neg i] at c;rcases yt.1 c with c | c
   ·obtain⟨l,j,e,o,q,u⟩:=t a (yo n) (by omega) x v p c;exact⟨l,j,e,o,q,by omega⟩
   ·obtain⟨l,j,e,o,q,u⟩:=t (a+yo n) (n - yo n) (by omega) y w p c;exact⟨l,j,e,zu (zd0 (by omega)) o,q,by omega⟩
theorem z74:∀(f b a n:Nat) (whole:Bool),n≤2 ^ f→Al a n→a < b→b < a+n→(whole=true→a=0)→(∀ r,b≠2 ^ r)→∃ c r,(c,2 ^ r)∈qk f b a n whole∧c+2 ^ r=b∧2 ^ (r+1) ∣ c:=by
 intro f
 induction f with
 | zero=>intro b a n whole h _ m u _ _;simp at h;omega
 | succ f s =>
  intro b a n whole h j m u p k;obtain⟨x,y,A,B,C,D⟩:=zaw n f (by omega) h
  by_cases o:b≤a+yo n
  ·rw [zge f b a n whole (by omega) o]
   by_cases v:b=a+yo n
   ·obtain⟨q,w⟩:=zpt n;have l:whole=false:=by
     cases whole with
     | false=>rfl
     | true =>
      have:=p rfl;exact absurd (by omega:b=2 ^ q) (k q)
    subst l;refine⟨a,q,yt.2 (.inl ?_),by omega,?_⟩
    ·rw [zef _ _ _ _ _ v,w];simp
    ·obtain⟨e,z,t⟩:=j;refine zqq (zmw 2 ?_) t;have:2 ^ q < 2 ^ e:=by omega
     exact(zat (by omega:1 < 2)).1 this
   ·obtain⟨c,r,d,g,i⟩:=s b a (yo n) whole x (j.left (by omega)) m (by omega) p k;exact⟨c,r,yt.2 (.inl d),g,i⟩
  ·rw [zgf f b a n whole (by omega) o];obtain⟨c,r,d,g,i⟩:=s b (a+yo n) (n - yo n) false y (j.right (by omega)) (by omega) (by omega) (by simp) k;exact⟨c,r,yt.2 (.inl d),g,i⟩
theorem z4i (r:Nat):∀(f n:Nat),n≤2 ^ f→2 ^ r≤n→∀ s∈qk f (2 ^ r) 0 n true,2 ^ r≤s.1:=by
 intro f
 induction f with
 | zero =>
  intro n h d s a;have:0 < 2 ^ r:=jp (by omega);rw [zef _ _ _ _ _ (by simp at h;omega)] at a;simp at a
 | succ f g =>
  intro n h d s a;have j:0 < 2 ^ r:=jp (by omega)
  by_cases c:2 ^ r=0+n
  ·rw [zef _ _ _ _ _ c] at a;simp at a
  ·obtain⟨i,k,l,m,o,p⟩:=zaw n f (by omega) h;obtain⟨q,e⟩:=zpt n;have b:2 ^ r≤yo n:=by
    rw [e];refine js (by omega) ?_;have:2 ^ r < 2 ^ (q+1):=by rw [qy];omega
    have:=(zat (by omega:1 < 2)).1 this;omega
   rw [zge f _ 0 n true c (by omega)] at a;rcases yt.1 a with a | a
   ·exact g (yo n) i b s a
   ·obtain rfl:=xm.1 a;simp only;omega
theorem z49 (b a r:Nat)(n:b < 2 ^ 63)(h:a+2 ^ r≤b)(l:2 ^ (r+1) ∣ a):(zv b ((r / 2:Nat):Int) ((a+2 ^ r) / 4 ^ (r / 2) - 1),((a+2 ^ r) / 4 ^ (r / 2) - 1) % 4)∈xr b 64 a (2 ^ r):=by
 have m:r < 63:=by
  have:2 ^ r < 2 ^ 63:=by omega
  exact(zat (by omega:1 < 2)).1 this
 have d:0 < 4 ^ (r / 2):=jp (by omega);rcases zc9 r with h0 | k
 ·have e:2 ^ r=4 ^ (r / 2):=by rw [zbm];congr 1;omega
  have g:lvl (2 ^ r)=r / 2:=zry r (by omega);rw [xr,if_pos (by rw [g,e];exact zsl d),g,e,Nat.add_div_right _ d];simp
 ·obtain⟨c,rfl⟩:∃ c,r=2*c+1:=⟨r / 2,by omega⟩;have i:(2*c+1) / 2=c:=by omega
  rw [i] at d ⊢;have e:2 ^ (2*c+1)=2*4 ^ c:=by rw [qy,zbm];omega
  have g:lvl (2 ^ (2*c+1))=c:=by rw [zry _ (by omega)];omega
  have j:yo (2 ^ (2*c+1))=4 ^ c:=by rw [zus,zbm]
  rw [xr,if_neg (by rw [g,e,Nat.mul_div_cancel _ d];omega),j];refine yt.2 (.inr ?_);rw [e,show 2*4 ^ c - 4 ^ c=4 ^ c by omega];have f:lvl (4 ^ c)=c:=zuu c (by omega);rw [xr,if_pos (by rw [f];exact zsl d),f];have:(a+2*4 ^ c) / 4 ^ c - 1=(a+4 ^ c) / 4 ^ c:=by
   rw [show a+2*4 ^ c=a+4 ^ c+4 ^ c by omega,Nat.add_div_right _ d];rfl
  rw [this];exact xm.2 rfl
def InS (a:Nat)(m:Mm):Prop:=∀ x∈m,4*x.1.2.1+x.1.2.2≤(qg x.1.1 a:Int)
theorem InS.more {a:Nat}{m:Mm}(h:InS a m)(c:a≤b):InS b m:=fun x d=>by
 have e:=h x d;have f:=zsu x.1.1 c;omega
theorem zkm (a:Nat)(l:Int)(j:Nat):4*(zv a l j).2.1+(zv a l j).2.2≤(qg (zv a l j).1 a:Int):=by
 unfold zv;simp only;omega
theorem InS.put {a:Nat}{m:Mm}(h:InS a m)(b:Int)(p:Pl)(f:Fl)(d:4*p.2.1+p.2.2≤(qg p.1 a:Int)):InS a (m.put b p f):=by
 intro x e;rcases Mm.put_mem e with rfl | ⟨c,-⟩
 ·exact d
 ·exact h x c
theorem InS.remember {b:Nat}(a:Int):∀(c d:Mm),InS b d→InS b c→InS b (jl a d c)
 | [],d,h,_=>h
 | x::c,d,h,e=>by
  show InS b (jl a (d.put a x.1 (zqy x.2)) c);exact InS.remember a c _ (h.put a _ _ (e x (by simp))) (fun y f=>e y (by simp [f]))
theorem InS.keys {c:Nat}{a b:Mm}(h:InS c a)(e:b.map (·.1)=a.map (·.1)):InS c b:=by
 intro x f;have:x.1∈a.map (·.1):=by rw [← e];exact zeh f
 obtain⟨y,g,d⟩:=yl.1 this;rw [← d];exact h y g
theorem z9b (es:za)(b:Nat)(f:Mm)(a:Nat)(d:zc)(e:GdM (zfx es) f)(o:1≤a)(s:a≤es.length)(u:a < 2 ^ 64)(y:d=qm (es.take a))
 (m:∀ c,f.get (zv b (lvl a:Nat) (a / 4 ^ lvl a - 1))=some c→a / 4 ^ lvl a - 1≠0→(c.getD ((a / 4 ^ lvl a - 1) % 4) .no).there=true∧(a / 4 ^ lvl a - 1=1→(c.getD 0 .no).there=true)):GdM (zfx es) (zfy b f a d):=by
 obtain⟨v,-,h⟩:=zg3 a o u;have x:0 < 4 ^ lvl a:=jp (by omega);have z:1≤a / 4 ^ lvl a:=by
  exact Nat.div_pos (Nat.le_of_dvd o v) x
 have p:a / 4 ^ lvl a≤qg ((lvl a:Nat):Int) es.length:=by
  unfold qg;rw [yj];exact zd0 s
 have n:∀ c,f.get (zv b (lvl a:Nat) (a / 4 ^ lvl a - 1))=some c→(c.getD ((a / 4 ^ lvl a - 1) % 4) .no).there=true→(c.getD ((a / 4 ^ lvl a - 1) % 4) .no).hash=zad es ((lvl a:Nat):Int) (a / 4 ^ lvl a - 1):=by
  intro c g i;obtain⟨⟨-,t⟩,-⟩:=((e.get g).2 _ (Nat.mod_lt _ (by omega))).2 i;rw [zjt] at t;exact t (by show((lvl a:Nat):Int)≠-1;omega)
 unfold zfy;cases g:f.get (zv b (lvl a:Nat) (a / 4 ^ lvl a - 1)) with
 | none=>exact e
 | some c =>
  simp only;have w:=m c g;have i:=n c g
  by_cases k:a / 4 ^ lvl a - 1=0
  ·rw [if_pos k];refine znm es b 64 f (lvl a) 0 d e (by omega) ?_;rw [y,zsw,zsn];have:a=4 ^ lvl a:=h.1 (by omega);unfold run;simp only [zvc];rw [← this]
  ·rw [if_neg k];obtain⟨l,q⟩:=w k
   by_cases j:a / 4 ^ lvl a - 1=1
   ·rw [if_pos j];rw [j] at l i g;have r:=q j;split
    ·refine znm es b 64 _ (lvl a) 1 _ (e.set ((e.get g).fitsAt (znr es) r)) (by omega) (i l)
    ·exact e
   ·rw [if_neg j];exact znm es b 64 f (lvl a) _ _ e (by omega) (i l)
theorem zke (b:Nat)(d:Mm)(a:Nat)(c:zc):(zfy b d a c).map (·.1)=d.map (·.1):=by
 unfold zfy;cases f:d.get (zv b (lvl a:Nat) (a / 4 ^ lvl a - 1)) with
 | none=>rfl
 | some e =>
  simp only;split
  ·exact zfa ..
  ·split
   ·split
    ·rw [zfa,Mm.set_keys]
    ·rfl
   ·exact zfa ..
section
variable {σ : Type} {fe : σ → zc → (zc × Bool) × σ}
theorem zxi {d:Mm}{b a:Nat}{s:σ}{T:Ms σ}(R:b < 2 ^ 63)(O:1≤a)(h2:a < b)(H:WfM d)(F:InS a d)(J:zc3 fe d b ⟨s,[]⟩ ((qk 64 a 0 b true).flatMap fun x=>xr b 64 x.1 x.2) T):
  ∀ z,T.needed.get (zv b (lvl a:Nat) (a / 4 ^ lvl a - 1))=some z→a / 4 ^ lvl a - 1≠0→(z.getD ((a / 4 ^ lvl a - 1) % 4) .no).there=true∧(a / 4 ^ lvl a - 1=1→(z.getD 0 .no).there=true):=by
 intro z o m;have f:WfM (⟨s,[]⟩:Ms σ).needed:=ze8 _
 by_cases j:∀ r,a≠2 ^ r
 ·obtain⟨U,r,V,N,W⟩:=z74 64 a 0 b true (by omega) (zmy _) (by omega) (by omega) (fun _=>rfl) j;obtain⟨c,P⟩:=W;have D:a=2 ^ r*(2*c+1):=by rw [← N,P,qy,Nat.mul_add,zfj,zft]
  have p:lvl a=r / 2:=by rw [D];exact yhu r c (by omega)
  have k:=z49 b U r R (by omega) ⟨c,P⟩;rw [N,← p] at k;obtain⟨f',f1,f2,f3,f4⟩:=(J.has H f).1 _ (zce.2 ⟨_,V,k⟩);simp only at f1 f3;rw [o] at f1;simp only [zr] at f1;subst f1;refine⟨f3,fun M=>?_⟩;exfalso;have i:0 < 4 ^ (r / 2):=jp (by omega);have C:a / 4 ^ lvl a=2:=by omega
  rw [p,D] at C;rcases zc9 r with h0 | O
  ·have e:2 ^ r=4 ^ (r / 2):=by rw [zbm];congr 1;omega
   rw [e,zj3 _ i] at C;omega
  ·have e:2 ^ r=4 ^ (r / 2)*2:=by rw [zbm,← qy];congr 1;omega
   rw [e,zft,zj3 _ i] at C;have:c=0:=by omega
   subst this;exact j r (by rw [D];simp)
 ·obtain⟨r,A⟩:∃ r,a=2 ^ r:=by
   rcases Classical.em (∃ r,a=2 ^ r) with h | h
   ·exact h
   ·exact absurd (fun r e=>h ⟨r,e⟩) j
  have t:r < 64:=by
   have:2 ^ r < 2 ^ 64:=by omega
   exact(zat (by omega:1 < 2)).1 this
  have p:lvl a=r / 2:=by rw [A];exact zry r t
  have i:0 < 4 ^ (r / 2):=jp (by omega);have n:a / 4 ^ (r / 2)=2:=by
   rcases zc9 r with h0 | O
   ·exfalso;apply m;have e:2 ^ r=4 ^ (r / 2):=by rw [zbm];congr 1;omega
    rw [p,A,e,zsl i]
   ·have e:2 ^ r=4 ^ (r / 2)*2:=by rw [zbm,← qy];congr 1;omega
    rw [A,e,zj3 _ i]
  rw [p,n] at o m ⊢;simp only [Nat.reduceSub] at o m ⊢;have hk:=J.keys H f _ (Mm.get_mem o);rcases hk with ⟨y,hy,-⟩ | ⟨q,K,l⟩
  ·simp at hy
  ·simp only at l;obtain⟨w,u,L⟩:=zce.1 K;have Q:=z4i r 64 b (by omega) (by omega) w (by rw [← A];exact u);obtain⟨i1,i2,i3⟩:=zg4 64 a 0 b true (by omega) (by omega) (by omega) (by omega) w u;obtain⟨l',S,M,e2,e3,-⟩:=zko b R 63 w.1 w.2 (by omega) i3 (by omega) q L;rw [M] at l;simp only at l;have I:l'=r / 2∧S / 4=0:=by
    unfold zv at l;simp only [ye] at l;have q1:=l.1;have q2:=l.2.1;exact⟨by omega,by omega⟩
   obtain⟨rfl,Y⟩:=I;have Z:2≤S:=by
    have:a / 4 ^ (r / 2)≤w.1 / 4 ^ (r / 2):=zd0 (by omega);omega
   have G:d.get (zv b ((r / 2:Nat):Int) 1)=none:=by
    cases E:d.get (zv b ((r / 2:Nat):Int) 1) with
    | none=>rfl
    | some g =>
     exfalso;have B:=F _ (Mm.get_mem E);have X:qg ((r / 2:Nat):Int) a=2:=by unfold qg;rw [yj];exact n
     unfold zv at B;simp only at B;rw [X] at B;omega
   have v:=J.whole H f (fun x hx=>by simp at hx) _ (Mm.get_mem o) G;have hw:(2:Int)≤(zv b ((r / 2:Nat):Int) 1).2.2:=by unfold zv;simp only;omega
   exact⟨v 1 (by omega) (by simp only;omega),fun _=>v 0 (by omega) (by simp only;omega)⟩
end
end
variable {q:Nat}
theorem Al.dvd {a:Nat}(h:Al a (2 ^ q)):2 ^ q ∣ a:=by
 obtain⟨e,b,c⟩:=h;exact zqq (zmw 2 ((zcr (by omega:1 < 2)).1 b)) c
def zw5 (a i:Nat):List (Pl×Nat):=(zv a (-1) i,i % 4)::(qz 64 0 a i).flatMap fun s=>xr a 64 s.1 s.2
end Go.Proofs.YtlcllcgngjhoaaaGreatDoor
