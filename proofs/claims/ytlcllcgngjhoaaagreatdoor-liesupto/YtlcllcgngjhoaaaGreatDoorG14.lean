import Derived.Test.YtlcllcgngjhoaaaGreatDoorG13
set_option maxHeartbeats 8000000
set_option maxRecDepth 100000
set_option linter.all false
namespace Go.Proofs.YtlcllcgngjhoaaaGreatDoor
open Go.RowKit Go.Proofs.Tryz
def zbh:=@World.setRow_alloc_new
variable {k nb:Nat}{v:Value}{w w':World}
def Bls (w:World)(v:Value)(c:List Bool):Prop:=∃ a d,v= .slice a c.length d∧c.length≤d∧(c=[]∨∃ b e,a=some ⟨b,e,none⟩∧∀ i (h:i < c.length),w.cell? ⟨b,e+i,none⟩=some (.bool c[i]))
abbrev lyF (L:List Ly):Fs:=L.map fun l=>(l.path,l.data)
def zso (w:World)(d:Nat)(fs:Fs)(L:List Ly):Prop :=
 ∃ a b c,w.heap[d]?=some (.cells #[a,b,c] 117 (0,0))∧Fss w a fs∧Fss w b (lyF L)∧Bls w c (L.map (·.fails))
theorem Bls.below {f:List Bool}(h:Bls w v f)(m:Below w.heap.size w w'):Bls w' v f:=by
 obtain⟨a,c,e,g,h | ⟨b,d,l,k⟩⟩:=h
 ·exact⟨a,c,e,g,.inl h⟩
 ·exact⟨a,c,e,g,.inr ⟨b,d,l,fun i j=>by rw [m.cell (p:=⟨b,_,none⟩) (yg (k i j))];exact k i j⟩⟩
theorem zso.below {fs:Fs}{L:List Ly}(h:zso w nb fs L)(a:Below w.heap.size w w'):zso w' nb fs L:=by
 obtain⟨f,g,i,b,c,d,e⟩:=h;exact⟨f,g,i,(a.block nb (ju b)).trans b,c.below a,d.below a,e.below a⟩
def zaj (fs:Fs)(L:List Ly)(p:zc):zc×Bool:=match L.find? (fun l=>decide (l.path=p)) with
 | some l=>(l.data,!l.fails)
 | none=>match je fs p with
  | some d=>(d,true)
  | none=>([],false)
theorem zlc (fs:Fs)(L:List Ly)(p:zc):qc fs L p=if (zaj fs L p).2 then some (zaj fs L p).1 else none:=by
 unfold qc zaj;cases L.find? (fun l=>decide (l.path=p)) with
 | some l=>simp only;cases l.fails<;>rfl
 | none=>simp only;cases je fs p<;>rfl
theorem zy5 {L:List Ly}{p:zc}(e:ixF (lyF L) p=some k):∃ b:k < L.length,L.find? (fun l=>decide (l.path=p))=some L[k]:=by
 obtain⟨b,c,-,d⟩:=zb8 e;have a:k < L.length:=by simpa using b
 refine⟨a,?_⟩;rw [List.find?_eq_some_iff_getElem];refine⟨by simpa using c,k,a,rfl,fun j f=>?_⟩;have:=d j f;simpa using this
theorem zy4 {L:List Ly}{p:zc}(e:ixF (lyF L) p=none):L.find? (fun l=>decide (l.path=p))=none:=by
 rw [vx];intro l a;have:=(zci e).2 (l.path,l.data) (yl.2 ⟨l,a,rfl⟩);simpa using this
theorem znh (y:Nat)(fs:Fs)(L:List Ly)(p:zc)(w:World)(U:fs.length≤1000000000)(hL:L.length≤1000000000)(h:zso w y fs L):
  Calls prog 60 #[yx y,qo p] w fun r V=>r= .returned (.tuple #[qo (zaj fs L p).1,.bool (zaj fs L p).2])∧Below w.heap.size w V:=by
 obtain⟨v1,v2,v3,q,I,B,C⟩:=h;have T:(lyF L).length=L.length:=by simp
 have F:=zf I;obtain⟨N,P,rfl,-,-⟩:=I;obtain⟨O,Q,rfl,-,-⟩:=id B;rw [T] at B q;have G:=zf B;clear B;obtain⟨H,R,rfl,S,C⟩:=C;have x0:w.cell? ⟨y,0,none⟩=some (.slice N fs.length P):=by rw [yq _ _ _ _ _ _ q];rfl
 have x1:w.cell? ⟨y,1,none⟩=some (.slice O L.length Q):=by rw [yq _ _ _ _ _ _ q];rfl
 have W:w.cell? ⟨y,2,none⟩=some (.slice H (L.map (·.fails)).length R):=by rw [yq _ _ _ _ _ _ q];rfl
 have m:(L.map (·.fails)).length=L.length:=by simp
 have A:Hid (zaj fs L p=match L.find? (fun l=>decide (l.path=p)) with
  | some l=>(l.data,!l.fails)
  | none=>match je fs p with
   | some d=>(d,true)
   | none=>([],false)):=rfl
 have M:=zf C;rw [m] at W;clear q C;unfold qo yx;go_enter func60,ntmps60;go_wp2_with fail;refine(zck _ (lyF L) p w (by omega) G.o).mono ?_;rintro r E ⟨rfl,c⟩;rw [c];clear c E;cases e:ixF (lyF L) p with
 | some k =>
  have a:ixI (lyF L) p=k:=by unfold ixI;rw [e]
  rw [a];obtain⟨K,J⟩:=zy5 e;obtain⟨-,-,j⟩:=G.o.at;obtain⟨Z,o2,rfl,u⟩:=j (by omega);obtain⟨-,D⟩:=u k (by omega);obtain⟨b3,o3,rfl,v⟩:∃ b z,H=some ⟨b,z,none⟩∧∀ i (h:i < (L.map (·.fails)).length),w.cell? ⟨b,z+i,none⟩=some (.bool (L.map (·.fails))[i]):=by
   rcases M.o with h | h
   ·rw [h] at m;simp at m;omega
   ·exact h
  have X:=v k (by omega);rw [za4] at D X;have n:Hid (zaj fs L p=(L[k].data,!L[k].fails)):=by
   show _=_;rw [A.o,J]
  clear u v j e a J A;generalize L[k]=l at *;unfold qo at D;go_wp2_with fail
  go_region
  all_goals
   go_wp2_with fail
   go_ret2
   exact⟨by rw [n.o];rfl,by first | exact yf _ _ | exact(yf _ _).drew⟩
 | none =>
  have a:ixI (lyF L) p=-1:=by unfold ixI;rw [e]
  rw [a];have f:Hid (zaj fs L p=match je fs p with
   | some d=>(d,true)
   | none=>([],false)):=by
   show _=_;rw [A.o,zy4 e]
  clear e a A;go_wp2_with fail;refine(zck _ fs p w U F.o).mono ?_;rintro r E ⟨rfl,c⟩;rw [c];clear c E;cases e:ixF fs p with
  | none =>
   have a:ixI fs p=-1:=by unfold ixI;rw [e]
   rw [a];have n:Hid (zaj fs L p=([],false)):=by
    show _=_;rw [f.o,(zci e).1]
   clear e a f;go_wp2_with fail
   go_ret2
   exact⟨by rw [n.o];rfl,yf _ _⟩
  | some k =>
   have a:ixI fs p=k:=by unfold ixI;rw [e]
   rw [a];obtain⟨K,-,s,-⟩:=zb8 e;obtain⟨-,-,g⟩:=F.o.at;obtain⟨Y,o1,rfl,t⟩:=g (by omega);obtain⟨-,D⟩:=t k K;have n:Hid (zaj fs L p=(fs[k].2,true)):=by
    show _=_;rw [f.o,s]
   unfold qo at D;clear t g e a s f;generalize fs[k].2=x at *;go_wp2_with fail
   go_ret2
   exact⟨by rw [n.o];rfl,yf _ _⟩
def zel (say:Say)(l ix:Int)(w:Nat):Option (zc):=match say (qq l ix w) with
 | some d=>if d.length=8*w then some d else again
 | none=>again where
      again:Option (zc):=match say (qq l ix 4) with
 | some d=>if d.length=32 then some (d.take (8*w)) else none
 | none=>none
theorem zt6 (say:Say)(l:Nat)(ix:Int)(w:Nat):zc6 say ((l:Int),ix,(w:Int))=match say (qq l ix w) with
  | some d=>if d.length=8*w then some (zld w d) else none
  | none=>none:=by
 unfold zc6 zgc;simp only;cases say (qq l ix w) with
 | none=>rfl
 | some d =>
  simp only [zfl];rw [if_neg (show ¬((l:Int)=-1) by omega)]
  by_cases h:d.length=8*w
  ·rw [if_pos h,if_pos (by omega)];simp
  ·rw [if_neg h,if_neg (by omega)]
theorem ymi (say:Say)(l:Nat)(a:Int)(w:Nat)(z:1≤w)(A:w≤4):
  (zel say l a w=none→qt say ((l:Int),a,(w:Int))=none) ∧
  ∀ s,zel say l a w=some s→s.length=8*w∧∃ f,qt say ((l:Int),a,(w:Int))=some f∧∀ k,k < w→(f.getD k .no).hash=(s.drop (8*k)).take 8:=by
 have i:=zt6 say l a w;have q:=zt6 say l a 4;have p:zel.again say l a w=none∧(w=4∨zc6 say ((l:Int),a,4)=none)∨∃ d,say (qq l a 4)=some d∧d.length=32∧zel.again say l a w=some (d.take (8*w))∧zc6 say ((l:Int),a,4)=some (zld 4 d):=by
  unfold zel.again;rw [show((4:Nat):Int)=4 from rfl] at q;rw [q];cases say (qq l a 4) with
  | none=>exact .inl ⟨rfl,.inr rfl⟩
  | some d =>
   by_cases h:d.length=32
   ·exact .inr ⟨d,rfl,h,by simp [h],by simp [h]⟩
   ·exact .inl ⟨by simp [h],.inr (by simp [h])⟩
 have j:∀ d:zc,say (qq l a w)=some d→d.length=8*w→(zel say l a w=none→qt say ((l:Int),a,(w:Int))=none) ∧
   ∀ s,zel say l a w=some s→s.length=8*w∧∃ f,qt say ((l:Int),a,(w:Int))=some f∧∀ k,k < w→(f.getD k .no).hash=(s.drop (8*k)).take 8:=fun d u e=>by
  unfold zel qt;rw [i,u];simp only [e,if_true];refine⟨by simp,fun s b=>?_⟩;cases b;exact⟨e,_,rfl,fun k r=>by rw [zi6 _ _ _ (by omega),if_pos r]⟩
 have c:zc6 say ((l:Int),a,(w:Int))=none→zel say l a w=zel.again say l a w→(zel say l a w=none→qt say ((l:Int),a,(w:Int))=none) ∧
   ∀ s,zel say l a w=some s→s.length=8*w∧∃ f,qt say ((l:Int),a,(w:Int))=some f∧∀ k,k < w→(f.getD k .no).hash=(s.drop (8*k)).take 8:=fun m v=>by
  unfold qt;rw [v,m];simp only;rcases p with ⟨t,g⟩ | ⟨d,t,g,y,o⟩
  ·refine⟨fun _=>?_,fun s b=>by rw [t] at b;simp at b⟩;rcases g with rfl | g
   ·simp
   ·rw [g];simp
  ·have n:¬((w:Int)=4):=fun h=>by
    have x:w=4:=by omega
    subst x;rw [show(((4:Nat):Int))=4 from rfl] at m;rw [m] at o;simp at o
   rw [if_neg n,y,o];refine⟨by simp,fun s b=>?_⟩;cases b;refine⟨by rw [vi];omega,_,rfl,fun k r=>?_⟩;rw [zis,if_pos (by omega),zi6 _ _ _ (by omega),if_pos (by omega),zvb,zkv,zjv (by omega)]
 cases b:say (qq l a w) with
 | none=>exact c (by rw [i,b]) (by unfold zel;rw [b])
 | some d =>
  by_cases e:d.length=8*w
  ·exact j d b e
  ·exact c (by rw [i,b];simp [e]) (by rw [zel,b];simp [e])
theorem yl3 {l w:Int}{d:zc}{f:Fl}(h:zfl l w d=some f)(k:Nat)(a:k < 4):(f.getD k .no).hash.length≤8:=by
 unfold zfl at h;split at h
 ·cases b:zd6 d with
  | none=>rw [b] at h;simp at h
  | some es =>
   rw [b] at h;simp only at h;split at h
   ·cases h;rw [zho _ _ a];split
    ·rw [show(zae (es.getD k [])).length=8 from zjk _];omega
    ·simp [Pc.no,vg]
   ·simp at h
 ·split at h
  ·cases h;rw [zi6 _ _ _ a];split
   ·simp only [vi];omega
   ·simp [Pc.no,vg]
  ·simp at h
theorem yho (say:Say)(p:Pl)(k:Nat)(j:k < 4):(zfk (qt say) p k).length≤8:=by
 have i:∀ {q:Pl} {g:Fl},zc6 say q=some g→(g.getD k .no).hash.length≤8:=fun {q g} e=>by
  unfold zc6 at e;cases c:say (zgc q) with
  | none=>rw [c] at e;simp at e
  | some d=>rw [c] at e;exact yl3 e k j
 unfold zfk;cases h:qt say p with
 | none=>simp
 | some f =>
  simp only;unfold qt at h;cases a:zc6 say p with
  | some g=>rw [a] at h;cases h;exact i a
  | none =>
   rw [a] at h;simp only at h;split at h
   ·simp at h
   ·cases b:zc6 say (p.1,p.2.1,4) with
    | none=>rw [b] at h;simp at h
    | some g =>
     rw [b] at h;cases h;rw [zis];split
     ·exact i b
     ·simp [Pc.no,vg]
theorem zu1 (say:Say)(b:Nat):∀(f a n:Nat),(zbf (zfk (qt say)) b f a n).length≤8:=by
 intro f a n;cases f with
 | zero=>simp [zbf,vg]
 | succ f =>
  rw [zbf];split
  ·exact yho say _ _ (by omega)
  ·rw [show(jx _ _).length=8 from zjk _];omega
theorem zxa (H:Pl→Nat→zc)(b:Nat):∀(f g a n:Nat),1≤n→n≤2 ^ f→n≤2 ^ g→zbf H b (f+1) a n=zbf H b (g+1) a n∧xr b (f+1) a n=xr b (g+1) a n:=by
 intro f
 induction f with
 | zero =>
  intro g a n u j k;obtain rfl:n=1:=by omega
  have e:1 / 4 ^ lvl 1=1:=by decide
  simp only [zbf,xr,e,if_true,and_self]
 | succ f i =>
  intro g a n u j k
  by_cases c:n / 4 ^ lvl n=1
  ·simp only [zbf,xr,c,if_true,and_self]
  ·have d:2≤n:=by
    rcases qu n 2 with h | h
    ·exact absurd (by
       obtain rfl:n=1:=by omega
       decide) c
    ·exact h
   cases g with
   | zero=>omega
   | succ g =>
    obtain⟨l,m,o,p,v,w⟩:=zaw n f d j;obtain⟨q,r,-,-,-,-⟩:=zaw n g d k;have s:zbf H b (g+1+1) a n=jx (zbf H b (g+1) a (yo n)) (zbf H b (g+1) (a+yo n) (n - yo n)):=by rw [zbf,if_neg c]
    have t:xr b (g+1+1) a n=xr b (g+1) a (yo n)++xr b (g+1) (a+yo n) (n - yo n):=by rw [xr,if_neg c]
    rw [s,t,zbf,xr,if_neg c,if_neg c];rw [(i g a (yo n) o l q).1,(i g a (yo n) o l q).2,(i g (a+yo n) (n - yo n) p m r).1,(i g (a+yo n) (n - yo n) p m r).2];exact⟨rfl,rfl⟩
def yda {α:Type}(o:Option α)(nm:zc):za:=match o with
 | some _=>[]
 | none=>[nm]
theorem ziw (T:Pl→Option Fl)(p:Pl)(k:Nat):zcj T [(p,k)]=if (T p).isNone then [zgc p] else []:=by
 unfold zcj;cases h:T p<;>simp [h]
theorem ydn (say:Say)(a l j:Nat)(o:j < qg (l:Int) a):∃ w:Nat,1≤w∧w≤4∧(w:Int)=min ((qg (l:Int) a:Int) - ((j / 4:Nat):Int)*4) 4∧j % 4 < w ∧
  zfk (qt say) (zv a (l:Int) j) (j % 4)=(((zel say l ((j / 4:Nat):Int) w).getD []).drop (8*(j % 4))).take 8 ∧
  (∀ s,zel say l ((j / 4:Nat):Int) w=some s→s.length=8*w) ∧
  zcj (qt say) [(zv a (l:Int) j,j % 4)]=yda (zel say l ((j / 4:Nat):Int) w) (qq l ((j / 4:Nat):Int) w):=by
 refine⟨min (qg (l:Int) a - j / 4*4) 4,by omega,by omega,by omega,by omega,?_⟩;have g:zv a (l:Int) j=((l:Int),((j / 4:Nat):Int),((min (qg (l:Int) a - j / 4*4) 4:Nat):Int)):=by
  unfold zv;simp only [ye,zxw];omega
 have c:1≤min (qg (l:Int) a - j / 4*4) 4:=by omega
 have d:min (qg (l:Int) a - j / 4*4) 4≤4:=by omega
 have b:j % 4 < min (qg (l:Int) a - j / 4*4) 4:=by omega
 generalize min (qg (l:Int) a - j / 4*4) 4=w at g b c d;obtain⟨t1,t2⟩:=ymi say l ((j / 4:Nat):Int) w c d;rw [g];cases i:zel say l ((j / 4:Nat):Int) w with
 | none =>
  have e:=t1 i;exact⟨by unfold zfk;rw [e];simp,by simp,by rw [ziw];rw [e];rfl⟩
 | some s =>
  obtain⟨m,f,k,n⟩:=t2 s i;exact⟨by unfold zfk;rw [k];exact n _ b,fun p h=>by cases h;exact m,by rw [ziw];rw [k];rfl⟩
theorem zmj (H:Pl→Nat→zc)(a l j:Nat)(b:l < 32):zbf H a 64 (j*4 ^ l) (4 ^ l)=H (zv a (l:Int) j) (j % 4)∧xr a 64 (j*4 ^ l) (4 ^ l)=[(zv a (l:Int) j,j % 4)]:=by
 have d:0 < 4 ^ l:=jp (by omega);have c:4 ^ l / 4 ^ lvl (4 ^ l)=1:=by rw [zuu l b,zsl d]
 have e:j*4 ^ l / 4 ^ lvl (4 ^ l)=j:=by rw [zuu l b,Nat.mul_div_cancel _ d]
 rw [zbf,xr,if_pos c,if_pos c,e,zuu l b];exact⟨rfl,rfl⟩
theorem zq6 (H:Pl→Nat→zc)(b a n:Nat)(c:2≤n)(q:n < 2 ^ 63)(d:∀ l,n≠4 ^ l):zbf H b 64 a n=jx (zbf H b 64 a (yo n)) (zbf H b 64 (a+yo n) (n - yo n))∧xr b 64 a n=xr b 64 a (yo n)++xr b 64 (a+yo n) (n - yo n):=by
 have e:¬ n / 4 ^ lvl n=1:=fun h=>d _ ((zg3 n (by omega) (by omega)).2.2.1 h);obtain⟨f,g,i,j,r,s⟩:=zaw n 62 c (by omega);obtain⟨k,m⟩:=zxa H b 62 63 a (yo n) i f (by omega);obtain⟨o,p⟩:=zxa H b 62 63 (a+yo n) (n - yo n) j g (by omega);rw [← k,← m,← o,← p,show 64=63+1 from rfl];rw [zbf,xr,if_neg e,if_neg e];exact⟨rfl,rfl⟩
theorem z4a (H:Pl→Nat→zc)(b l j:Nat)(k:l < 31):zbf H b 64 (j*(2*4 ^ l)) (2*4 ^ l)=jx (zbf H b 64 (2*j*4 ^ l) (4 ^ l)) (zbf H b 64 ((2*j+1)*4 ^ l) (4 ^ l)) ∧
  xr b 64 (j*(2*4 ^ l)) (2*4 ^ l)=xr b 64 (2*j*4 ^ l) (4 ^ l)++xr b 64 ((2*j+1)*4 ^ l) (4 ^ l):=by
 have c:2*4 ^ l=2 ^ (2*l+1):=by rw [zbm,qy];omega
 have e:yo (2*4 ^ l)=4 ^ l:=by rw [c,zus,zbm]
 have h:0 < 4 ^ l:=jp (by omega);have i:4 ^ l≤4 ^ 30:=js (by omega) (by omega);obtain⟨f,g⟩:=zq6 H b (j*(2*4 ^ l)) (2*4 ^ l) (by omega) (by omega) (fun x d=>by
  rw [c,zbm] at d;have:=(Nat.pow_right_inj (a:=2) (by omega)).1 d;omega)
 rw [f,g,e,show 2*4 ^ l - 4 ^ l=4 ^ l by omega,show j*(2*4 ^ l)=2*j*4 ^ l by rw [← zft,zsm j 2],show 2*j*4 ^ l+4 ^ l=(2*j+1)*4 ^ l by rw [zdg];omega];exact⟨rfl,rfl⟩
def zh0 (say:Say)(ix:Int)(w:Nat):Option (za):=match (say (qq (-1) ix w)).bind zd6 with
 | some es=>if es.length=w then some es else again
 | none=>again where
      again:Option (za):=match (say (qq (-1) ix 4)).bind zd6 with
 | some es=>if es.length=4 then some es else none
 | none=>none
theorem zw3 (say:Say)(ix:Int)(w:Nat):zc6 say (-1,ix,(w:Int))=match (say (qq (-1) ix w)).bind zd6 with
  | some es=>if es.length=w then some (zma es) else none
  | none=>none:=by
 unfold zc6 zgc;simp only;cases say (qq (-1) ix w) with
 | none=>rfl
 | some d =>
  simp only [zfl,if_true,Option.bind];cases zd6 d with
  | none=>rfl
  | some es =>
   simp only
   by_cases h:es.length=w
   ·rw [if_pos h,if_pos (by omega)]
   ·rw [if_neg h,if_neg (by omega)]
theorem ym0 (say:Say)(a:Int)(w:Nat)(r:1≤w)(s:w≤4):
  (zh0 say a w=none→qt say (-1,a,(w:Int))=none) ∧
  ∀ es,zh0 say a w=some es→w≤es.length∧∃ f,qt say (-1,a,(w:Int))=some f∧∀ k,k < w→(f.getD k .no).entry=es.getD k []:=by
 have i:=zw3 say a w;have b:zc6 say (-1,a,4)=_:=zw3 say a 4
 have c:zc6 say (-1,a,(w:Int))=none→zh0 say a w=zh0.again say a→(zh0 say a w=none→qt say (-1,a,(w:Int))=none) ∧
   ∀ es,zh0 say a w=some es→w≤es.length∧∃ f,qt say (-1,a,(w:Int))=some f∧∀ k,k < w→(f.getD k .no).entry=es.getD k []:=fun e o=>by
  rw [o];unfold qt;rw [e];simp only;unfold zh0.again;cases n:(say (qq (-1) a 4)).bind zd6 with
  | none =>
   rw [show((4:Nat):Int)=4 from rfl,n] at b;rw [b];simp
  | some es =>
   rw [show((4:Nat):Int)=4 from rfl,n] at b;simp only at b ⊢
   by_cases h:es.length=4
   ·rw [if_pos h] at b ⊢;have l:¬(w:Int)=4:=fun l=>by rw [l,b] at e;simp at e
    rw [if_neg l,b];refine⟨by simp,fun j m=>?_⟩;cases m;refine⟨by omega,_,rfl,fun k p=>?_⟩;rw [zis,if_pos (by omega),zho _ _ (by omega),if_pos (by omega)]
   ·rw [if_neg h] at b ⊢;rw [b];simp
 cases d:(say (qq (-1) a w)).bind zd6 with
 | none=>exact c (by rw [i,d]) (by rw [zh0,d])
 | some es =>
  by_cases g:es.length=w
  ·have e:zc6 say (-1,a,(w:Int))=some (zma es):=by rw [i,d];simp [g]
   have q:zh0 say a w=some es:=by rw [zh0,d];simp [g]
   rw [q];refine⟨by simp,fun j m=>?_⟩;cases m;refine⟨by omega,zma es,by unfold qt;rw [e],fun k p=>by rw [zho _ _ (by omega),if_pos (by omega)]⟩
  ·exact c (by rw [i,d];simp [g]) (by rw [zh0,d];simp [g])
theorem zyw (say:Say)(a i:Nat)(o:i < a):∃ w:Nat,1≤w∧w≤4∧(w:Int)=min ((a:Int) - ((i / 4:Nat):Int)*4) 4∧i % 4 < w ∧
  zrj say a i=((zh0 say ((i / 4:Nat):Int) w).getD []).getD (i % 4) [] ∧
  (∀ es,zh0 say ((i / 4:Nat):Int) w=some es→w≤es.length) ∧
  zcj (qt say) [(zv a (-1) i,i % 4)]=yda (zh0 say ((i / 4:Nat):Int) w) (qq (-1) ((i / 4:Nat):Int) w):=by
 refine⟨min (a - i / 4*4) 4,by omega,by omega,by omega,by omega,?_⟩;have g:zv a (-1) i=(-1,((i / 4:Nat):Int),((min (a - i / 4*4) 4:Nat):Int)):=by
  unfold zv;have l:qg (-1) a=a:=by simp [qg]
  simp only [ye,zxw,l];omega
 have c:1≤min (a - i / 4*4) 4:=by omega
 have d:min (a - i / 4*4) 4≤4:=by omega
 have b:i % 4 < min (a - i / 4*4) 4:=by omega
 generalize min (a - i / 4*4) 4=w at g b c d;obtain⟨t1,t2⟩:=ym0 say ((i / 4:Nat):Int) w c d;unfold zrj;rw [g];cases j:zh0 say ((i / 4:Nat):Int) w with
 | none =>
  have e:=t1 j;exact⟨by rw [e];simp,by simp,by rw [ziw,e];rfl⟩
 | some s =>
  obtain⟨m,f,k,n⟩:=t2 s j;exact⟨by rw [k];exact n _ b,fun p h=>by cases h;exact m,by rw [ziw,k];rfl⟩
theorem zfm {P:Program}{fn:Func}{p u:Tmp}{ty:TypeId}(h:fn.results=#[.cell p ty,.tmp u])(tmps:Array Value)(w:World)(g:Nat)(t:TypeId)(cs:Array Value)(fr:Nat×Nat)(d:TypeDesc)
  (hp:tmps.getD p undef= .pointer (some ⟨g,0,none⟩)) (hg:w.heap[g]?=some (.cells cs t fr))
  (hu:P.underlying ty=some d) (hd:(match d with | .struct _ | .array _ _=>true | _=>false)=true) (hi:(P.info? ty).map (·.size)=some cs.size) (x:Value) (hx:tmps.getD u undef=x) :
  (results fn tmps).run P w= .ok (.tuple #[.agg cs,x]) w:=by
 rw [_root_.Go.results_cell_tmp h,hp,hx];simp [asAddr,zdi w g t ty cs fr d hg hu hd hi]
def z9:Array Value:=#[.int .i64 0,.int .u8 0,.int .u8 0,.int .u8 0,.int .u8 0,.int .u8 0,.int .u8 0,.int .u8 0,.int .u8 0]
theorem z1z:z9.all (·.oneCell') =true:=by simp [z9,Value.oneCell']
theorem zgq:(prog.info? 112).map (·.size)=some z9.size:=by kernel_rfl
theorem z1t (n:Int)(a b c d e f g h:UInt8):(tv n a b c d e f g h).all (·.oneCell')=true:=by simp [tv,Value.oneCell']
theorem yml (n:Int)(a b c d e f g h:UInt8):(prog.info? 112).map (·.size)=some (tv n a b c d e f g h).size:=zgq
theorem zxo:∀(k:Nat) (s:zc) ,(Lib.splitK [10] 0 k s).length≤k+1
 | 0,_=>zm _
 | k+1,s=>by
  rw [Lib.splitK];split
  ·simp
  ·have:=zxo k (s.drop ((Lib.index s [10]).toNat+[10].length));simp only [y9] at this ⊢;omega
theorem zse (c:zc):∀(k:Nat) (s:zc),∀ x∈Lib.splitK c 0 k s,x.length≤s.length
 | 0,s,x,a=>by
  obtain rfl:x=s:=by simpa [Lib.splitK] using a
  exact zm _
 | k+1,s,x,a=>by
  rw [Lib.splitK] at a;split at a
  ·obtain rfl:x=s:=by simpa using a
   exact zm _
  ·rcases jr.1 a with rfl | h
   ·simp;omega
   ·have:=zse c k _ x h;simp at this;omega
theorem zwv (l:zc)(n:l.length≤1000000000)(w:World)(E:Env w):
  Calls prog 113 #[.string ⟨l.toArray⟩,.int .i64 16,.int .i64 64] w fun r i=>∃ v e,r= .returned (.tuple #[.int .u64 v,e])∧0≤v∧v≤18446744073709551615∧(e= .nilIface∨∃ t p,e= .iface t p)∧(∀ a,a.length=8→l=zbn a→e= .nilIface∧zta v=a)∧Below w.heap.size w i:=by
 by_cases j:∃ a,a.length=8∧l=zbn a
 ·obtain⟨a,d,rfl⟩:=j;refine(zww a d w).mono ?_;rintro r i ⟨rfl,g⟩;have c:=yah (zbn a) (zrp a) 0 0 (by decide);rw [zdc,d] at c;have k:zlh 0 (zbn a) < 18446744073709551616:=c;refine⟨_,_,rfl,by omega,by omega,.inl rfl,fun b f e=>⟨rfl,?_⟩,g⟩;rw [z3l d f e];exact zwr b f
 ·refine(zyb l n w E).mono ?_;rintro r i ⟨v,e,rfl,o,q,m,g⟩;exact⟨v,e,rfl,o,q,m,fun a d h=>absurd ⟨a,d,h⟩ j,g⟩
theorem zwe {t b:zc}{n:Nat}{a:zc}(h:zba t b n a):Lib.splitK [10] 0 (min 4 (t.length+1) - 1) t=[[116,105,108,101,115],dec n,zbn a,zny n a b++[10]]:=by
 obtain⟨_,_,rfl⟩:=h;have:=yel n a b;rw [show min 4 ((zbp n a b).length+1) - 1=3 by omega];exact z9h n a b
theorem ybn (t b:zc)(ht:t.length≤1048576)(hk:b.length≤9223372036854775807)(w:World)(E:Env w):
  Calls prog 84 #[.string ⟨t.toArray⟩,.string ⟨b.toArray⟩] w fun r w'=>Below w.heap.size w w' ∧
   ((∃ n f c d g i j k m,zba t b n [f,c,d,g,i,j,k,m]∧r= .returned (.tuple #[.agg (tv n f c d g i j k m),.bool true]))∨((∀ n a,¬ zba t b n a)∧r= .returned (.tuple #[.agg z9,.bool false]))):=by
 have HE:=zf E;clear E;go_enter func84,ntmps84;go_wp2_with fail;have B:=zf (zk w (.cells z9 112));have R:=zf (zg w (.cells z9 112));unfold z9 at B R;generalize w.alloc (.cells #[.int .i64 0,.int .u8 0,.int .u8 0,.int .u8 0,.int .u8 0,.int .u8 0,.int .u8 0,.int .u8 0,.int .u8 0] 112)=W1 at *;refine(z5l t (by omega) W1 (HE.o.below B.o)).mono ?_;rintro r w2 ⟨ps,ak,rfl,rfl⟩;have G:=zf ak;have L:=zf (zg W1 (.cells (Lib.cellsOf ps (min 4 (t.length+1))) 9));have C:Hid (Below w.heap.size w (W1.alloc (.cells (Lib.cellsOf ps (min 4 (t.length+1))) 9))):=B.o.trans ((zk W1 _).mono B.o.size);have u:=zf (zj (o:= .cells (Lib.cellsOf ps (min 4 (t.length+1))) 9) R.o);generalize W1.alloc (.cells (Lib.cellsOf ps (min 4 (t.length+1))) 9)=W2 at *;generalize W1.heap.size=gl at *;have V:Hid (∀ x∈ps.map (·.data.toList),x.length≤t.length):=fun x hx=>by rw [G.o] at hx;exact zse _ _ _ x hx
 have X:Hid (ps.length≤min 4 (t.length+1)):=by
  show ps.length≤_;have:=zxo (min 4 (t.length+1) - 1) t;rw [← G.o,yi] at this;omega
 have H:∃ s,w.heap.size=s:=⟨_,rfl⟩;obtain⟨s,H⟩:=H;rw [H] at u ⊢;have F:=zf H;clear ak R B H
 by_cases h4:ps.length < 4
 ·have n4:(ps.length:Int) < 4:=by omega
  have W:Hid (∀ n a,¬ zba t b n a):=fun n a h=>by
   have e:=G.o;rw [zwe h] at e;have:=congrArg List.length e;simp at this;omega
  generalize min 4 (t.length+1)=N at *;go_wp2_with (show wpList _ _ _ ({ dst:=none,op:=Op.store _ _ _,type:=_,pos:=_,after:=_,guard:=_ }::_) _ _;refine xe rfl 112 _ _ rfl s z9 rfl rfl 112 _ u.o zgq rfl z1z ?_);refine z8 (v:= .tuple #[.agg z9,.bool false]) (zfm results84 _ _ s 112 _ (0,0) _ rfl (za0 _ _ _ _ _ _ u.o) underlying112 rfl zgq _ rfl) rfl ⟨za2 C.o (zfi F.o) _,.inr ⟨W.o,rfl⟩⟩
 ·have aj:ps.length=4:=by have:=X.o;omega
  have ag:min 4 (t.length+1)=4:=by have:=X.o;omega
  rw [ag] at L ⊢;obtain⟨p0,p1,p2,p3,rfl⟩:∃ p0 p1 p2 p3,ps=[p0,p1,p2,p3]:=by
   match ps,aj with
   | [p0,p1,p2,p3],_=>exact⟨p0,p1,p2,p3,rfl⟩
  obtain⟨I,rfl⟩:∃ l:zc,p1=⟨l.toArray⟩:=⟨p1.data.toList,by simp⟩;obtain⟨l2,rfl⟩:∃ l:zc,p2=⟨l.toArray⟩:=⟨p2.data.toList,by simp⟩;have c:I.length≤1048576:=zu (V.o I (by simp)) ht;have d:l2.length≤1048576:=zu (V.o l2 (by simp)) ht;have M:Hid (∀ n a,zba t b n a→I=dec n∧l2=zbn a):=fun n a h=>by
   have e:=G.o;rw [zwe h] at e;simp only [ve,zku,ztr] at e;exact⟨e.2.1,e.2.2.1⟩
  have c1:W2.cell? ⟨gl,1,none⟩=some (.string ⟨I.toArray⟩):=by rw [yq _ _ _ _ _ _ L.o];rfl
  have c2:W2.cell? ⟨gl,2,none⟩=some (.string ⟨l2.toArray⟩):=by rw [yq _ _ _ _ _ _ L.o];rfl
  have ah:([p0,⟨I.toArray⟩,⟨l2.toArray⟩,p3]:List ByteArray).length=4:=rfl;clear h4 aj X V G ag;rw [ah];clear ah;go_wp2_with fail;refine(zwv l2 (by omega) W2 (HE.o.below C.o)).mono ?_;rintro r w3 ⟨v,e,rfl,v0,v1,he,hF,O⟩;have J:Hid (Below w.heap.size w w3):=C.o.trans (O.mono C.o.size);have T:=zf ((O.block s (ztb u.o)).trans u.o);rw [← O.cell (p:=⟨gl,1,none⟩) (yg (p:=⟨gl,1,none⟩) c1)] at c1;have HF:=zf hF;have HV:=zf (And.intro v0 v1);have al:=zf he;clear O hF v0 v1 he c2 C u L;go_wp2_with fail;refine(z4d I (by omega) w3 (HE.o.below J.o)).mono ?_;rintro r w4 ⟨rfl,Z⟩;have Q:Hid (Below w.heap.size w w4):=J.o.trans (Z.mono J.o.size);have U:=zf ((Z.block s (ztb T.o)).trans T.o);have ar:=z4b I;have ae:Hid (∀ n,I=dec n→n≤9223372036854775807→zmk I=(n:Int)):=fun n e h=>by rw [e];exact zo7 n h
  generalize zmk I=q at *;clear Z J T c1;go_wp2_with fail;refine(yg5 v w4 HV.o.1 HV.o.2).mono ?_;rintro r A ⟨rfl,aa⟩;have ab:Hid (Below w.heap.size w A):=Q.o.trans (aa.mono Q.o.size);have am:=zf ((aa.block s (ztb U.o)).trans U.o);clear aa Q U;obtain⟨f,c,d,g,i,j,k,m,hx⟩:=hv8 (zta v) rfl;have HX:=zf hx;rw [hx,show hv [f,c,d,g,i,j,k,m]=#[.int .u8 f.toNat,.int .u8 c.toNat,.int .u8 d.toNat,.int .u8 g.toNat,.int .u8 i.toNat,.int .u8 j.toNat,.int .u8 k.toNat,.int .u8 m.toNat] from rfl];clear hx;have D:Hid (Below w.heap.size w (A.alloc (.cells (tv q f c d g i j k m) 112))):=ab.o.trans ((zk A _).mono ab.o.size);have y:=zf (zj (o:= .cells (tv q f c d g i j k m) 112) am.o);have Y:=zf (zg A (.cells (tv q f c d g i j k m) 112));obtain⟨d0,d1,d2,d3,d4,d5,d6,d7,d8⟩:=zvn Y.o;rcases al.o with rfl | ⟨te,pe,rfl⟩
  ·by_cases ai:q < 0
   ·have W:Hid (∀ n a,¬ zba t b n a):=fun n a h=>by
     have:=ae.o n (M.o n a h).1 h.1;omega
    go_wp2_with (first | (show wpList _ _ _ ({ dst:=none,op:=Op.store _ _ _,type:=_,pos:=_,after:=_,guard:=_ }::_) _ _;refine xe rfl 112 _ _ rfl A.heap.size (tv q f c d g i j k m) rfl rfl 112 _ (zg _ _) zgq rfl (z1t _ _ _ _ _ _ _ _ _) ?_;rw [zbh];generalize A.alloc (.cells (tv q f c d g i j k m) 112)=W6 at *;generalize A.heap.size=g9 at *) | (show wpList _ _ _ ({ dst:=none,op:=Op.store _ _ _,type:=_,pos:=_,after:=_,guard:=_ }::_) _ _;refine xe rfl 112 _ _ rfl s z9 rfl rfl 112 _ y.o zgq rfl z1z ?_));refine z8 (v:= .tuple #[.agg z9,.bool false]) (zfm results84 _ _ s 112 _ (0,0) _ rfl (za0 _ _ _ _ _ _ y.o) underlying112 rfl zgq _ rfl) rfl ⟨za2 D.o (zfi F.o) _,.inr ⟨W.o,rfl⟩⟩
   ·have n0:¬ q < 0:=ai;go_wp2_with (show wpList _ _ _ ({ dst:=none,op:=Op.store _ _ _,type:=_,pos:=_,after:=_,guard:=_ }::_) _ _;refine xe rfl 112 _ _ rfl A.heap.size (tv q f c d g i j k m) rfl rfl 112 _ (zg _ _) zgq rfl (z1t _ _ _ _ _ _ _ _ _) ?_;rw [zbh];generalize A.alloc (.cells (tv q f c d g i j k m) 112)=W6 at *;generalize A.heap.size=g9 at *);refine(zxm q (by omega) (by omega) f c d g i j k m b hk W6 (HE.o.below D.o)).mono ?_;rintro r w7 ⟨rfl,P⟩;have ad:Hid (Below w.heap.size w w7):=D.o.trans (P.mono D.o.size);have K:=zf ((P.block s (ztb y.o)).trans y.o);obtain⟨f0,f1,f2,f3,f4,f5,f6,f7,f8⟩:=zvn ((P.block g9 (ztb Y.o)).trans Y.o);clear P d0 d1 d2 d3 d4 d5 d6 d7 d8;have ap:Hid (zbp q.toNat [f,c,d,g,i,j,k,m] b=zbp q.toNat [f,c,d,g,i,j,k,m] b):=rfl;generalize hS:zbp q.toNat [f,c,d,g,i,j,k,m] b=S at *;have af:=zf hS;clear hS ap
    by_cases z:S=t
    ·have aq:(S==t)=true:=by rw [zfu];exact z
     have HQ:=zf z;clear z;have an:Hid (zba t b q.toNat [f,c,d,g,i,j,k,m]):=⟨by omega,rfl,by rw [← HQ.o,← af.o]⟩;have ao:Hid (((q.toNat:Nat):Int)=q):=by show _=_;omega
     go_wp2_with (show wpList _ _ _ ({ dst:=none,op:=Op.store _ _ _,type:=_,pos:=_,after:=_,guard:=_ }::_) _ _;refine xe rfl 112 _ _ rfl s (tv q f c d g i j k m) rfl rfl 112 _ K.o zgq rfl (z1t _ _ _ _ _ _ _ _ _) ?_);refine z8 (v:= .tuple #[.agg (tv q f c d g i j k m),.bool true]) (zfm results84 _ _ s 112 _ (0,0) _ rfl (za0 _ _ _ _ _ _ K.o) underlying112 rfl (yml _ _ _ _ _ _ _ _ _) _ rfl) rfl ⟨za2 ad.o (zfi F.o) _,.inl ⟨q.toNat,f,c,d,g,i,j,k,m,an.o,by rw [ao.o]⟩⟩
    ·have aq:(S==t)=false:=by rw [yk];exact z
     have HQ:=zf z;clear z;have W:Hid (∀ n a,¬ zba t b n a):=fun n a h=>by
      have e1:=ae.o n (M.o n a h).1 h.1;have e2:=(HF.o a h.2.1 (M.o n a h).2).2;refine HQ.o ?_;rw [← af.o,← HX.o,e2,e1,yj];exact h.2.2.symm
     go_wp2_with (show wpList _ _ _ ({ dst:=none,op:=Op.store _ _ _,type:=_,pos:=_,after:=_,guard:=_ }::_) _ _;refine xe rfl 112 _ _ rfl s z9 rfl rfl 112 _ K.o zgq rfl z1z ?_);refine z8 (v:= .tuple #[.agg z9,.bool false]) (zfm results84 _ _ s 112 _ (0,0) _ rfl (za0 _ _ _ _ _ _ K.o) underlying112 rfl zgq _ rfl) rfl ⟨za2 ad.o (zfi F.o) _,.inr ⟨W.o,rfl⟩⟩
  ·have W:Hid (∀ n a,¬ zba t b n a):=fun n a h=>by
    have:=(HF.o a h.2.1 (M.o n a h).2).1;simp at this
   go_wp2_with (first | (show wpList _ _ _ ({ dst:=none,op:=Op.store _ _ _,type:=_,pos:=_,after:=_,guard:=_ }::_) _ _;refine xe rfl 112 _ _ rfl A.heap.size (tv q f c d g i j k m) rfl rfl 112 _ (zg _ _) zgq rfl (z1t _ _ _ _ _ _ _ _ _) ?_;rw [zbh];generalize A.alloc (.cells (tv q f c d g i j k m) 112)=W6 at *;generalize A.heap.size=g9 at *) | (show wpList _ _ _ ({ dst:=none,op:=Op.store _ _ _,type:=_,pos:=_,after:=_,guard:=_ }::_) _ _;refine xe rfl 112 _ _ rfl s z9 rfl rfl 112 _ y.o zgq rfl z1z ?_));refine z8 (v:= .tuple #[.agg z9,.bool false]) (zfm results84 _ _ s 112 _ (0,0) _ rfl (za0 _ _ _ _ _ _ y.o) underlying112 rfl zgq _ rfl) rfl ⟨za2 D.o (zfi F.o) _,.inr ⟨W.o,rfl⟩⟩
def zo9 (l:zc):Nat→zc
 | 0=>[]
 | k+1=>zo9 l k++[UInt8.ofNat (16*nv (l.getD (2*k) 0)+nv (l.getD (2*k+1) 0))]
theorem yg4 (a b:zc):zbn (a++b)=zbn a++zbn b:=by simp [zbn]
theorem yde (a r:zc):∀ k,k≤a.length→zo9 (zbn a++r) k=a.take k:=by
 intro k
 induction k with
 | zero=>intro _;rfl
 | succ k h =>
  intro j;rw [zo9,h (by omega),qf (by omega)];have d:(zbn (a.take k)).length=2*k:=by rw [zdc,vi];omega
  have e:zbn a++r=zbn (a.take k)++(zjl (a[k].toNat / 16)::zjl (a[k].toNat % 16)::(zbn (a.drop (k+1))++r)):=by
   have b:a=a.take k++a[k]::a.drop (k+1):=by rw [← zie (by omega),List.take_append_drop]
   have c:=congrArg zbn b;rw [yg4,zpq] at c;rw [c,xt,xt]
   rfl
  have f:(zbn a++r).getD (2*k) 0=zjl (a[k].toNat / 16):=by
   rw [e,zl,qi (by omega),d];simp
  have g:(zbn a++r).getD (2*k+1) 0=zjl (a[k].toNat % 16):=by
   rw [e,zl,qi (by omega),d];simp
  have i:=(a[k]).toNat_lt;rw [f,g,zuv _ (by omega),zuv _ (by omega)];congr 2;rw [show 16*(a[k].toNat / 16)+a[k].toNat % 16=a[k].toNat by omega];simp
end Go.Proofs.YtlcllcgngjhoaaaGreatDoor
