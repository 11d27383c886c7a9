import Derived.Test.YtlcllcgngjhoaaaGreatDoorG46
set_option maxHeartbeats 8000000
set_option maxRecDepth 100000
set_option linter.all false
namespace Go.Proofs.YtlcllcgngjhoaaaGreatDoor
open Go.RowKit Go.Proofs.Tryz
variable {j k k':Nat}
section
section
variable {σ : Type} {fe : σ → zc → (zc × Bool) × σ}
structure Fed (fe:σ→zc→(zc×Bool)×σ)(I:σ→Prop)(V:Pl→Nat→Pc→Prop)(size:Nat):Prop where
 bare:∀ p k c b,V p k c→V p k { c with fits:=b }
 keep:∀ s p,I s→I (fe s p).2
 came:∀ s l j f s',I s→-1≤l→j < qg l size→zb0 fe s (zv size l j)=(some f,s')→GdF V (zv size l j) f
theorem Fed.file {I:σ→Prop}{V:Pl→Nat→Pc→Prop}{a:Nat}(h:Fed fe I V a)(s:σ)(p:Pl)(hI:I s):I (zb0 fe s p).2:=by
 have b:I (j7 fe s p).2:=h.keep s _ hI;unfold zb0;cases e:j7 fe s p with
 | mk o c =>
  rw [e] at b;cases o with
  | some f=>exact b
  | none =>
   simp only;split
   ·exact b
   ·have d:I (j7 fe c (p.1,p.2.1,4)).2:=h.keep c _ b;cases g:j7 fe c (p.1,p.2.1,4) with
    | mk i j =>
     rw [g] at d;cases i<;>exact d
theorem zzg {I:σ→Prop}{V:Pl→Nat→Pc→Prop}{b:Nat}(u:Fed fe I V b){a:Mm}{m C:Ms σ}{l:Int}{o:Sum (zc) Pc}(h:zaq fe a b m l j=(o,C))
 (F:GdM V a) (w:GdM V m.needed) (hI:I m.net) (E:-1≤l) (D:j < qg l b) :
  GdM V C.needed∧I C.net∧∀ c,o= .inr c→c.there=true∧V (zv b l j) (j % 4) c:=by
 have r:GdF V (zv b l j) (j9 a m.needed (zv b l j)):=F.known w _;have G:(zv b l j).2.2≤4:=by unfold zv;simp;omega
 have A:((j % 4:Nat):Int) < (zv b l j).2.2:=by unfold zv;simp;omega
 have d:=u.file m.net (zv b l j) hI;have k:=fun f J=>u.came m.net l j f J hI E D;unfold zaq at h;generalize zv b l j=p at *
 by_cases n:((j9 a m.needed p).getD (j % 4) .no).there=true
 ·rw [if_pos n] at h;have v:=r.fitsAt u.bare n;have e:((zby (j9 a m.needed p) (j % 4)).getD (j % 4) .no).there=true:=by
   rw [ze7];split
   ·exact n
   ·exact n
  simp only [ye] at h;obtain⟨rfl,rfl⟩:=h;exact⟨w.snoc v,hI,fun c i=>by
   cases i;exact⟨e,(v.2 (j % 4) (by omega)).2 e⟩⟩
 ·rw [if_neg n] at h;cases y:zb0 fe m.net p with
  | mk H s =>
   rw [y] at h d;cases H with
   | none =>
    simp only [ye] at h;obtain⟨rfl,rfl⟩:=h;exact⟨w,d,fun c i=>by cases i⟩
   | some g =>
    have i:=k g s y;have x:=zqv G y;have v:=r.fill i;have e:((zh3 (j9 a m.needed p) g).getD (j % 4) .no).there=true:=by
     rw [zhp _ _ (by rw [r.1,i.1]) _ (by rw [r.1];omega)];have B:((j9 a m.needed p).getD (j % 4) .no).fits≠true:=fun z=>n ((r.2 (j % 4) (by omega)).1 z);rw [if_neg B,x.there _ (by omega)];simpa using A
    have q:=v.fitsAt u.bare e;have t:((zby (zh3 (j9 a m.needed p) g) (j % 4)).getD (j % 4) .no).there=true:=by
     rw [ze7];split
     ·exact e
     ·exact e
    simp only [ye] at h;obtain⟨rfl,rfl⟩:=h;exact⟨w.snoc q,d,fun c i=>by
     cases i;exact⟨t,(q.2 (j % 4) (by omega)).2 t⟩⟩
structure Stp (fe:σ→zc→(zc×Bool)×σ)(proved:Mm)(size:Nat)(P:Nat→Ms σ→Prop):Prop where
 more:∀ k m,P k m→P (k+1) m
 step:∀ k m l j o m1,P k m→-1≤l→j < qg l size→zaq fe proved size m l j=(o,m1)→P (k+1) m1
theorem Stp.le {proved:Mm}{a:Nat}{P:Nat→Ms σ→Prop}(h:Stp fe proved a P){m:Ms σ}(e:k≤k')(b:P k m):P k' m:=by
 obtain⟨d,rfl⟩:∃ d,k'=k+d:=⟨k' - k,by omega⟩
 induction d with
 | zero=>exact b
 | succ d c=>exact h.more _ _ (c (by omega))
theorem yd7 {d:Mm}{b:Nat}{P:Nat→Ms σ→Prop}(t:Stp fe d b P)(J:b < 2 ^ 63):∀(f k:Nat) (m i:Ms σ) (a n:Nat) (o:Sum (zc) (zc)),P k m→a+n≤b→1≤n→n≤2 ^ f→vm fe d b (f+1) m a n=(o,i)→P (k+(xr b (f+1) a n).length) i:=by
 have j:∀(f k:Nat) (m i:Ms σ) (a n:Nat) (o:Sum (zc) (zc)),P k m→a+n≤b→1≤n→n / 4 ^ lvl n=1→vm fe d b (f+1) m a n=(o,i)→P (k+(xr b (f+1) a n).length) i:=by
  intro f k m i a n o l q s g h;obtain⟨-,-,p⟩:=zg3 n s (by omega);have D:=zsd a n (lvl n) b q (p.1 g);rw [xr,if_pos g];cases v:zaq fe d b m (lvl n:Nat) (a / 4 ^ lvl n) with
  | mk x A =>
   have:=t.step k m _ _ _ _ l (by omega) D v;cases x with
   | inl e =>
    rw [znj g v] at h;simp only [ye] at h;obtain⟨-,rfl⟩:=h;exact this
   | inr c =>
    rw [zpx g v] at h;simp only [ye] at h;obtain⟨-,rfl⟩:=h;exact this
 intro f
 induction f with
 | zero =>
  intro k m i a n o l q s y h;obtain rfl:n=1:=by omega
  exact j 0 k m i a 1 o l q (by omega) (by decide) h
 | succ f z =>
  intro k m i a n o l q s y h
  by_cases g:n / 4 ^ lvl n=1
  ·exact j (f+1) k m i a n o l q s g h
  ·have w:2≤n:=by
    rcases qu n 2 with h | h
    ·exact absurd (by
       obtain rfl:n=1:=by omega
       decide) g
    ·exact h
   obtain⟨E,F,G,H,K,L⟩:=zaw n f w y;rw [xr,if_neg g,zy];cases r:vm fe d b (f+1) m a (yo n) with
   | mk x A =>
    have B:=z k _ _ _ _ _ l (by omega) G E r;cases x with
    | inl e =>
     rw [zni g r] at h;simp only [ye] at h;obtain⟨-,rfl⟩:=h;exact t.le (by omega) B
    | inr N =>
     cases u:vm fe d b (f+1) A (a+yo n) (n - yo n) with
     | mk I M =>
      have C:=z _ _ _ _ _ _ B (by omega) H F u;cases I with
      | inl e =>
       rw [zlz g r u] at h;simp only [ye] at h;obtain⟨-,rfl⟩:=h;exact t.le (by omega) C
      | inr O =>
       rw [zpy g r u] at h;simp only [ye] at h;obtain⟨-,rfl⟩:=h;exact t.le (by omega) C
theorem zxd {b:Mm}{a:Nat}{P:Nat→Ms σ→Prop}(f:Stp fe b a P)(w:a < 2 ^ 63):∀(c:List (Nat×Nat)) (k:Nat) (m g:Ms σ) (o:Sum (zc) (za)),P k m→(∀ s∈c,s.1+s.2≤a∧1≤s.2)→qx fe b a m c=(o,g)→P (k+(c.flatMap fun s=>xr a 64 s.1 s.2).length) g:=by
 intro c
 induction c with
 | nil =>
  intro k m g o j _ h;simp only [qx,ye] at h;obtain⟨-,rfl⟩:=h;exact j
 | cons s r x =>
  intro k m g o j n h;obtain⟨u,v⟩:=n s (by simp);rw [zd9,zy];cases d:vm fe b a 64 m s.1 s.2 with
  | mk y p =>
   have q:P (k+(xr a 64 s.1 s.2).length) p:=yd7 f w 63 k _ _ _ _ _ j u v (by omega) d;cases y with
   | inl e =>
    rw [zpd d] at h;simp only [ye] at h;obtain⟨-,rfl⟩:=h;exact f.le (by omega) q
   | inr C =>
    cases i:qx fe b a p r with
    | mk z B =>
     have t:=x _ _ _ _ q (fun A l=>n A (by simp [l])) i;cases z with
     | inl e =>
      rw [zpf d i] at h;simp only [ye] at h;obtain⟨-,rfl⟩:=h;exact f.le (by omega) t
     | inr D =>
      rw [zpe d i] at h;simp only [ye] at h;obtain⟨-,rfl⟩:=h;exact f.le (by omega) t
def Led (I:σ→Prop)(V:Pl→Nat→Pc→Prop)(a:σ→Int)(b:Int)(k:Nat)(m:Ms σ):Prop:=GdM V m.needed∧I m.net∧a m.net≤b+2*(k:Int)∧b≤a m.net∧m.needed.length≤k
theorem yak {I:σ→Prop}{V:Pl→Nat→Pc→Prop}{a:Mm}{c:Nat}(n:Fed fe I V c)(t:GdM V a)(b:σ→Int)(d:∀ s p,b (fe s p).2=b s+1)(f:Int):Stp fe a c (Led I V b f) where
 more:=fun k m h=>⟨h.1,h.2.1,by have:=h.2.2.1;omega,h.2.2.2.1,by have:=h.2.2.2.2;omega⟩
 step:=fun k m l j o z h r q e=>by
  obtain⟨g,i,w,x,y⟩:=h;obtain⟨f1,f2,-⟩:=zzg n e t g i r q;have u:=zwl b d e;have v:=zzf b d e;refine⟨f1,f2,?_,?_,?_⟩
  ·omega
  ·omega
  ·omega
theorem zy1 (I:σ→Prop)(V:Pl→Nat→Pc→Prop)(a:σ→Int)(s:σ)(hI:I s):Led I V a (a s) 0 ⟨s,[]⟩:=⟨ze8 V,hI,by simp,zfg _,by simp⟩
end
end
variable {c c':Cl}{ls:za}{t':Nat}
section
def LfQ (p:Pl)(_:Nat)(c:Pc):Prop:=p.1=-1→c.hash=zae c.entry∧c.entry.length≤20
theorem zwc (p:Pl)(k:Nat)(c:Pc)(b:Bool)(h:LfQ p k c):LfQ p k { c with fits:=b }:=h
theorem ya2 {d:zc}(h:zd6 d=some ls):∀ l∈ls,l.length≤20:=by
 unfold zd6 at h;cases e:unb d with
 | none=>rw [e] at h;simp at h
 | some x =>
  rw [e] at h;simp only at h;split at h
  ·rename_i b;simp only [zr] at h;subst h;intro l a;have:=b;unfold okB at this;simp only [zbr,zcd,vj] at this;exact this.2.2 l a
  ·simp at h
theorem yg0 {V:Pl→Nat→Pc→Prop}{p:Pl}{f:Fl}{w:Int}(h:z0j w f)(hv:∀ k,k < 4→(f.getD k .no).there=true→V p k (f.getD k .no)):GdF V p f :=
 ⟨h.len,fun k b=>⟨fun a=>by rw [h.fits] at a;simp at a,hv k b⟩⟩
theorem yi9 {l w:Int}{d:zc}{f:Fl}(p:Pl)(i:p.1=l)(h:zfl l w d=some f):GdF LfQ p f:=by
 refine yg0 (znf h) fun k g b e=>?_;rw [i] at e;unfold zfl at h;rw [if_pos e] at h;cases c:zd6 d with
 | none=>rw [c] at h;simp at h
 | some es =>
  rw [c] at h;simp only at h;split at h
  ·simp only [zr] at h;subst h;rw [zho _ _ g] at b ⊢
   by_cases a:k < es.length
   ·rw [if_pos a];refine⟨rfl,?_⟩;have:es.getD k []∈es:=by
     rw [zl,zt a];exact yd _
    exact ya2 c _ this
   ·rw [if_neg a] at b;simp [Pc.no] at b
  ·simp at h
theorem yf5 {V:Pl→Nat→Pc→Prop}{p:Pl}{f:Fl}{w:Int}(b:w≤4)(h:GdF V p f):GdF V p (znw w f) :=
 ⟨zyr w f h.1 b,fun k a=>by
  rw [zis];split
  ·exact h.2 k a
  ·exact zyz V p k⟩
section
variable {σ : Type} {fe : σ → zc → (zc × Bool) × σ}
theorem zzq {s b:σ}{p q:Pl}{f:Fl}(a:q.1=p.1)(h:j7 fe s p=(some f,b)):GdF LfQ q f:=by
 unfold j7 at h;simp only [ye] at h;obtain⟨h,-⟩:=h;split at h
 ·exact yi9 q a h
 ·simp at h
theorem ygq {s e:σ}{p:Pl}{f:Fl}(c:p.2.2≤4)(h:zb0 fe s p=(some f,e)):GdF LfQ p f:=by
 unfold zb0 at h;cases a:j7 fe s p with
 | mk o i =>
  rw [a] at h;cases o with
  | some g =>
   simp only [ye,zr] at h;obtain⟨rfl,-⟩:=h;exact zzq rfl a
  | none =>
   simp only at h;split at h
   ·simp at h
   ·cases b:j7 fe i (p.1,p.2.1,4) with
    | mk d j =>
     rw [b] at h;cases d with
     | none=>simp at h
     | some g =>
      simp only [ye,zr] at h;obtain⟨rfl,-⟩:=h;exact yf5 c (zzq (p:=(p.1,p.2.1,4)) (q:=p) rfl b)
theorem z69 {I:σ→Prop}(hI:∀ s p,I s→I (fe s p).2)(a:Nat):Fed fe I LfQ a where
 bare:=zwc
 keep:=hI
 came:=fun s l j f b _ _ _ h=>ygq (by unfold zv;simp;omega) h
end
theorem znn (a:Nat):∀(f:Nat) (c:Mm) (l j:Nat) (h:zc),GdM LfQ c→GdM LfQ (zai a f c l j h):=by
 intro f
 induction f with
 | zero=>intro c l j h b;exact b
 | succ f m =>
  intro c l j h b;rw [zai];cases k:c.get (zv a (l:Int) j) with
  | none=>exact b
  | some d =>
   simp only;have i:GdF LfQ (zv a (l:Int) j) (d.set (j % 4) ⟨true,true,h,[]⟩):=(b.get k).set ⟨fun _=>rfl,fun _ e=>by
    have:((l:Nat):Int)=-1:=e;omega⟩
   have g:=b.set i;cases o:zr9 (d.set (j % 4) ⟨true,true,h,[]⟩) with
   | none=>exact g
   | some n=>exact m _ (l+1) (j / 4) n g
theorem z9a (b:Nat)(c:Mm)(i:Nat)(a:zc)(h:GdM LfQ c):GdM LfQ (zc8 b c i a):=zud zwc b c i a (znn b 64 c 0 i a h)
theorem z9c (b:Nat)(e:Mm)(a:Nat)(c:zc)(d:GdM LfQ e)
 (j:∀ f,e.get (zv b (lvl a:Nat) (a / 4 ^ lvl a - 1))=some f→a / 4 ^ lvl a - 1≠0→(f.getD ((a / 4 ^ lvl a - 1) % 4) .no).there=true∧(a / 4 ^ lvl a - 1=1→(f.getD 0 .no).there=true)):GdM LfQ (zfy b e a c):=by
 unfold zfy;cases i:e.get (zv b (lvl a:Nat) (a / 4 ^ lvl a - 1)) with
 | none=>exact d
 | some f =>
  simp only;have l:=j f i
  by_cases h:a / 4 ^ lvl a - 1=0
  ·rw [if_pos h];exact znn b 64 e (lvl a) 0 c d
  ·rw [if_neg h];obtain⟨m,k⟩:=l h
   by_cases g:a / 4 ^ lvl a - 1=1
   ·rw [if_pos g];rw [g] at i;split
    ·exact znn b 64 _ (lvl a) 1 _ (d.set ((d.get i).fitsAt zwc (k g)))
    ·exact d
   ·rw [if_neg g];exact znn b 64 e (lvl a) _ _ d
structure KI (c:Cl)(t:Nat):Prop where
 sz:c.size < 9223372036854775808
 gd:GdM LfQ c.proved
 ins:InS c.size c.proved
 len:c.proved.length≤10000*t
 r8:c.root.length=8
theorem yhg (b:zc)(a:Int):KI ⟨b,0,qm [],a,[]⟩ 0 :=
 ⟨by show 0 < _;omega,ze8 _,fun x c=>by simp at c,by simp,zsa _⟩
theorem KI.later {t:Nat}(h:KI c t)(a:t≤t'):KI c t':=⟨h.sz,h.gd,h.ins,by have:=h.len;omega,h.r8⟩
section
variable {σ : Type} {fe : σ → zc → (zc × Bool) × σ} {c : Cl} {t : Nat} {s : σ} {i : Nat}
theorem z3q (h:KI c t)(b:i < c.size):∀ p a,zaq fe c.proved c.size ⟨s,[]⟩ (-1) i=(.inr p,a)→p.entry.length≤20∧p.hash=zae p.entry:=by
 intro p a e;have d:i < qg (-1) c.size:=by simpa [qg] using b
 have:=(zzg (z69 (I:=fun _=>True) (fun _ _ _=>trivial) c.size) e h.gd (ze8 _) trivial (by omega) d).2.2 p rfl;have:=this.2 rfl;exact⟨this.2,this.1⟩
theorem ylf {I:σ→Prop}(hI:∀ s p,I s→I (fe s p).2)(A:I s)(b:σ→Int)(Q:∀ s p,b (fe s p).2=b s+1)(inc:zc→Nat→Nat→za→zc→Bool)(h:KI c t)(K:i < c.size){o:Sum Er (zc×za)}{w:σ}(e:zbd fe inc c s i=(o,c',w)):
  KI c' (t+1)∧I w∧c'.key=c.key∧c'.size=c.size∧c'.root=c.root∧c'.room=c.room∧b s≤b w∧b w≤b s+17000∧∀ x ps,o= .inr (x,ps)→x.length≤20∧inc (zae x) i c.size ps c.root=true:=by
 have f:c.size < 2 ^ 63:=h.sz;have L:i < qg (-1) c.size:=by simpa [qg] using K
 have J:=yak (z69 hI c.size) h.gd b Q (b s);have h0:=zy1 I LfQ b s A;unfold zbd at e;cases u:zaq fe c.proved c.size ⟨s,[]⟩ (-1) i with
 | mk U M =>
  rw [u] at e;have v:=J.step 0 _ _ _ _ _ h0 (by omega) L u;have k:=h.later (show t≤t+1 by omega);cases U with
  | inl p =>
   simp only [ye] at e;obtain⟨rfl,rfl,rfl⟩:=e;exact⟨k,v.2.1,rfl,rfl,rfl,rfl,v.2.2.2.1,by have:=v.2.2.1;omega,fun x ps g=>by cases g⟩
  | inr d =>
   simp only at e;obtain⟨H,W⟩:=z3q h K d M u;have B:=zth c.size i f;have j:∀ x∈qz 64 0 c.size i,x.1+x.2≤c.size∧1≤x.2:=fun x F=>by
    have:=zg5 64 0 c.size i (by omega) x F;omega
   cases D:qx fe c.proved c.size M (qz 64 0 c.size i) with
   | mk V r =>
    rw [D] at e;have m:=zxd J f _ _ _ _ _ v j D;have X:=m.2.2.1;have z:=m.2.2.2.1;have Y:=m.2.2.2.2;cases V with
    | inl p =>
     simp only [ye] at e;obtain⟨rfl,rfl,rfl⟩:=e;exact⟨k,m.2.1,rfl,rfl,rfl,rfl,z,by omega,fun x ps g=>by cases g⟩
    | inr ps =>
     simp only at e
     by_cases n:inc d.hash i c.size ps c.root=true
     ·rw [if_pos n] at e;simp only [ye] at e;obtain⟨rfl,rfl,rfl⟩:=e;have R:zc3 fe c.proved c.size ⟨s,[]⟩ ((zv c.size (-1) i,i % 4)::((qz 64 0 c.size i).flatMap fun s=>xr c.size 64 s.1 s.2)) r:= .cons L u (zi1 f _ _ _ _ j D);refine⟨⟨h.sz,?_,?_,?_,h.r8⟩,m.2.1,rfl,rfl,rfl,rfl,z,by omega,fun x qs g=>?_⟩
      ·exact zjr c.room _ _ h.gd (z9a c.size r.needed i d.hash m.1).2
      ·refine InS.remember c.room _ _ h.ins ?_;refine InS.keys (a:=r.needed) ?_ (zkd ..);intro x F;rcases R.keys h.gd.wf (ze8 _) x F with ⟨y,n,-⟩ | ⟨q,l,P⟩
       ·simp at n
       ·rw [← P];rcases jr.1 l with rfl | l
        ·exact zkm c.size (-1) i
        ·obtain⟨G,E,C⟩:=zce.1 l;obtain⟨S,T⟩:=j G E;obtain⟨l',Z,N,-⟩:=zko c.size f 63 G.1 G.2 S T (by omega) q C;rw [N];exact zkm c.size _ _
      ·have O:=congrArg List.length (zkd c.size r.needed i d.hash);simp only [yi] at O;have:=zh7 c.room (zc8 c.size r.needed i d.hash) c.proved;have:=h.len;simp only;omega
      ·cases g;rw [← W];exact⟨H,n⟩
     ·rw [if_neg n] at e;simp only [ye] at e;obtain⟨rfl,rfl,rfl⟩:=e;exact⟨k,m.2.1,rfl,rfl,rfl,rfl,z,by omega,fun x ps g=>by cases g⟩
theorem ycn {I:σ→Prop}(hI:∀ s p,I s→I (fe s p).2)(g:I s)(d:σ→Int)(S:∀ s p,d (fe s p).2=d s+1)(con:Nat→Nat→zc→zc→za→Bool)(h:KI c t){q:Option (Nat×zc)}(A:∀ n r,q=some (n,r)→n < 9223372036854775808∧r.length=8){o:Sum Er (za)}{B:σ}(e:zi8 fe con c s q=(o,c',B)):
  KI c' (t+1)∧I B∧c'.key=c.key∧c'.room=c.room∧d s≤d B∧d B≤d s+17000∧(∀ x,o= .inl x→c'.size=c.size∧c'.root=c.root∧3≤x.n∧x.n≤6) ∧
   ∀ ps,o= .inr ps→c.size≤c'.size∧((c.size=0∨c'.size=c.size)→ps=[])∧(c'.size=c.size→c'.root=c.root)∧(0 < c.size→c.size < c'.size→con c.size c'.size c.root c'.root ps=true):=by
 have f:=h.later (show t≤t+1 by omega);unfold zi8 at e;cases q with
 | none =>
  simp only [ye] at e;obtain⟨rfl,rfl,rfl⟩:=e;exact⟨f,g,rfl,rfl,zfg _,by omega,fun x b=>by cases b;exact⟨rfl,rfl,by show(3:Int)≤3;omega,by show(3:Int)≤6;omega⟩,fun ps b=>by cases b⟩
 | some y =>
  obtain⟨n,r⟩:=y;obtain⟨k,v⟩:=A n r rfl;have j:n < 2 ^ 63:=k;simp only at e;unfold vt at e
  by_cases N:n < c.size
  ·rw [if_pos N] at e;simp only [ye] at e;obtain⟨rfl,rfl,rfl⟩:=e;exact⟨f,g,rfl,rfl,zfg _,by omega,fun x b=>by cases b;exact⟨rfl,rfl,by show(3:Int)≤4;omega,by show(4:Int)≤6;omega⟩,fun ps b=>by cases b⟩
  rw [if_neg N] at e
  by_cases u:n=c.size
  ·rw [if_pos u] at e
   by_cases D:r=c.root
   ·rw [if_pos D] at e;simp only [ye] at e;obtain⟨rfl,rfl,rfl⟩:=e;subst u D;exact⟨⟨h.sz,h.gd,h.ins,f.len,h.r8⟩,g,rfl,rfl,zfg _,by omega,fun x b=>(by cases b),fun ps b=>by cases b;exact⟨zm _,fun _=>rfl,fun _=>rfl,fun _ i=>absurd i (zqr _)⟩⟩
   ·rw [if_neg D] at e;simp only [ye] at e;obtain⟨rfl,rfl,rfl⟩:=e;exact⟨f,g,rfl,rfl,zfg _,by omega,fun x b=>by cases b;exact⟨rfl,rfl,by show(3:Int)≤5;omega,by show(5:Int)≤6;omega⟩,fun ps b=>by cases b⟩
  rw [if_neg u] at e
  by_cases E:c.size=0
  ·rw [if_pos E] at e;simp only [ye] at e;obtain⟨rfl,rfl,rfl⟩:=e;exact⟨⟨k,h.gd,h.ins.more (by omega),f.len,v⟩,g,rfl,rfl,zfg _,by omega,fun x b=>(by cases b),fun ps b=>by cases b;exact⟨(show c.size≤n by omega),fun _=>rfl,fun(i:n=c.size)=>absurd i u,fun i=>by omega⟩⟩
  rw [if_neg E] at e;have R:=yak (z69 hI n) h.gd d S (d s);have h0:=zy1 I LfQ d s g;have F:=ztf c.size n j (by omega) (by omega);have l:∀ x∈qk 64 c.size 0 n true,x.1+x.2≤n∧1≤x.2:=fun x L=>by
   have:=zg4 64 c.size 0 n true (by omega) (by omega) (by omega) (by omega) x L;omega
  cases J:qx fe c.proved n ⟨s,[]⟩ (qk 64 c.size 0 n true) with
  | mk V z =>
   rw [J] at e;have m:=zxd R j _ _ _ _ _ h0 l J;have W:=m.2.2.1;have C:=m.2.2.2.1;have X:=m.2.2.2.2;cases V with
   | inl p =>
    simp only [ye] at e;obtain⟨rfl,rfl,rfl⟩:=e;exact⟨f,m.2.1,rfl,rfl,C,by omega,fun x b=>by cases b;exact⟨rfl,rfl,by show(3:Int)≤6;omega,by show(6:Int)≤6;omega⟩,fun ps b=>by cases b⟩
   | inr ps =>
    simp only at e
    by_cases w:con c.size n c.root r ps=true
    ·rw [if_pos w] at e;simp only [ye] at e;obtain⟨rfl,rfl,rfl⟩:=e;have A:zc3 fe c.proved n ⟨s,[]⟩ ((qk 64 c.size 0 n true).flatMap fun s=>xr n 64 s.1 s.2) z:=zi1 j _ _ _ _ l J;refine⟨⟨k,?_,?_,?_,v⟩,m.2.1,rfl,rfl,C,by omega,fun x b=>(by cases b),fun qs b=>?_⟩
     ·exact zjr c.room _ _ h.gd (z9c n z.needed c.size c.root m.1 (zxi j (by omega) (by omega) h.gd.wf h.ins A)).2
     ·refine InS.remember c.room _ _ (h.ins.more (show c.size≤n by omega)) ?_;refine InS.keys (a:=z.needed) ?_ (zke ..);intro x L;rcases A.keys h.gd.wf (ze8 _) x L with ⟨y,w,-⟩ | ⟨q,G,Q⟩
      ·simp at w
      ·rw [← Q];obtain⟨M,K,H⟩:=zce.1 G;obtain⟨T,U⟩:=l M K;obtain⟨Z,Y,O,-⟩:=zko n j 63 M.1 M.2 T U (by omega) q H;rw [O];exact zkm n _ _
     ·have P:=congrArg List.length (zke n z.needed c.size c.root);simp only [yi] at P;have:=zh7 c.room (zfy n z.needed c.size c.root) c.proved;have:=h.len;simp only;omega
     ·cases b;exact⟨(show c.size≤n by omega),fun i=>i.elim (fun i=>absurd i E) (fun(i:n=c.size)=>absurd i u),fun(i:n=c.size)=>absurd i u,fun _ _=>w⟩
    ·rw [if_neg w] at e;simp only [ye] at e;obtain⟨rfl,rfl,rfl⟩:=e;exact⟨f,m.2.1,rfl,rfl,C,by omega,fun x b=>by cases b;exact⟨rfl,rfl,by show(3:Int)≤5;omega,by show(5:Int)≤6;omega⟩,fun ps b=>by cases b⟩
end
end
variable {i:Nat}
theorem yf9:cpP=cpF:=by decide
theorem yj2 {fs:Fs}{es:za}{b:Nat}{c:zc}{a:Nt}{o:Option (Nat×zc)}(h:Chp fs es b c)(g:a.lies=[])(i:b≤9223372036854775807)(d:zkt c (yz fs a cpP).1 o):
  (yz fs a cpP).2={ a with fetches:=a.fetches+1 }∧((je fs cpF=none∧b=0∧o=none)∨(je fs cpF≠none∧zf1 fs es b∧o=some (b,qm (es.take b)))):=by
 rw [yf9,zq2 fs a g] at *;rcases h.2 with ⟨e,f⟩ | ⟨e,f⟩
 ·rw [e] at d ⊢;refine⟨rfl,.inl ⟨rfl,f,?_⟩⟩;cases o with
  | none=>rfl
  | some x=>exact absurd d.1 (by simp)
 ·rw [e] at d ⊢;refine⟨rfl,.inr ⟨by simp,f,?_⟩⟩;exact zkt.yes d ⟨i,zsa _,rfl⟩
theorem ycw {fs:Fs}{p x:zc}(h:je fs p=some x):∃ f∈fs,f.2=x:=by
 cases e:ixF fs p with
 | none=>rw [(zci e).1] at h;simp at h
 | some k =>
  obtain⟨b,-,a,-⟩:=zb8 e;rw [h] at a;exact⟨fs[k],yd b,by simpa using a.symm⟩
theorem ycj (es:za)(c:es.length < 4 ^ 21):∀ a i,a≤es.length→i < a→zfw (zae (es.getD i [])) i a (zgt es a i) (qm (es.take a))=true:=by
 intro a i h b;unfold zfw;rw [z0y (by omega),yj,yj,yg8 ql es a i h (by omega) b];simp only [zyj];simp [eqH]
theorem ybw (es:za)(e:es.length < 4 ^ 21):∀ a b,0 < a→a≤b→b≤es.length→zc7 a b (qm (es.take a)) (qm (es.take b)) (zt3 es a b)=true:=by
 intro a b h0 c d;unfold zc7;rw [z0t (by omega),yj,yj,yf7 ql es a b d (by omega) h0 c];simp only [zyj,zbr];exact⟨by simp [eqH],by simp [eqH]⟩
theorem z5u {fs:Fs}{es:za}{a t:Nat}{g:zc}{b:Nt}{q:Option (Nat×zc)}(h:Chp fs es a g)(r:b.lies=[])(i:∀ e∈es,e.length≤20)(p:es.length < 4 ^ 21)(h0:0 < a)(j:CI es c t)(k:c.size≤a)(x:c.key=g)(s:zkt c.key (yz fs b cpP).1 q):
  ∃ d m,zi8 (yz fs) zc7 c (yz fs b cpP).2 q=(.inr (if 0 < c.size∧c.size < a then zt3 es c.size a else []),d,m)∧d.size=a∧CI es d (t+1):=by
 rw [x] at s;have l:a≤es.length:=h.1;obtain⟨e,w⟩:=yj2 h r (by omega) s;rcases w with ⟨-,o,-⟩ | ⟨-,f,rfl⟩
 ·omega
 ·obtain⟨d,m,o,⟨-,u,-⟩,v,-⟩:=ybo (n:={ b with fetches:=b.fetches+1 }) zc7 (ybw es p) i p f r j k l;exact⟨d,m,by rw [e];exact o,u,v⟩
theorem z0c {fs:Fs}{es:za}{t:Nat}{b:Nt}(a:zf1 fs es c.size)(n:b.lies=[])(d:∀ e∈es,e.length≤20)(h:es.length < 4 ^ 21)(f:CI es c t)(l:i < c.size):
  ∃ g o,zbd (yz fs) zfw c b i=(.inr (es.getD i [],zgt es c.size i),g,o)∧CI es g (t+1):=by
 obtain⟨m,-,-,-,-,j,k⟩:=ykq zfw (ycj es h) d h a n f l;exact⟨_,_,j,k⟩
variable {A N O O' OP:Nat→Prop}{T:List Nat}{W W0 w w' w1:World}{cb db nb nm pb pm:Nat}{d:Dk}{n':Nt}
abbrev kcT:List Nat:=zbx::clT
structure KC (W0 w:World)(O:Nat→Prop)(pb nb:Nat)(c:Cl)(N:Nat→Prop):Prop where
 rest:∃ cb pm nm A OP,ybb w pb cb∧Pv W0 w O A OP cb nb pm nm c∧(∀ k,A k∨OP k∨k=cb∨k=pb→N k)
 own:∀ k,N k→W0.heap.size≤k∧k < w.heap.size∧¬ O k
theorem KC.other {M:Nat→Prop}(h:KC W0 w O pb nb c N)(f:zq M T w w')(g:∀ k,N k→¬ M k)(n:5∉T):KC W0 w' O pb nb c N:=by
 obtain⟨j,p,o,A,i,l,m,d⟩:=h.rest;refine⟨⟨j,p,o,A,i,f.stay l (g _ (d pb (by simp))),m.other f (fun b a=>g b (d b ?_)) n,d⟩,fun k e=>⟨(h.own k e).1,zx (h.own k e).2.1 f.size,(h.own k e).2.2⟩⟩;rcases a with a | a | a
 ·exact .inl a
 ·exact .inr (.inl a)
 ·exact .inr (.inr (.inl a))
theorem KC.grow (h:KC W0 w O pb nb c N)(f:∀ k,N k→¬ O' k):KC W0 w O' pb nb c N:=by
 obtain⟨i,n,m,A,g,j,l,e⟩:=h.rest;refine⟨⟨i,n,m,A,g,j,l.grow (fun b a=>f b (e b ?_)),e⟩,fun k d=>⟨(h.own k d).1,(h.own k d).2.1,f k d⟩⟩;rcases a with a | a | a
 ·exact .inl a
 ·exact .inr (.inl a)
 ·exact .inr (.inr (.inl a))
theorem KC.below (h:KC W0 w O pb nb c N)(a:Below w.heap.size w w'):KC W0 w' O pb nb c N :=
 h.other (M:=fun _=>False) (T:=[]) (.of_below a) (fun _ _ h=>h) (by simp)
theorem z3p {P:(Nat→Prop)→Prop}(a:CR W w w1 O A OP cb nb db pm nm d c' n' P)(j:ybb w pb cb)(b:∀ k,A k∨OP k∨k=cb∨k=pb→N k)(f:∀ k,N k→W.heap.size≤k∧k < w.heap.size∧¬ O k)(o:∀ k,O k→k < w.heap.size)(q:W.heap.size≤w.heap.size):
  zq (fun k=>O k∨N k) kcT w w1∧Sh W w1 O nb db d n'∧KC W w1 O pb nb c' (jz N w w1):=by
 obtain⟨m,g,n,i,l,-⟩:=a.rest;have r:=a.turn.size;refine⟨a.turn.mono (fun k p=>?_) (fun _ h=>h),a.sh,⟨cb,pm,nm,m,g,a.turn.keep j (by decide),l,fun k c=>?_⟩,fun k c=>?_⟩
 ·rcases p with h | h | h | h
  ·exact .inl h
  ·exact .inr (b k (.inl h))
  ·exact .inr (b k (.inr (.inl h)))
  ·exact .inr (b k (.inr (.inr (.inl h))))
 ·rcases c with h | h | h | h
  ·rcases n.2 k h with h | h
   ·exact .inl (b k (.inl h))
   ·exact .inr ⟨h.1,by omega⟩
  ·rcases i.2 k h with h | h
   ·exact .inl (b k (.inr (.inl h)))
   ·exact .inr ⟨h.1,by omega⟩
  ·exact .inl (b k (.inr (.inr (.inl h))))
  ·exact .inl (b k (.inr (.inr (.inr h))))
 ·rcases c with h | h
  ·have:=f k h;exact⟨this.1,by omega,this.2.2⟩
  ·exact⟨by omega,h.2,fun e=>by have:=o k e;omega⟩
theorem yhe (g:World)(O:Nat→Prop)(m:Nat)(c:zc)(a:Int)(w:World)(j:g.heap.size≤w.heap.size)(n:∀ b,O b→b < w.heap.size):
  Calls prog 15 #[yx m,qo c,.int .i64 a] w fun r f=>∃ d,r= .returned (yx d)∧Below w.heap.size w f∧KC g f O d m ⟨c,0,qm [],a,[]⟩ (fun k=>w.heap.size≤k∧k < f.heap.size):=by
 refine(ydo g O m c a w j n).mono ?_;rintro r f ⟨d,p,y,x,A,o,rfl,v,q,s,i,t,u⟩;refine⟨d,rfl,v,⟨p,y,x,A,o,t,u,fun k l=>?_⟩,fun k l=>⟨by omega,l.2,fun e=>by have:=n k e;omega⟩⟩;rcases l with h | h | h | rfl
 ·have:=i k (.inl h);omega
 ·have:=i k (.inr (.inl h));omega
 ·have:=i k (.inr (.inr h));omega
 ·exact⟨q,s⟩
theorem zv9 (h:KC W w O pb nb c N):
  Calls prog 21 #[yx pb] w fun r g=>r= .returned (.tuple #[.int .i64 c.size,qo c.root])∧zq N [zbx] w g∧KC W g O pb nb c N:=by
 obtain⟨j,n,m,A,i,a,d,l⟩:=h.rest;refine(z1e W O A i j nb n m c pb w d a).mono ?_;rintro r g ⟨rfl,e,p⟩;exact⟨rfl,e.mono (fun b o=>l b (.inr (.inr (.inl o)))) (fun _ h=>h),⟨j,n,m,A,i,e.keep a (by decide),d.trusted e p,l⟩,fun k f=>⟨(h.own k f).1,zx (h.own k f).2.1 e.size,(h.own k f).2.2⟩⟩
theorem yc5 {fs:Fs}{a:Nt}(p:zc)(d:∀ f∈fs,f.2.length≤1048576)(h:∀ l∈a.lies,l.data.length≤1048576):(yz fs a p).1.1.length≤1048576:=by
 unfold yz;cases e:zk4 a p with
 | some k =>
  have:=(zwd e).1;simp only;have g:a.lies.getD k .none∈a.lies:=by
   rw [zl,zt this];exact yd _
  exact h _ g
 | none =>
  simp only;cases b:je fs p with
  | none=>simp
  | some x =>
   obtain⟨f,c,rfl⟩:=ycw b;exact d f c
theorem zs7 (fs:Fs)(a:Nt)(p:zc):(yz fs a p).2.lies=a.lies:=by
 unfold yz;cases zk4 a p with
 | some k=>rfl
 | none =>
  simp only;cases je fs p<;>rfl
theorem zs3 (u:Nat→Addr)(Q:Env W)(S:zbz W u)(z:zjx W){n:Nt}{t:Nat}(h:KC W w O pb nb c N)(D:Sh W w O nb db d n)(g:KI c t)(ht:t≤1000000)(hf:n.fetches+40000 < 4611686018427387904)(V:c.key.length≤9223372036854775807)(X:∀ f∈d.fs,f.2.length≤1048576)(Z:∀ l∈n.lies,l.data.length≤1048576):
  Calls prog 19 #[yx pb] w fun r j=>∃ q o a b x,zkt c.key (yz d.fs n cpP).1 q∧zi8 (yz d.fs) zc7 c (yz d.fs n cpP).2 q=(o,a,b)∧KI a (t+1)∧(a.key=c.key∧a.room=c.room)∧(b.lies=n.lies∧n.fetches≤b.fetches∧b.fetches≤n.fetches+20000) ∧
   (∀ e,o= .inl e→a.size=c.size∧a.root=c.root∧3≤e.n∧e.n≤6) ∧
   (∀ ps,o= .inr ps→c.size≤a.size∧((c.size=0∨a.size=c.size)→ps=[])∧(a.size=c.size→a.root=c.root)∧(0 < c.size→c.size < a.size→zc7 c.size a.size c.root a.root ps=true)) ∧
   r= .returned (.tuple #[x,zl0 (ze9 o).2])∧j.ownsRow w.heap.size 9 1 x (ze9 o).1.length ((ze9 o).1.map txt)∧(ze9 o).1.length≤65∧(∀ p∈(ze9 o).1,p.length=8) ∧
   zq (fun k=>O k∨N k) kcT w j∧Sh W j O nb db d b∧KC W j O pb nb a (jz N w j):=by
 obtain⟨L,pm,nm,A,K,v,C,R⟩:=h.rest;refine(yiz W u O A K L nb db pm nm d c n pb w Q S z C D v (by omega) g.sz (by omega) (yc5 cpP X Z) (by have:=g.len;omega) g.gd.wf).mono ?_;rintro r j ⟨q,H,B,x,rfl,J,G⟩;have i:=z5z (fe:=yz d.fs) (con:=zc7) c (yz d.fs n cpP).2 q;have T:=zh6 d.fs n cpP;obtain⟨M,E,F⟩:=z3p B v R h.own (fun k U=>(D.own k U).2) D.base.size;have Y:=fun o a b (e:zi8 (yz d.fs) zc7 c (yz d.fs n cpP).2 q=(o,a,b))=>ycn (fe:=yz d.fs) (s:=(yz d.fs n cpP).2) (I:=fun x:Nt=>x.lies=n.lies) (fun s p h=>(zs7 d.fs s p).trans h) (zs7 d.fs n cpP) (fun x:Nt=>x.fetches) (zh6 d.fs) zc7 g (q:=q) (fun m r e=>by
  subst e;obtain⟨-,h1,P,-⟩:=H;exact⟨by omega,P⟩) e
 obtain⟨o,a,b,y⟩:∃ o a b,zi8 (yz d.fs) zc7 c (yz d.fs n cpP).2 q=(o,a,b):=⟨_,_,_,rfl⟩;obtain⟨u1,u0,u2,u3,u4,u5,u6,u7⟩:=Y o a b y;rw [y] at E F J i G ⊢;exact⟨q,o,a,b,x,H,y,u1,⟨u2,u3⟩,⟨u0,by omega,by omega⟩,u6,u7,rfl,J,i,G,M,E,F⟩
def ymt {α:Type}(o:Sum Er α):Bool:=match o with
 | .inl _=>true
 | .inr _=>false
theorem z01 (m:Nat→Addr)(hE:Env W)(hS:zbz W m)(S:zjx W){n:Nt}{t:Nat}(h:KC W w O pb nb c N)(P:Sh W w O nb db d n)(u:KI c t)(ht:t≤1000000)(hf:n.fetches+40000 < 4611686018427387904)(i:Nat)(T:i < c.size):
  Calls prog 26 #[yx pb,.int .i64 i] w fun r E=>∃ o j z M x,zbd (yz d.fs) zfw c n i=(o,j,z)∧KI j (t+1)∧(j.key=c.key∧j.size=c.size∧j.root=c.root∧j.room=c.room)∧(z.lies=n.lies∧n.fetches≤z.fetches∧z.fetches≤n.fetches+20000) ∧
   (∀ e ps,o= .inr (e,ps)→e.length≤20∧zfw (zae e) i c.size ps c.root=true)∧(∀ e,o= .inl e→3≤e.n∧e.n≤6) ∧
   r= .returned (.tuple #[qo (zhi o).1,.bool M,x,zl0 (zhi o).2.2])∧(M=true→(zhi o).1=[])∧(∀ e,o= .inl e→M=true)∧E.ownsRow w.heap.size 9 1 x (zhi o).2.1.length ((zhi o).2.1.map txt)∧(zhi o).2.1.length≤65∧(∀ p∈(zhi o).2.1,p.length=8) ∧
   zq (fun k=>O k∨N k) kcT w E∧Sh W E O nb db d z∧KC W E O pb nb j (jz N w E):=by
 obtain⟨Z,pm,nm,A,Y,L,V,hN⟩:=h.rest;have J:Below w.heap.size w (w.alloc zpi):=zk _ _;have X:=yl4 W m O A Y Z nb db pm nm d c n i _ hE hS S (V.below J) (P.below J) (by omega) u.sz T (fun p m' e=>by have:=(z3q u T p m' e).1;omega) (by have:=u.len;omega) u.gd.wf;have U:=z8i (fe:=yz d.fs) (inc:=zfw) c n i;have hl:=ydx (fe:=yz d.fs) (inc:=zfw) c n i;have hu:=fun o j z (e:zbd (yz d.fs) zfw c n i=(o,j,z))=>ylf (fe:=yz d.fs) (s:=n) (I:=fun x:Nt=>x.lies=n.lies) (fun s p h=>(zs7 d.fs s p).trans h) rfl (fun x:Nt=>x.fetches) (zh6 d.fs) zfw u T e;have K:∀ e,(zbd (yz d.fs) zfw c n i).1= .inl e→3≤e.n∧e.n≤6:=by
  intro e b;unfold zbd at b;cases hn:zaq (yz d.fs) c.proved c.size ⟨n,[]⟩ (-1) i with
  | mk o1 m1 =>
   rw [hn] at b;cases o1 with
   | inl p=>simp only [Sum.inl.injEq] at b;subst b;exact⟨by show(3:Int)≤6;omega,by show(6:Int)≤6;omega⟩
   | inr aa =>
    simp only at b;cases X:qx (yz d.fs) c.proved c.size m1 (qz 64 0 c.size i) with
    | mk o2 m2 =>
     rw [X] at b;cases o2 with
     | inl p=>simp only [Sum.inl.injEq] at b;subst b;exact⟨by show(3:Int)≤6;omega,by show(6:Int)≤6;omega⟩
     | inr ps =>
      simp only at b;split at b
      ·simp at b
      ·simp only [Sum.inl.injEq] at b;subst b;exact⟨by show(3:Int)≤5;omega,by show(5:Int)≤6;omega⟩
 generalize zbd (yz d.fs) zfw c n i=R at *;obtain⟨o,j,z⟩:=R;obtain⟨u1,u0,u2,u3,u4,u5,u6,u7,u8⟩:=hu o j z rfl;simp only at *;refine(z8c W m O A Y Z nb db pm nm d j z pb (i:Int) w (zhi o).1 (zhi o).2.1 (zhi o).2.2 (ymt o) hS P.base.size L hl (X.mono ?_)).mono ?_
 ·rintro r w2 ⟨l,B⟩;rw [← U] at l;cases o with
  | inl e =>
   rcases B with ⟨e',ps,x,v,b,-⟩ | ⟨p,g,b,G,rfl⟩ | ⟨b,rfl⟩
   ·simp at b
   ·obtain⟨x,v,Q,f,C,q,D,H⟩:=zoh.tell (.inr (.inl ⟨p,g,b,G,rfl⟩):zoh m (w.alloc zpi).heap.size w2 (.inl e) _);simp only [zlj,zqg] at f;have F:=congrArg (fun a:Array Value=>a[0]?) f;simp only [jw,zea,zr] at F;subst F;exact⟨l,_,v,Q,by rw [f],C,q,D,H,fun _=>rfl⟩
   ·obtain⟨x,v,Q,f,C,q,D,H⟩:=zoh.tell (.inr (.inr ⟨b,rfl⟩):zoh m (w.alloc zpi).heap.size w2 (.inl e) _);simp only [zlj,zqg] at f;have F:=congrArg (fun a:Array Value=>a[0]?) f;simp only [jw,zea,zr] at F;subst F;exact⟨l,_,v,Q,by rw [f],C,q,D,H,fun _=>rfl⟩
  | inr y =>
   obtain⟨x,v,e,rfl,C,G,D,H⟩:=B.tell;exact⟨l,x,v,e,rfl,C,G,D,H,fun h=>by simp [ymt] at h⟩
 ·rintro r E ⟨l,M,x,C,G,q,D,h8⟩;obtain⟨g1,g2,g3⟩:=z3p l L hN h.own (fun k U=>(P.own k U).2) P.base.size;exact⟨o,j,z,M,x,rfl,u1,⟨u2,u3,u4,u5⟩,⟨u0,u6,by omega⟩,u8,K,C,G,fun e b=>q (by rw [b];rfl),D,hl,h8,g1,g2,g3⟩
end Go.Proofs.YtlcllcgngjhoaaaGreatDoor
