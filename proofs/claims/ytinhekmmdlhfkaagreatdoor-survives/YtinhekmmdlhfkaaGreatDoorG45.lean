import Derived.Test.YtinhekmmdlhfkaaGreatDoorG44
import Derived.Test.YtinhekmmdlhfkaaGreatDoorG25
import Derived.Test.YtinhekmmdlhfkaaGreatDoorG43
namespace Go.Proofs.YtinhekmmdlhfkaaGreatDoor
section
def LfQ (p:Pl)(_:Nat)(c:Pc):Prop:=p.1=-1→c.hash=qu c.entry∧c.entry.length≤20
theorem zlw (p:Pl)(k:Nat)(c:Pc)(b:Bool)(h:LfQ p k c):LfQ p k { c with fits:=b }:=h
theorem z7m {d:List UInt8}{ls:List (List UInt8)}(h:zch d=some ls):∀ l∈ls,l.length≤20:=by
 unfold zch at h
 cases e:unb d with
 | none=>rw [e] at h;simp at h
 | some x =>
  rw [e] at h
  simp only at h
  split at h
  ·rename_i ho
   simp only [Option.some.injEq] at h
   subst h
   intro l hl
   have:=ho
   unfold okB at this
   simp only [Bool.and_eq_true,List.all_eq_true,decide_eq_true_eq] at this
   exact this.2.2 l hl
  ·simp at h
theorem z3r {V:Pl→Nat→Pc→Prop}{p:Pl}{f:Fl}{w:Int}(h:zt8 w f)(hv:∀ k,k < 4→(f.getD k .no).there=true→V p k (f.getD k .no)):GdF V p f :=
 ⟨h.len,fun k hk=>⟨fun hf=>by rw [h.fits] at hf;simp at hf,hv k hk⟩⟩
theorem z0z {l w:Int}{d:List UInt8}{f:Fl}(p:Pl)(hp:p.1=l)(h:zbu l w d=some f):GdF LfQ p f:=by
 refine z3r (zh5 h) fun k hk ht hl=>?_
 rw [hp] at hl
 unfold zbu at h
 rw [if_pos hl] at h
 cases hu:zch d with
 | none=>rw [hu] at h;simp at h
 | some es =>
  rw [hu] at h
  simp only at h
  split at h
  ·simp only [Option.some.injEq] at h
   subst h
   rw [zhf _ _ hk] at ht ⊢
   by_cases hke:k < es.length
   ·rw [if_pos hke]
    refine⟨rfl,?_⟩
    have:es.getD k []∈es:=by
     rw [List.getD_eq_getElem?_getD,List.getElem?_eq_getElem hke]
     exact List.getElem_mem _
    exact z7m hu _ this
   ·rw [if_neg hke] at ht
    simp [Pc.no] at ht
  ·simp at h
theorem z1h {V:Pl→Nat→Pc→Prop}{p:Pl}{f:Fl}{w:Int}(hw:w≤4)(h:GdF V p f):GdF V p (zft w f) :=
 ⟨zpg w f h.1 hw,fun k hk=>by
  rw [zkg]
  split
  ·exact h.2 k hk
  ·exact zof V p k⟩
section
variable {σ : Type} {fe : σ → List UInt8 → (List UInt8 × Bool) × σ}
theorem zoh {s s':σ}{p q:Pl}{f:Fl}(hq:q.1=p.1)(h:yw fe s p=(some f,s')):GdF LfQ q f:=by
 unfold yw at h
 simp only [Prod.mk.injEq] at h
 obtain⟨h,-⟩:=h
 split at h
 ·exact z0z q hq h
 ·simp at h
theorem z1r {s s':σ}{p:Pl}{f:Fl}(hp:p.2.2≤4)(h:qy fe s p=(some f,s')):GdF LfQ p f:=by
 unfold qy at h
 cases e1:yw fe s p with
 | mk o s1 =>
  rw [e1] at h
  cases o with
  | some g =>
   simp only [Prod.mk.injEq,Option.some.injEq] at h
   obtain⟨rfl,-⟩:=h
   exact zoh rfl e1
  | none =>
   simp only at h
   split at h
   ·simp at h
   ·cases e2:yw fe s1 (p.1,p.2.1,4) with
    | mk o2 s2 =>
     rw [e2] at h
     cases o2 with
     | none=>simp at h
     | some g =>
      simp only [Prod.mk.injEq,Option.some.injEq] at h
      obtain⟨rfl,-⟩:=h
      exact z1h hp (zoh (p:=(p.1,p.2.1,4)) (q:=p) rfl e2)
theorem zv3 {I:σ→Prop}(hI:∀ s p,I s→I (fe s p).2)(size:Nat):Fed fe I LfQ size where
 bare:=zlw
 keep:=hI
 came:=fun s l j f s' _ _ _ h=>z1r (by unfold zi;simp;omega) h
end
theorem zfl (size:Nat):∀(f:Nat) (nd:Mm) (l j:Nat) (h:List UInt8),GdM LfQ nd→GdM LfQ (xo size f nd l j h):=by
 intro f
 induction f with
 | zero=>intro nd l j h hn;exact hn
 | succ f ih =>
  intro nd l j h hn
  rw [xo]
  cases hg:nd.get (zi size (l:Int) j) with
  | none=>exact hn
  | some fl =>
   simp only
   have hF:GdF LfQ (zi size (l:Int) j) (fl.set (j % 4) ⟨true,true,h,[]⟩):=(hn.get hg).set ⟨fun _=>rfl,fun _ e=>by
    have:((l:Nat):Int)=-1:=e
    omega⟩
   have hS:=hn.set hF
   cases hr:ziv (fl.set (j % 4) ⟨true,true,h,[]⟩) with
   | none=>exact hS
   | some up=>exact ih _ (l+1) (j / 4) up hS
theorem zvp (size:Nat)(nd:Mm)(i:Nat)(leaf:List UInt8)(h:GdM LfQ nd):GdM LfQ (jw size nd i leaf):=zk4 zlw size nd i leaf (zfl size 64 nd 0 i leaf h)
theorem zvy (size:Nat)(nd:Mm)(old:Nat)(root:List UInt8)(hn:GdM LfQ nd)
  (hth:∀ fl,nd.get (zi size (lvl old:Nat) (old / 4 ^ lvl old - 1))=some fl→old / 4 ^ lvl old - 1≠0→(fl.getD ((old / 4 ^ lvl old - 1) % 4) .no).there=true∧(old / 4 ^ lvl old - 1=1→(fl.getD 0 .no).there=true)):GdM LfQ (zaq size nd old root):=by
 unfold zaq
 cases hg:nd.get (zi size (lvl old:Nat) (old / 4 ^ lvl old - 1)) with
 | none=>exact hn
 | some fl =>
  simp only
  have hh:=hth fl hg
  by_cases c0:old / 4 ^ lvl old - 1=0
  ·rw [if_pos c0]
   exact zfl size 64 nd (lvl old) 0 root hn
  ·rw [if_neg c0]
   obtain⟨g1,g2⟩:=hh c0
   by_cases c1:old / 4 ^ lvl old - 1=1
   ·rw [if_pos c1]
    rw [c1] at hg
    split
    ·exact zfl size 64 _ (lvl old) 1 _ (hn.set ((hn.get hg).fitsAt zlw (g2 c1)))
    ·exact hn
   ·rw [if_neg c1]
    exact zfl size 64 nd (lvl old) _ _ hn
structure KI (c:Cl)(t:Nat):Prop where
 sz:c.size < 9223372036854775808
 gd:GdM LfQ c.proved
 ins:InS c.size c.proved
 len:c.proved.length≤10000*t
 r8:c.root.length=8
theorem z88 (key:List UInt8)(room:Int):KI ⟨key,0,yb [],room,[]⟩ 0 :=
 ⟨by show 0 < _;omega,zb5 _,fun x hx=>by simp at hx,by simp,zp4 _⟩
theorem KI.later {c:Cl}{t t':Nat}(h:KI c t)(ht:t≤t'):KI c t':=⟨h.sz,h.gd,h.ins,by have:=h.len;omega,h.r8⟩
section
variable {σ : Type} {fe : σ → List UInt8 → (List UInt8 × Bool) × σ} {c : Cl} {t : Nat} {s : σ} {i : Nat}
theorem ztl (h:KI c t)(hi:i < c.size):∀ p m',xu fe c.proved c.size ⟨s,[]⟩ (-1) i=(.inr p,m')→p.entry.length≤20∧p.hash=qu p.entry:=by
 intro p m' e
 have hj:i < zz (-1) c.size:=by simpa [zz] using hi
 have:=(zo2 (zv3 (I:=fun _=>True) (fun _ _ _=>trivial) c.size) e h.gd (zb5 _) trivial (by omega) hj).2.2 p rfl
 have:=this.2 rfl
 exact⟨this.2,this.1⟩
theorem z63 {I:σ→Prop}(hI:∀ s p,I s→I (fe s p).2)(hIs:I s)(cnt:σ→Int)(hc:∀ s p,cnt (fe s p).2=cnt s+1)(inc:List UInt8→Nat→Nat→List (List UInt8)→List UInt8→Bool)(h:KI c t)(hi:i < c.size){o:Sum Er (List UInt8×List (List UInt8))}{c':Cl}{s':σ}(e:jd fe inc c s i=(o,c',s')):
  KI c' (t+1)∧I s'∧c'.key=c.key∧c'.size=c.size∧c'.root=c.root∧c'.room=c.room∧cnt s≤cnt s'∧cnt s'≤cnt s+17000∧∀ x ps,o= .inr (x,ps)→x.length≤20∧inc (qu x) i c.size ps c.root=true:=by
 have h63:c.size < 2 ^ 63:=h.sz
 have hj:i < zz (-1) c.size:=by simpa [zz] using hi
 have hS:=zwo (zv3 hI c.size) h.gd cnt hc (cnt s)
 have h0:=zpa I LfQ cnt s hIs
 unfold jd at e
 cases hn:xu fe c.proved c.size ⟨s,[]⟩ (-1) i with
 | mk o1 m1 =>
  rw [hn] at e
  have l1:=hS.step 0 _ _ _ _ _ h0 (by omega) hj hn
  have hk1:=h.later (show t≤t+1 by omega)
  cases o1 with
  | inl p =>
   simp only [Prod.mk.injEq] at e
   obtain⟨rfl,rfl,rfl⟩:=e
   exact⟨hk1,l1.2.1,rfl,rfl,rfl,rfl,l1.2.2.2.1,by have:=l1.2.2.1;omega,fun x ps he=>by cases he⟩
  | inr own =>
   simp only at e
   obtain⟨x20,xl⟩:=ztl h hi own m1 hn
   have hcost:=zkk c.size i h63
   have hin:∀ x∈xp 64 0 c.size i,x.1+x.2≤c.size∧1≤x.2:=fun x hx=>by
    have:=zgp 64 0 c.size i (by omega) x hx
    omega
   cases hr:yh fe c.proved c.size m1 (xp 64 0 c.size i) with
   | mk o2 m2 =>
    rw [hr] at e
    have l2:=zmp hS h63 _ _ _ _ _ l1 hin hr
    have b1:=l2.2.2.1
    have b2:=l2.2.2.2.1
    have b3:=l2.2.2.2.2
    cases o2 with
    | inl p =>
     simp only [Prod.mk.injEq] at e
     obtain⟨rfl,rfl,rfl⟩:=e
     exact⟨hk1,l2.2.1,rfl,rfl,rfl,rfl,b2,by omega,fun x ps he=>by cases he⟩
    | inr ps =>
     simp only at e
     by_cases hy:inc own.hash i c.size ps c.root=true
     ·rw [if_pos hy] at e
      simp only [Prod.mk.injEq] at e
      obtain⟨rfl,rfl,rfl⟩:=e
      have hq:jt fe c.proved c.size ⟨s,[]⟩ ((zi c.size (-1) i,i % 4)::((xp 64 0 c.size i).flatMap fun s=>yi c.size 64 s.1 s.2)) m2:= .cons hj hn (zdv h63 _ _ _ _ hin hr)
      refine⟨⟨h.sz,?_,?_,?_,h.r8⟩,l2.2.1,rfl,rfl,rfl,rfl,b2,by omega,fun x qs he=>?_⟩
      ·exact zcv c.room _ _ h.gd (zvp c.size m2.needed i own.hash l2.1).2
      ·refine InS.remember c.room _ _ h.ins ?_
       refine InS.keys (a:=m2.needed) ?_ (zc7 ..)
       intro x hx
       rcases hq.keys h.gd.wf (zb5 _) x hx with ⟨y,hy,-⟩ | ⟨q,hqm,eq⟩
       ·simp at hy
       ·rw [← eq]
        rcases List.mem_cons.1 hqm with rfl | hqm
        ·exact zdf c.size (-1) i
        ·obtain⟨sp,hsp,hqs⟩:=List.mem_flatMap.1 hqm
         obtain⟨i1,i2⟩:=hin sp hsp
         obtain⟨l',j',e1,-⟩:=zdl c.size h63 63 sp.1 sp.2 i1 i2 (by omega) q hqs
         rw [e1]
         exact zdf c.size _ _
      ·have ek:=congrArg List.length (zc7 c.size m2.needed i own.hash)
       simp only [List.length_map] at ek
       have:=zb2 c.room (jw c.size m2.needed i own.hash) c.proved
       have:=h.len
       simp only
       omega
      ·cases he
       rw [← xl]
       exact⟨x20,hy⟩
     ·rw [if_neg hy] at e
      simp only [Prod.mk.injEq] at e
      obtain⟨rfl,rfl,rfl⟩:=e
      exact⟨hk1,l2.2.1,rfl,rfl,rfl,rfl,b2,by omega,fun x ps he=>by cases he⟩
theorem z0m {I:σ→Prop}(hI:∀ s p,I s→I (fe s p).2)(hIs:I s)(cnt:σ→Int)(hc:∀ s p,cnt (fe s p).2=cnt s+1)(con:Nat→Nat→List UInt8→List UInt8→List (List UInt8)→Bool)(h:KI c t){q:Option (Nat×List UInt8)}(hq:∀ n r,q=some (n,r)→n < 9223372036854775808∧r.length=8){o:Sum Er (List (List UInt8))}{c':Cl}{s':σ}(e:zdp fe con c s q=(o,c',s')):
  KI c' (t+1)∧I s'∧c'.key=c.key∧c'.room=c.room∧cnt s≤cnt s'∧cnt s'≤cnt s+17000∧(∀ x,o= .inl x→c'.size=c.size∧c'.root=c.root∧3≤x.n∧x.n≤6) ∧
   ∀ ps,o= .inr ps→c.size≤c'.size∧((c.size=0∨c'.size=c.size)→ps=[])∧(c'.size=c.size→c'.root=c.root)∧(0 < c.size→c.size < c'.size→con c.size c'.size c.root c'.root ps=true):=by
 have hk1:=h.later (show t≤t+1 by omega)
 unfold zdp at e
 cases q with
 | none =>
  simp only [Prod.mk.injEq] at e
  obtain⟨rfl,rfl,rfl⟩:=e
  exact⟨hk1,hIs,rfl,rfl,Int.le_refl _,by omega,fun x he=>by cases he;exact⟨rfl,rfl,by show(3:Int)≤3;omega,by show(3:Int)≤6;omega⟩,fun ps he=>by cases he⟩
 | some y =>
  obtain⟨n,r⟩:=y
  obtain⟨hn63,hr8⟩:=hq n r rfl
  have h63:n < 2 ^ 63:=hn63
  simp only at e
  unfold qi at e
  by_cases h1:n < c.size
  ·rw [if_pos h1] at e
   simp only [Prod.mk.injEq] at e
   obtain⟨rfl,rfl,rfl⟩:=e
   exact⟨hk1,hIs,rfl,rfl,Int.le_refl _,by omega,fun x he=>by cases he;exact⟨rfl,rfl,by show(3:Int)≤4;omega,by show(4:Int)≤6;omega⟩,fun ps he=>by cases he⟩
  rw [if_neg h1] at e
  by_cases h2:n=c.size
  ·rw [if_pos h2] at e
   by_cases h3:r=c.root
   ·rw [if_pos h3] at e
    simp only [Prod.mk.injEq] at e
    obtain⟨rfl,rfl,rfl⟩:=e
    subst h2 h3
    exact⟨⟨h.sz,h.gd,h.ins,hk1.len,h.r8⟩,hIs,rfl,rfl,Int.le_refl _,by omega,fun x he=>(by cases he),fun ps he=>by cases he;exact⟨Nat.le_refl _,fun _=>rfl,fun _=>rfl,fun _ hh=>absurd hh (Nat.lt_irrefl _)⟩⟩
   ·rw [if_neg h3] at e
    simp only [Prod.mk.injEq] at e
    obtain⟨rfl,rfl,rfl⟩:=e
    exact⟨hk1,hIs,rfl,rfl,Int.le_refl _,by omega,fun x he=>by cases he;exact⟨rfl,rfl,by show(3:Int)≤5;omega,by show(5:Int)≤6;omega⟩,fun ps he=>by cases he⟩
  rw [if_neg h2] at e
  by_cases h4:c.size=0
  ·rw [if_pos h4] at e
   simp only [Prod.mk.injEq] at e
   obtain⟨rfl,rfl,rfl⟩:=e
   exact⟨⟨hn63,h.gd,h.ins.more (by omega),hk1.len,hr8⟩,hIs,rfl,rfl,Int.le_refl _,by omega,fun x he=>(by cases he),fun ps he=>by cases he;exact⟨(show c.size≤n by omega),fun _=>rfl,fun(hh:n=c.size)=>absurd hh h2,fun hh=>by omega⟩⟩
  rw [if_neg h4] at e
  have hS:=zwo (zv3 hI n) h.gd cnt hc (cnt s)
  have h0:=zpa I LfQ cnt s hIs
  have hcost:=zj5 c.size n h63 (by omega) (by omega)
  have hin:∀ x∈xr 64 c.size 0 n true,x.1+x.2≤n∧1≤x.2:=fun x hx=>by
   have:=zgg 64 c.size 0 n true (by omega) (by omega) (by omega) (by omega) x hx
   omega
  cases hr:yh fe c.proved n ⟨s,[]⟩ (xr 64 c.size 0 n true) with
  | mk o2 m2 =>
   rw [hr] at e
   have l2:=zmp hS h63 _ _ _ _ _ h0 hin hr
   have b1:=l2.2.2.1
   have b2:=l2.2.2.2.1
   have b3:=l2.2.2.2.2
   cases o2 with
   | inl p =>
    simp only [Prod.mk.injEq] at e
    obtain⟨rfl,rfl,rfl⟩:=e
    exact⟨hk1,l2.2.1,rfl,rfl,b2,by omega,fun x he=>by cases he;exact⟨rfl,rfl,by show(3:Int)≤6;omega,by show(6:Int)≤6;omega⟩,fun ps he=>by cases he⟩
   | inr ps =>
    simp only at e
    by_cases hy:con c.size n c.root r ps=true
    ·rw [if_pos hy] at e
     simp only [Prod.mk.injEq] at e
     obtain⟨rfl,rfl,rfl⟩:=e
     have hq:jt fe c.proved n ⟨s,[]⟩ ((xr 64 c.size 0 n true).flatMap fun s=>yi n 64 s.1 s.2) m2:=zdv h63 _ _ _ _ hin hr
     refine⟨⟨hn63,?_,?_,?_,hr8⟩,l2.2.1,rfl,rfl,b2,by omega,fun x he=>(by cases he),fun qs he=>?_⟩
     ·exact zcv c.room _ _ h.gd (zvy n m2.needed c.size c.root l2.1 (zlr h63 (by omega) (by omega) h.gd.wf h.ins hq)).2
     ·refine InS.remember c.room _ _ (h.ins.more (show c.size≤n by omega)) ?_
      refine InS.keys (a:=m2.needed) ?_ (zc9 ..)
      intro x hx
      rcases hq.keys h.gd.wf (zb5 _) x hx with ⟨y,hy,-⟩ | ⟨q,hqm,eq⟩
      ·simp at hy
      ·rw [← eq]
       obtain⟨sp,hsp,hqs⟩:=List.mem_flatMap.1 hqm
       obtain⟨i1,i2⟩:=hin sp hsp
       obtain⟨l',j',e1,-⟩:=zdl n h63 63 sp.1 sp.2 i1 i2 (by omega) q hqs
       rw [e1]
       exact zdf n _ _
     ·have ek:=congrArg List.length (zc9 n m2.needed c.size c.root)
      simp only [List.length_map] at ek
      have:=zb2 c.room (zaq n m2.needed c.size c.root) c.proved
      have:=h.len
      simp only
      omega
     ·cases he
      exact⟨(show c.size≤n by omega),fun hh=>hh.elim (fun hh=>absurd hh h4) (fun(hh:n=c.size)=>absurd hh h2),fun(hh:n=c.size)=>absurd hh h2,fun _ _=>hy⟩
    ·rw [if_neg hy] at e
     simp only [Prod.mk.injEq] at e
     obtain⟨rfl,rfl,rfl⟩:=e
     exact⟨hk1,l2.2.1,rfl,rfl,b2,by omega,fun x he=>by cases he;exact⟨rfl,rfl,by show(3:Int)≤5;omega,by show(5:Int)≤6;omega⟩,fun ps he=>by cases he⟩
end
end
section
def jj (d:Dk):Prop:=d.failAt=0∧d.dead=false∧d.hit=false
theorem jj.enter {d:Dk}(h:jj d):jj (ye d):=by
 obtain⟨h1,h2,h3⟩:=h
 unfold ye
 rw [h2,if_neg (by simp),if_neg (by omega)]
 exact⟨h1,rfl,h3⟩
theorem jj.files {d:Dk}(h:jj d)(fs:Fs):jj { d with fs:=fs }:=h
theorem jj.put {d:Dk}(h:jj d)(p x:List UInt8):jj (zab d p x):=by
 unfold zab
 split
 ·split
  ·split
   ·exact h.enter.files _
   ·exact h.enter
  ·exact⟨h.enter.1,h.enter.2.1,h.enter.2.2⟩
 ·split
  ·exact h.enter.files _
  ·exact h.enter
theorem jj.puts:∀(l:Fs) {d:Dk} ,jj d→jj (qa l d).2
 | [],_,h=>h
 | f::r,d,h=>by
  unfold qa
  split
  ·exact h.put _ _
  ·exact jj.puts r (h.put _ _)
theorem jj.swap {d:Dk}(h:jj d)(p x:List UInt8):jj (zbv d p x):=by
 unfold zbv
 split
 ·exact h.enter.files _
 ·exact h.enter
theorem jj.pub {d:Dk}(h:jj d)(yj:Fs)(c:List UInt8):jj (qt yj c d).2:=by
 have h1:=h.puts yj
 unfold qt
 generalize qa yj d=r at *
 obtain⟨o,d1⟩:=r
 cases o with
 | some p=>exact h1
 | none =>
  simp only
  split
  ·exact h1.swap _ _
  ·exact h1.swap _ _
theorem zju {before xj:Fs}(h:ve before xj):zm3 before xj=false:=by
 unfold zm3
 rw [List.any_eq_false]
 intro f hf
 rcases h f.1 f.2 hf with e | e<;>rw [e]<;>simp
def Chp (fs:Fs)(es:List (List UInt8))(pub:Nat)(key:List UInt8):Prop :=
 pub≤es.length∧((zx fs cpF=none∧pub=0)∨(zx fs cpF=some (xn pub (yb (es.take pub)) key)∧zaa fs es pub))
theorem zq5 (fs:Fs)(es:List (List UInt8)):zaa fs es 0:=fun f hf=>absurd hf (by rw [List.take_zero];exact zga)
theorem Chp.all {fs:Fs}{es:List (List UInt8)}{pub:Nat}{key:List UInt8}(h:Chp fs es pub key):zaa fs es pub:=by
 rcases h.2 with ⟨-,rfl⟩ | ⟨-,h⟩
 ·exact zq5 _ _
 ·exact h
theorem zaa.more {fs:Fs}{es:List (List UInt8)}{n:Nat}(h:zaa fs es n)(hn:n≤es.length)(more:List (List UInt8)):zaa fs (es++more) n:=fun f hf=>h f (by rw [List.take_append_of_le_length hn] at hf;exact hf)
theorem Chp.more {fs:Fs}{es:List (List UInt8)}{pub:Nat}{key:List UInt8}(h:Chp fs es pub key)(more:List (List UInt8)):Chp fs (es++more) pub key:=by
 refine⟨by have:=h.1;simp;omega,?_⟩
 rcases h.2 with h1 | ⟨h1,h2⟩
 ·exact .inl h1
 ·exact .inr ⟨by rw [List.take_append_of_le_length h.1];exact h1,h2.more h.1 more⟩
end
section
open Go.RowKit
set_option maxRecDepth 100000
theorem z73:cpP=cpF:=by decide
theorem z3j {fs:Fs}{es:List (List UInt8)}{pub:Nat}{key:List UInt8}{net:Nt}{o:Option (Nat×List UInt8)}(h:Chp fs es pub key)(hn:net.lies=[])(hp:pub≤9223372036854775807)(ho:zkx key (zq fs net cpP).1 o):
  (zq fs net cpP).2={ net with fetches:=net.fetches+1 }∧((zx fs cpF=none∧pub=0∧o=none)∨(zx fs cpF≠none∧zaa fs es pub∧o=some (pub,yb (es.take pub)))):=by
 rw [z73,zh9 fs net hn] at *
 rcases h.2 with ⟨h1,h2⟩ | ⟨h1,h2⟩
 ·rw [h1] at ho ⊢
  refine⟨rfl,.inl ⟨rfl,h2,?_⟩⟩
  cases o with
  | none=>rfl
  | some x=>exact absurd ho.1 (by simp)
 ·rw [h1] at ho ⊢
  refine⟨rfl,.inr ⟨by simp,h2,?_⟩⟩
  exact zkx.yes ho ⟨hp,zp4 _,rfl⟩
theorem zyn {fs:Fs}{p x:List UInt8}(h:zx fs p=some x):∃ f∈fs,f.2=x:=by
 cases e:ixF fs p with
 | none=>rw [(zb3 e).1] at h;simp at h
 | some k =>
  obtain⟨hk,-,h2,-⟩:=zbg e
  rw [h] at h2
  exact⟨fs[k],List.getElem_mem hk,by simpa using h2.symm⟩
theorem z0f (es:List (List UInt8))(hl:es.length < 4 ^ 21):∀ size i,size≤es.length→i < size→zav (qu (es.getD i [])) i size (zkv es size i) (yb (es.take size))=true:=by
 intro size i h hi
 unfold zav
 rw [zwm (by omega),Int.toNat_natCast,Int.toNat_natCast,z4j yf es size i h (by omega) hi]
 simp only [Bool.true_and]
 simp [eqH]
theorem zyz (es:List (List UInt8))(hl:es.length < 4 ^ 21):∀ a b,0 < a→a≤b→b≤es.length→za5 a b (yb (es.take a)) (yb (es.take b)) (zi3 es a b)=true:=by
 intro a b h0 h1 h2
 unfold za5
 rw [zws (by omega),Int.toNat_natCast,Int.toNat_natCast,z4m yf es a b h2 (by omega) h0 h1]
 simp only [Bool.true_and,Bool.and_eq_true]
 exact⟨by simp [eqH],by simp [eqH]⟩
theorem zrw {fs:Fs}{es:List (List UInt8)}{pub t:Nat}{key:List UInt8}{c:Cl}{net:Nt}{q:Option (Nat×List UInt8)}(h:Chp fs es pub key)(hn:net.lies=[])(h20:∀ e∈es,e.length≤20)(hl:es.length < 4 ^ 21)(h0:0 < pub)(hci:CI es c t)(hle:c.size≤pub)(hk:c.key=key)(hq:zkx c.key (zq fs net cpP).1 q):
  ∃ c' n',zdp (zq fs) za5 c (zq fs net cpP).2 q=(.inr (if 0 < c.size∧c.size < pub then zi3 es c.size pub else []),c',n')∧c'.size=pub∧CI es c' (t+1):=by
 rw [hk] at hq
 have hpl:pub≤es.length:=h.1
 obtain⟨e,hc⟩:=z3j h hn (by omega) hq
 rcases hc with ⟨-,h1,-⟩ | ⟨-,hall,rfl⟩
 ·omega
 ·obtain⟨c',n',h1,⟨-,h2,-⟩,h3,-⟩:=z0a (n:={ net with fetches:=net.fetches+1 }) za5 (zyz es hl) h20 hl hall hn hci hle hpl
  exact⟨c',n',by rw [e];exact h1,h2,h3⟩
theorem zzs {fs:Fs}{es:List (List UInt8)}{t i:Nat}{c:Cl}{net:Nt}(hall:zaa fs es c.size)(hn:net.lies=[])(h20:∀ e∈es,e.length≤20)(hl:es.length < 4 ^ 21)(hci:CI es c t)(hi:i < c.size):
  ∃ c' n',jd (zq fs) zav c net i=(.inr (es.getD i [],zkv es c.size i),c',n')∧CI es c' (t+1):=by
 obtain⟨m,-,-,-,-,h5,h6⟩:=z5f zav (z0f es hl) h20 hl hall hn hci hi
 exact⟨_,_,h5,h6⟩
end
section
open Go.RowKit
set_option maxRecDepth 100000
abbrev kcT:List Nat:=qw::clT
structure KC (W0 w:World)(O:Nat→Prop)(pb nb:Nat)(c:Cl)(N:Nat→Prop):Prop where
 rest:∃ cb pm nm A OP,zz8 w pb cb∧Pv W0 w O A OP cb nb pm nm c∧(∀ k,A k∨OP k∨k=cb∨k=pb→N k)
 own:∀ k,N k→W0.heap.size≤k∧k < w.heap.size∧¬ O k
theorem KC.other {W0 w w':World}{O M N:Nat→Prop}{T:List Nat}{pb nb:Nat}{c:Cl}(h:KC W0 w O pb nb c N)(ht:zf M T w w')(hd:∀ k,N k→¬ M k)(hu:5∉T):KC W0 w' O pb nb c N:=by
 obtain⟨cb,pm,nm,A,OP,h2,h3,h9⟩:=h.rest
 refine⟨⟨cb,pm,nm,A,OP,ht.stay h2 (hd _ (h9 pb (by simp))),h3.other ht (fun b hb=>hd b (h9 b ?_)) hu,h9⟩,fun k hk=>⟨(h.own k hk).1,Nat.lt_of_lt_of_le (h.own k hk).2.1 ht.size,(h.own k hk).2.2⟩⟩
 rcases hb with hb | hb | hb
 ·exact .inl hb
 ·exact .inr (.inl hb)
 ·exact .inr (.inr (.inl hb))
theorem KC.grow {W0 w:World}{O O' N:Nat→Prop}{pb nb:Nat}{c:Cl}(h:KC W0 w O pb nb c N)(hO:∀ k,N k→¬ O' k):KC W0 w O' pb nb c N:=by
 obtain⟨cb,pm,nm,A,OP,h2,h3,h9⟩:=h.rest
 refine⟨⟨cb,pm,nm,A,OP,h2,h3.grow (fun b hb=>hO b (h9 b ?_)),h9⟩,fun k hk=>⟨(h.own k hk).1,(h.own k hk).2.1,hO k hk⟩⟩
 rcases hb with hb | hb | hb
 ·exact .inl hb
 ·exact .inr (.inl hb)
 ·exact .inr (.inr (.inl hb))
theorem KC.below {W0 w w':World}{O N:Nat→Prop}{pb nb:Nat}{c:Cl}(h:KC W0 w O pb nb c N)(hb:Below w.heap.size w w'):KC W0 w' O pb nb c N :=
 h.other (M:=fun _=>False) (T:=[]) (.of_below hb) (fun _ _ h=>h) (by simp)
theorem ztj {W w w1:World}{O A OP N:Nat→Prop}{cb nb db pm nm pb:Nat}{d:Dk}{c':Cl}{n':Nt}{P:(Nat→Prop)→Prop}(hcr:CR W w w1 O A OP cb nb db pm nm d c' n' P)(hpc:zz8 w pb cb)(hN:∀ k,A k∨OP k∨k=cb∨k=pb→N k)(hown:∀ k,N k→W.heap.size≤k∧k < w.heap.size∧¬ O k)(hO:∀ k,O k→k < w.heap.size)(hW:W.heap.size≤w.heap.size):
  zf (fun k=>O k∨N k) kcT w w1∧Sh W w1 O nb db d n'∧KC W w1 O pb nb c' (Ext N w w1):=by
 obtain⟨A',OP',hA,hOP,hpv,-⟩:=hcr.rest
 have s1:=hcr.turn.size
 refine⟨hcr.turn.mono (fun k hk=>?_) (fun _ h=>h),hcr.sh,⟨cb,pm,nm,A',OP',hcr.turn.keep hpc (by decide),hpv,fun k hk'=>?_⟩,fun k hk'=>?_⟩
 ·rcases hk with h | h | h | h
  ·exact .inl h
  ·exact .inr (hN k (.inl h))
  ·exact .inr (hN k (.inr (.inl h)))
  ·exact .inr (hN k (.inr (.inr (.inl h))))
 ·rcases hk' with h | h | h | h
  ·rcases hA.2 k h with h | h
   ·exact .inl (hN k (.inl h))
   ·exact .inr ⟨h.1,by omega⟩
  ·rcases hOP.2 k h with h | h
   ·exact .inl (hN k (.inr (.inl h)))
   ·exact .inr ⟨h.1,by omega⟩
  ·exact .inl (hN k (.inr (.inr (.inl h))))
  ·exact .inl (hN k (.inr (.inr (.inr h))))
 ·rcases hk' with h | h
  ·have:=hown k h
   exact⟨this.1,by omega,this.2.2⟩
  ·exact⟨by omega,h.2,fun e=>by have:=hO k e;omega⟩
theorem z8o (W0:World)(O:Nat→Prop)(nb:Nat)(key:List UInt8)(room:Int)(w:World)(hb0:W0.heap.size≤w.heap.size)(hO:∀ b,O b→b < w.heap.size):
  Calls Tryz.prog 16 #[zt nb,txv key,.int .i64 room] w fun r w'=>∃ pb,r= .returned (zt pb)∧Below w.heap.size w w'∧KC W0 w' O pb nb ⟨key,0,yb [],room,[]⟩ (fun k=>w.heap.size≤k∧k < w'.heap.size):=by
 refine(zxv W0 O nb key room w hb0 hO).mono ?_
 rintro r w' ⟨pb,cb,pm,nm,A,OP,rfl,hb,h1,h2,h3,h4,h5⟩
 refine⟨pb,rfl,hb,⟨cb,pm,nm,A,OP,h4,h5,fun k hk=>?_⟩,fun k hk=>⟨by omega,hk.2,fun e=>by have:=hO k e;omega⟩⟩
 rcases hk with h | h | h | rfl
 ·have:=h3 k (.inl h);omega
 ·have:=h3 k (.inr (.inl h));omega
 ·have:=h3 k (.inr (.inr h));omega
 ·exact⟨h1,h2⟩
theorem zu5 {W w:World}{O N:Nat→Prop}{pb nb:Nat}{c:Cl}(h:KC W w O pb nb c N):
  Calls Tryz.prog 19 #[zt pb] w fun r w'=>r= .returned (.tuple #[.int .i64 c.size,txv c.root])∧zf N [qw] w w'∧KC W w' O pb nb c N:=by
 obtain⟨cb,pm,nm,A,OP,hpc,hpv,hN⟩:=h.rest
 refine(zqd W O A OP cb nb pm nm c pb w hpv hpc).mono ?_
 rintro r w' ⟨rfl,ht,he⟩
 exact⟨rfl,ht.mono (fun b hb=>hN b (.inr (.inr (.inl hb)))) (fun _ h=>h),⟨cb,pm,nm,A,OP,ht.keep hpc (by decide),hpv.trusted ht he,hN⟩,fun k hk=>⟨(h.own k hk).1,Nat.lt_of_lt_of_le (h.own k hk).2.1 ht.size,(h.own k hk).2.2⟩⟩
theorem zx6 {fs:Fs}{net:Nt}(p:List UInt8)(hl:∀ f∈fs,f.2.length≤1048576)(hy:∀ l∈net.lies,l.data.length≤1048576):(zq fs net p).1.1.length≤1048576:=by
 unfold zq
 cases e:zfs net p with
 | some k =>
  have:=(zvq e).1
  simp only
  have hm:net.lies.getD k .none∈net.lies:=by
   rw [List.getD_eq_getElem?_getD,List.getElem?_eq_getElem this]
   exact List.getElem_mem _
  exact hy _ hm
 | none =>
  simp only
  cases e2:zx fs p with
  | none=>simp
  | some x =>
   obtain⟨f,hf,rfl⟩:=zyn e2
   exact hl f hf
theorem zjx (fs:Fs)(net:Nt)(p:List UInt8):(zq fs net p).2.lies=net.lies:=by
 unfold zq
 cases zfs net p with
 | some k=>rfl
 | none =>
  simp only
  cases zx fs p<;>rfl
theorem zxi {W w:World}(at_:Nat→Addr)(hE:Env W)(hS:qm W at_)(hTb:zdn W){O N:Nat→Prop}{pb nb db:Nat}{d:Dk}{c:Cl}{n:Nt}{t:Nat}(h:KC W w O pb nb c N)(hs:Sh W w O nb db d n)(hki:KI c t)(ht:t≤1000000)(hf:n.fetches+40000 < 4611686018427387904)(hkl:c.key.length≤9223372036854775807)(hl:∀ f∈d.fs,f.2.length≤1048576)(hy:∀ l∈n.lies,l.data.length≤1048576):
  Calls Tryz.prog 18 #[zt pb] w fun r w'=>∃ q o c' n' x,zkx c.key (zq d.fs n cpP).1 q∧zdp (zq d.fs) za5 c (zq d.fs n cpP).2 q=(o,c',n')∧KI c' (t+1)∧(c'.key=c.key∧c'.room=c.room)∧(n'.lies=n.lies∧n.fetches≤n'.fetches∧n'.fetches≤n.fetches+20000) ∧
   (∀ e,o= .inl e→c'.size=c.size∧c'.root=c.root∧3≤e.n∧e.n≤6) ∧
   (∀ ps,o= .inr ps→c.size≤c'.size∧((c.size=0∨c'.size=c.size)→ps=[])∧(c'.size=c.size→c'.root=c.root)∧(0 < c.size→c.size < c'.size→za5 c.size c'.size c.root c'.root ps=true)) ∧
   r= .returned (.tuple #[x,zh1 (za6 o).2])∧w'.ownsRow w.heap.size 9 1 x (za6 o).1.length ((za6 o).1.map txt)∧(za6 o).1.length≤65∧(∀ p∈(za6 o).1,p.length=8) ∧
   zf (fun k=>O k∨N k) kcT w w'∧Sh W w' O nb db d n'∧KC W w' O pb nb c' (Ext N w w'):=by
 obtain⟨cb,pm,nm,A,OP,hpc,hpv,hN⟩:=h.rest
 refine(z40 W at_ O A OP cb nb db pm nm d c n pb w hE hS hTb hpv hs hpc (by omega) hki.sz (by omega) (zx6 cpP hl hy) (by have:=hki.len;omega) hki.gd.wf).mono ?_
 rintro r w' ⟨q,hq,hcr,x,rfl,hx,h8⟩
 have hlen:=zr1 (fe:=zq d.fs) (con:=za5) c (zq d.fs n cpP).2 q
 have hc1:=zby d.fs n cpP
 obtain⟨g1,g2,g3⟩:=ztj hcr hpc hN h.own (fun k hk=>(hs.own k hk).2) hs.base.size
 have hu:=fun o c' n' (e:zdp (zq d.fs) za5 c (zq d.fs n cpP).2 q=(o,c',n'))=>z0m (fe:=zq d.fs) (s:=(zq d.fs n cpP).2) (I:=fun x:Nt=>x.lies=n.lies) (fun s p h=>(zjx d.fs s p).trans h) (zjx d.fs n cpP) (fun x:Nt=>x.fetches) (zby d.fs) za5 hki (q:=q) (fun m r e=>by
  subst e
  obtain⟨-,h1,h2,-⟩:=hq
  exact⟨by omega,h2⟩) e
 obtain⟨o,c',n',hR⟩:∃ o c' n',zdp (zq d.fs) za5 c (zq d.fs n cpP).2 q=(o,c',n'):=⟨_,_,_,rfl⟩
 obtain⟨u1,u0,u2,u3,u4,u5,u6,u7⟩:=hu o c' n' hR
 rw [hR] at g2 g3 hx hlen h8 ⊢
 exact⟨q,o,c',n',x,hq,hR,u1,⟨u2,u3⟩,⟨u0,by omega,by omega⟩,u6,u7,rfl,hx,hlen,h8,g1,g2,g3⟩
def z7q {α:Type}(o:Sum Er α):Bool:=match o with
 | .inl _=>true
 | .inr _=>false
theorem z6x {W w:World}(at_:Nat→Addr)(hE:Env W)(hS:qm W at_)(hTb:zdn W){O N:Nat→Prop}{pb nb db:Nat}{d:Dk}{c:Cl}{n:Nt}{t:Nat}(h:KC W w O pb nb c N)(hs:Sh W w O nb db d n)(hki:KI c t)(ht:t≤1000000)(hf:n.fetches+40000 < 4611686018427387904)(i:Nat)(hi:i < c.size):
  Calls Tryz.prog 20 #[zt pb,.int .i64 i] w fun r w'=>∃ o c' n' nn x,jd (zq d.fs) zav c n i=(o,c',n')∧KI c' (t+1)∧(c'.key=c.key∧c'.size=c.size∧c'.root=c.root∧c'.room=c.room)∧(n'.lies=n.lies∧n.fetches≤n'.fetches∧n'.fetches≤n.fetches+20000) ∧
   (∀ e ps,o= .inr (e,ps)→e.length≤20∧zav (qu e) i c.size ps c.root=true)∧(∀ e,o= .inl e→3≤e.n∧e.n≤6) ∧
   r= .returned (.tuple #[txv (zd2 o).1,.bool nn,x,zh1 (zd2 o).2.2])∧(nn=true→(zd2 o).1=[])∧(∀ e,o= .inl e→nn=true)∧w'.ownsRow w.heap.size 9 1 x (zd2 o).2.1.length ((zd2 o).2.1.map txt)∧(zd2 o).2.1.length≤65∧(∀ p∈(zd2 o).2.1,p.length=8) ∧
   zf (fun k=>O k∨N k) kcT w w'∧Sh W w' O nb db d n'∧KC W w' O pb nb c' (Ext N w w'):=by
 obtain⟨cb,pm,nm,A,OP,hpc,hpv,hN⟩:=h.rest
 have hb1:Below w.heap.size w (w.alloc zgq):=ze _ _
 have hr:=z5i W at_ O A OP cb nb db pm nm d c n i _ hE hS hTb (hpv.below hb1) (hs.below hb1) (by omega) hki.sz hi (fun p m' e=>by have:=(ztl hki hi p m' e).1;omega) (by have:=hki.len;omega) hki.gd.wf
 have hk:=zv0 (fe:=zq d.fs) (inc:=zav) c n i
 have hl:=zyf (fe:=zq d.fs) (inc:=zav) c n i
 have hu:=fun o c' n' (e:jd (zq d.fs) zav c n i=(o,c',n'))=>z63 (fe:=zq d.fs) (s:=n) (I:=fun x:Nt=>x.lies=n.lies) (fun s p h=>(zjx d.fs s p).trans h) rfl (fun x:Nt=>x.fetches) (zby d.fs) zav hki hi e
 have herr:∀ e,(jd (zq d.fs) zav c n i).1= .inl e→3≤e.n∧e.n≤6:=by
  intro e he
  unfold jd at he
  cases hn:xu (zq d.fs) c.proved c.size ⟨n,[]⟩ (-1) i with
  | mk o1 m1 =>
   rw [hn] at he
   cases o1 with
   | inl p=>simp only [Sum.inl.injEq] at he;subst he;exact⟨by show(3:Int)≤6;omega,by show(6:Int)≤6;omega⟩
   | inr own =>
    simp only at he
    cases hr:yh (zq d.fs) c.proved c.size m1 (xp 64 0 c.size i) with
    | mk o2 m2 =>
     rw [hr] at he
     cases o2 with
     | inl p=>simp only [Sum.inl.injEq] at he;subst he;exact⟨by show(3:Int)≤6;omega,by show(6:Int)≤6;omega⟩
     | inr ps =>
      simp only at he
      split at he
      ·simp at he
      ·simp only [Sum.inl.injEq] at he;subst he;exact⟨by show(3:Int)≤5;omega,by show(5:Int)≤6;omega⟩
 generalize jd (zq d.fs) zav c n i=R at *
 obtain⟨o,c',n'⟩:=R
 obtain⟨u1,u0,u2,u3,u4,u5,u6,u7,u8⟩:=hu o c' n' rfl
 simp only at *
 refine(zu8 W at_ O A OP cb nb db pm nm d c' n' pb (i:Int) w (zd2 o).1 (zd2 o).2.1 (zd2 o).2.2 (z7q o) hS hs.base.size hpc hl (hr.mono ?_)).mono ?_
 ·rintro r w2 ⟨hcr,hres⟩
  rw [← hk] at hcr
  cases o with
  | inl e =>
   rcases hres with ⟨e',ps,x,v,he,-⟩ | ⟨p,g,he,h2,rfl⟩ | ⟨he,rfl⟩
   ·simp at he
   ·obtain⟨x,v,e2,he2,h1,h2',h3,h4⟩:=zgv.tell (.inr (.inl ⟨p,g,he,h2,rfl⟩):zgv at_ (w.alloc zgq).heap.size w2 (.inl e) _)
    simp only [Ending.returned.injEq,Value.tuple.injEq] at he2
    have e0:=congrArg (fun a:Array Value=>a[0]?) he2
    simp only [List.getElem?_toArray,List.getElem?_cons_zero,Option.some.injEq] at e0
    subst e0
    exact⟨hcr,_,v,e2,by rw [he2],h1,h2',h3,h4,fun _=>rfl⟩
   ·obtain⟨x,v,e2,he2,h1,h2',h3,h4⟩:=zgv.tell (.inr (.inr ⟨he,rfl⟩):zgv at_ (w.alloc zgq).heap.size w2 (.inl e) _)
    simp only [Ending.returned.injEq,Value.tuple.injEq] at he2
    have e0:=congrArg (fun a:Array Value=>a[0]?) he2
    simp only [List.getElem?_toArray,List.getElem?_cons_zero,Option.some.injEq] at e0
    subst e0
    exact⟨hcr,_,v,e2,by rw [he2],h1,h2',h3,h4,fun _=>rfl⟩
  | inr y =>
   obtain⟨x,v,e,rfl,h1,h2,h3,h4⟩:=hres.tell
   exact⟨hcr,x,v,e,rfl,h1,h2,h3,h4,fun h=>by simp [z7q] at h⟩
 ·rintro r w' ⟨hcr,nn,x,h1,h2,h2',h3,h8⟩
  obtain⟨g1,g2,g3⟩:=ztj hcr hpc hN h.own (fun k hk=>(hs.own k hk).2) hs.base.size
  exact⟨o,c',n',nn,x,rfl,u1,⟨u2,u3,u4,u5⟩,⟨u0,u6,by omega⟩,u8,herr,h1,h2,fun e he=>h2' (by rw [he];rfl),h3,hl,h8,g1,g2,g3⟩
end
end Go.Proofs.YtinhekmmdlhfkaaGreatDoor
