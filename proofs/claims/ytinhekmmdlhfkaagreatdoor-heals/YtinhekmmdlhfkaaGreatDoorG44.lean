import Derived.Test.YtinhekmmdlhfkaaGreatDoorG43
import Derived.Test.YtinhekmmdlhfkaaGreatDoorG24
import Derived.Test.YtinhekmmdlhfkaaGreatDoorG42
namespace Go.Proofs.YtinhekmmdlhfkaaGreatDoor
section
def LfQ (p:Pl)(_:Nat)(c:Pc):Prop:=p.1=-1→c.hash=leafH c.entry∧c.entry.length≤20
theorem lfQ_bare (p:Pl)(k:Nat)(c:Pc)(b:Bool)(h:LfQ p k c):LfQ p k { c with fits:=b }:=h
theorem unbF_20 {d:List UInt8}{ls:List (List UInt8)}(h:unbF d=some ls):∀ l∈ls,l.length≤20:=by
 unfold unbF at h
 cases e:unb d with
 | none=>rw [e] at h;simp at h
 | some x =>
  rw [e] at h
  simp only at h
  split at h
  ·rename_i ho
   simp only [Option.some.injEq] at h
   subst h
   intro l hl
   have:=ho
   unfold okB at this
   simp only [Bool.and_eq_true,List.all_eq_true,decide_eq_true_eq] at this
   exact this.2.2 l hl
  ·simp at h
theorem gdF_came {V:Pl→Nat→Pc→Prop}{p:Pl}{f:Fl}{w:Int}(h:Came w f)(hv:∀ k,k < 4→(f.getD k .no).there=true→V p k (f.getD k .no)):GdF V p f :=
 ⟨h.len,fun k hk=>⟨fun hf=>by rw [h.fits] at hf;simp at hf,hv k hk⟩⟩
theorem readF_lf {l w:Int}{d:List UInt8}{f:Fl}(p:Pl)(hp:p.1=l)(h:readF l w d=some f):GdF LfQ p f:=by
 refine gdF_came (readF_came h) fun k hk ht hl=>?_
 rw [hp] at hl
 unfold readF at h
 rw [if_pos hl] at h
 cases hu:unbF d with
 | none=>rw [hu] at h;simp at h
 | some es =>
  rw [hu] at h
  simp only at h
  split at h
  ·simp only [Option.some.injEq] at h
   subst h
   rw [bunFl_get _ _ hk] at ht ⊢
   by_cases hke:k < es.length
   ·rw [if_pos hke]
    refine⟨rfl,?_⟩
    have:es.getD k []∈es:=by
     rw [List.getD_eq_getElem?_getD,List.getElem?_eq_getElem hke]
     exact List.getElem_mem _
    exact unbF_20 hu _ this
   ·rw [if_neg hke] at ht
    simp [Pc.no] at ht
  ·simp at h
theorem clipF_gd {V:Pl→Nat→Pc→Prop}{p:Pl}{f:Fl}{w:Int}(hw:w≤4)(h:GdF V p f):GdF V p (clipF w f) :=
 ⟨clipF_len w f h.1 hw,fun k hk=>by
  rw [clipF_get]
  split
  ·exact h.2 k hk
  ·exact gd_no V p k⟩
section
variable {σ : Type} {fe : σ → List UInt8 → (List UInt8 × Bool) × σ}
theorem placeM_lf {s s':σ}{p q:Pl}{f:Fl}(hq:q.1=p.1)(h:placeM fe s p=(some f,s')):GdF LfQ q f:=by
 unfold placeM at h
 simp only [Prod.mk.injEq] at h
 obtain⟨h,-⟩:=h
 split at h
 ·exact readF_lf q hq h
 ·simp at h
theorem fileM_lf {s s':σ}{p:Pl}{f:Fl}(hp:p.2.2≤4)(h:fileM fe s p=(some f,s')):GdF LfQ p f:=by
 unfold fileM at h
 cases e1:placeM fe s p with
 | mk o s1 =>
  rw [e1] at h
  cases o with
  | some g =>
   simp only [Prod.mk.injEq,Option.some.injEq] at h
   obtain⟨rfl,-⟩:=h
   exact placeM_lf rfl e1
  | none =>
   simp only at h
   split at h
   ·simp at h
   ·cases e2:placeM fe s1 (p.1,p.2.1,4) with
    | mk o2 s2 =>
     rw [e2] at h
     cases o2 with
     | none=>simp at h
     | some g =>
      simp only [Prod.mk.injEq,Option.some.injEq] at h
      obtain⟨rfl,-⟩:=h
      exact clipF_gd hp (placeM_lf (p:=(p.1,p.2.1,4)) (q:=p) rfl e2)
theorem fed_lf {I:σ→Prop}(hI:∀ s p,I s→I (fe s p).2)(size:Nat):Fed fe I LfQ size where
 bare:=lfQ_bare
 keep:=hI
 came:=fun s l j f s' _ _ _ h=>fileM_lf (by unfold placeN;simp;omega) h
end
theorem settleM_lf (size:Nat):∀(f:Nat) (nd:Mm) (l j:Nat) (h:List UInt8),GdM LfQ nd→GdM LfQ (settleM size f nd l j h):=by
 intro f
 induction f with
 | zero=>intro nd l j h hn;exact hn
 | succ f ih =>
  intro nd l j h hn
  rw [settleM]
  cases hg:nd.get (placeN size (l:Int) j) with
  | none=>exact hn
  | some fl =>
   simp only
   have hF:GdF LfQ (placeN size (l:Int) j) (fl.set (j % 4) ⟨true,true,h,[]⟩):=(hn.get hg).set ⟨fun _=>rfl,fun _ e=>by
    have:((l:Nat):Int)=-1:=e
    omega⟩
   have hS:=hn.set hF
   cases hr:rootP (fl.set (j % 4) ⟨true,true,h,[]⟩) with
   | none=>exact hS
   | some up=>exact ih _ (l+1) (j / 4) up hS
theorem settleE_lf (size:Nat)(nd:Mm)(i:Nat)(leaf:List UInt8)(h:GdM LfQ nd):GdM LfQ (settleE size nd i leaf):=settleE_any lfQ_bare size nd i leaf (settleM_lf size 64 nd 0 i leaf h)
theorem settleO_lf (size:Nat)(nd:Mm)(old:Nat)(root:List UInt8)(hn:GdM LfQ nd)
  (hth:∀ fl,nd.get (placeN size (lvl old:Nat) (old / 4 ^ lvl old - 1))=some fl→old / 4 ^ lvl old - 1≠0→(fl.getD ((old / 4 ^ lvl old - 1) % 4) .no).there=true∧(old / 4 ^ lvl old - 1=1→(fl.getD 0 .no).there=true)):GdM LfQ (settleO size nd old root):=by
 unfold settleO
 cases hg:nd.get (placeN size (lvl old:Nat) (old / 4 ^ lvl old - 1)) with
 | none=>exact hn
 | some fl =>
  simp only
  have hh:=hth fl hg
  by_cases c0:old / 4 ^ lvl old - 1=0
  ·rw [if_pos c0]
   exact settleM_lf size 64 nd (lvl old) 0 root hn
  ·rw [if_neg c0]
   obtain⟨g1,g2⟩:=hh c0
   by_cases c1:old / 4 ^ lvl old - 1=1
   ·rw [if_pos c1]
    rw [c1] at hg
    split
    ·exact settleM_lf size 64 _ (lvl old) 1 _ (hn.set ((hn.get hg).fitsAt lfQ_bare (g2 c1)))
    ·exact hn
   ·rw [if_neg c1]
    exact settleM_lf size 64 nd (lvl old) _ _ hn
structure KI (c:Cl)(t:Nat):Prop where
 sz:c.size < 9223372036854775808
 gd:GdM LfQ c.proved
 ins:InS c.size c.proved
 len:c.proved.length≤10000*t
 r8:c.root.length=8
theorem ki_new (key:List UInt8)(room:Int):KI ⟨key,0,rootT [],room,[]⟩ 0 :=
 ⟨by show 0 < _;omega,gdM_nil _,fun x hx=>by simp at hx,by simp,rootT_8 _⟩
theorem KI.later {c:Cl}{t t':Nat}(h:KI c t)(ht:t≤t'):KI c t':=⟨h.sz,h.gd,h.ins,by have:=h.len;omega,h.r8⟩
section
variable {σ : Type} {fe : σ → List UInt8 → (List UInt8 × Bool) × σ} {c : Cl} {t : Nat} {s : σ} {i : Nat}
theorem ki_entry (h:KI c t)(hi:i < c.size):∀ p m',needM fe c.proved c.size ⟨s,[]⟩ (-1) i=(.inr p,m')→p.entry.length≤20∧p.hash=leafH p.entry:=by
 intro p m' e
 have hj:i < cntL (-1) c.size:=by simpa [cntL] using hi
 have:=(needM_fed (fed_lf (I:=fun _=>True) (fun _ _ _=>trivial) c.size) e h.gd (gdM_nil _) trivial (by omega) hj).2.2 p rfl
 have:=this.2 rfl
 exact⟨this.2,this.1⟩
theorem ki_read {I:σ→Prop}(hI:∀ s p,I s→I (fe s p).2)(hIs:I s)(cnt:σ→Int)(hc:∀ s p,cnt (fe s p).2=cnt s+1)(inc:List UInt8→Nat→Nat→List (List UInt8)→List UInt8→Bool)(h:KI c t)(hi:i < c.size){o:Sum Er (List UInt8×List (List UInt8))}{c':Cl}{s':σ}(e:readC fe inc c s i=(o,c',s')):
  KI c' (t+1)∧I s'∧c'.key=c.key∧c'.size=c.size∧c'.root=c.root∧c'.room=c.room∧cnt s≤cnt s'∧cnt s'≤cnt s+17000∧∀ x ps,o= .inr (x,ps)→x.length≤20∧inc (leafH x) i c.size ps c.root=true:=by
 have h63:c.size < 2 ^ 63:=h.sz
 have hj:i < cntL (-1) c.size:=by simpa [cntL] using hi
 have hS:=led_stp (fed_lf hI c.size) h.gd cnt hc (cnt s)
 have h0:=led_start I LfQ cnt s hIs
 unfold readC at e
 cases hn:needM fe c.proved c.size ⟨s,[]⟩ (-1) i with
 | mk o1 m1 =>
  rw [hn] at e
  have l1:=hS.step 0 _ _ _ _ _ h0 (by omega) hj hn
  have hk1:=h.later (show t≤t+1 by omega)
  cases o1 with
  | inl p =>
   simp only [Prod.mk.injEq] at e
   obtain⟨rfl,rfl,rfl⟩:=e
   exact⟨hk1,l1.2.1,rfl,rfl,rfl,rfl,l1.2.2.2.1,by have:=l1.2.2.1;omega,fun x ps he=>by cases he⟩
  | inr own =>
   simp only at e
   obtain⟨x20,xl⟩:=ki_entry h hi own m1 hn
   have hcost:=path_cost c.size i h63
   have hin:∀ x∈pathS 64 0 c.size i,x.1+x.2≤c.size∧1≤x.2:=fun x hx=>by
    have:=pathS_in 64 0 c.size i (by omega) x hx
    omega
   cases hr:rootsM fe c.proved c.size m1 (pathS 64 0 c.size i) with
   | mk o2 m2 =>
    rw [hr] at e
    have l2:=rootsM_stp hS h63 _ _ _ _ _ l1 hin hr
    have b1:=l2.2.2.1
    have b2:=l2.2.2.2.1
    have b3:=l2.2.2.2.2
    cases o2 with
    | inl p =>
     simp only [Prod.mk.injEq] at e
     obtain⟨rfl,rfl,rfl⟩:=e
     exact⟨hk1,l2.2.1,rfl,rfl,rfl,rfl,b2,by omega,fun x ps he=>by cases he⟩
    | inr ps =>
     simp only at e
     by_cases hy:inc own.hash i c.size ps c.root=true
     ·rw [if_pos hy] at e
      simp only [Prod.mk.injEq] at e
      obtain⟨rfl,rfl,rfl⟩:=e
      have hq:SeqN fe c.proved c.size ⟨s,[]⟩ ((placeN c.size (-1) i,i % 4)::((pathS 64 0 c.size i).flatMap fun s=>rootPl c.size 64 s.1 s.2)) m2:= .cons hj hn (rootsM_seq h63 _ _ _ _ hin hr)
      refine⟨⟨h.sz,?_,?_,?_,h.r8⟩,l2.2.1,rfl,rfl,rfl,rfl,b2,by omega,fun x qs he=>?_⟩
      ·exact remember_gd c.room _ _ h.gd (settleE_lf c.size m2.needed i own.hash l2.1).2
      ·refine InS.remember c.room _ _ h.ins ?_
       refine InS.keys (a:=m2.needed) ?_ (settleE_keys ..)
       intro x hx
       rcases hq.keys h.gd.wf (gdM_nil _) x hx with ⟨y,hy,-⟩ | ⟨q,hqm,eq⟩
       ·simp at hy
       ·rw [← eq]
        rcases List.mem_cons.1 hqm with rfl | hqm
        ·exact placeN_in c.size (-1) i
        ·obtain⟨sp,hsp,hqs⟩:=List.mem_flatMap.1 hqm
         obtain⟨i1,i2⟩:=hin sp hsp
         obtain⟨l',j',e1,-⟩:=rootPl_in c.size h63 63 sp.1 sp.2 i1 i2 (by omega) q hqs
         rw [e1]
         exact placeN_in c.size _ _
      ·have ek:=congrArg List.length (settleE_keys c.size m2.needed i own.hash)
       simp only [List.length_map] at ek
       have:=remember_len c.room (settleE c.size m2.needed i own.hash) c.proved
       have:=h.len
       simp only
       omega
      ·cases he
       rw [← xl]
       exact⟨x20,hy⟩
     ·rw [if_neg hy] at e
      simp only [Prod.mk.injEq] at e
      obtain⟨rfl,rfl,rfl⟩:=e
      exact⟨hk1,l2.2.1,rfl,rfl,rfl,rfl,b2,by omega,fun x ps he=>by cases he⟩
theorem ki_update {I:σ→Prop}(hI:∀ s p,I s→I (fe s p).2)(hIs:I s)(cnt:σ→Int)(hc:∀ s p,cnt (fe s p).2=cnt s+1)(con:Nat→Nat→List UInt8→List UInt8→List (List UInt8)→Bool)(h:KI c t){q:Option (Nat×List UInt8)}(hq:∀ n r,q=some (n,r)→n < 9223372036854775808∧r.length=8){o:Sum Er (List (List UInt8))}{c':Cl}{s':σ}(e:updC fe con c s q=(o,c',s')):
  KI c' (t+1)∧I s'∧c'.key=c.key∧c'.room=c.room∧cnt s≤cnt s'∧cnt s'≤cnt s+17000∧(∀ x,o= .inl x→c'.size=c.size∧c'.root=c.root∧3≤x.n∧x.n≤6) ∧
   ∀ ps,o= .inr ps→c.size≤c'.size∧((c.size=0∨c'.size=c.size)→ps=[])∧(c'.size=c.size→c'.root=c.root)∧(0 < c.size→c.size < c'.size→con c.size c'.size c.root c'.root ps=true):=by
 have hk1:=h.later (show t≤t+1 by omega)
 unfold updC at e
 cases q with
 | none =>
  simp only [Prod.mk.injEq] at e
  obtain⟨rfl,rfl,rfl⟩:=e
  exact⟨hk1,hIs,rfl,rfl,Int.le_refl _,by omega,fun x he=>by cases he;exact⟨rfl,rfl,by show(3:Int)≤3;omega,by show(3:Int)≤6;omega⟩,fun ps he=>by cases he⟩
 | some y =>
  obtain⟨n,r⟩:=y
  obtain⟨hn63,hr8⟩:=hq n r rfl
  have h63:n < 2 ^ 63:=hn63
  simp only at e
  unfold proveC at e
  by_cases h1:n < c.size
  ·rw [if_pos h1] at e
   simp only [Prod.mk.injEq] at e
   obtain⟨rfl,rfl,rfl⟩:=e
   exact⟨hk1,hIs,rfl,rfl,Int.le_refl _,by omega,fun x he=>by cases he;exact⟨rfl,rfl,by show(3:Int)≤4;omega,by show(4:Int)≤6;omega⟩,fun ps he=>by cases he⟩
  rw [if_neg h1] at e
  by_cases h2:n=c.size
  ·rw [if_pos h2] at e
   by_cases h3:r=c.root
   ·rw [if_pos h3] at e
    simp only [Prod.mk.injEq] at e
    obtain⟨rfl,rfl,rfl⟩:=e
    subst h2 h3
    exact⟨⟨h.sz,h.gd,h.ins,hk1.len,h.r8⟩,hIs,rfl,rfl,Int.le_refl _,by omega,fun x he=>(by cases he),fun ps he=>by cases he;exact⟨Nat.le_refl _,fun _=>rfl,fun _=>rfl,fun _ hh=>absurd hh (Nat.lt_irrefl _)⟩⟩
   ·rw [if_neg h3] at e
    simp only [Prod.mk.injEq] at e
    obtain⟨rfl,rfl,rfl⟩:=e
    exact⟨hk1,hIs,rfl,rfl,Int.le_refl _,by omega,fun x he=>by cases he;exact⟨rfl,rfl,by show(3:Int)≤5;omega,by show(5:Int)≤6;omega⟩,fun ps he=>by cases he⟩
  rw [if_neg h2] at e
  by_cases h4:c.size=0
  ·rw [if_pos h4] at e
   simp only [Prod.mk.injEq] at e
   obtain⟨rfl,rfl,rfl⟩:=e
   exact⟨⟨hn63,h.gd,h.ins.more (by omega),hk1.len,hr8⟩,hIs,rfl,rfl,Int.le_refl _,by omega,fun x he=>(by cases he),fun ps he=>by cases he;exact⟨(show c.size≤n by omega),fun _=>rfl,fun(hh:n=c.size)=>absurd hh h2,fun hh=>by omega⟩⟩
  rw [if_neg h4] at e
  have hS:=led_stp (fed_lf hI n) h.gd cnt hc (cnt s)
  have h0:=led_start I LfQ cnt s hIs
  have hcost:=part_cost c.size n h63 (by omega) (by omega)
  have hin:∀ x∈partS 64 c.size 0 n true,x.1+x.2≤n∧1≤x.2:=fun x hx=>by
   have:=partS_in 64 c.size 0 n true (by omega) (by omega) (by omega) (by omega) x hx
   omega
  cases hr:rootsM fe c.proved n ⟨s,[]⟩ (partS 64 c.size 0 n true) with
  | mk o2 m2 =>
   rw [hr] at e
   have l2:=rootsM_stp hS h63 _ _ _ _ _ h0 hin hr
   have b1:=l2.2.2.1
   have b2:=l2.2.2.2.1
   have b3:=l2.2.2.2.2
   cases o2 with
   | inl p =>
    simp only [Prod.mk.injEq] at e
    obtain⟨rfl,rfl,rfl⟩:=e
    exact⟨hk1,l2.2.1,rfl,rfl,b2,by omega,fun x he=>by cases he;exact⟨rfl,rfl,by show(3:Int)≤6;omega,by show(6:Int)≤6;omega⟩,fun ps he=>by cases he⟩
   | inr ps =>
    simp only at e
    by_cases hy:con c.size n c.root r ps=true
    ·rw [if_pos hy] at e
     simp only [Prod.mk.injEq] at e
     obtain⟨rfl,rfl,rfl⟩:=e
     have hq:SeqN fe c.proved n ⟨s,[]⟩ ((partS 64 c.size 0 n true).flatMap fun s=>rootPl n 64 s.1 s.2) m2:=rootsM_seq h63 _ _ _ _ hin hr
     refine⟨⟨hn63,?_,?_,?_,hr8⟩,l2.2.1,rfl,rfl,b2,by omega,fun x he=>(by cases he),fun qs he=>?_⟩
     ·exact remember_gd c.room _ _ h.gd (settleO_lf n m2.needed c.size c.root l2.1 (seq_settle h63 (by omega) (by omega) h.gd.wf h.ins hq)).2
     ·refine InS.remember c.room _ _ (h.ins.more (show c.size≤n by omega)) ?_
      refine InS.keys (a:=m2.needed) ?_ (settleO_keys ..)
      intro x hx
      rcases hq.keys h.gd.wf (gdM_nil _) x hx with ⟨y,hy,-⟩ | ⟨q,hqm,eq⟩
      ·simp at hy
      ·rw [← eq]
       obtain⟨sp,hsp,hqs⟩:=List.mem_flatMap.1 hqm
       obtain⟨i1,i2⟩:=hin sp hsp
       obtain⟨l',j',e1,-⟩:=rootPl_in n h63 63 sp.1 sp.2 i1 i2 (by omega) q hqs
       rw [e1]
       exact placeN_in n _ _
     ·have ek:=congrArg List.length (settleO_keys n m2.needed c.size c.root)
      simp only [List.length_map] at ek
      have:=remember_len c.room (settleO n m2.needed c.size c.root) c.proved
      have:=h.len
      simp only
      omega
     ·cases he
      exact⟨(show c.size≤n by omega),fun hh=>hh.elim (fun hh=>absurd hh h4) (fun(hh:n=c.size)=>absurd hh h2),fun(hh:n=c.size)=>absurd hh h2,fun _ _=>hy⟩
    ·rw [if_neg hy] at e
     simp only [Prod.mk.injEq] at e
     obtain⟨rfl,rfl,rfl⟩:=e
     exact⟨hk1,l2.2.1,rfl,rfl,b2,by omega,fun x he=>by cases he;exact⟨rfl,rfl,by show(3:Int)≤5;omega,by show(5:Int)≤6;omega⟩,fun ps he=>by cases he⟩
end
end
section
def Still (d:Dk):Prop:=d.failAt=0∧d.dead=false∧d.hit=false
theorem Still.enter {d:Dk}(h:Still d):Still (enterD d):=by
 obtain⟨h1,h2,h3⟩:=h
 unfold enterD
 rw [h2,if_neg (by simp),if_neg (by omega)]
 exact⟨h1,rfl,h3⟩
theorem Still.files {d:Dk}(h:Still d)(fs:Fs):Still { d with fs:=fs }:=h
theorem Still.put {d:Dk}(h:Still d)(p x:List UInt8):Still (putD d p x):=by
 unfold putD
 split
 ·split
  ·split
   ·exact h.enter.files _
   ·exact h.enter
  ·exact⟨h.enter.1,h.enter.2.1,h.enter.2.2⟩
 ·split
  ·exact h.enter.files _
  ·exact h.enter
theorem Still.puts:∀(l:Fs) {d:Dk} ,Still d→Still (putsD l d).2
 | [],_,h=>h
 | f::r,d,h=>by
  unfold putsD
  split
  ·exact h.put _ _
  ·exact Still.puts r (h.put _ _)
theorem Still.swap {d:Dk}(h:Still d)(p x:List UInt8):Still (swapD d p x):=by
 unfold swapD
 split
 ·exact h.enter.files _
 ·exact h.enter
theorem Still.pub {d:Dk}(h:Still d)(todo:Fs)(c:List UInt8):Still (pubD todo c d).2:=by
 have h1:=h.puts todo
 unfold pubD
 generalize putsD todo d=r at *
 obtain⟨o,d1⟩:=r
 cases o with
 | some p=>exact h1
 | none =>
  simp only
  split
  ·exact h1.swap _ _
  ·exact h1.swap _ _
theorem clashB_no {before want:Fs}(h:NoClash before want):clashB before want=false:=by
 unfold clashB
 rw [List.any_eq_false]
 intro f hf
 rcases h f.1 f.2 hf with e | e<;>rw [e]<;>simp
def Chp (fs:Fs)(es:List (List UInt8))(pub:Nat)(key:List UInt8):Prop :=
 pub≤es.length∧((look fs cpF=none∧pub=0)∨(look fs cpF=some (signF pub (rootT (es.take pub)) key)∧HasAll fs es pub))
theorem hasAll_zero (fs:Fs)(es:List (List UInt8)):HasAll fs es 0:=fun f hf=>absurd hf (by rw [List.take_zero];exact want_nil)
theorem Chp.all {fs:Fs}{es:List (List UInt8)}{pub:Nat}{key:List UInt8}(h:Chp fs es pub key):HasAll fs es pub:=by
 rcases h.2 with ⟨-,rfl⟩ | ⟨-,h⟩
 ·exact hasAll_zero _ _
 ·exact h
theorem HasAll.more {fs:Fs}{es:List (List UInt8)}{n:Nat}(h:HasAll fs es n)(hn:n≤es.length)(more:List (List UInt8)):HasAll fs (es++more) n:=fun f hf=>h f (by rw [List.take_append_of_le_length hn] at hf;exact hf)
theorem Chp.more {fs:Fs}{es:List (List UInt8)}{pub:Nat}{key:List UInt8}(h:Chp fs es pub key)(more:List (List UInt8)):Chp fs (es++more) pub key:=by
 refine⟨by have:=h.1;simp;omega,?_⟩
 rcases h.2 with h1 | ⟨h1,h2⟩
 ·exact .inl h1
 ·exact .inr ⟨by rw [List.take_append_of_le_length h.1];exact h1,h2.more h.1 more⟩
end
section
open Go.RowKit
set_option maxRecDepth 100000
theorem cpP_is:cpP=cpF:=by decide
theorem upd_case {fs:Fs}{es:List (List UInt8)}{pub:Nat}{key:List UInt8}{net:Nt}{o:Option (Nat×List UInt8)}(h:Chp fs es pub key)(hn:net.lies=[])(hp:pub≤9223372036854775807)(ho:ChkIs key (netF fs net cpP).1 o):
  (netF fs net cpP).2={ net with fetches:=net.fetches+1 }∧((look fs cpF=none∧pub=0∧o=none)∨(look fs cpF≠none∧HasAll fs es pub∧o=some (pub,rootT (es.take pub)))):=by
 rw [cpP_is,netF_plain fs net hn] at *
 rcases h.2 with ⟨h1,h2⟩ | ⟨h1,h2⟩
 ·rw [h1] at ho ⊢
  refine⟨rfl,.inl ⟨rfl,h2,?_⟩⟩
  cases o with
  | none=>rfl
  | some x=>exact absurd ho.1 (by simp)
 ·rw [h1] at ho ⊢
  refine⟨rfl,.inr ⟨by simp,h2,?_⟩⟩
  exact ChkIs.yes ho ⟨hp,rootT_8 _,rfl⟩
theorem look_file {fs:Fs}{p x:List UInt8}(h:look fs p=some x):∃ f∈fs,f.2=x:=by
 cases e:ixF fs p with
 | none=>rw [(ixF_none e).1] at h;simp at h
 | some k =>
  obtain⟨hk,-,h2,-⟩:=ixF_some e
  rw [h] at h2
  exact⟨fs[k],List.getElem_mem hk,by simpa using h2.symm⟩
theorem incC_true (es:List (List UInt8))(hl:es.length < 4 ^ 21):∀ size i,size≤es.length→i < size→incC (leafH (es.getD i [])) i size (pathR es size i) (rootT (es.take size))=true:=by
 intro size i h hi
 unfold incC
 rw [incB_in (by omega),Int.toNat_natCast,Int.toNat_natCast,inc_true zero8 es size i h (by omega) hi]
 simp only [Bool.true_and]
 simp [eqH]
theorem conC_true (es:List (List UInt8))(hl:es.length < 4 ^ 21):∀ a b,0 < a→a≤b→b≤es.length→conC a b (rootT (es.take a)) (rootT (es.take b)) (partR es a b)=true:=by
 intro a b h0 h1 h2
 unfold conC
 rw [conB_in (by omega),Int.toNat_natCast,Int.toNat_natCast,con_true zero8 es a b h2 (by omega) h0 h1]
 simp only [Bool.true_and,Bool.and_eq_true]
 exact⟨by simp [eqH],by simp [eqH]⟩
theorem true_update {fs:Fs}{es:List (List UInt8)}{pub t:Nat}{key:List UInt8}{c:Cl}{net:Nt}{q:Option (Nat×List UInt8)}(h:Chp fs es pub key)(hn:net.lies=[])(h20:∀ e∈es,e.length≤20)(hl:es.length < 4 ^ 21)(h0:0 < pub)(hci:CI es c t)(hle:c.size≤pub)(hk:c.key=key)(hq:ChkIs c.key (netF fs net cpP).1 q):
  ∃ c' n',updC (netF fs) conC c (netF fs net cpP).2 q=(.inr (if 0 < c.size∧c.size < pub then partR es c.size pub else []),c',n')∧c'.size=pub∧CI es c' (t+1):=by
 rw [hk] at hq
 have hpl:pub≤es.length:=h.1
 obtain⟨e,hc⟩:=upd_case h hn (by omega) hq
 rcases hc with ⟨-,h1,-⟩ | ⟨-,hall,rfl⟩
 ·omega
 ·obtain⟨c',n',h1,⟨-,h2,-⟩,h3,-⟩:=ci_update (n:={ net with fetches:=net.fetches+1 }) conC (conC_true es hl) h20 hl hall hn hci hle hpl
  exact⟨c',n',by rw [e];exact h1,h2,h3⟩
theorem true_read {fs:Fs}{es:List (List UInt8)}{t i:Nat}{c:Cl}{net:Nt}(hall:HasAll fs es c.size)(hn:net.lies=[])(h20:∀ e∈es,e.length≤20)(hl:es.length < 4 ^ 21)(hci:CI es c t)(hi:i < c.size):
  ∃ c' n',readC (netF fs) incC c net i=(.inr (es.getD i [],pathR es c.size i),c',n')∧CI es c' (t+1):=by
 obtain⟨m,-,-,-,-,h5,h6⟩:=ci_read incC (incC_true es hl) h20 hl hall hn hci hi
 exact⟨_,_,h5,h6⟩
end
end Go.Proofs.YtinhekmmdlhfkaaGreatDoor
