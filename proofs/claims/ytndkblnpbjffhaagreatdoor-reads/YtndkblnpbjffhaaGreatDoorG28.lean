import Derived.Test.YtndkblnpbjffhaaGreatDoorG27
namespace Go.Proofs.YtndkblnpbjffhaaGreatDoor
section
structure Cl where
 key:List UInt8
 size:Nat
 root:List UInt8
 room:Int
 proved:Mm
structure Er where
 n:Int
 p:List UInt8
def Er.cp:Er:=⟨3,[]⟩
def Er.old:Er:=⟨4,[]⟩
def Er.proof:Er:=⟨5,[]⟩
def Er.tile (p:List UInt8):Er:=⟨6,p⟩
section
variable {σ : Type} (fe : σ → List UInt8 → (List UInt8 × Bool) × σ)
def jd (inc:List UInt8→Nat→Nat→List (List UInt8)→List UInt8→Bool)(c:Cl)(s:σ)(i:Nat):Sum Er (List UInt8×List (List UInt8))×Cl×σ :=
 match qu fe c.proved c.size ⟨s,[]⟩ (-1) i with
 | (.inl p,m)=>(.inl (.tile p),c,m.net)
 | (.inr own,m)=>match yh fe c.proved c.size m (xy 64 0 c.size i) with
  | (.inl p,m)=>(.inl (.tile p),c,m.net)
  | (.inr ps,m)=>if inc own.hash i c.size ps c.root then (.inr (own.entry,ps),{ c with proved:=zx c.room c.proved (xt c.size m.needed i own.hash) },m.net) else (.inl .proof,c,m.net)
def qv (con:Nat→Nat→List UInt8→List UInt8→List (List UInt8)→Bool)(c:Cl)(s:σ)(n:Nat)(r:List UInt8):Sum Er (List (List UInt8))×Mm×σ :=
 if n < c.size then (.inl .old,c.proved,s)
 else if n=c.size then (if r=c.root then (.inr [],c.proved,s) else (.inl .proof,c.proved,s))
 else if c.size=0 then (.inr [],c.proved,s)
 else match yh fe c.proved n ⟨s,[]⟩ (qd 64 c.size 0 n true) with
  | (.inl p,m)=>(.inl (.tile p),c.proved,m.net)
  | (.inr ps,m)=>if con c.size n c.root r ps then (.inr ps,zx c.room c.proved (zb8 n m.needed c.size c.root),m.net) else (.inl .proof,c.proved,m.net)
def zgq (con:Nat→Nat→List UInt8→List UInt8→List (List UInt8)→Bool)(c:Cl)(s:σ)(o:Option (Nat×List UInt8)):Sum Er (List (List UInt8))×Cl×σ :=
 match o with
 | none=>(.inl .cp,c,s)
 | some (n,r)=>match qv fe con c s n r with
  | (.inl e,_,s1)=>(.inl e,c,s1)
  | (.inr ps,pr,s1)=>(.inr ps,{ c with size:=n,root:=r,proved:=pr },s1)
end
def zl8 (key:List UInt8)(x:List UInt8×Bool)(o:Option (Nat×List UInt8)):Prop:=match o with
 | some (n,r)=>x.2=true∧vp x.1 key n r
 | none=>x.2=false∨∀ n r,¬ vp x.1 key n r
theorem zl8.yes {key d:List UInt8}{o:Option (Nat×List UInt8)}{n:Nat}{r:List UInt8}(h:zl8 key (d,true) o)(A:vp d key n r):o=some (n,r):=by
 cases o with
 | none =>
  rcases h with h | h
  ·simp at h
  ·exact absurd A (h n r)
 | some x =>
  obtain⟨D,E⟩:=x;obtain⟨rfl,rfl⟩:=h.2.inj A;rfl
section
variable {σ : Type} {fe : σ → List UInt8 → (List UInt8 × Bool) × σ}
structure Tru (fe:σ→List UInt8→(List UInt8×Bool)×σ)(I:σ→Prop)(say:Say)(es:List (List UInt8))(size:Nat):Prop where
 tells:zpf fe I say
 h20:∀ e∈es,e.length≤20
 le:size≤es.length
 lt:size < 2 ^ 63
 files:∀(l:Int) (j w:Nat),-1≤l→j < yd l size→zj size l j=(l,((j / 4:Nat):Int),(w:Int))→say (zee (zj size l j))=some (zcj es l (j / 4) w)
theorem zmt (size:Nat)(l:Int)(j:Nat)(h:j < yd l size):∃ w:Nat,zj size l j=(l,((j / 4:Nat):Int),(w:Int))∧1≤w∧w≤4∧4*(j / 4)+w≤yd l size:=by
 refine⟨min (yd l size - j / 4*4) 4,?_,by omega,by omega,by omega⟩;unfold zj;simp only [Prod.mk.injEq,true_and];omega
theorem Tru.file {I:σ→Prop}{A:Say}{es:List (List UInt8)}{size:Nat}(h:Tru fe I A es size)(l:Int)(K:-1≤l)(j:Nat)(H:j < yd l size):∃ f,zmr A (zj size l j)=some f∧GdF (zau es) (zj size l j) f:=by
 obtain⟨w,e,R,S,U⟩:=zmt size l j H;have L:=zkd l h.le;obtain⟨f,E,Q⟩:=zzi es h.h20 l K (j / 4) w R S (by omega);have D:=zmu E;refine⟨f,?_,D.len,fun k J=>⟨fun r=>by rw [D.fits k] at r;simp at r,fun r=>?_⟩⟩
 ·unfold zmr znu;rw [h.files l j w K H e,e];simp only;rw [E]
 ·rw [e];refine⟨Q k J r,?_⟩;rw [D.there k J] at r;have:(k:Int) < w:=by simpa using r
  unfold zdm;simp only [Int.toNat_natCast];omega
theorem Tru.ctx {I:σ→Prop}{r:Say}{es:List (List UInt8)}{size:Nat}(h:Tru fe I r es size){proved:Mm}(K:GdM (zau es) proved):Ctx fe I (zmr r) (zau es) (zp5 es) proved size :=
 ⟨h.tells.says_file,zd5 es,fun l j A J H e=>by
  obtain⟨f,D,E⟩:=h.file l J j H;rw [D] at e;simp only [Option.some.injEq] at e;rw [← e];exact E,fun l j c _ hv=>zvv es size l j c hv.1,K⟩
theorem Tru.there {I:σ→Prop}{r:Say}{es:List (List UInt8)}{size:Nat}(h:Tru fe I r es size)(a n:Nat)(h1:a+n≤size)(h2:1≤n):∀ p∈yf size 64 a n,zmr r p.1≠none:=by
 intro p D;have:=h.lt;obtain⟨l,j,rfl,-,A,-⟩:=zff size h.lt 63 a n h1 h2 (by omega) p D;obtain⟨f,e,-⟩:=h.file (l:Int) (by omega) j A;simp only;rw [e];simp
theorem Tru.roots {I:σ→Prop}{L:Say}{es:List (List UInt8)}{size:Nat}(h:Tru fe I L es size){proved:Mm}(W:GdM (zau es) proved)(A:List (Nat×Nat))(m:Ms σ)(hm:GdM (zau es) m.needed)(hI:I m.net)(E:∀ s∈A,s.1+s.2≤size∧1≤s.2)(U:∀ s∈A,Al s.1 s.2):
  ∃ D,yh fe proved size m A=(.inr (A.map fun s=>ye (run es s)),D)∧GdM (zau es) D.needed∧I D.net∧jk fe proved size m (A.flatMap fun s=>yf size 64 s.1 s.2) D:=by
 have V:=h.lt;obtain⟨D,Q,R,e | ⟨s,r,p,e,H,S⟩⟩:=zxu (h.ctx W) h.lt A m hm hI E
 ·have X:(A.map fun s=>zgg (zp5 es) size 64 s.1 s.2)=A.map fun s=>ye (run es s):=by
   apply List.map_congr_left;intro s r;obtain⟨J,K⟩:=E s r;exact zva es size h.le h.lt 63 s.1 s.2 J K (by omega) (U s r)
  rw [X] at e;exact⟨D,e,Q,R,zil h.lt A m D _ E e⟩
 ·obtain⟨J,K⟩:=E s r;exact absurd S (h.there s.1 s.2 J K p H)
theorem zvg {I:σ→Prop}{V:Say}{es:List (List UInt8)}{c:Cl}(h:Tru fe I V es c.size)(D:GdM (zau es) c.proved)(hn:InS c.size c.proved){s:σ}(hI:I s){i:Nat}(hi:i < c.size)(inc:List UInt8→Nat→Nat→List (List UInt8)→List UInt8→Bool)
  (R:inc (jc (es.getD i [])) i c.size ((xy 64 0 c.size i).map fun s=>ye (run es s)) c.root=true) :
  ∃ m,jk fe c.proved c.size ⟨s,[]⟩ (zeh c.size i) m∧I m.net∧jd fe inc c s i=(.inr (es.getD i [],(xy 64 0 c.size i).map fun s=>ye (run es s)),{ c with proved:=zx c.room c.proved (xt c.size m.needed i (jc (es.getD i []))) },m.net) ∧
   GdM (zau es) (zx c.room c.proved (xt c.size m.needed i (jc (es.getD i []))))∧InS c.size (zx c.room c.proved (xt c.size m.needed i (jc (es.getD i [])))):=by
 have S:=h.lt;have aa:=h.le;have H:i < yd (-1) c.size:=by simpa [yd] using hi
 have U:GdM (zau es) ([]:Mm):=zbo _;rcases zko (fe:=fe) (proved:=c.proved) (m:=⟨s,[]⟩) (l:=-1) (j:=i) h.tells.says_file (zd5 es) (fun K e=>(h.ctx D).told _ _ K (by omega) H e) D U hI H with ⟨own,Z,L,ht,hv,hg,Q⟩ | ⟨Z,L,E,-,-⟩
 ·have Y:own.hash=jc (es.getD i [])∧own.entry=es.getD i []:=by
   have:=hv.1.1 rfl;rw [zb3] at this;exact this
  have A:∀ s∈xy 64 0 c.size i,s.1+s.2≤c.size∧1≤s.2:=fun s hs=>by
   have:=zfg 64 0 c.size i (by omega) s hs;omega
  obtain⟨J,E,g1,g2,hq⟩:=h.roots D (xy 64 0 c.size i) Z hg Q A (z43 64 0 c.size i (by omega) (zl1 _));have X:jk fe c.proved c.size ⟨s,[]⟩ (zeh c.size i) J:= .cons H L hq;have hE:=zvw es c.size J.needed i (jc (es.getD i [])) g1 (by omega) rfl;refine⟨J,X,g2,?_,zez c.room _ _ D hE.2,InS.remember c.room _ _ hn ?_⟩
  ·unfold jd;rw [L];simp only;rw [E];simp only;rw [Y.1,Y.2,R];rfl
  ·refine InS.keys (a:=J.needed) ?_ (zdt ..);intro x hx;rcases X.keys D.wf (zbo _) x hx with ⟨y,hy,-⟩ | ⟨q,r,e⟩
   ·simp at hy
   ·rw [← e];rcases List.mem_cons.1 r with rfl | r
    ·exact zke ..
    ·obtain⟨W,h1,h2⟩:=List.mem_flatMap.1 r;obtain⟨q1,q2⟩:=A W h1;obtain⟨l,j,rfl,-⟩:=zff c.size S 63 W.1 W.2 q1 q2 (by omega) q h2;exact zke ..
 ·exfalso;obtain⟨f,e,-⟩:=h.file (-1) (by omega) i H;rw [e] at E;simp at E
theorem ztq {I:σ→Prop}{U:Say}{es:List (List UInt8)}{c:Cl}{n:Nat}(h:Tru fe I U es n)(A:GdM (zau es) c.proved)(K:InS c.size c.proved){s:σ}(hI:I s)(hr:c.root=ye (es.take c.size))(hc:c.size≤n)(con:Nat→Nat→List UInt8→List UInt8→List (List UInt8)→Bool)
  (Q:0 < c.size→c.size < n→con c.size n c.root (ye (es.take n)) ((qd 64 c.size 0 n true).map fun s=>ye (run es s))=true) :
  ∃ H L,qv fe con c s n (ye (es.take n))=(.inr (if 0 < c.size∧c.size < n then (qd 64 c.size 0 n true).map (fun s=>ye (run es s)) else []),H,L)∧GdM (zau es) H∧InS n H∧I L∧((H=c.proved∧L=s)∨∃ r,jk fe c.proved n ⟨s,[]⟩ ((qd 64 c.size 0 n true).flatMap fun s=>yf n 64 s.1 s.2) r∧H=zx c.room c.proved (zb8 n r.needed c.size c.root)∧L=r.net∧0 < c.size):=by
 have E:=h.lt;have aa:=h.le;unfold qv;rw [if_neg (by omega)];by_cases J:n=c.size
 ·rw [if_pos J,if_pos (by rw [hr,J]),if_neg (by omega)];exact⟨_,_,rfl,A,J▸K,hI,.inl ⟨rfl,rfl⟩⟩
 ·rw [if_neg J];by_cases W:c.size=0
  ·rw [if_pos W,if_neg (by omega)];exact⟨_,_,rfl,A,K.more (by omega),hI,.inl ⟨rfl,rfl⟩⟩
  ·rw [if_neg W,if_pos (by omega)];have D:∀ s∈qd 64 c.size 0 n true,s.1+s.2≤n∧1≤s.2:=fun s hs=>by
    have:=zja 64 c.size 0 n true (by omega) (by omega) (by omega) (by omega) s hs;omega
   obtain⟨r,X,Y,Z,R⟩:=h.roots A (qd 64 c.size 0 n true) ⟨s,[]⟩ (zbo _) hI D (z4h 64 c.size 0 n true (by omega) (by omega) (by omega) (zl1 _));rw [X];simp only;rw [Q (by omega) (by omega)];have hO:=zxm es n r.needed c.size c.root Y (by omega) (by omega) (by omega) hr (zv6 E (by omega) (by omega) A.wf K R);refine⟨_,_,rfl,zez c.room _ _ A hO.2,InS.remember c.room _ _ (K.more hc) ?_,Z,.inr ⟨r,R,rfl,rfl,by omega⟩⟩;refine InS.keys (a:=r.needed) ?_ (zju ..);intro x hx;rcases R.keys A.wf (zbo _) x hx with ⟨y,hy,-⟩ | ⟨q,S,e⟩
   ·simp at hy
   ·rw [← e];obtain⟨V,h1,h2⟩:=List.mem_flatMap.1 S;obtain⟨q1,q2⟩:=D V h1;obtain⟨l,j,rfl,-⟩:=zff n E 63 V.1 V.2 q1 q2 (by omega) q h2;exact zke ..
theorem zqn (room:Int)(E:Mm):∀(A:Mm),A.ok→(A.length:Int)≤room→∃ a:Mm,zx room E A=a++A.map fun x=>(x.1,zdx x.2):=by
 suffices hr:∀(h:Mm),Mm.ok h.reverse→(h.length:Int)≤room→∃ a:Mm,zx room E h.reverse=a++h.reverse.map fun x=>(x.1,zdx x.2) by
  intro A h1 h2;have:=hr A.reverse (by rw [List.reverse_reverse];exact h1) (by simpa using h2);rwa [List.reverse_reverse] at this
 intro h
 induction h with
 | nil=>intro _ _;exact⟨E,by simp [zx]⟩
 | cons x h ih =>
  intro r H;simp only [List.reverse_cons] at *
  simp only [List.length_cons] at H;have D:Mm.ok h.reverse∧∀ y∈h.reverse,y.1≠x.1:=by
   unfold Mm.ok at r;rw [List.map_append,List.nodup_append] at r;exact⟨r.1,fun y I e=>r.2.2 _ (List.mem_map_of_mem I) x.1 (by simp) e⟩
  obtain⟨a,Q⟩:=ih D.1 (by omega);have K:zx room E (h.reverse++[x])=(zx room E h.reverse).put room x.1 (zdx x.2):=by
   unfold zx;rw [List.foldl_append];rfl
  have L:Mm.drop (a++h.reverse.map fun x=>(x.1,zdx x.2)) x.1=Mm.drop a x.1++h.reverse.map fun x=>(x.1,zdx x.2):=by
   unfold Mm.drop;rw [List.filter_append];congr 1;rw [List.filter_eq_self];intro y I;obtain⟨z,R,rfl⟩:=List.mem_map.1 I;have:=D.2 z R;simpa using this
  rw [K,Q];unfold Mm.put;rw [L]
  split
  ·rename_i J;cases hd:Mm.drop a x.1 with
   | nil =>
    rw [hd] at J;simp at J;omega
   | cons y b=>exact⟨b,by simp⟩
  ·exact⟨Mm.drop a x.1,by simp⟩
theorem zk8 (room:Int):∀(A r:Mm),r.ok→(zx room r A).ok
 | [],r,h=>h
 | x::A,r,h=>by
  show(zx room (r.put room x.1 (zdx x.2)) A).ok;exact zk8 room A _ (Mm.put_ok h _ _)
theorem z58 (room:Int)(h:room≤0)(p:Pl)(f:Fl):Mm.put room [] p f=[]:=by
 unfold Mm.put Mm.drop;rw [if_pos (by simp;omega)];rfl
theorem ze8 (room:Int)(h:room≤0):∀ r:Mm,zx room [] r=[]
 | []=>rfl
 | x::r=>by
  show zx room (Mm.put room [] x.1 (zdx x.2)) r=[]
  rw [z58 room h];exact ze8 room h r
theorem zsy (m:Mm)(h:m.length≤1)(p:Pl)(f:Fl):m.put 1 p f=[(p,f)]:=by
 have r:(m.drop p).length≤1:=Nat.le_trans (List.length_filter_le ..) h;unfold Mm.put
 match hm:m.drop p,r with
 | [],_=>rfl
 | [y],_=>rfl
theorem zd7:∀(A r:Mm),r.length≤1→(zx 1 r A).length≤1
 | [],r,h=>h
 | x::A,r,h=>by
  show(zx 1 (r.put 1 x.1 (zdx x.2)) A).length≤1;exact zd7 A _ (by rw [zsy r h];simp)
theorem zok (A r:Mm)(x:Pl×Fl)(h:r.length≤1):zx 1 r (A++[x])=[(x.1,zdx x.2)]:=by
 have:zx 1 r (A++[x])=(zx 1 r A).put 1 x.1 (zdx x.2):=by
  unfold zx;rw [List.foldl_append];rfl
 rw [this,zsy _ (zd7 A r h)]
def z5u (room:Int)(m:Mm):Prop:=(room≤0→m=[])∧(room=1→m.length≤1)
theorem z5u.remember {room:Int}{m:Mm}(h:z5u room m)(r:Mm):z5u room (zx room m r) :=
 ⟨fun hr=>by rw [h.1 hr];exact ze8 room hr r,fun hr=>by subst hr;exact zd7 r m (h.2 rfl)⟩
theorem zu5 {c:Cl}{s:σ}{i:Nat}{m K:Ms σ}{h:List UInt8}(r:WfM c.proved)(hr:16≤c.room)(Y:c.size≤256)(V:i < c.size)(h1:jk fe c.proved c.size ⟨s,[]⟩ (zeh c.size i) m)
  (h2:jk fe (zx c.room c.proved (xt c.size m.needed i h)) c.size ⟨m.net,[]⟩ (zeh c.size i) K):K.net=m.net:=by
 have hm:=h1.wf r (zbo _);have J:=zwz c.size m.needed i h hm;have X:(xt c.size m.needed i h).length≤9:=by
  have e:=zdt c.size m.needed i h;have W:m.needed.map (·.1)=(xt c.size m.needed i h).map (·.1):=e.symm;have:((xt c.size m.needed i h).map (·.1)).length≤(z8c c.size i).length:=by
   rw [← W];refine zyl _ _ hm.1 (fun p E=>?_);obtain⟨x,Z,rfl⟩:=List.mem_map.1 E;rcases h1.keys r (zbo _) x Z with ⟨y,hy,-⟩ | ⟨q,H,e⟩
   ·simp at hy
   ·rw [← e];exact zuh c.size i V Y q H
  rw [z3d] at this;simpa using this
 obtain⟨a,S⟩:=zqn c.room c.proved _ J.1 (by omega);have D:=zk8 c.room (xt c.size m.needed i h) c.proved r.1;have I:WfM (zx c.room c.proved (xt c.size m.needed i h)):=zez c.room _ _ r J.2;have A:=(zqv c.size m.needed i h hm).has (h1.has r (zbo _)).1;refine h2.quiet I (zbo _) (fun q H=>?_);obtain⟨f,L,f2,Q,R⟩:=A q H;have U:(zx c.room c.proved (xt c.size m.needed i h)).get q.1=some (zdx f):=by
  refine Mm.get_of_mem D ?_;rw [S];refine List.mem_append.2 (.inr (List.mem_map.2 ⟨_,Mm.get_mem L,rfl⟩))
 unfold yu;rw [show Mm.get (⟨m.net,[]⟩:Ms σ).needed q.1=none from rfl,U];simp only;rw [zus,if_pos R];exact Q
theorem zpe (r:σ→Int)(L:∀ s p,r (fe s p).2=r s+1){proved:Mm}{size:Nat}{m I:Ms σ}{l:Int}{j:Nat}{o:Sum (List UInt8) Pc}(h:qu fe proved size m l j=(o,I)):
  r m.net≤r I.net∧(((yu proved m.needed (zj size l j)).getD (j % 4) .no).there=false→r m.net < r I.net):=by
 have A:∀ s p,r (xm fe s p).2=r s+1:=fun s p=>L s _;have E:∀ s p,r s < r (jw fe s p).2:=by
  intro s p;have D:=A s p;unfold jw;cases e1:xm fe s p with
  | mk o s1 =>
   rw [e1] at D;simp only at D;cases o with
   | some f=>simp only;omega
   | none =>
    simp only
    split
    ·simp only;omega
    ·have J:=A s1 (p.1,p.2.1,4);cases e2:xm fe s1 (p.1,p.2.1,4) with
     | mk o2 s2 =>
      rw [e2] at J;simp only at J;cases o2<;>simp only<;>omega
 unfold qu at h;by_cases H:((yu proved m.needed (zj size l j)).getD (j % 4) .no).there=true
 ·rw [if_pos H] at h;simp only [Prod.mk.injEq] at h;obtain⟨-,rfl⟩:=h;exact⟨Int.le_refl _,fun K=>by rw [H] at K;simp at K⟩
 ·rw [if_neg H] at h;have D:=E m.net (zj size l j);cases hf:jw fe m.net (zj size l j) with
  | mk o s =>
   rw [hf] at h D;cases o with
   | none =>
    simp only [Prod.mk.injEq] at h;obtain⟨-,rfl⟩:=h;simp only at *
    exact⟨by omega,fun _=>by omega⟩
   | some came =>
    simp only [Prod.mk.injEq] at h;obtain⟨-,rfl⟩:=h;simp only at *
    exact⟨by omega,fun _=>by omega⟩
theorem jk.cnt {proved:Mm}{size:Nat}{m A:Ms σ}{E:List (Pl×Nat)}(h:jk fe proved size m E A)(r:σ→Int)(D:∀ s p,r (fe s p).2=r s+1):r m.net≤r A.net:=by
 induction h using jk.ind with
 | nil m=>exact Int.le_refl _
 | cons hj e _ ih =>
  have:=(zpe r D e).1;omega
theorem jk.head {proved:Mm}{size:Nat}{m D:Ms σ}{x:Pl×Nat}{r:List (Pl×Nat)}(h:jk fe proved size m (x::r) D):∃ l j c A,x=(zj size l j,j % 4)∧j < yd l size∧qu fe proved size m l j=(.inr c,A)∧jk fe proved size A r D:=by
 obtain⟨l,j,c,A,rfl,E,e,H⟩:=h;exact⟨l,j,c,A,rfl,E,e,H⟩
theorem zzy (size:Nat):∀(f a n:Nat),1≤n→n≤2 ^ f→yf size (f+1) a n≠[]:=by
 intro f
 induction f with
 | zero =>
  intro a n h1 h2;obtain rfl:n=1:=by omega
  rw [yf,if_pos (by decide)];simp
 | succ f ih =>
  intro a n h1 h2;by_cases r:n / 4 ^ lvl n=1
  ·rw [yf,if_pos r];simp
  ·have A:2≤n:=by
    rcases Nat.lt_or_ge n 2 with h | h
    ·exact absurd (by obtain rfl:n=1:=by omega
                      decide) r
    ·exact h
   obtain⟨D,H,E,I,J,K⟩:=jm n f A h2;rw [yf,if_neg r];simp [ih a (kOf n) E D]
theorem zwr {c:Cl}{s:σ}{i:Nat}{m m2:Ms σ}{A:List UInt8}(h:σ→Int)(hc:∀ s p,h (fe s p).2=h s+1)(hp:WfM c.proved)(Z:z5u c.room c.proved)(hr:c.room≤0∨(c.room=1∧2≤c.size))(hs:c.size < 2 ^ 63)(h1:jk fe c.proved c.size ⟨s,[]⟩ (zeh c.size i) m)
  (h2:jk fe (zx c.room c.proved (xt c.size m.needed i A)) c.size ⟨m.net,[]⟩ (zeh c.size i) m2):h m.net < h m2.net:=by
 have Q:(zx c.room c.proved (xt c.size m.needed i A)).get (zj c.size (-1) i)=none:=by
  rcases hr with hr | ⟨hr,I⟩
  ·rw [Z.1 hr,ze8 c.room hr];rfl
  ·have hl:=Z.2 hr;obtain⟨l,j,cc,W,-,hj,e,S⟩:=h1.head;have R:∃(a:Mm) (x:Pl×Fl),m.needed=a++[x]∧x.1.1≠-1:=by
    have V:WfM W.needed:=(jk.cons hj e (.nil W)).wf hp (zbo _);rcases S.last hp V with h0 | ⟨a,x,K,q,U,eq⟩
    ·exfalso;have:xy 64 0 c.size i≠[]:=by
      by_cases H:i < 0+kOf c.size
      ·rw [zbq 63 0 c.size i I H];simp
      ·rw [za5 63 0 c.size i I H];simp
     cases hps:xy 64 0 c.size i with
     | nil=>exact this hps
     | cons D r =>
      obtain⟨p1,p2,X⟩:=zfg 64 0 c.size i (by omega) D (by rw [hps];simp);rw [hps,List.flatMap_cons,List.append_eq_nil_iff] at h0;exact zzy c.size 63 D.1 D.2 X (by omega) h0.1
    ·refine⟨a,x,K,?_⟩;obtain⟨D,s1,s2⟩:=List.mem_flatMap.1 U;obtain⟨p1,p2,X⟩:=zfg 64 0 c.size i (by omega) D s1;obtain⟨l',j',rfl,-⟩:=zff c.size hs 63 D.1 D.2 (by omega) X (by omega) q s2;rw [← eq];show((l':Nat):Int)≠-1;omega
   obtain⟨a,x,K,J⟩:=R;have H:=zdt c.size m.needed i A;rw [K,List.map_append,List.map_eq_append_iff] at H;obtain⟨l1,l2,Y,-,E⟩:=H;simp only [List.map_cons,List.map_nil] at E;obtain⟨y,rfl,ey⟩:∃ y,l2=[y]∧y.1=x.1:=by
    cases l2 with
    | nil=>simp at E
    | cons y r =>
     rw [List.map_cons,List.cons.injEq,List.map_eq_nil_iff] at E;exact⟨y,by rw [E.2],E.1⟩
   rw [← K] at Y;rw [hr,Y,zok l1 c.proved y hl];have:¬ y.1=zj c.size (-1) i:=by
    rw [ey];intro e;rw [e] at J;exact J rfl
   unfold Mm.get;simp [this]
 obtain⟨l,j,cc,W,J,hj,e,S⟩:=h2.head;have a1:=(zpe h hc e).2;have a2:=S.cnt h hc;simp only [Prod.mk.injEq] at J;have L:yu (zx c.room c.proved (xt c.size m.needed i A)) [] (zj c.size l j)=Fl.no:=by
  unfold yu;rw [← J.1,Q];rfl
 have:((yu (zx c.room c.proved (xt c.size m.needed i A)) [] (zj c.size l j)).getD (j % 4) .no).there=false:=by
  rw [L];have:j % 4 < 4:=Nat.mod_lt _ (by omega)
  match j % 4,this with
  | 0,_ | 1,_ | 2,_ | 3,_=>rfl
 have a3:=a1 this;simp only at a3;omega
end
end
def ju (fs:Fs)(es:List (List UInt8))(size:Nat):Prop:=∀ f∈xd (es.take size),yp fs f.1=some f.2
theorem zf4 (fs:Fs)(n:Nt)(h:n.lies=[])(p:List UInt8):zu fs n p=(match yp fs p with
 | some d=>((d,true),{ n with fetches:=n.fetches+1 })
 | none=>(([],false),{ n with fetches:=n.fetches+1 })):=by
 unfold zu;have:zpt n p=none:=by unfold zpt;rw [h];rfl
 simp only [this];cases yp fs p<;>rfl
theorem zei (fs:Fs)(n:Nt)(p:List UInt8):(zu fs n p).2.fetches=n.fetches+1:=by
 unfold zu
 split
 ·rfl
 ·split<;>rfl
theorem zsi (fs:Fs):zpf (zu fs) (fun n=>n.lies=[]) (yp fs):=by
 refine⟨fun n p h=>?_,fun n p h=>?_⟩
 ·rw [zf4 fs n h];cases yp fs p<;>rfl
 ·rw [zf4 fs n h];cases yp fs p<;>exact h
theorem zkr {fs:Fs}{es:List (List UInt8)}{size:Nat}(h20:∀ e∈es,e.length≤20)(r:size≤es.length)(E:size < 4 ^ 21)(h:ju fs es size):Tru (zu fs) (fun n=>n.lies=[]) (yp fs) es size:=by
 have A:size < 2 ^ 63:=Nat.lt_of_lt_of_le E (by decide);refine⟨zsi fs,h20,r,A,fun l j w Q R e=>?_⟩;have D:(es.take size).length=size:=by simp;omega
 have K:l≤20:=by
  rcases Int.lt_or_le 20 l with I | I
  ·exfalso;have h1:4 ^ 21≤4 ^ l.toNat:=Nat.pow_le_pow_right (by omega) (by omega);have h2:yd l size=0:=by unfold yd;exact Nat.div_eq_of_lt (by omega)
   omega
  ·exact I
 have J:wid (yd l size) (j / 4)=w:=by
  unfold zj at e;simp only [Prod.mk.injEq,true_and] at e;unfold wid;omega
 have L:4*(j / 4)+w≤yd l size:=by unfold wid at J;omega
 have H:zbg (es.take size) l (yd l size) (j / 4)∈xd (es.take size):=by
  rw [vv,D];exact⟨l,j / 4,⟨Q,K⟩,by omega,rfl⟩
 have:=h _ H;unfold zbg at this;simp only at this;rw [J,zkz es size l (j / 4) w L r] at this;rw [e];exact this
theorem ju.went {es more:List (List UInt8)}{size:Nat}{fs r:Fs}{W:Fs}{c:List UInt8}(h:ju fs es size)(E:zd6 W c fs r)(D:size≤es.length):ju r (es++more) size:=by
 intro f A;rw [List.take_append_of_le_length D] at A;refine E.stays (h f A) ?_;obtain⟨l,j,-,-,rfl⟩:=vv.1 A;exact zmv
def zf8 (fs:Fs)(es:List (List UInt8)):Prop:=∀ q x,yp fs q=some x→q=cpF∨∃ n,n≤es.length∧(q,x)∈xd (es.take n)
theorem zf8.more {fs:Fs}{es:List (List UInt8)}(h:zf8 fs es)(more:List (List UInt8)):zf8 fs (es++more):=by
 intro q x r;rcases h q x r with h | ⟨n,h1,h2⟩
 ·exact .inl h
 ·exact .inr ⟨n,by simp;omega,by rw [List.take_append_of_le_length h1];exact h2⟩
theorem zf8.went {fs r:Fs}{es:List (List UInt8)}{c:List UInt8}(h:zf8 fs es)(D:zd6 (xd es) c fs r):zf8 r es:=by
 intro q x A;rcases D q with h1 | ⟨h1,h2⟩ | h1
 ·rw [h1] at A;exact h q x A
 ·obtain⟨y,E,e⟩:=h2;rw [A] at e;simp only [Option.some.injEq] at e;exact .inr ⟨es.length,Nat.le_refl _,by rw [List.take_length,e];exact E⟩
 ·exact .inl h1.1
theorem zf8.noClash {fs:Fs}{es:List (List UInt8)}(h:zf8 fs es)(L:es.length≤1000000):za9 fs (xd es):=by
 intro q x K;cases hq:yp fs q with
 | none=>exact .inl rfl
 | some y =>
  right;rcases h q y hq with rfl | ⟨n,Q,R⟩
  ·exact absurd K ((zj3 L).2 x)
  ·obtain⟨l,j,h1,h2,D⟩:=vv.1 K;obtain⟨l',S,I,A,r⟩:=vv.1 R;unfold zbg at D r;simp only [Prod.mk.injEq] at D r;have J:(es.take n).length=n:=by simp;omega
   rw [J] at A r;have U:=zeu l es.length;have V:=zeu l' n;obtain⟨rfl,W,X⟩:=zpn (zfd h1 h2) (zfd I A) (by omega) (by omega) (D.1.symm.trans r.1);have E:j=S:=by omega
   subst E;have H:wid (yd l es.length) j=wid (yd l n) j:=by omega
   rw [D.2,r.2,H,zkz es n l j _ (by unfold wid;omega) Q]
end Go.Proofs.YtndkblnpbjffhaaGreatDoor
