import Derived.Test.YtndkblnpbjffhaaGreatDoorG51
set_option maxHeartbeats 4000000
set_option maxRecDepth 100000
open Go.RowKit Go.Lib Go.Sort Go.ChangeShapes Go.WideShapes Go.ChangeAt
namespace Go.Proofs.YtndkblnpbjffhaaGreatDoor
theorem zlp (O:Nat→Prop)(W:World)(R:Nat→Addr)(hE:Env W)(aa:ja W R)(E L n:Nat)(es:List (List UInt8))(D:Nat)(key:List UInt8)(d:Dk)(w:World)(hW:Below W.heap.size W w)(hn:n≤4100)(h:RP W.heap.size w O E L n es D key d)(kind A:Int)(two:Bool)(t:List UInt8)(ht:t.length≤9223372036854775807)(U:kind=2∨kind=3):
  Calls Tryz.prog 10 #[.pointer (some ⟨E,0,none⟩),.agg #[.int .i64 kind,.int .i64 A,.bool two,.string ⟨t.toArray⟩]] w fun r w'=>r= .returned (.bool true)∧zg O aT w w'∧∃ more H K,RP W.heap.size w' (Ext O w w') E L (n+1) (es++more) H key K∧D≤H∧∀ s,s≤es.length→ju d.fs es s→ju K.fs es s:=by
 have ag:Hid (∀ o,Below w.heap.size w (w.alloc o)):=fun o=>ze w o;have X:Hid (∀ o,RP W.heap.size (w.alloc o) O E L n es D key d):=fun o=>h.below (ze w o);have Z:Hid (∀ o,Below W.heap.size W (w.alloc o)):=fun o=>hW.trans ((ze w o).mono hW.size);have ac:=za hE;have Y:=za aa;have ad:Hid (D≤es.length):=h.chk.1;have V:Hid (∀(o:Obj) (J:World) (S:List (List UInt8)) (H:Nat) (K:Dk),zg O aT (w.alloc o) J→RP W.heap.size J (Ext O (w.alloc o) J) E L (n+1) S H key K→zg O aT w J∧RP W.heap.size J (Ext O w J) E L (n+1) S H key K):=fun o J S H K Q I=>by
  have hs:=(ze w o).size;have af:=Q.size;refine⟨(zg.of_below (ze w o)).trans (Q.mono (fun _ h=> .inl h) (fun _ h=>h)),?_⟩;obtain⟨lv,ev,s,put,g⟩:=I.full;refine⟨.inl h.hwb,zj2 hW.size h.own (Nat.le_trans hs af),⟨lv,ev,s,put,g.mono (fun k U=>?_)⟩,I.still,I.since,I.chk⟩;rcases U with U | U
  ·exact .inl U
  ·exact .inr ⟨by omega,U.2⟩
 obtain⟨lv,ev,s,put,ae,hw,-,-,pb,lb,rfl,-⟩:=h.full;obtain⟨⟨c0,-⟩,-,⟨c2,-⟩,⟨c3,-⟩,-,-,⟨c6,-⟩⟩:=zgp hw;unfold vr at c0;have a0:∀ o,(w.alloc o).cell? ⟨E,0,none⟩=some (.pointer (some ⟨L,0,none⟩)):=fun o=>by rw [zl _ _ ⟨E,0,none⟩ (zk c0)];exact c0
 have a2:∀ o,(w.alloc o).cell? ⟨E,2,none⟩=some (.pointer (some ⟨pb,0,none⟩)):=fun o=>by rw [zl _ _ ⟨E,2,none⟩ (zk c2)];exact c2
 have a6:∀ o,(w.alloc o).cell? ⟨E,6,none⟩=some (.bool false):=fun o=>by rw [zl _ _ ⟨E,6,none⟩ (zk c6)];exact c6
 clear hW hE aa h ae hw c0 c2 c3 c6;rcases U with rfl | rfl
 ·go_enter Tryz.func10,Tryz.ntmps10;go_wp2_with fail;refine(z02 O W R Y.o E L n es D key d t _ (Z.o _) (by omega) ht (X.o _)).mono ?_;rintro r J ⟨rfl,Q,more,I⟩;have HX:=za (V.o _ _ _ _ _ Q I);clear Q I;go_wp2_with fail;go_ret;exact⟨rfl,HX.o.1,more,D,d,HX.o.2,Nat.le_refl _,fun _ _ h=>h⟩
 ·go_enter Tryz.func10,Tryz.ntmps10;go_wp2_with fail;refine(zw5 O W R ac.o Y.o E L n es D key d _ (Z.o _) hn (X.o _)).mono ?_;rintro r J ⟨rfl,Q,K,I,hA⟩;have HX:=za (V.o _ _ _ _ _ Q I);have HA:=za hA;clear Q I hA;go_wp2_with fail;go_ret;exact⟨rfl,HX.o.1,[],es.length,K,by rw [List.append_nil];exact HX.o.2,ad.o,HA.o⟩
theorem zwp (f:Nat):∀ r:List (List UInt8),r.length≤f→xe (f+1) r=xe f r:=by
 induction f with
 | zero=>intro r h;rw [zae _ _ (by omega),zae _ _ (by omega)]
 | succ f ih =>
  intro r h;by_cases h0:r.length=0
  ·rw [zae _ _ h0,zae _ _ h0]
  by_cases h1:r.length=1
  ·rw [zc3 _ _ h1,zc3 _ _ h1]
  obtain⟨A,D,E⟩:=jg r.length (by omega);rw [vb (f+1) r (by omega),vb f r (by omega),ih (r.take (kOf r.length)) (by simp;omega),ih (r.drop (kOf r.length)) (by simp;omega)]
theorem zc8 (P:List (List UInt8))(R:List UInt8):(P++[R]).dropLast=P:=by simp
theorem zh8 (P:List (List UInt8))(R:List UInt8):(P++[R]).getLastD []=R:=by simp [List.getLastD_eq_getLast?]
theorem zlx (P:List (List UInt8))(R:List UInt8):(P++[R]).length≠0:=by simp
theorem z3r (f:Nat):∀(r:List (List UInt8)) (i:Nat),1≤r.length→(zac f r i).length+1≤r.length:=by
 induction f with
 | zero=>intro r i h;simpa [zac] using h
 | succ f ih =>
  intro r i h;by_cases h1:r.length≤1
  ·rw [zcm _ _ _ h1];simpa using h
  obtain⟨D,E,H⟩:=jg r.length (by omega);by_cases A:i < kOf r.length
  ·rw [zcy _ _ _ (by omega) A];have:=ih (r.take (kOf r.length)) i (by simp;omega);simp at this ⊢;omega
  ·rw [zb1 _ _ _ (by omega) A];have:=ih (r.drop (kOf r.length)) (i - kOf r.length) (by simp;omega);simp at this ⊢;omega
theorem z40 (z:List UInt8)(f:Nat):∀(r:List (List UInt8)) (i:Nat),1≤r.length→r.length≤f→i < r.length →
  vq z f (jc (r.getD i [])) i r.length (zac f r i)=(xe f r,true):=by
 induction f with
 | zero=>intro r i h1 h2;omega
 | succ f ih =>
  intro r i h1 H I;by_cases h:r.length=1
  ·rw [zcm _ _ _ (by omega),h,znb,zc3 _ _ h];obtain rfl:i=0:=by omega
   match r,h with
   | [l],_=>simp
  obtain⟨J,K,L⟩:=jg r.length (by omega);by_cases A:i < kOf r.length
  ·rw [zcy _ _ _ (by omega) A,zkm _ _ _ _ _ _ h (zlx _ _) A,zc8,zh8];have e:=ih (r.take (kOf r.length)) i (by simp;omega) (by simp;omega) (by simp;omega);have D:(r.take (kOf r.length)).getD i []=r.getD i []:=by simp [List.getD_eq_getElem?_getD,A]
   have E:(r.take (kOf r.length)).length=kOf r.length:=by simp;omega
   rw [D,E] at e;rw [e,vb _ _ (by omega)]
  ·rw [zb1 _ _ _ (by omega) A,zit _ _ _ _ _ _ h (zlx _ _) A,zc8,zh8];have e:=ih (r.drop (kOf r.length)) (i - kOf r.length) (by simp;omega) (by simp;omega) (by simp;omega);have D:(r.drop (kOf r.length)).getD (i - kOf r.length) []=r.getD i []:=by
    simp only [List.getD_eq_getElem?_getD,List.getElem?_drop];rw [show kOf r.length+(i - kOf r.length)=i by omega]
   have E:(r.drop (kOf r.length)).length=r.length - kOf r.length:=by simp
   rw [D,E] at e;rw [e,vb _ _ (by omega)]
theorem z77 (f:Nat):∀(m:Nat) (r:List (List UInt8)) (whole:Bool),1≤m→m≤r.length→(zci f m r whole).length≤r.length:=by
 induction f with
 | zero=>intro m r whole h h2;simp [zci]
 | succ f ih =>
  intro m r whole h h2;by_cases h1:m=r.length
  ·subst h1;cases whole with
   | true=>rw [zc0];simp
   | false=>rw [zfe];simpa using h
  obtain⟨D,E,H⟩:=jg r.length (by omega);by_cases A:m≤kOf r.length
  ·rw [zfh _ _ _ _ h1 A];have:=ih m (r.take (kOf r.length)) whole h (by simp;omega);simp at this ⊢;omega
  ·rw [zd9 _ _ _ _ h1 A];have:=ih (m - kOf r.length) (r.drop (kOf r.length)) false (by omega) (by simp;omega);simp at this ⊢;omega
theorem z3p (z a:List UInt8)(f:Nat):∀(m:Nat) (h:List (List UInt8)) (whole:Bool),1≤m→m≤h.length→h.length≤f→(whole=true→a=xe f (h.take m)) →
  je z a f m h.length (zci f m h whole) whole=(xe f (h.take m),xe f h,true):=by
 induction f with
 | zero=>intro m h whole h1 h2 R;omega
 | succ f ih =>
  intro m h whole h1 h2 S D;by_cases hm:m=h.length
  ·subst hm;cases whole with
   | true=>rw [zc0,ziy,List.take_length] ;rw [List.take_length] at D;rw [← D rfl];simp
   | false=>rw [zfe,zjz _ _ _ _ _ (by simp),List.take_length];simp
  obtain⟨U,Q,V⟩:=jg h.length (by omega);by_cases r:m≤kOf h.length
  ·rw [zfh _ _ _ _ hm r,zkx _ _ _ _ _ _ _ hm (zlx _ _) r,zc8,zh8];have H:(h.take (kOf h.length)).take m=h.take m:=by rw [List.take_take,Nat.min_eq_left r]
   have A:(h.take (kOf h.length)).length=kOf h.length:=by simp;omega
   have es:xe (f+1) (h.take m)=xe f (h.take m):=zwp f _ (by simp;omega);have e:=ih m (h.take (kOf h.length)) whole h1 (by omega) (by omega) (fun L=>by rw [H,← es];exact D L);rw [H,A] at e;rw [e,es,vb f h (by omega)]
  ·rw [zd9 _ _ _ _ hm r,zip _ _ _ _ _ _ _ hm (zlx _ _) r,zc8,zh8];have A:(h.drop (kOf h.length)).length=h.length - kOf h.length:=by simp
   have e:=ih (m - kOf h.length) (h.drop (kOf h.length)) false (by omega) (by omega) (by omega) (by simp);rw [A] at e;have K:(h.take m).length=m:=by simp;omega
   have E:kOf m=kOf h.length:=by
    unfold kOf at r Q ⊢;refine(z3a m _ (by omega) ?_).symm;rw [Nat.pow_succ];omega
   have I:(h.take m).take (kOf h.length)=h.take (kOf h.length):=by rw [List.take_take,Nat.min_eq_left (by omega)]
   have J:(h.take m).drop (kOf h.length)=(h.drop (kOf h.length)).take (m - kOf h.length):=by rw [List.drop_take]
   rw [e,vb f h (by omega),vb f (h.take m) (by omega),K,E,I,J]
section
theorem z1j (z D:List UInt8):∀(f g i n:Nat) (r:List (List UInt8)),r.length < f→r.length < g→vq z f D i n r=vq z g D i n r:=by
 intro f
 induction f with
 | zero=>intro g i n r h;omega
 | succ f ih =>
  intro g i n r h1 h2;obtain⟨g,rfl⟩:∃ I,g=I+1:=⟨g - 1,by omega⟩
  unfold vq;by_cases E:n=1
  ·rw [if_pos E,if_pos E]
  rw [if_neg E,if_neg E];by_cases h0:r.length=0
  ·rw [if_pos h0,if_pos h0]
  rw [if_neg h0,if_neg h0];have H:r.dropLast.length < f:=by simp;omega
  have A:r.dropLast.length < g:=by simp;omega
  rw [ih g i (kOf n) _ H A,ih g (i - kOf n) (n - kOf n) _ H A]
theorem z0e (z a:List UInt8):∀(f g m n:Nat) (r:List (List UInt8)) (whole:Bool),r.length < f→r.length < g→je z a f m n r whole=je z a g m n r whole:=by
 intro f
 induction f with
 | zero=>intro g m n r whole h;omega
 | succ f ih =>
  intro g m n r whole h1 h2;obtain⟨g,rfl⟩:∃ H,g=H+1:=⟨g - 1,by omega⟩
  unfold je;by_cases D:m=n
  ·rw [if_pos D,if_pos D]
  rw [if_neg D,if_neg D];by_cases h0:r.length=0
  ·rw [if_pos h0,if_pos h0]
  rw [if_neg h0,if_neg h0];have E:r.dropLast.length < f:=by simp;omega
  have A:r.dropLast.length < g:=by simp;omega
  rw [ih g m (kOf n) _ whole E A,ih g (m - kOf n) (n - kOf n) _ false E A]
def zef (es:List (List UInt8))(size i:Nat):List (List UInt8):=(xy 64 0 size i).map fun s=>ye (run es s)
def zdn (es:List (List UInt8))(old size:Nat):List (List UInt8):=(qd 64 old 0 size true).map fun s=>ye (run es s)
theorem zt9 (es:List (List UInt8))(n:Nat):run es (0,n)=es.take n:=by simp [run]
theorem zsw (es:List (List UInt8))(size i g:Nat)(h:size≤es.length)(D:size < 2 ^ 63)(A:i < size)(r:size≤g):zac g (es.take size) i=zef es size i:=by
 have:=zum es 64 g 0 size i (by omega) r (by omega) (by omega) (by omega);rw [zt9,Nat.sub_zero] at this;exact this
theorem zr9 (es:List (List UInt8))(old size g:Nat)(h:size≤es.length)(D:size < 2 ^ 63)(h0:0 < old)(A:old≤size)(r:size≤g):zci g old (es.take size) true=zdn es old size:=by
 have:=zuw es 64 g old 0 size true (by omega) r (by omega) (by omega) (by omega);rw [zt9,Nat.sub_zero] at this;exact this
theorem zpy (es:List (List UInt8))(size i:Nat):(zef es size i).length≤64:=by
 unfold zef;rw [List.length_map];exact zaw 64 0 size i
theorem zoq (es:List (List UInt8))(old size:Nat):(zdn es old size).length≤65:=by
 unfold zdn;rw [List.length_map];exact za4 64 old 0 size true
theorem zbj {es:List (List UInt8)}{n:Nat}(h:n≤es.length):(es.take n).length=n:=by simp;omega
theorem z3v (z:List UInt8)(es:List (List UInt8))(size i:Nat)(h:size≤es.length)(D:size < 2 ^ 63)(r:i < size):vq z 1001 (jc (es.getD i [])) i size (zef es size i)=(ye (es.take size),true):=by
 have A:=zbj h;have h1:=z40 z size (es.take size) i (by omega) (by omega) (by omega);have h2:=z3r size (es.take size) i (by omega);rw [zsw es size i size h D r (Nat.le_refl _)] at h1 h2;have E:=zpy es size i;rw [z1j z _ 1001 size i size _ (by omega) (by omega)];rw [A] at h1;have e:(es.take size).getD i []=es.getD i []:=by
  rw [List.getD_eq_getElem?_getD,List.getD_eq_getElem?_getD,List.getElem?_take,if_pos r]
 rw [e] at h1;rw [h1];unfold ye;rw [A]
theorem z2y (z:List UInt8)(es:List (List UInt8))(old size:Nat)(h:size≤es.length)(J:size < 2 ^ 63)(h0:0 < old)(I:old≤size):je z (ye (es.take old)) 1001 old size (zdn es old size) true=(ye (es.take old),ye (es.take size),true):=by
 have E:=zbj h;have r:(es.take size).take old=es.take old:=by rw [List.take_take];congr 1;omega
 have H:(es.take old).length=old:=zbj (by omega);have A:xe (size+1) (es.take old)=ye (es.take old):=vz _ _ _ (by omega) (by omega);have D:xe (size+1) (es.take size)=ye (es.take size):=vz _ _ _ (by omega) (by omega);have h1:=z3p z (ye (es.take old)) (size+1) old (es.take size) true (by omega) (by omega) (by omega) (fun _=>by rw [r,A]);have h2:=z77 (size+1) old (es.take size) true (by omega) (by omega);rw [zr9 es old size (size+1) h J h0 I (by omega)] at h1 h2;have K:=zoq es old size;rw [z0e z _ 1001 (size+1) old size _ true (by omega) (by omega)];rw [E,r,A,D] at h1;exact h1
section
variable {σ : Type} {fe : σ → List UInt8 → (List UInt8 × Bool) × σ}
theorem zxj (r:σ→Int)(L:∀ s p,r (fe s p).2=r s+1){proved:Mm}{size:Nat}{m I:Ms σ}{l:Int}{j:Nat}{o:Sum (List UInt8) Pc}(h:qu fe proved size m l j=(o,I)):
  r I.net≤r m.net+2∧I.needed.length≤m.needed.length+1:=by
 have E:∀ s p,r (xm fe s p).2=r s+1:=fun s p=>L s _;have D:∀(a:Mm) p f,(a.drop p++[(p,f)]).length≤a.length+1:=fun a p f=>by
  have:=List.length_filter_le (fun x:Pl×Fl=>!decide (x.1=p)) a;simp only [List.length_append,List.length_cons,List.length_nil];unfold Mm.drop;omega
 have H:∀ s p,r (jw fe s p).2≤r s+2:=by
  intro s p;have A:=E s p;unfold jw;cases e1:xm fe s p with
  | mk o s1 =>
   rw [e1] at A;simp only at A;cases o with
   | some f=>simp only;omega
   | none =>
    simp only
    split
    ·simp only;omega
    ·have J:=E s1 (p.1,p.2.1,4);cases e2:xm fe s1 (p.1,p.2.1,4) with
     | mk o2 s2 =>
      rw [e2] at J;simp only at J;cases o2<;>simp only<;>omega
 unfold qu at h;by_cases K:((yu proved m.needed (zj size l j)).getD (j % 4) .no).there=true
 ·rw [if_pos K] at h;simp only [Prod.mk.injEq] at h;obtain⟨-,rfl⟩:=h;exact⟨by simp only;omega,D _ _ _⟩
 ·rw [if_neg K] at h;have A:=H m.net (zj size l j);cases hf:jw fe m.net (zj size l j) with
  | mk o s =>
   rw [hf] at h A;cases o with
   | none =>
    simp only [Prod.mk.injEq] at h;obtain⟨-,rfl⟩:=h;simp only at *
    exact⟨A,by omega⟩
   | some came =>
    simp only [Prod.mk.injEq] at h;obtain⟨-,rfl⟩:=h;simp only at *
    exact⟨A,D _ _ _⟩
theorem jk.cost {proved:Mm}{size:Nat}{m A:Ms σ}{D:List (Pl×Nat)}(h:jk fe proved size m D A)(r:σ→Int)(E:∀ s p,r (fe s p).2=r s+1):r A.net≤r m.net+2*(D.length:Int)∧A.needed.length≤m.needed.length+D.length:=by
 induction h using jk.ind with
 | nil m=>exact⟨by simp,by simp⟩
 | cons hj e _ ih =>
  have:=zxj r E e;simp only [List.length_cons];omega
theorem z8o (room:Int)(m:Mm)(p:Pl)(f:Fl):(m.put room p f).length≤m.length+1:=by
 have:=List.length_filter_le (fun x:Pl×Fl=>!decide (x.1=p)) m;unfold Mm.put Mm.drop
 split
 ·simp only [List.length_tail,List.length_append,List.length_cons,List.length_nil];omega
 ·simp only [List.length_append,List.length_cons,List.length_nil];omega
theorem zgf (room:Int):∀(r h:Mm),(zx room h r).length≤h.length+r.length
 | [],h=>by simp [zx]
 | x::r,h=>by
  have h1:=zgf room r (h.put room x.1 (zdx x.2));have h2:=z8o room h x.1 (zdx x.2);show(zx room (h.put room x.1 (zdx x.2)) r).length≤_;simp only [List.length_cons];omega
end
structure CI (es:List (List UInt8))(c:Cl)(t:Nat):Prop where
 le:c.size≤es.length
 gd:GdM (zau es) c.proved
 ins:InS c.size c.proved
 rt:c.root=ye (es.take c.size)
 room:z5u c.room c.proved
 len:c.proved.length≤10000*t
theorem CI.more {es:List (List UInt8)}{c:Cl}{t:Nat}(h:CI es c t)(more:List (List UInt8)):CI (es++more) c t :=
 ⟨by have:=h.le;simp;omega,h.gd.weak (fun _ _ _ r=>zwy r more),h.ins,by rw [List.take_append_of_le_length h.le];exact h.rt,h.room,h.len⟩
theorem CI.later {es:List (List UInt8)}{c:Cl}{t r:Nat}(h:CI es c t)(A:t≤r):CI es c r:=⟨h.le,h.gd,h.ins,h.rt,h.room,by have:=h.len;omega⟩
theorem z97 (es:List (List UInt8))(key:List UInt8)(room:Int):CI es ⟨key,0,ye [],room,[]⟩ 0 :=
 ⟨Nat.zero_le _,zbo _,fun x h=>by simp at h,by simp,⟨fun _=>rfl,fun _=>by simp⟩,by simp⟩
section
variable {fs : Fs} {es : List (List UInt8)} {c : Cl} {n : Nt} {t i : Nat}
theorem zyk (inc:List UInt8→Nat→Nat→List (List UInt8)→List UInt8→Bool)(E:∀ size i,size≤es.length→i < size→inc (jc (es.getD i [])) i size (zef es size i) (ye (es.take size))=true)(h20:∀ e∈es,e.length≤20)(H:es.length < 4 ^ 21)(D:ju fs es c.size)(S:n.lies=[])(h:CI es c t)(K:i < c.size):
  ∃ m,jk (zu fs) c.proved c.size ⟨n,[]⟩ (zeh c.size i) m∧m.net.lies=[]∧n.fetches≤m.net.fetches∧m.net.fetches≤n.fetches+17000 ∧
   jd (zu fs) inc c n i=(.inr (es.getD i [],zef es c.size i),{ c with proved:=zx c.room c.proved (xt c.size m.needed i (jc (es.getD i []))) },m.net) ∧
   CI es { c with proved:=zx c.room c.proved (xt c.size m.needed i (jc (es.getD i []))) } (t+1):=by
 have I:=zkr (fs:=fs) h20 h.le (Nat.lt_of_le_of_lt h.le H) D;have A:=I.lt;obtain⟨m,h1,h2,L,Q,h5⟩:=zvg I h.gd h.ins S K inc (by rw [h.rt];exact E c.size i h.le K);have J:=h1.cost (fun x:Nt=>x.fetches) (zei fs);have r:=h1.cnt (fun x:Nt=>x.fetches) (zei fs);have R:(zeh c.size i).length≤8401:=by
  have:=zop c.size i A;unfold zeh;simp only [List.length_cons];omega
 simp only at J r;refine⟨m,h1,h2,r,by omega,L,h.le,Q,h5,h.rt,h.room.remember _,?_⟩;have e:=congrArg List.length (zdt c.size m.needed i (jc (es.getD i [])));simp only [List.length_map] at e;have:=zgf c.room (xt c.size m.needed i (jc (es.getD i []))) c.proved;have:=h.len;have:=J.2;simp only [List.length_nil] at this;simp only;omega
theorem z5e (inc:List UInt8→Nat→Nat→List (List UInt8)→List UInt8→Bool)(K:∀ size i,size≤es.length→i < size→inc (jc (es.getD i [])) i size (zef es size i) (ye (es.take size))=true)(h20:∀ e∈es,e.length≤20)(D:es.length < 4 ^ 21)(J:ju fs es c.size)(Z:n.lies=[])(h:CI es c t)(L:i < c.size):
  ∃ E A I H,jd (zu fs) inc c n i=(.inr (es.getD i [],zef es c.size i),E,A)∧jd (zu fs) inc E A i=(.inr (es.getD i [],zef es c.size i),I,H) ∧
   (E.key=c.key∧E.size=c.size∧E.room=c.room)∧(I.key=c.key∧I.size=c.size∧I.room=c.room)∧CI es E (t+1)∧CI es I (t+2)∧A.lies=[]∧H.lies=[] ∧
   (n.fetches≤A.fetches∧A.fetches≤n.fetches+17000)∧(A.fetches≤H.fetches∧H.fetches≤A.fetches+17000) ∧
   (16≤c.room→c.size≤256→H.fetches=A.fetches)∧((c.room≤0∨(c.room=1∧2≤c.size))→A.fetches < H.fetches):=by
 obtain⟨m,h1,h2,X,Y,h5,h6⟩:=zyk inc K h20 D J Z h L;obtain⟨m2,Q,R,S,U,V,W⟩:=zyk (c:={ c with proved:=zx c.room c.proved (xt c.size m.needed i (jc (es.getD i []))) }) (n:=m.net) inc K h20 D J h2 h6 L;refine⟨_,_,_,_,h5,V,⟨rfl,rfl,rfl⟩,⟨rfl,rfl,rfl⟩,h6,W,h2,R,⟨X,Y⟩,⟨S,U⟩,fun r s=>?_,fun r=>?_⟩
 ·have:=zu5 h.gd.wf r s L h1 Q;rw [this]
 ·exact zwr (fun x:Nt=>x.fetches) (zei fs) h.gd.wf h.room r (Nat.lt_of_le_of_lt h.le (Nat.lt_trans D (by decide))) h1 Q
theorem zsa (h20:∀ e∈es,e.length≤20)(H:es.length < 4 ^ 21)(D:ju fs es c.size)(R:n.lies=[])(h:CI es c t)(Q:i < c.size):∀ p L,qu (zu fs) c.proved c.size ⟨n,[]⟩ (-1) i=(.inr p,L)→p.entry.length≤1000000:=by
 intro p L e;have I:=zkr (fs:=fs) h20 h.le (Nat.lt_of_le_of_lt h.le H) D;have J:i < yd (-1) c.size:=by simpa [yd] using Q
 rcases zko (fe:=zu fs) (proved:=c.proved) (m:=⟨n,[]⟩) (l:=-1) (j:=i) I.tells.says_file (zd5 es) (fun A e=>(I.ctx h.gd).told _ _ A (by omega) J e) h.gd (zbo _) R J with ⟨own,S,r,U,hv,-,-⟩ | ⟨S,r,-,-,-⟩
 ·rw [e] at r;simp only [Prod.mk.injEq,Sum.inr.injEq] at r;obtain⟨rfl,-⟩:=r;have K:=(hv.1.1 rfl).2;rw [zb3] at K;have E:i < es.length:=by have:=h.le;omega
  rw [K,List.getD_eq_getElem?_getD,List.getElem?_eq_getElem E];have:=h20 es[i] (List.getElem_mem _);simp only [Option.getD_some];omega
 ·rw [e] at r;simp at r
theorem z2g (con:Nat→Nat→List UInt8→List UInt8→List (List UInt8)→Bool)(K:∀ a b,0 < a→a≤b→b≤es.length→con a b (ye (es.take a)) (ye (es.take b)) (zdn es a b)=true)(h20:∀ e∈es,e.length≤20)(L:es.length < 4 ^ 21){r:Nat}(I:ju fs es r)(V:n.lies=[])(h:CI es c t)(J:c.size≤r)(D:r≤es.length):
  ∃ c' E,zgq (zu fs) con c n (some (r,ye (es.take r)))=(.inr (if 0 < c.size∧c.size < r then zdn es c.size r else []),c',E)∧(c'.key=c.key∧c'.size=r∧c'.room=c.room)∧CI es c' (t+1)∧E.lies=[]∧n.fetches≤E.fetches∧E.fetches≤n.fetches+17000:=by
 have S:=zkr (fs:=fs) h20 D (Nat.lt_of_le_of_lt D L) I;have H:=S.lt;obtain⟨pr,s',e,Q,R,Z,g4⟩:=ztq (c:=c) S h.gd h.ins V h.rt J con (fun h0 h1=>by rw [h.rt];exact K c.size r h0 J D);refine⟨{ c with size:=r,root:=ye (es.take r),proved:=pr },s',?_,⟨rfl,rfl,rfl⟩,?_⟩
 ·unfold zgq;simp only;rw [e];rfl
 ·rcases g4 with ⟨rfl,rfl⟩ | ⟨X,W,rfl,rfl,h0⟩
  ·exact⟨⟨D,Q,R,rfl,h.room,by have:=h.len;simp only;omega⟩,V,Int.le_refl _,by omega⟩
  ·have U:=W.cost (fun x:Nt=>x.fetches) (zei fs);have A:=W.cnt (fun x:Nt=>x.fetches) (zei fs);have aa:=zpl c.size r H h0 J;simp only at U A;have Y:=congrArg List.length (zju r X.needed c.size c.root);simp only [List.length_map] at Y;have:=zgf c.room (zb8 r X.needed c.size c.root) c.proved;have:=h.len;have:=U.2;simp only [List.length_nil] at this;exact⟨⟨D,Q,R,rfl,h.room.remember _,by simp only;omega⟩,Z,A,by omega⟩
end
end
def zeo (w w':World)(x:Value)(h:List (List UInt8)):Prop:=w'.ownsRow w.heap.size 9 1 x h.length (h.map txt)
theorem znr (w w':World)(z:List (List UInt8))(h:z=[]):zeo w w' (.slice none 0 0) z:=by
 subst h;exact⟨rfl,.inl ⟨rfl,rfl⟩⟩
theorem zzd (w h:World)(p:List UInt8)(r:w.heap.size≤h.heap.size):zeo w (h.alloc (.cells #[txt p] 9)) (.slice (some ⟨h.heap.size,0,none⟩) 1 1) [p]:=by
 refine⟨by simp,.inr ⟨h.heap.size,1,#[txt p],rfl,r,heap_alloc_last _ _,by simp,by unfold maxLen;simp,by simp,by simp⟩⟩
theorem zvu (f:Nat)(b K D i:Nat)(A:List ByteArray)(w:World)(h2:2≤A.length)(hn:A.length≤1000000)(aj:i < kOf A.length)(an:A.length≤D)(L:∀ s∈A,s.size < maxLen)(h:Sss w (.slice (some ⟨b,K,none⟩) A.length D) A)(hf:A.length≤f+1)(ai:f≤1000000)
  (ih:∀(v:Value) (A:List ByteArray) (i:Int) (w:World),1≤A.length→A.length≤f→0≤i→i < A.length→(∀ s∈A,s.size < maxLen)→Sss w v A→Calls Tryz.prog 33 #[v,.int .i64 i] w fun r w'=>∃ x,r= .returned x∧Below w.heap.size w w'∧zeo w w' x (zac f (bys A) i.toNat)) :
  Calls Tryz.prog 33 #[.slice (some ⟨b,K,none⟩) A.length D,.int .i64 i] w fun r w'=>∃ x,r= .returned x∧Below w.heap.size w w'∧zeo w w' x (zac (f+1) (bys A) i):=by
 obtain⟨t,hi,W⟩:=Option.map_eq_some_iff.1 zf6;obtain⟨Z,aa,ac⟩:t.zero=some (.string ⟨#[]⟩)∧t.size=1∧t.bytes=16:=by simpa using W
 clear W;have HI:=za hi;have HZ:=za (And.intro Z (And.intro aa ac));clear hi Z aa ac;obtain⟨k1,k2,k3⟩:=jg A.length h2;unfold zeo;have eb:=vm A;rw [zcy f (bys A) i (by omega) (by rw [eb];exact aj),List.map_append,List.length_append,List.length_singleton,eb];clear eb;have hk:kOf A.length≤A.length:=by omega
 have Hl:=za L;have H:=za h;have IH:=za (ih (.slice (some ⟨b,K,none⟩) (kOf A.length) D) (A.take (kOf A.length)) (i:Int));have RT:=za (zbw f);have f1:(A.take (kOf A.length)).length≤f:=by simp;omega
 have f2:(A.drop (kOf A.length)).length≤f:=by simp;omega
 have f3:1≤(A.take (kOf A.length)).length:=by simp;omega
 have f4:(A.drop (kOf A.length)).length≤1000000:=by simp;omega
 have f5:0≤((i:Int):Int):=by omega
 have f6:(i:Int) < ((A.take (kOf A.length)).length:Int):=by simp;omega
 have F:=za (And.intro f1 (And.intro f2 (And.intro f3 (And.intro f4 (And.intro f5 f6)))));clear f1 f2 f3 f4 f5 f6;have HE:Hid (((i:Int):Int).toNat=i):=(by omega:((i:Int):Int).toNat=i)
 rw [HE.o,zhe] at IH;have HC:=za (Nat.le_trans (zld f ((bys A).take (kOf A.length)) (i)) ai);have ag:=za (zhl A (kOf A.length));generalize hR:xe f ((bys A).drop (kOf A.length))=R at *
 have HR:=za hR;generalize zac f ((bys A).take (kOf A.length)) (i)=P at *
 have n2:((A.length:Int)==1)=false:=beq_eq_false_iff_ne.2 (by omega);clear L h ih hR;have c1:(kOf A.length:Int)≤(D:Int):=by omega
 have c2:(kOf A.length:Int)≤(A.length:Int):=by omega
 have c3:(0:Int)≤(kOf A.length:Int):=by omega
 have c6:IntKind.i64.wrap ((i:Int))=(i:Int):=by rw [IntKind.wrap_i64];omega
 have c5:¬ D=kOf A.length:=by omega
 have c4:(i:Int) < (kOf A.length:Int):=by omega
 go_enter Tryz.func33,Tryz.ntmps33;go_wp2_with fail;refine(zfi A.length _ h2 (Nat.le_trans hn (by decide))).mono ?_;rintro e w' ⟨rfl,hw⟩;rw [hw];clear hw w';go_wp2_with fail;refine(IH.out _ F.out.2.2.1 F.out.1 F.out.2.2.2.2.1 F.out.2.2.2.2.2 (fun l L=>Hl.o l (List.mem_of_mem_take L)) (by exact H.o.take _ hk)).mono ?_;rintro e w1 ⟨y,rfl,U,X⟩;have J:=za U;have S:Hid (w1.ownsRow w.heap.size 9 1 y P.length (P.map txt)):=X;clear U X;go_wp2_with fail;refine(RT.out _ (A.drop (kOf A.length)) _ F.out.2.1 F.out.2.2.2.1 (fun l L=>Hl.o l (List.mem_of_mem_drop L)) (by exact(H.o.drop _ hk).below J.o)).mono ?_;rintro e Q ⟨hr,I⟩;rw [ag.o,HR.o] at hr;subst hr;have E:=za (J.o.trans (I.mono J.o.size));have ae:Hid (∀ o,(Q.alloc o).ownsRow w.heap.size 9 1 y P.length (P.map txt)):=fun o=>zy S.o (I.trans ((ze Q o).mono I.size));have al:Hid (w.heap.size≤Q.heap.size):=E.o.size;clear I;unfold txt;go_wp2_with (at_builtin;refine wpList_append_lies _ rfl _ _ _ rfl w.heap.size 9 t (.string ⟨#[]⟩) 1 16 Tryz.underlying29 HI.o HZ.o.1 HZ.o.2.1 HZ.o.2.2 rfl (by omega) y P.length _ rfl (ae.o _) ⟨Q.heap.size,0,none⟩ 1 1 [.string ⟨R.toArray⟩] rfl rfl (World.news_of_block (heap_alloc_last _ _)) (by simp [Value.oneCell']) (by omega) (by have:=HC.o;unfold maxLen;omega) (by have:=HC.o;omega) (by have:=al.out;simp;omega) (Q.heap.size+1) (by simp) ?_;intro g am w3 Y V ah ak);have ad:Hid (Below w.heap.size w w3):=((E.o.trans ((ze Q _).mono E.o.size)).grown V (by have:=E.o.size;simp;omega) (qf S.o))
 have af:=za Y;clear V ah ak Y;go_wp2_with fail;go_ret;exact⟨_,rfl,ad.o,af.o⟩
theorem zrt (f:Nat)(b K D i:Nat)(A:List ByteArray)(w:World)(h2:2≤A.length)(hn:A.length≤1000000)(aj:¬ i < kOf A.length)(ao:i < A.length)(an:A.length≤D)(L:∀ s∈A,s.size < maxLen)(h:Sss w (.slice (some ⟨b,K,none⟩) A.length D) A)(hf:A.length≤f+1)(ai:f≤1000000)
  (ih:∀(v:Value) (A:List ByteArray) (i:Int) (w:World),1≤A.length→A.length≤f→0≤i→i < A.length→(∀ s∈A,s.size < maxLen)→Sss w v A→Calls Tryz.prog 33 #[v,.int .i64 i] w fun r w'=>∃ x,r= .returned x∧Below w.heap.size w w'∧zeo w w' x (zac f (bys A) i.toNat)) :
  Calls Tryz.prog 33 #[.slice (some ⟨b,K,none⟩) A.length D,.int .i64 i] w fun r w'=>∃ x,r= .returned x∧Below w.heap.size w w'∧zeo w w' x (zac (f+1) (bys A) i):=by
 obtain⟨t,hi,W⟩:=Option.map_eq_some_iff.1 zf6;obtain⟨Z,aa,ac⟩:t.zero=some (.string ⟨#[]⟩)∧t.size=1∧t.bytes=16:=by simpa using W
 clear W;have HI:=za hi;have HZ:=za (And.intro Z (And.intro aa ac));clear hi Z aa ac;obtain⟨k1,k2,k3⟩:=jg A.length h2;unfold zeo;have eb:=vm A;rw [zb1 f (bys A) i (by omega) (by rw [eb];exact aj),List.map_append,List.length_append,List.length_singleton,eb];clear eb;have hk:kOf A.length≤A.length:=by omega
 have Hl:=za L;have H:=za h;have IH:=za (ih (.slice (some ⟨b,K+kOf A.length,none⟩) (A.length - kOf A.length) (D - kOf A.length)) (A.drop (kOf A.length)) ((i:Int) - (kOf A.length:Int)));have RT:=za (zbw f);have f1:(A.drop (kOf A.length)).length≤f:=by simp;omega
 have f2:(A.take (kOf A.length)).length≤f:=by simp;omega
 have f3:1≤(A.drop (kOf A.length)).length:=by simp;omega
 have f4:(A.take (kOf A.length)).length≤1000000:=by simp;omega
 have f5:0≤((i:Int) - (kOf A.length:Int):Int):=by omega
 have f6:(i:Int) - (kOf A.length:Int) < ((A.drop (kOf A.length)).length:Int):=by simp;omega
 have F:=za (And.intro f1 (And.intro f2 (And.intro f3 (And.intro f4 (And.intro f5 f6)))));clear f1 f2 f3 f4 f5 f6;have HE:Hid (((i:Int) - (kOf A.length:Int):Int).toNat=i - kOf A.length):=(by omega:((i:Int) - (kOf A.length:Int):Int).toNat=i - kOf A.length)
 rw [HE.o,zhl] at IH;have HC:=za (Nat.le_trans (zld f ((bys A).drop (kOf A.length)) (i - kOf A.length)) ai);have ag:=za (zhe A (kOf A.length));generalize hR:xe f ((bys A).take (kOf A.length))=R at *
 have HR:=za hR;generalize zac f ((bys A).drop (kOf A.length)) (i - kOf A.length)=P at *
 have n2:((A.length:Int)==1)=false:=beq_eq_false_iff_ne.2 (by omega);clear L h ih hR;have c1:(kOf A.length:Int)≤(D:Int):=by omega
 have c2:(kOf A.length:Int)≤(A.length:Int):=by omega
 have c3:(0:Int)≤(kOf A.length:Int):=by omega
 have c6:IntKind.i64.wrap ((i:Int) - (kOf A.length:Int))=(i:Int) - (kOf A.length:Int):=by rw [IntKind.wrap_i64];omega
 have c5:¬ D=kOf A.length:=by omega
 have c4:¬(i:Int) < (kOf A.length:Int):=by omega
 go_enter Tryz.func33,Tryz.ntmps33;go_wp2_with fail;refine(zfi A.length _ h2 (Nat.le_trans hn (by decide))).mono ?_;rintro e w' ⟨rfl,hw⟩;rw [hw];clear hw w';go_wp2_with fail;refine(IH.out _ F.out.2.2.1 F.out.1 F.out.2.2.2.2.1 F.out.2.2.2.2.2 (fun l L=>Hl.o l (List.mem_of_mem_drop L)) (by exact H.o.drop _ hk)).mono ?_;rintro e w1 ⟨y,rfl,U,X⟩;have J:=za U;have S:Hid (w1.ownsRow w.heap.size 9 1 y P.length (P.map txt)):=X;clear U X;go_wp2_with fail;refine(RT.out _ (A.take (kOf A.length)) _ F.out.2.1 F.out.2.2.2.1 (fun l L=>Hl.o l (List.mem_of_mem_take L)) (by exact(H.o.take _ hk).below J.o)).mono ?_;rintro e Q ⟨hr,I⟩;rw [ag.o,HR.o] at hr;subst hr;have E:=za (J.o.trans (I.mono J.o.size));have ae:Hid (∀ o,(Q.alloc o).ownsRow w.heap.size 9 1 y P.length (P.map txt)):=fun o=>zy S.o (I.trans ((ze Q o).mono I.size));have al:Hid (w.heap.size≤Q.heap.size):=E.o.size;clear I;unfold txt;go_wp2_with (at_builtin;refine wpList_append_lies _ rfl _ _ _ rfl w.heap.size 9 t (.string ⟨#[]⟩) 1 16 Tryz.underlying29 HI.o HZ.o.1 HZ.o.2.1 HZ.o.2.2 rfl (by omega) y P.length _ rfl (ae.o _) ⟨Q.heap.size,0,none⟩ 1 1 [.string ⟨R.toArray⟩] rfl rfl (World.news_of_block (heap_alloc_last _ _)) (by simp [Value.oneCell']) (by omega) (by have:=HC.o;unfold maxLen;omega) (by have:=HC.o;omega) (by have:=al.out;simp;omega) (Q.heap.size+1) (by simp) ?_;intro g am w3 Y V ah ak);have ad:Hid (Below w.heap.size w w3):=((E.o.trans ((ze Q _).mono E.o.size)).grown V (by have:=E.o.size;simp;omega) (qf S.o))
 have af:=za Y;clear V ah ak Y;go_wp2_with fail;go_ret;exact⟨_,rfl,ad.o,af.o⟩
theorem zwh (f:Nat)(b K D m:Nat)(whole:Bool)(A:List ByteArray)(w:World)(h2:2≤A.length)(hn:A.length≤1000000)(ao:1≤m)(_hml:m≠A.length)(ak:m≤kOf A.length)(an:A.length≤D)(L:∀ s∈A,s.size < maxLen)(h:Sss w (.slice (some ⟨b,K,none⟩) A.length D) A)(hf:A.length≤f+1)(ai:f≤1000000)
  (ih:∀(v:Value) (A:List ByteArray) (m:Int) (whole:Bool) (w:World),1≤A.length→A.length≤f→0≤m→(1≤m∧m≤A.length)→(∀ s∈A,s.size < maxLen)→Sss w v A→Calls Tryz.prog 30 #[.int .i64 m,v,.bool whole] w fun r w'=>∃ x,r= .returned x∧Below w.heap.size w w'∧zeo w w' x (zci f m.toNat (bys A) whole)) :
  Calls Tryz.prog 30 #[.int .i64 m,.slice (some ⟨b,K,none⟩) A.length D,.bool whole] w fun r w'=>∃ x,r= .returned x∧Below w.heap.size w w'∧zeo w w' x (zci (f+1) m (bys A) whole):=by
 obtain⟨t,hi,W⟩:=Option.map_eq_some_iff.1 zf6;obtain⟨Z,aa,ac⟩:t.zero=some (.string ⟨#[]⟩)∧t.size=1∧t.bytes=16:=by simpa using W
 clear W;have HI:=za hi;have HZ:=za (And.intro Z (And.intro aa ac));clear hi Z aa ac;obtain⟨k1,k2,k3⟩:=jg A.length h2;unfold zeo;have eb:=vm A;rw [zfh f m (bys A) whole (by omega) (by rw [eb];exact ak),List.map_append,List.length_append,List.length_singleton,eb];clear eb;have hk:kOf A.length≤A.length:=by omega
 have Hl:=za L;have H:=za h;have IH:=za (ih (.slice (some ⟨b,K,none⟩) (kOf A.length) D) (A.take (kOf A.length)) (m:Int) whole);have RT:=za (zbw f);have f1:(A.take (kOf A.length)).length≤f:=by simp;omega
 have f2:(A.drop (kOf A.length)).length≤f:=by simp;omega
 have f3:1≤(A.take (kOf A.length)).length:=by simp;omega
 have f4:(A.drop (kOf A.length)).length≤1000000:=by simp;omega
 have f5:0≤((m:Int):Int):=by omega
 have f6:1≤(m:Int)∧(m:Int)≤((A.take (kOf A.length)).length:Int):=by simp;omega
 have F:=za (And.intro f1 (And.intro f2 (And.intro f3 (And.intro f4 (And.intro f5 f6)))));clear f1 f2 f3 f4 f5 f6;have HE:Hid (((m:Int):Int).toNat=m):=(by omega:((m:Int):Int).toNat=m)
 rw [HE.o,zhe] at IH;have HC:=za (Nat.le_trans (zmi f (m) ((bys A).take (kOf A.length)) whole) ai);have ag:=za (zhl A (kOf A.length));generalize hR:xe f ((bys A).drop (kOf A.length))=R at *
 have HR:=za hR;generalize zci f (m) ((bys A).take (kOf A.length)) whole=P at *
 have n2:((m:Int)==(A.length:Int))=false:=beq_eq_false_iff_ne.2 (by omega);clear L h ih hR;have c1:(kOf A.length:Int)≤(D:Int):=by omega
 have c2:(kOf A.length:Int)≤(A.length:Int):=by omega
 have c3:(0:Int)≤(kOf A.length:Int):=by omega
 have c6:IntKind.i64.wrap ((m:Int))=(m:Int):=by rw [IntKind.wrap_i64];omega
 have c5:¬ D=kOf A.length:=by omega
 have c4:(m:Int)≤(kOf A.length:Int):=by omega
 go_enter Tryz.func30,Tryz.ntmps30;go_wp2_with fail;refine(zfi A.length _ h2 (Nat.le_trans hn (by decide))).mono ?_;rintro e w' ⟨rfl,hw⟩;rw [hw];clear hw w';go_wp2_with fail;refine(IH.out _ F.out.2.2.1 F.out.1 F.out.2.2.2.2.1 F.out.2.2.2.2.2 (fun l L=>Hl.o l (List.mem_of_mem_take L)) (by exact H.o.take _ hk)).mono ?_;rintro e w1 ⟨y,rfl,U,X⟩;have J:=za U;have S:Hid (w1.ownsRow w.heap.size 9 1 y P.length (P.map txt)):=X;clear U X;go_wp2_with fail;refine(RT.out _ (A.drop (kOf A.length)) _ F.out.2.1 F.out.2.2.2.1 (fun l L=>Hl.o l (List.mem_of_mem_drop L)) (by exact(H.o.drop _ hk).below J.o)).mono ?_;rintro e Q ⟨hr,I⟩;rw [ag.o,HR.o] at hr;subst hr;have E:=za (J.o.trans (I.mono J.o.size));have ae:Hid (∀ o,(Q.alloc o).ownsRow w.heap.size 9 1 y P.length (P.map txt)):=fun o=>zy S.o (I.trans ((ze Q o).mono I.size));have al:Hid (w.heap.size≤Q.heap.size):=E.o.size;clear I;unfold txt;go_wp2_with (at_builtin;refine wpList_append_lies _ rfl _ _ _ rfl w.heap.size 9 t (.string ⟨#[]⟩) 1 16 Tryz.underlying29 HI.o HZ.o.1 HZ.o.2.1 HZ.o.2.2 rfl (by omega) y P.length _ rfl (ae.o _) ⟨Q.heap.size,0,none⟩ 1 1 [.string ⟨R.toArray⟩] rfl rfl (World.news_of_block (heap_alloc_last _ _)) (by simp [Value.oneCell']) (by omega) (by have:=HC.o;unfold maxLen;omega) (by have:=HC.o;omega) (by have:=al.out;simp;omega) (Q.heap.size+1) (by simp) ?_;intro g am w3 Y V ah aj);have ad:Hid (Below w.heap.size w w3):=((E.o.trans ((ze Q _).mono E.o.size)).grown V (by have:=E.o.size;simp;omega) (qf S.o))
 have af:=za Y;clear V ah aj Y;go_wp2_with fail;go_ret;exact⟨_,rfl,ad.o,af.o⟩
theorem zur (f:Nat)(b K D m:Nat)(whole:Bool)(A:List ByteArray)(w:World)(h2:2≤A.length)(hn:A.length≤1000000)(ao:m < A.length)(_hml:m≠A.length)(ak:¬ m≤kOf A.length)(an:A.length≤D)(L:∀ s∈A,s.size < maxLen)(h:Sss w (.slice (some ⟨b,K,none⟩) A.length D) A)(hf:A.length≤f+1)(ai:f≤1000000)
  (ih:∀(v:Value) (A:List ByteArray) (m:Int) (whole:Bool) (w:World),1≤A.length→A.length≤f→0≤m→(1≤m∧m≤A.length)→(∀ s∈A,s.size < maxLen)→Sss w v A→Calls Tryz.prog 30 #[.int .i64 m,v,.bool whole] w fun r w'=>∃ x,r= .returned x∧Below w.heap.size w w'∧zeo w w' x (zci f m.toNat (bys A) whole)) :
  Calls Tryz.prog 30 #[.int .i64 m,.slice (some ⟨b,K,none⟩) A.length D,.bool whole] w fun r w'=>∃ x,r= .returned x∧Below w.heap.size w w'∧zeo w w' x (zci (f+1) m (bys A) whole):=by
 obtain⟨t,hi,W⟩:=Option.map_eq_some_iff.1 zf6;obtain⟨Z,aa,ac⟩:t.zero=some (.string ⟨#[]⟩)∧t.size=1∧t.bytes=16:=by simpa using W
 clear W;have HI:=za hi;have HZ:=za (And.intro Z (And.intro aa ac));clear hi Z aa ac;obtain⟨k1,k2,k3⟩:=jg A.length h2;unfold zeo;have eb:=vm A;rw [zd9 f m (bys A) whole (by omega) (by rw [eb];exact ak),List.map_append,List.length_append,List.length_singleton,eb];clear eb;have hk:kOf A.length≤A.length:=by omega
 have Hl:=za L;have H:=za h;have IH:=za (ih (.slice (some ⟨b,K+kOf A.length,none⟩) (A.length - kOf A.length) (D - kOf A.length)) (A.drop (kOf A.length)) ((m:Int) - (kOf A.length:Int)) false);have RT:=za (zbw f);have f1:(A.drop (kOf A.length)).length≤f:=by simp;omega
 have f2:(A.take (kOf A.length)).length≤f:=by simp;omega
 have f3:1≤(A.drop (kOf A.length)).length:=by simp;omega
 have f4:(A.take (kOf A.length)).length≤1000000:=by simp;omega
 have f5:0≤((m:Int) - (kOf A.length:Int):Int):=by omega
 have f6:1≤(m:Int) - (kOf A.length:Int)∧(m:Int) - (kOf A.length:Int)≤((A.drop (kOf A.length)).length:Int):=by simp;omega
 have F:=za (And.intro f1 (And.intro f2 (And.intro f3 (And.intro f4 (And.intro f5 f6)))));clear f1 f2 f3 f4 f5 f6;have HE:Hid (((m:Int) - (kOf A.length:Int):Int).toNat=m - kOf A.length):=(by omega:((m:Int) - (kOf A.length:Int):Int).toNat=m - kOf A.length)
 rw [HE.o,zhl] at IH;have HC:=za (Nat.le_trans (zmi f (m - kOf A.length) ((bys A).drop (kOf A.length)) false) ai);have ag:=za (zhe A (kOf A.length));generalize hR:xe f ((bys A).take (kOf A.length))=R at *
 have HR:=za hR;generalize zci f (m - kOf A.length) ((bys A).drop (kOf A.length)) false=P at *
 have n2:((m:Int)==(A.length:Int))=false:=beq_eq_false_iff_ne.2 (by omega);clear L h ih hR;have c1:(kOf A.length:Int)≤(D:Int):=by omega
 have c2:(kOf A.length:Int)≤(A.length:Int):=by omega
 have c3:(0:Int)≤(kOf A.length:Int):=by omega
 have c6:IntKind.i64.wrap ((m:Int) - (kOf A.length:Int))=(m:Int) - (kOf A.length:Int):=by rw [IntKind.wrap_i64];omega
 have c5:¬ D=kOf A.length:=by omega
 have c4:¬(m:Int)≤(kOf A.length:Int):=by omega
 go_enter Tryz.func30,Tryz.ntmps30;go_wp2_with fail;refine(zfi A.length _ h2 (Nat.le_trans hn (by decide))).mono ?_;rintro e w' ⟨rfl,hw⟩;rw [hw];clear hw w';go_wp2_with fail;refine(IH.out _ F.out.2.2.1 F.out.1 F.out.2.2.2.2.1 F.out.2.2.2.2.2 (fun l L=>Hl.o l (List.mem_of_mem_drop L)) (by exact H.o.drop _ hk)).mono ?_;rintro e w1 ⟨y,rfl,U,X⟩;have J:=za U;have S:Hid (w1.ownsRow w.heap.size 9 1 y P.length (P.map txt)):=X;clear U X;go_wp2_with fail;refine(RT.out _ (A.take (kOf A.length)) _ F.out.2.1 F.out.2.2.2.1 (fun l L=>Hl.o l (List.mem_of_mem_take L)) (by exact(H.o.take _ hk).below J.o)).mono ?_;rintro e Q ⟨hr,I⟩;rw [ag.o,HR.o] at hr;subst hr;have E:=za (J.o.trans (I.mono J.o.size));have ae:Hid (∀ o,(Q.alloc o).ownsRow w.heap.size 9 1 y P.length (P.map txt)):=fun o=>zy S.o (I.trans ((ze Q o).mono I.size));have al:Hid (w.heap.size≤Q.heap.size):=E.o.size;clear I;unfold txt;go_wp2_with (at_builtin;refine wpList_append_lies _ rfl _ _ _ rfl w.heap.size 9 t (.string ⟨#[]⟩) 1 16 Tryz.underlying29 HI.o HZ.o.1 HZ.o.2.1 HZ.o.2.2 rfl (by omega) y P.length _ rfl (ae.o _) ⟨Q.heap.size,0,none⟩ 1 1 [.string ⟨R.toArray⟩] rfl rfl (World.news_of_block (heap_alloc_last _ _)) (by simp [Value.oneCell']) (by omega) (by have:=HC.o;unfold maxLen;omega) (by have:=HC.o;omega) (by have:=al.out;simp;omega) (Q.heap.size+1) (by simp) ?_;intro g am w3 Y V ah aj);have ad:Hid (Below w.heap.size w w3):=((E.o.trans ((ze Q _).mono E.o.size)).grown V (by have:=E.o.size;simp;omega) (qf S.o))
 have af:=za Y;clear V ah aj Y;go_wp2_with fail;go_ret;exact⟨_,rfl,ad.o,af.o⟩
theorem z1v (i:Nat)(v:Value)(D:List ByteArray)(w:World)(h1:D.length=1)(h:Sss w v D):
  Calls Tryz.prog 33 #[v,.int .i64 i] w fun r w'=>r= .returned (.slice none 0 0)∧Below w.heap.size w w':=by
 obtain⟨a,E,rfl,A,-⟩:=h;rw [h1];clear A;go_enter Tryz.func33,Tryz.ntmps33;go_wp2;go_ret;exact⟨rfl,Below.refl _ _⟩
theorem zzk (f:Nat)(S:f≤1000000):∀(v:Value) (A:List ByteArray) (i:Int) (w:World),1≤A.length→A.length≤f→0≤i→i < A.length→(∀ s∈A,s.size < maxLen)→Sss w v A→Calls Tryz.prog 33 #[v,.int .i64 i] w fun r w'=>∃ x,r= .returned x∧Below w.heap.size w w'∧zeo w w' x (zac f (bys A) i.toNat):=by
 induction f with
 | zero=>intro v A i w h1 h2;omega
 | succ f ih =>
  intro v A i w h1 K I U Q h;obtain⟨n,rfl⟩:=Int.eq_ofNat_of_zero_le I;by_cases h2:A.length=1
  ·refine(z1v n v A w h2 h).mono ?_;rintro r w' ⟨rfl,R⟩;exact⟨_,rfl,R,znr _ _ _ (zcm _ _ _ (by rw [vm];omega))⟩
  have J:=h;obtain⟨a,D,rfl,E,h⟩:=h;rcases h with h | ⟨b,H,rfl,-⟩
  ·simp [h] at h1
  by_cases L:n < kOf A.length
  ·exact zvu f b H D n A w (by omega) (by omega) L E Q J K (by omega) (ih (by omega))
  ·exact zrt f b H D n A w (by omega) (by omega) L (by omega) E Q J K (by omega) (ih (by omega))
theorem zu6 (v:Value)(D:List ByteArray)(w:World)(h:Sss w v D):
  Calls Tryz.prog 30 #[.int .i64 D.length,v,.bool true] w fun r w'=>r= .returned (.slice none 0 0)∧Below w.heap.size w w':=by
 obtain⟨a,E,rfl,A,-⟩:=h;clear A;go_enter Tryz.func30,Tryz.ntmps30;go_wp2;go_ret;exact⟨rfl,Below.refl _ _⟩
theorem z16 (f:Nat)(v:Value)(A:List ByteArray)(w:World)(K:A.length≤f)(Q:A.length≤1000000)(L:∀ s∈A,s.size < maxLen)(h:Sss w v A):
  Calls Tryz.prog 30 #[.int .i64 A.length,v,.bool false] w fun r w'=>∃ x,r= .returned x∧Below w.heap.size w w'∧zeo w w' x [xe f (bys A)]:=by
 have H:=za h;have U:=za L;have I:=za (And.intro K Q);obtain⟨a,V,rfl,E,-⟩:=h;clear E L K Q;go_enter Tryz.func30,Tryz.ntmps30;go_wp2_with fail;refine(zbw f _ A _ I.o.1 I.o.2 U.o H.o).mono ?_;rintro e R ⟨rfl,J⟩;have D:=za J;clear J;have S:=za (zzd w R (xe f (bys A)) D.o.size);unfold txt at *
 go_wp2_with fail;go_ret;exact⟨_,rfl,D.o.trans ((ze R _).mono D.o.size),S.o⟩
theorem z1k (f:Nat)(V:f≤1000000):∀(v:Value) (A:List ByteArray) (m:Int) (whole:Bool) (w:World),1≤A.length→A.length≤f→0≤m→(1≤m∧m≤A.length)→(∀ s∈A,s.size < maxLen)→Sss w v A→Calls Tryz.prog 30 #[.int .i64 m,v,.bool whole] w fun r w'=>∃ x,r= .returned x∧Below w.heap.size w w'∧zeo w w' x (zci f m.toNat (bys A) whole):=by
 induction f with
 | zero=>intro v A m whole w h1 h2;omega
 | succ f ih =>
  intro v A m whole w h1 K Q hm L h;obtain⟨n,rfl⟩:=Int.eq_ofNat_of_zero_le Q;by_cases D:n=A.length
  ·subst D;have R:=vm A;cases whole with
   | true =>
    refine(zu6 v A w h).mono ?_;rintro r w' ⟨rfl,J⟩;exact⟨_,rfl,J,znr _ _ _ (by show zci (f+1) A.length (bys A) true=[];rw [← R];exact zc0 _ _)⟩
   | false =>
    refine(z16 (f+1) v A w K (by omega) L h).mono ?_;rintro r w' ⟨x,rfl,J,W⟩;exact⟨_,rfl,J,by show zeo w w' x (zci (f+1) A.length (bys A) false);rw [← R,zfe];exact W⟩
  have S:=h;obtain⟨a,E,rfl,H,h⟩:=h;rcases h with h | ⟨b,I,rfl,-⟩
  ·simp [h] at h1
  by_cases U:n≤kOf A.length
  ·exact zwh f b I E n whole A w (by omega) (by omega) (by omega) D U H L S K (by omega) (ih (by omega))
  ·exact zur f b I E n whole A w (by omega) (by omega) (by omega) D U H L S K (by omega) (ih (by omega))
theorem zt5 (w:World)(n:Nat):Below w.heap.size w (w.drewN n):=⟨rfl,rfl,rfl,Nat.le_refl _,fun _ _=>rfl⟩
theorem zv9 (x y:Value)(A:List ByteArray)(w:World)(hn:A.length≤1000000)(H:Sss w x A)(I:Sss w y A):
  Calls Tryz.prog 31 #[x,y] w fun r w'=>r= .returned (.bool true)∧Below w.heap.size w w':=by
 obtain⟨a,R,rfl,J,H⟩:=H;obtain⟨b,S,rfl,K,I⟩:=I;have L:=za H;have Q:=za I;clear H I J K;go_enter Tryz.func31,Tryz.ntmps31;go_wp2_with fail;go_loopw [5] (fun i wr=>∃ k n:Nat,k≤A.length∧i= .int .i64 k∧wr=w.drewN n) (fun i _=>A.length - (intOf i).toNat)
 case atStart=>exact⟨0,0,Nat.zero_le _,rfl,rfl⟩
 case round =>
  obtain⟨k,n,Z,rfl,rfl⟩:=hrel;by_cases h:k < A.length
  ·rcases L.o with h0 | ⟨X,U,rfl,D⟩
   ·simp [h0] at h
   rcases Q.o with h0 | ⟨Y,V,rfl,E⟩
   ·simp [h0] at h
   have h1:=D k h;have h2:=E k h;clear D E;go_wp2_with fail;go_quiet (fail);go_wp2_with fail;go_roundw
   case rel=>exact⟨k+1,_,by omega,by go_num,rfl⟩
   case measure=>simp [intOf];omega
  ·go_wp2_with fail;go_ret;exact⟨rfl,zt5 w _⟩
theorem Tss.take {w:World}{a:Option Addr}{n r:Nat}{A:List (List UInt8)}(h:Tss w (.slice a n r) A)(k:Nat)(R:k≤A.length):Tss w (.slice a k r) (A.take k):=by
 obtain⟨L,I,e,Q,D⟩:=h;simp only [Value.slice.injEq] at e;obtain⟨rfl,rfl,rfl⟩:=e;have H:(A.take k).length=k:=by simp;omega
 refine⟨a,r,by rw [H],by omega,?_⟩;rcases D with h | ⟨b,E,J,D⟩
 ·exact .inl (by simp [h])
 ·refine .inr ⟨b,E,J,fun i K=>?_⟩;rw [H] at K;rw [List.getElem_take];exact D i (by omega)
theorem zth {r:List (List UInt8)}(A:∀ l∈r,l.length≤20):∀ s∈r.map tb,s.size < maxLen:=fun s D=>by
 obtain⟨l,h,rfl⟩:=List.mem_map.1 D;have:=A l h;show l.toArray.size < _;unfold maxLen;simp;omega
theorem zoh (v:Value)(A:List (List UInt8))(i:Nat)(w:World)(E:A.length≤1000000)(D:∀ l∈A,l.length≤20)(H:i < A.length)(h:Tss w v A):
  Calls Tryz.prog 33 #[v,.int .i64 i] w fun r w'=>∃ x,r= .returned x∧Below w.heap.size w w'∧zeo w w' x (zac A.length A i):=by
 have:=zzk A.length E v (A.map tb) (i:Int) w (by simp;omega) (by simp) (by omega) (by simp;omega) (zth D) h.to;rw [zwq,Int.toNat_natCast] at this;exact this
theorem zoo (v:Value)(A:List (List UInt8))(m:Nat)(w:World)(E:A.length≤1000000)(D:∀ l∈A,l.length≤20)(h1:1≤m)(hm:m≤A.length)(h:Tss w v A):
  Calls Tryz.prog 30 #[.int .i64 m,v,.bool true] w fun r w'=>∃ x,r= .returned x∧Below w.heap.size w w'∧zeo w w' x (zci A.length m A true):=by
 have:=z1k A.length E v (A.map tb) (m:Int) true w (by simp;omega) (by simp) (by omega) (by simp;omega) (zth D) h.to;rw [zwq,Int.toNat_natCast] at this;exact this
theorem zye {w:World}{B:Nat}{v:Value}{r:List (List UInt8)}(h:w.ownsRow B 9 1 v r.length (r.map txt)):Sss w v (r.map tb):=by
 refine Sss.of_owns (B:=B) ?_;have e:(r.map tb).map Value.string=r.map txt:=by simp [tb,txt]
 rw [e,List.length_map];exact h
theorem zcz (x y:Value)(h:List (List UInt8))(B A:Nat)(w:World)(D:h.length≤1000000)(E:w.ownsRow B 9 1 x h.length (h.map txt))(H:w.ownsRow A 9 1 y h.length (h.map txt)):
  Calls Tryz.prog 31 #[x,y] w fun r w'=>r= .returned (.bool true)∧Below w.heap.size w w' :=
 zv9 x y (h.map tb) w (by simpa using D) (zye E) (zye H)
abbrev TRd:Nat:=42
def RAt (w:World)(A r:Nat)(size h:Int):Prop:=w.heap[A]?=some (.cells #[zo r,.int .i64 size,.int .i64 h] TRd (0,0))
abbrev rdT:List Nat:=TRd::qh::clT
structure RC (W0 w:World)(O:Nat→Prop)(rb nb:Nat)(es:List (List UInt8))(fs:Fs)(pub:Nat)(key:List UInt8)(cap:Int)(t:Nat)(N:Nat→Prop):Prop where
 rest:∃ pb cb pm nm A OP c,RAt w rb pb (c.size:Int) cap∧zgz w pb cb∧Pv W0 w O A OP cb nb pm nm c∧CI es c t∧ju fs es c.size∧c.size≤pub∧c.key=key∧c.room=cap∧(∀ k,A k∨OP k∨k=cb∨k=pb∨k=rb→N k)
 own:∀ k,N k→W0.heap.size≤k∧k < w.heap.size∧¬ O k
theorem RC.other {Q w w':World}{O M N:Nat→Prop}{T:List Nat}{L R:Nat}{es:List (List UInt8)}{fs:Fs}{E:Nat}{key:List UInt8}{D:Int}{t:Nat}(h:RC Q w O L R es fs E key D t N)(I:zg M T w w')(J:∀ k,N k→¬ M k)(hu:5∉T):RC Q w' O L R es fs E key D t N:=by
 obtain⟨S,cb,Z,nm,A,U,c,h1,h2,V,W,h5,h6,X,Y,H⟩:=h.rest;refine⟨⟨S,cb,Z,nm,A,U,c,I.stay h1 (J _ (H L (by simp))),I.stay h2 (J _ (H S (by simp))),V.other I (fun b r=>J b (H b ?_)) hu,W,h5,h6,X,Y,H⟩,fun k K=>⟨(h.own k K).1,Nat.lt_of_lt_of_le (h.own k K).2.1 I.size,(h.own k K).2.2⟩⟩;rcases r with r | r | r
 ·exact .inl r
 ·exact .inr (.inl r)
 ·exact .inr (.inr (.inl r))
theorem RC.grow {I w:World}{O O' N:Nat→Prop}{Q L:Nat}{es:List (List UInt8)}{fs:Fs}{E:Nat}{key:List UInt8}{D:Int}{t:Nat}(h:RC I w O Q L es fs E key D t N)(K:∀ k,N k→¬ O' k):RC I w O' Q L es fs E key D t N:=by
 obtain⟨X,cb,Y,nm,A,R,c,h1,h2,S,U,h5,h6,V,W,J⟩:=h.rest;refine⟨⟨X,cb,Y,nm,A,R,c,h1,h2,S.grow (fun b r=>K b (J b ?_)),U,h5,h6,V,W,J⟩,fun k H=>⟨(h.own k H).1,(h.own k H).2.1,K k H⟩⟩;rcases r with r | r | r
 ·exact .inl r
 ·exact .inr (.inl r)
 ·exact .inr (.inr (.inl r))
theorem RC.more {J w:World}{O N:Nat→Prop}{L K:Nat}{es:List (List UInt8)}{fs D:Fs}{E H:Nat}{key:List UInt8}{r:Int}{t:Nat}(h:RC J w O L K es fs E key r t N)(more:List (List UInt8))(Z:E≤H)(W:∀ s,s≤es.length→ju fs es s→ju D es s):RC J w O L K (es++more) D H key r t N:=by
 obtain⟨X,cb,Y,nm,A,Q,c,h1,h2,R,I,h5,h6,S,U,V⟩:=h.rest;exact⟨⟨X,cb,Y,nm,A,Q,c,h1,h2,R,I.more more,(W _ I.le h5).more I.le more,by omega,S,U,V⟩,h.own⟩
theorem RC.later {E w:World}{O N:Nat→Prop}{I H:Nat}{es:List (List UInt8)}{fs:Fs}{D:Nat}{key:List UInt8}{r:Int}{t J:Nat}(h:RC E w O I H es fs D key r t N)(V:t≤J):RC E w O I H es fs D key r J N:=by
 obtain⟨W,cb,X,nm,A,K,c,h1,h2,L,Q,h5,h6,R,S,U⟩:=h.rest;exact⟨⟨W,cb,X,nm,A,K,c,h1,h2,L,Q.later V,h5,h6,R,S,U⟩,h.own⟩
theorem RC.below {D w w':World}{O N:Nat→Prop}{H E:Nat}{es:List (List UInt8)}{fs:Fs}{A:Nat}{key:List UInt8}{r:Int}{t:Nat}(h:RC D w O H E es fs A key r t N)(I:Below w.heap.size w w'):RC D w' O H E es fs A key r t N :=
 h.other (M:=fun _=>False) (T:=[]) (.of_below I) (fun _ _ h=>h) (by simp)
theorem RC.ext {H w w':World}{O N:Nat→Prop}{J I:Nat}{es:List (List UInt8)}{fs:Fs}{E:Nat}{key:List UInt8}{D:Int}{t:Nat}{a:World}(h:RC H w' O J I es fs E key D t (Ext N a w))(W:w.heap.size≤w'.heap.size)(V:∀ k,O k→k < a.heap.size)(Z:H.heap.size≤a.heap.size):RC H w' O J I es fs E key D t (Ext N a w'):=by
 obtain⟨X,cb,Y,nm,A,K,c,h1,h2,L,Q,h5,h6,R,S,U⟩:=h.rest;refine⟨⟨X,cb,Y,nm,A,K,c,h1,h2,L,Q,h5,h6,R,S,fun k r=>Ext.more W k (U k r)⟩,fun k r=>?_⟩;rcases r with r | r
 ·exact h.own k (.inl r)
 ·exact⟨by omega,r.2,fun e=>by have:=V k e;omega⟩
theorem z19 (es:List (List UInt8))(A:es.length < 4 ^ 21):∀ size i,size≤es.length→i < size→zav (jc (es.getD i [])) i size (zef es size i) (ye (es.take size))=true:=by
 intro size i h r;unfold zav;rw [zyp (by omega),Int.toNat_natCast,Int.toNat_natCast,z3v z8 es size i h (by omega) r];simp only [Bool.true_and];simp [eqH]
theorem z0s (es:List (List UInt8))(h:es.length < 4 ^ 21):∀ a b,0 < a→a≤b→b≤es.length→zcd a b (ye (es.take a)) (ye (es.take b)) (zdn es a b)=true:=by
 intro a b h0 h1 h2;unfold zcd;rw [zyj (by omega),Int.toNat_natCast,Int.toNat_natCast,z2y z8 es a b h2 (by omega) h0 h1];simp only [Bool.true_and,Bool.and_eq_true];exact⟨by simp [eqH],by simp [eqH]⟩
theorem RP.facts {B:Nat}{w:World}{O:Nat→Prop}{X S n:Nat}{es:List (List UInt8)}{K:Nat}{key:List UInt8}{d:Dk}(h:RP B w O X S n es K key d)(hn:n≤4100):∃ Q U L,WAt w X S Q (.slice U es.length L) { key:=key,published:=(K:Int),failed:=false,foreign:=false }∧zq w O S d∧w.ownsRow 0 9 1 (.slice U es.length L) es.length (es.map txv)∧es.length≤L∧es.length≤40000∧(∀ e∈es,e.length≤20)∧d.fs.length≤800000000∧(∀ f∈d.fs,f.2.length≤1048576)∧za1 d.fs∧(U=none→L=0):=by
 obtain⟨Q,ev,s,put,Z,J,W,r,pb,lb,-,-,-,-,I,-,A⟩:=h.full;have H:es.length≤40000:=by have:=zhu A;have:=r.small;omega
 have E:d.fs.length≤800000000:=by have:=r.count;omega
 have D:=I;rcases I.2 with ⟨rfl,h0⟩ | ⟨g,R,Y,rfl,-,-,V,-⟩
 ·exact⟨Q,none,es.length,by rw [h0];exact J,W,by rw [h0] at D ⊢;exact D,Nat.le_refl _,H,A.short,E,r.data,r.apart,fun _=>h0⟩
 ·exact⟨Q,_,R,J,W,D,V,H,A.short,E,r.data,r.apart,fun e=>by simp at e⟩
theorem zb0 (W:World)(O N:Nat→Prop)(I nb wb db n:Nat)(es:List (List UInt8))(Q:Nat)(key:List UInt8)(d:Dk)(S:Int)(t:Nat)(w:World)(hn:n≤4100)(hP:RP W.heap.size w O wb db n es Q key d)(hC:RC W w O I nb es d.fs Q key S t N):
  Calls Tryz.prog 13 #[zo I,zo wb] w fun r w'=>r= .returned (.bool true)∧zg N [qh] w w'∧RC W w' O I nb es d.fs Q key S t N:=by
 obtain⟨lv,ea,Y,ao,-,an,aj,a1,h20,-,-,-,-⟩:=hP.facts hn;obtain⟨pb,cb,pm,nm,A,OP,c,L,U,K,E,ai,al,Z,am,hN⟩:=hC.rest;have HT:=za (zq4 W O A OP cb nb pm nm c pb w K U);have az:=za K;have au:=za E.rt;have ay:=za E.le;have aa:Hid (∀ w',zg (fun b=>b=cb) [qh] w w'→w'.heap[cb]?=w.heap[cb]?→zg N [qh] w w'∧RC W w' O I nb es d.fs Q key S t N):=fun w' ht he =>
  ⟨ht.mono (fun b hb=>hN b (.inr (.inr (.inl hb)))) (fun _ h=>h),⟨⟨pb,cb,pm,nm,A,OP,c,ht.keep L (by decide),ht.keep U (by decide),K.trusted ht he,E,ai,al,Z,am,hN⟩,fun k Z=>⟨(hC.own k Z).1,Nat.lt_of_lt_of_le (hC.own k Z).2.1 ht.size,(hC.own k Z).2.2⟩⟩⟩
 have ag:=za ao;have ad:=za L;have af:=za an;have ap:=za h20;have aq:=za aj;have r0:=(zf L 0 _ rfl).1;have V:=E.le;clear hP hC ao L U K E ai al Z am hN an h20 aj;unfold zo at r0 HT ⊢;go_enter Tryz.func13,Tryz.ntmps13;go_wp2_with fail;refine HT.o.mono ?_;rintro r R ⟨rfl,H,ak⟩;obtain⟨hT,ah⟩:=aa.o R H ak;have ax:=za hT;have ar:=za ah;have e3:R.cell? ⟨wb,3,none⟩=some (.slice ea es.length Y):=(zf (H.keep ag.o (by decide)) 3 _ rfl).1;have r1:R.cell? ⟨I,1,none⟩=some (.int .i64 c.size):=(zf (H.keep ad.o (by decide)) 1 _ rfl).1;have aw:Hid (Tss R (.slice ea es.length Y) es):=zdc (zi af.o H (by decide));have ae:=za (zc7 (.slice ea c.size Y) (es.take c.size) R.drew (by have:=zbj V;omega) (fun e he=>ap.o e (List.mem_of_mem_take he)) (aw.o.take c.size V));have ac:Hid (∀ X,Below R.drew.heap.size R.drew X→X.cell? ⟨wb,3,none⟩=some (.slice ea es.length Y)∧X.cell? ⟨I,1,none⟩=some (.int .i64 c.size)):=fun X hb=>⟨by rw [hb.cell (p:=⟨wb,3,none⟩) (zk e3)];exact e3,by rw [hb.cell (p:=⟨I,1,none⟩) (zk r1)];exact r1⟩
 have a0:¬(Y:Int) < (c.size:Int):=by have:=aq.o;omega
 have av:Hid (c.root=ye (es.take c.size)):=au.o;clear H ak hT ah r0 HT aa af ag ad V;unfold txv;go_wp2_with fail;go_cut [7] from 16 to 25 (fun s7 wx=>s7= .string ⟨(ye (es.take c.size)).toArray⟩∧Below R.heap.size R wx)
 case first =>
  go_region_held3 (fun X=>X.cell? ⟨wb,3,none⟩=some (.slice ea es.length Y)∧X.cell? ⟨I,1,none⟩=some (.int .i64 c.size)) (go_keep) (first | (go_at_call 35;refine ae.o.mono ?_;rintro r w2 ⟨rfl,D⟩;obtain⟨q3,q1⟩:=ac.o w2 D;have J:=za D;clear D));all_goals go_wp2_with fail
  all_goals go_meet
  all_goals exact⟨rfl,qa J.o⟩
 case rest =>
  obtain⟨rfl,D⟩:=hcut;have q1:wc.cell? ⟨I,1,none⟩=some (.int .i64 c.size):=by rw [D.cell (p:=⟨I,1,none⟩) (zk r1)];exact r1
  rw [← av.o];have J:=za D;clear D e3 r1 ac ae;go_wp2_with fail;go_ret;exact⟨rfl,ax.o.then_below J.o,ar.o.below J.o⟩
theorem z9y:cpP=cpF:=by decide
theorem z6j {fs:Fs}{es:List (List UInt8)}{r:Nat}{key:List UInt8}{net:Nt}{o:Option (Nat×List UInt8)}(h:Chp fs es r key)(D:net.lies=[])(E:r≤9223372036854775807)(A:zl8 key (zu fs net cpP).1 o):
  (zu fs net cpP).2={ net with fetches:=net.fetches+1 }∧((yp fs cpF=none∧r=0∧o=none)∨(yp fs cpF≠none∧ju fs es r∧o=some (r,ye (es.take r)))):=by
 rw [z9y,zf4 fs net D] at *
 rcases h.2 with ⟨h1,h2⟩ | ⟨h1,h2⟩
 ·rw [h1] at A ⊢;refine⟨rfl,.inl ⟨rfl,h2,?_⟩⟩;cases o with
  | none=>rfl
  | some x=>exact absurd A.1 (by simp)
 ·rw [h1] at A ⊢;refine⟨rfl,.inr ⟨by simp,h2,?_⟩⟩;exact zl8.yes A ⟨E,z8v _,rfl⟩
theorem z0f {fs:Fs}{p x:List UInt8}(h:yp fs p=some x):∃ f∈fs,f.2=x:=by
 cases e:ixF fs p with
 | none=>rw [(vd e).1] at h;simp at h
 | some k =>
  obtain⟨r,-,h2,-⟩:=j7 e;rw [h] at h2;exact⟨fs[k],List.getElem_mem r,by simpa using h2.symm⟩
theorem z8s {fs:Fs}{net:Nt}(A:net.lies=[])(p:List UInt8)(r:∀ f∈fs,f.2.length≤1048576):(zu fs net p).1.1.length≤1048576:=by
 rw [zf4 fs net A];cases e:yp fs p with
 | none=>simp
 | some x =>
  obtain⟨f,h,rfl⟩:=z0f e;exact r f h
theorem zt1 {fs r:Fs}(D:za1 fs)(E:r.Perm fs)(q:List UInt8):(yp fs q=none→ixI r q=-1)∧(yp fs q≠none→∃ k:Nat,ixI r q=k):=by
 have A:=zc2 D E q;refine⟨fun h=>?_,fun h=>?_⟩
 ·unfold ixI;cases e:ixF r q with
  | none=>rfl
  | some k =>
   obtain⟨H,-,h2,-⟩:=j7 e;rw [A,h] at h2;simp at h2
 ·unfold ixI;cases e:ixF r q with
  | none=>rw [← A,(vd e).1] at h;exact absurd rfl h
  | some k=>exact⟨k,rfl⟩
theorem zdi {W w X L:World}{O A OP N:Nat→Prop}{cb nb db pm nm K U:Nat}{d:Dk}{c':Cl}{n':Nt}{P:(Nat→Prop)→Prop}{es:List (List UInt8)}{V:Nat}{key:List UInt8}{H:Int}{t:Nat}{s0:Int}(D:CR W w X O A OP cb nb db pm nm d c' n' P)(ae:zgz w U cb)(E:∀ k,A k∨OP k∨k=cb∨k=U∨k=K→N k)(R:∀ k,N k→W.heap.size≤k∧k < w.heap.size∧¬ O k)(hO:∀ k,O k→k < w.heap.size)(hW:W.heap.size≤w.heap.size)
  (ac:CI es c' t) (aa:ju d.fs es c'.size) (ad:c'.size≤V) (I:c'.key=key) (ah:c'.room=H) (ag:RAt X K U s0 H) (r:zg (fun k=>k=K) [TRd] X L) (af:RAt L K U (c'.size:Int) H):zg (fun k=>O k∨N k) rdT w L∧Sh W L O nb db d n'∧RC W L O K nb es d.fs V key H t (Ext N w L):=by
 obtain⟨A',Y,hA,Z,S,-⟩:=D.rest;have s1:=D.turn.size;have s2:=r.size;have Q:zej (fun k=>k=K) [TRd] X:=fun k I=>by subst I;exact⟨_,_,_,ag,by simp⟩
 refine⟨?_,D.sh.past r (fun k I=>by subst I;exact(R _ (E _ (by simp))).1) (by decide) (by decide) (by decide) (by decide) (by decide),⟨U,cb,pm,nm,A',Y,c',af,?_,S.past r Q (by decide) (by decide) (by decide) (S.prv.past r Q (by decide) (by decide) (by decide)),ac,aa,ad,I,ah,fun k J=>?_⟩,fun k J=>?_⟩
 ·refine(D.turn.mono (fun k I=>?_) (fun _ h=>List.mem_cons_of_mem _ h)).trans (r.mono (fun k I=>?_) (fun t ht=>?_))
  ·rcases I with h | h | h | h
   ·exact .inl h
   ·exact .inr (E k (.inl h))
   ·exact .inr (E k (.inr (.inl h)))
   ·exact .inr (E k (.inr (.inr (.inl h))))
  ·subst I;exact .inl (.inr (E _ (by simp)))
  ·simp only [List.mem_singleton] at ht;subst ht;exact List.mem_cons_self
 ·exact r.keep (D.turn.keep ae (by decide)) (by decide)
 ·rcases J with h | h | h | h | h
  ·rcases hA.2 k h with h | h
   ·exact .inl (E k (.inl h))
   ·exact .inr ⟨h.1,by omega⟩
  ·rcases Z.2 k h with h | h
   ·exact .inl (E k (.inr (.inl h)))
   ·exact .inr ⟨h.1,by omega⟩
  ·exact .inl (E k (.inr (.inr (.inl h))))
  ·exact .inl (E k (.inr (.inr (.inr (.inl h)))))
  ·exact .inl (E k (.inr (.inr (.inr (.inr h)))))
 ·rcases J with h | h
  ·have:=R k h;exact⟨this.1,by omega,this.2.2⟩
  ·exact⟨by omega,h.2,fun e=>by have:=hO k e;omega⟩
theorem zk9 (W:World)(br:Nat→Addr)(hE:Env W)(hS:ja W br)(bs:zdq W)(O N:Nat→Prop)(H nb S db n:Nat)(es:List (List UInt8))(D:Nat)(key:List UInt8)(d:Dk)(R:Int)(t:Nat)(net:Nt)(w:World)(hn:n≤4100)(ht:t≤1000000)(bY:key.length≤1048576)(hP:RP W.heap.size w O S db n es D key d)(hC:RC W w O H nb es d.fs D key R t N)(aO:Sh W w O nb db d net)(aH:net.lies=[])(hf:net.fetches+40000 < 4611686018427387904):
  Calls Tryz.prog 11 #[zo H,zo S] w fun r w'=>r= .returned (.bool true)∧zg (fun k=>O k∨N k) rdT w w'∧(∃ bj,Sh W w' O nb db d bj∧bj.lies=[]∧bj.fetches≤net.fetches+40000)∧RC W w' O H nb es d.fs D key R (t+1) (Ext N w w'):=by
 obtain⟨lv,ea,ec,bF,hd,bD,bw,bb,h20,b0,b4,bu,-⟩:=hP.facts hn;obtain⟨pb,cb,pm,nm,A,OP,c,bh,bf,bA,a5,bt,bc,L,bC,hN⟩:=hC.rest;have bg:D≤es.length:=hP.chk.1;have ba:es.length < 4 ^ 21:=Nat.lt_of_le_of_lt bb (by decide);have HU:=za (zsp W br O A OP cb nb db pm nm d c net pb w hE hS bs bA aO bf (by omega) (by have:=a5.le;omega) (by rw [L];omega) (z8s aH cpP b4) (by have:=a5.len;omega) a5.gd.wf);have bK:Hid (∀ o,zl8 c.key (zu d.fs net cpP).1 o→(zu d.fs net cpP).2={ net with fetches:=net.fetches+1 }∧((yp d.fs cpF=none∧D=0∧o=none)∨(yp d.fs cpF≠none∧ju d.fs es D∧o=some (D,ye (es.take D))))):=fun o ho=>z6j hP.chk aH (by omega) (by rw [L] at ho;exact ho);have aV:Hid (ju d.fs es D→∃ c' n',zgq (zu d.fs) zcd c { net with fetches:=net.fetches+1 } (some (D,ye (es.take D)))=(.inr (if 0 < c.size∧c.size < D then zdn es c.size D else []),c',n')∧(c'.key=c.key∧c'.size=D∧c'.room=c.room)∧CI es c' (t+1)∧n'.lies=[]∧net.fetches+1≤n'.fetches∧n'.fetches≤net.fetches+1+17000):=fun ha=>z2g (n:={ net with fetches:=net.fetches+1 }) zcd (z0s es ba) h20 ba ha aH a5 bc bg;have HP:=za hP;have HC:=za hC;have bL:=za aH;have ap:Hid (∀ k,O k→k < w.heap.size):=fun k L=>(aO.own k L).2;have HW:Hid (W.heap.size≤w.heap.size):=aO.base.size;have bU:=za bF;have bP:=za bh;have aC:=za bf;have bl:=za a5;have bH:=za bt;have bp:=za bc;have aM:=za (And.intro L bC);have HN:=za hN;have HD:=za hd;have bQ:=za bD;have bG:=za h20;have a8:=za (And.intro b0 bu);have bJ:=za bw;have bn:=za bb;have bN:=za bg;have ce:=za a5.le;have r0:=(zf bh 0 _ rfl).1;clear hP hC bF bh bf bA a5 bt bc L bC hN bD h20 b0 bu bw hd b4 aH aO ba bY bg hE hS bs bb;unfold zo at r0 HU ⊢;go_enter Tryz.func11,Tryz.ntmps11;go_wp2_with fail;refine HU.o.mono ?_;rintro r E ⟨o,bx,af,x,rfl,hx⟩;obtain⟨b7,bV⟩:=bK.o o bx;rw [b7] at af hx ⊢;have bB:RAt E H pb (c.size:Int) R:=af.turn.keep bP.o (by decide);have aR:WAt E S db lv (.slice ea es.length ec) { key:=key,published:=(D:Int),failed:=false,foreign:=false }:=af.turn.keep bU.o (by decide);have ac:=za bB;have aA:=za aR;have bm:Hid (zq E O db d):=af.sh.disk;have bR:=za (zi bQ.o af.turn (by decide));have au:Hid (RP W.heap.size E O S db n es D key d):=HP.o.stay af.turn (by decide) (by decide) (by decide) (by decide) (by decide) (by decide) (by decide) (by decide);have a4:∀ o,(E.alloc o).cell? ⟨S,4,none⟩=some (.int .i64 (D:Int)):=fun o=>by have h:=(zf aR 4 _ rfl).1;rw [zl _ _ ⟨S,4,none⟩ (zk h)];exact h
 have a0:∀ o,(E.alloc o).cell? ⟨S,0,none⟩=some (vr db):=fun o=>by have h:=(zf aR 0 _ rfl).1;rw [zl _ _ ⟨S,0,none⟩ (zk h)];exact h
 have bk:=za a0;clear bx b7 bB aR r0 HU a0;rcases bV with ⟨hl,aQ,rfl⟩ | ⟨hl,aX,rfl⟩
 ·have b2:CR W w E O A OP cb nb db pm nm d c { net with fetches:=net.fetches+1 } (fun _=>True):=af;have aB:E.ownsRow w.heap.size 9 1 x 0 []:=hx;have al:=za b2;obtain⟨xa,xc,he⟩:=xu aB;have HL:=za hl;subst he;subst aQ;have aJ:zgk (zb7 (zgq (zu d.fs) zcd c { net with fetches:=net.fetches+1 } none).1).2= .agg #[.int .i64 3,.string ⟨#[]⟩]:=rfl;rw [aJ];clear af b2 hx aB hl aJ aV;have b6:=fun o=>zco O db S d (E.alloc o) (by have:=a8.o.1;omega) (bm.o.stay (zg.of_below (O:=O) (T:=[]) (ze E o)) (by simp) (by simp)) (bk.o o);have ay:=za b6;have a7:Hid ((E.alloc (.cells #[.int .i64 3,.string ⟨#[]⟩] 31)).heap[E.heap.size]?=some (.cells #[.int .i64 3,.string ⟨#[]⟩] 31 (0,0))):=heap_alloc_last _ _;have an:Hid (Below E.heap.size E (E.alloc (.cells #[.int .i64 3,.string ⟨#[]⟩] 31))):=ze _ _;clear b6;go_wp2_with fail;refine(ay.o _).mono ?_;rintro r w3 ⟨v3,aW,rfl,a6,aF,ax,-⟩;have a9:Hid (zg (fun k=>k=H) [TRd] E w3):= .of_below (an.o.trans (ax.mono an.o.size));obtain⟨t0,-⟩:=zf ((zg.of_below (O:=O) (T:=[]) ax).keep a7.o (by simp)) 0 _ rfl;have bS:Hid (RAt w3 H pb (c.size:Int) R):=(zg.of_below (O:=O) (T:=[]) (an.o.trans (ax.mono an.o.size))).keep ac.o (by simp);have aG:=(zt1 a8.o.2 a6 cpF).1 HL.o;have ao:=za (vf v3 aW cpF w3 (by have:=a6.length_eq;have:=a8.o.1;omega) aF);rw [aG] at ao;clear a6 aF ax aG ay a7 an;generalize E.heap.size=tb at *
  unfold txv cpF at ao;go_wp2_with fail;refine ao.o.mono ?_;rintro r w4 ⟨rfl,bi⟩;subst bi;clear ao;go_wp2_with fail;go_ret;obtain⟨g1,g2,g3⟩:=zdi al.o aC.o HN.o HC.o.own ap.o HW.o (bl.o.later (Nat.le_succ t)) bH.o bp.o aM.o.1 aM.o.2 ac.o a9.o bS.o;exact⟨by first | rfl | simp,g1,⟨_,g2,bL.o,by show net.fetches+1≤_;omega⟩,g3⟩
 ·obtain⟨c',n',hu,⟨k1,k2,k3⟩,bz,b8,bX,b5⟩:=aV.o aX;rw [hu] at af hx ⊢;have aL:=za bz;have ar:=za (And.intro b8 b5);have aq:Hid (c'.key=key∧c'.room=R):=⟨k1.trans aM.o.1,k3.trans aM.o.2⟩
  have aK:Hid (ju d.fs es c'.size):=by rw [k2];exact aX
  have av:=za k2;have al:=za af;have HX:=za hx;have HL:=za hl;have ca:(zb7 (Sum.inr (if 0 < c.size∧c.size < D then zdn es c.size D else []):Sum Er (List (List UInt8))))=((if 0 < c.size∧c.size < D then zdn es c.size D else []),((0:Int),([]:List UInt8))):=rfl;have aJ:zgk (zb7 (Sum.inr (if 0 < c.size∧c.size < D then zdn es c.size D else []):Sum Er (List (List UInt8)))).2= .agg #[.int .i64 0,.string ⟨#[]⟩]:=rfl;rw [aJ];have aB:E.ownsRow w.heap.size 9 1 x (if 0 < c.size∧c.size < D then zdn es c.size D else []).length ((if 0 < c.size∧c.size < D then zdn es c.size D else []).map txt):=hx;have aw:=za aB;obtain⟨xa,xc,he⟩:=xu aB;have aN:Hid ((if 0 < c.size∧c.size < D then zdn es c.size D else []).length≤65):=by
   show _≤_
   split
   ·exact zoq _ _ _
   ·simp
  have a7:Hid ((E.alloc (.cells #[.int .i64 0,.string ⟨#[]⟩] 31)).heap[E.heap.size]?=some (.cells #[.int .i64 0,.string ⟨#[]⟩] 31 (0,0))):=heap_alloc_last _ _;have an:Hid (Below E.heap.size E (E.alloc (.cells #[.int .i64 0,.string ⟨#[]⟩] 31))):=ze _ _;have ay:=za (zco O db S d (E.alloc (.cells #[.int .i64 0,.string ⟨#[]⟩] 31)) (by have:=a8.o.1;omega) (bm.o.stay (zg.of_below (O:=O) (T:=[]) (ze E _)) (by simp) (by simp)) (bk.o _));have aU:Hid (Below E.heap.size E (E.alloc (.cells #[.int .i64 0,.string ⟨#[]⟩] 31))∧E.heap.size < (E.alloc (.cells #[.int .i64 0,.string ⟨#[]⟩] 31)).heap.size):=⟨ze _ _,by simp⟩
  clear af hx aB hl aX hu k1 k2 k3 bz b8 bX b5 ca aJ aV bl;generalize ag:(if 0 < c.size∧c.size < D then zdn es c.size D else [])=ps at *
  have aS:=za ag;clear ag;subst he;by_cases aQ:D=0
  ·have bZ:¬ 0 < c.size:=by have:=bp.o;omega
   have ag:ps=[]:=by rw [← aS.o,if_neg (by omega)]
   have bO:=za ag;clear ag;have bW:c.size=0:=by omega
   have cf:∀ o,(E.alloc o).cell? ⟨S,4,none⟩=some (.int .i64 0):=fun o=>by rw [a4 o,aQ];rfl
   clear a4 bZ;go_wp2_with fail;refine ay.o.mono ?_;rintro r w3 ⟨v3,aW,rfl,a6,aF,ax,-⟩;have a9:Hid (zg (fun _=>False) [] E w3):= .of_below (aU.o.1.trans (ax.mono aU.o.1.size));obtain⟨t0,-⟩:=zf ((zg.of_below (O:=O) (T:=[]) ax).keep a7.o (by simp)) 0 _ rfl;obtain⟨kk,aG⟩:=(zt1 a8.o.2 a6 cpF).2 HL.o;have ao:=za (vf v3 aW cpF w3 (by have:=a6.length_eq;have:=a8.o.1;omega) aF);rw [aG] at ao;clear a6 aF ax aG ay a7 an;generalize E.heap.size=tb at *
   unfold txv cpF at ao;go_wp2_with fail;refine ao.o.mono ?_;rintro r w4 ⟨rfl,bi⟩;subst bi;clear ao;have cj:¬(kk:Int) < 0:=by omega
   have aE:Hid (w4.ownsRow 0 9 1 (.slice none 0 0) ps.length (ps.map txt)):=by
    show World.ownsRow _ _ _ _ _ _ _;rw [bO.o];exact⟨rfl,.inl ⟨rfl,rfl⟩⟩
   clear aQ;have Q:Hid (zg (fun _=>False) [] E w4):=a9.o;have am:Hid (w4.ownsRow 0 9 1 (.slice none 0 0) ps.length (ps.map txt)):=aE.o;have z1:w4.cell? ⟨H,1,none⟩=some (.int .i64 0):=by have h:=(zf (a9.o.keep ac.o (by simp)) 1 _ rfl).1;rw [bW] at h;exact h
   have z4:w4.cell? ⟨S,4,none⟩=some (.int .i64 (D:Int)):=(zf (a9.o.keep aA.o (by simp)) 4 _ rfl).1;clear a9 aE;have J:RAt w4 H pb (c.size:Int) R:=Q.o.keep ac.o (by simp);have ak:=Q.o.keep aA.o (by simp);obtain⟨q1,f1⟩:=zf J 1 _ rfl;have q4:w4.cell? ⟨S,4,none⟩=some (.int .i64 (D:Int)):=(zf ak 4 _ rfl).1;have ai:RAt (w4.setCell ⟨H,1,none⟩ (.int .i64 (D:Int))).drew H pb (c'.size:Int) R:=by rw [av.o];exact qo J 1 _
   have aa:zg (fun k=>k=H) [TRd] w4 (w4.setCell ⟨H,1,none⟩ (.int .i64 (D:Int))).drew:=(zg.set (O:=fun k=>k=H) (T:=[TRd]) (zg.refl _ _ _) (.inl rfl) J (by simp) _).drew;have K:zg (fun k=>k=H) [TRd] E (w4.setCell ⟨H,1,none⟩ (.int .i64 (D:Int))).drew:=(Q.o.mono (fun _ h=>h.elim) (by simp)).trans (aa.mono (fun _ h=> .inl h) (fun _ h=>h));obtain⟨g1,g2,g3⟩:=zdi al.o aC.o HN.o HC.o.own ap.o HW.o aL.o aK.o (Nat.le_of_eq av.o) aq.o.1 aq.o.2 ac.o K ai;have az:=za g1;have a1:=za g2;have ad:=za g3;have a2:Hid (RP W.heap.size _ O S db n es D key d):=au.o.stay K (by decide) (by decide) (by decide) (by decide) (by decide) (by decide) (by decide) (by decide);have ae:=za (zcz _ (.slice none 0 0) ps w.heap.size 0 _ (by have:=aN.o;omega) (zi aw.o K (by decide)) (zi am.o aa (by decide)));clear J ak ai aa K g1 g2 g3 al HX aw au am Q;go_wp2_with fail;go_region;all_goals go_wp2_with fail
   generalize (w4.setCell ⟨H,1,none⟩ (.int .i64 (D:Int))).drew=Y at *
   refine ae.o.mono ?_;rintro r w6 ⟨rfl,I⟩;have U:=za I;have Z:=za (zb0 W O _ H nb S db n es D key d R (t+1) w6 hn (a2.o.below I) (ad.o.below I));clear I ae;unfold zo at Z;go_wp2_with fail;refine Z.o.mono ?_;rintro r w7 ⟨rfl,aj,ah⟩;have V:=za aj;have a3:=za ah;clear aj ah Z;go_wp2_with fail;go_ret;have s6:=U.o.size;have s7:=V.o.size;refine⟨by first | rfl | simp,(az.o.then_below U.o).trans (V.o.mono (fun k L=>?_) (by decide)),⟨n',(a1.o.below U.o).past V.o (fun k L=>(ad.o.own k L).1) (by decide) (by decide) (by decide) (by decide) (by decide),ar.o.1,by have:=ar.o.2;omega⟩,a3.o.ext (by omega) ap.o HW.o⟩;rcases L with L | L
   ·exact .inl (.inr L)
   ·exact .inr ⟨L.1,by omega⟩
  ·have cc:((D:Int)==0)=false:=by simp;omega
   have aD:Hid (zg (fun _=>False) [] E (E.alloc (.cells #[.int .i64 0,.string ⟨#[]⟩] 31))):= .of_below aU.o.1;obtain⟨t0,-⟩:=zf a7.o 0 _ rfl;have b1:∀ o,(E.alloc o).cell? ⟨H,1,none⟩=some (.int .i64 (c.size:Int)):=fun o=>by have h:=(zf ac.o 1 _ rfl).1;rw [zl _ _ ⟨H,1,none⟩ (zk h)];exact h
   have b3:∀ o,(E.alloc o).cell? ⟨S,3,none⟩=some (.slice ea es.length ec):=fun o=>by have h:=(zf aA.o 3 _ rfl).1;rw [zl _ _ ⟨S,3,none⟩ (zk h)];exact h
   by_cases be:0 < c.size∧c.size < D
   ·have ag:ps=zdn es c.size D:=by rw [← aS.o,if_pos be]
    obtain⟨cd,cl⟩:=be;have ck:(0:Int) < (c.size:Int):=by omega
    have cm:(c.size:Int) < (D:Int):=by omega
    have aI:D≤es.length:=bN.o;have ci:=bJ.o;have bq:Hid (∀ X,Below (E.alloc (.cells #[.int .i64 0,.string ⟨#[]⟩] 31)).heap.size (E.alloc (.cells #[.int .i64 0,.string ⟨#[]⟩] 31)) X→Calls Tryz.prog 30 #[.int .i64 (c.size:Int),.slice ea D ec,.bool true] X fun r w'=>∃ x,r= .returned x∧Below X.heap.size X w'∧zeo X w' x ps):=fun X hb=>by
     have h:=zoo (.slice ea D ec) (es.take D) c.size X (by have:=zbj aI;have:=bn.o;omega) (fun e he=>bG.o e (List.mem_of_mem_take he)) (by omega) (by rw [zbj aI];omega) (Tss.take (zdc (zi bR.o (aD.o.then_below hb) (by simp))) D aI);rw [zbj aI,zr9 es c.size D D aI (by have:=bn.o;omega) cd (by omega) (Nat.le_refl _),← ag] at h;exact h
    have aP:decide ((0:Int) < (c.size:Int))=true:=by simp;omega
    have aZ:decide ((c.size:Int) < (D:Int))=true:=by simp;omega
    have z1:=b1 (.cells #[.int .i64 0,.string ⟨#[]⟩] 31);have z3:=b3 (.cells #[.int .i64 0,.string ⟨#[]⟩] 31);have z4:=a4 (.cells #[.int .i64 0,.string ⟨#[]⟩] 31);have bI:Hid (Below (E.alloc (.cells #[.int .i64 0,.string ⟨#[]⟩] 31)).heap.size (E.alloc (.cells #[.int .i64 0,.string ⟨#[]⟩] 31)) (E.alloc (.cells #[.int .i64 0,.string ⟨#[]⟩] 31)).drew.drew):=(Below.refl _ _).drew.drew;have bT:Hid (zg (fun _=>False) [] E (E.alloc (.cells #[.int .i64 0,.string ⟨#[]⟩] 31)).drew.drew):=aD.o.drew.drew;have ch:(D:Int)≤(ec:Int):=by omega
    clear ay ag aD;go_wp2_with fail;go_region;all_goals go_wp2_with fail
    have bo:Hid (∀ X,Below (E.alloc (.cells #[.int .i64 0,.string ⟨#[]⟩] 31)).drew.drew.heap.size (E.alloc (.cells #[.int .i64 0,.string ⟨#[]⟩] 31)).drew.drew X→X.cell? ⟨H,1,none⟩=some (.int .i64 (c.size:Int))∧X.cell? ⟨S,3,none⟩=some (.slice ea es.length ec)∧X.cell? ⟨S,4,none⟩=some (.int .i64 (D:Int))):=fun X hb=>⟨by rw [hb.cell (p:=⟨H,1,none⟩) (zk z1)];exact z1,by rw [hb.cell (p:=⟨S,3,none⟩) (zk z3)];exact z3,by rw [hb.cell (p:=⟨S,4,none⟩) (zk z4)];exact z4⟩
    go_cut [8] from 56 to 69 (fun s8 wx=>∃ ya yc,s8= .slice ya ps.length yc∧zg (fun _=>False) [] E wx∧wx.ownsRow 0 9 1 (.slice ya ps.length yc) ps.length (ps.map txt))
    case first =>
     clear aP aZ cc;go_region_held3 (fun X=>X.cell? ⟨H,1,none⟩=some (.int .i64 (c.size:Int))∧X.cell? ⟨S,3,none⟩=some (.slice ea es.length ec)∧X.cell? ⟨S,4,none⟩=some (.int .i64 (D:Int))) (go_keep) (first | (go_at_call 30;refine(bq.o _ bI.o).mono ?_;rintro r w2 ⟨xx,rfl,aY,bd⟩;obtain⟨p1,p3,p4⟩:=bo.o w2 aY;obtain⟨ya,yc,he⟩:=xu bd;subst he;have an:=za aY;have bM:=za bd;clear aY bd));all_goals go_wp2_with fail
     all_goals go_meet
     all_goals exact⟨ya,yc,rfl,bT.o.then_below an.o,zcb bM.o (Nat.zero_le _)⟩
    case rest =>
     obtain⟨ya,yc,rfl,bE,b9⟩:=hcut;have Q:=za bE;have am:=za b9;clear bE b9 bo bq z1 z3 z4 b1 b3 a4 aP aZ;have J:RAt wc H pb (c.size:Int) R:=Q.o.keep ac.o (by simp);have ak:=Q.o.keep aA.o (by simp);obtain⟨q1,f1⟩:=zf J 1 _ rfl;have q4:wc.cell? ⟨S,4,none⟩=some (.int .i64 (D:Int)):=(zf ak 4 _ rfl).1;have ai:RAt (wc.setCell ⟨H,1,none⟩ (.int .i64 (D:Int))) H pb (c'.size:Int) R:=by rw [av.o];exact qo J 1 _
     have aa:zg (fun k=>k=H) [TRd] wc (wc.setCell ⟨H,1,none⟩ (.int .i64 (D:Int))):=(zg.set (O:=fun k=>k=H) (T:=[TRd]) (zg.refl _ _ _) (.inl rfl) J (by simp) _)
     have K:zg (fun k=>k=H) [TRd] E (wc.setCell ⟨H,1,none⟩ (.int .i64 (D:Int))):=(Q.o.mono (fun _ h=>h.elim) (by simp)).trans (aa.mono (fun _ h=> .inl h) (fun _ h=>h));obtain⟨g1,g2,g3⟩:=zdi al.o aC.o HN.o HC.o.own ap.o HW.o aL.o aK.o (Nat.le_of_eq av.o) aq.o.1 aq.o.2 ac.o K ai;have az:=za g1;have a1:=za g2;have ad:=za g3;have a2:Hid (RP W.heap.size _ O S db n es D key d):=au.o.stay K (by decide) (by decide) (by decide) (by decide) (by decide) (by decide) (by decide) (by decide);have ae:=za (zcz _ (.slice ya ps.length yc) ps w.heap.size 0 _ (by have:=aN.o;omega) (zi aw.o K (by decide)) (zi am.o aa (by decide)));clear J ak ai aa K g1 g2 g3 al HX aw au am Q;go_wp2_with fail;generalize (wc.setCell ⟨H,1,none⟩ (.int .i64 (D:Int)))=Y at *
     refine ae.o.mono ?_;rintro r w6 ⟨rfl,I⟩;have U:=za I;have Z:=za (zb0 W O _ H nb S db n es D key d R (t+1) w6 hn (a2.o.below I) (ad.o.below I));clear I ae;unfold zo at Z;go_wp2_with fail;refine Z.o.mono ?_;rintro r w7 ⟨rfl,aj,ah⟩;have V:=za aj;have a3:=za ah;clear aj ah Z;go_wp2_with fail;go_ret;have s6:=U.o.size;have s7:=V.o.size;refine⟨by first | rfl | simp,(az.o.then_below U.o).trans (V.o.mono (fun k L=>?_) (by decide)),⟨n',(a1.o.below U.o).past V.o (fun k L=>(ad.o.own k L).1) (by decide) (by decide) (by decide) (by decide) (by decide),ar.o.1,by have:=ar.o.2;omega⟩,a3.o.ext (by omega) ap.o HW.o⟩;rcases L with L | L
     ·exact .inl (.inr L)
     ·exact .inr ⟨L.1,by omega⟩
   ·have ag:ps=[]:=by rw [← aS.o,if_neg be]
    have aE:Hid ((E.alloc (.cells #[.int .i64 0,.string ⟨#[]⟩] 31)).ownsRow 0 9 1 (.slice none 0 0) ps.length (ps.map txt)):=by
     show World.ownsRow _ _ _ _ _ _ _;rw [ag];exact⟨rfl,.inl ⟨rfl,rfl⟩⟩
    have Q:Hid (zg (fun _=>False) [] E (E.alloc (.cells #[.int .i64 0,.string ⟨#[]⟩] 31))):=aD.o;have am:=za aE.o;have z1:=b1 (.cells #[.int .i64 0,.string ⟨#[]⟩] 31);have z4:=a4 (.cells #[.int .i64 0,.string ⟨#[]⟩] 31);clear ay ag aE aD;by_cases cg:0 < c.size
    ·have aP:decide ((0:Int) < (c.size:Int))=true:=by simp;omega
     have aZ:decide ((c.size:Int) < (D:Int))=false:=by simp;omega
     have J:RAt (E.alloc (.cells #[.int .i64 0,.string ⟨#[]⟩] 31)) H pb (c.size:Int) R:=Q.o.keep ac.o (by simp);have ak:=Q.o.keep aA.o (by simp);obtain⟨q1,f1⟩:=zf J 1 _ rfl;have q4:(E.alloc (.cells #[.int .i64 0,.string ⟨#[]⟩] 31)).cell? ⟨S,4,none⟩=some (.int .i64 (D:Int)):=(zf ak 4 _ rfl).1;have ai:RAt ((E.alloc (.cells #[.int .i64 0,.string ⟨#[]⟩] 31)).setCell ⟨H,1,none⟩ (.int .i64 (D:Int))).drew H pb (c'.size:Int) R:=by rw [av.o];exact qo J 1 _
     have aa:zg (fun k=>k=H) [TRd] (E.alloc (.cells #[.int .i64 0,.string ⟨#[]⟩] 31)) ((E.alloc (.cells #[.int .i64 0,.string ⟨#[]⟩] 31)).setCell ⟨H,1,none⟩ (.int .i64 (D:Int))).drew:=(zg.set (O:=fun k=>k=H) (T:=[TRd]) (zg.refl _ _ _) (.inl rfl) J (by simp) _).drew;have K:zg (fun k=>k=H) [TRd] E ((E.alloc (.cells #[.int .i64 0,.string ⟨#[]⟩] 31)).setCell ⟨H,1,none⟩ (.int .i64 (D:Int))).drew:=(Q.o.mono (fun _ h=>h.elim) (by simp)).trans (aa.mono (fun _ h=> .inl h) (fun _ h=>h));obtain⟨g1,g2,g3⟩:=zdi al.o aC.o HN.o HC.o.own ap.o HW.o aL.o aK.o (Nat.le_of_eq av.o) aq.o.1 aq.o.2 ac.o K ai;have az:=za g1;have a1:=za g2;have ad:=za g3;have a2:Hid (RP W.heap.size _ O S db n es D key d):=au.o.stay K (by decide) (by decide) (by decide) (by decide) (by decide) (by decide) (by decide) (by decide);have ae:=za (zcz _ (.slice none 0 0) ps w.heap.size 0 _ (by have:=aN.o;omega) (zi aw.o K (by decide)) (zi am.o aa (by decide)));clear J ak ai aa K g1 g2 g3 al HX aw au am Q;go_wp2_with fail;go_region;all_goals go_wp2_with fail
     generalize ((E.alloc (.cells #[.int .i64 0,.string ⟨#[]⟩] 31)).setCell ⟨H,1,none⟩ (.int .i64 (D:Int))).drew=Y at *
     refine ae.o.mono ?_;rintro r w6 ⟨rfl,I⟩;have U:=za I;have Z:=za (zb0 W O _ H nb S db n es D key d R (t+1) w6 hn (a2.o.below I) (ad.o.below I));clear I ae;unfold zo at Z;go_wp2_with fail;refine Z.o.mono ?_;rintro r w7 ⟨rfl,aj,ah⟩;have V:=za aj;have a3:=za ah;clear aj ah Z;go_wp2_with fail;go_ret;have s6:=U.o.size;have s7:=V.o.size;refine⟨by first | rfl | simp,(az.o.then_below U.o).trans (V.o.mono (fun k L=>?_) (by decide)),⟨n',(a1.o.below U.o).past V.o (fun k L=>(ad.o.own k L).1) (by decide) (by decide) (by decide) (by decide) (by decide),ar.o.1,by have:=ar.o.2;omega⟩,a3.o.ext (by omega) ap.o HW.o⟩;rcases L with L | L
     ·exact .inl (.inr L)
     ·exact .inr ⟨L.1,by omega⟩
    ·have aP:decide ((0:Int) < (c.size:Int))=false:=by simp;omega
     have J:RAt (E.alloc (.cells #[.int .i64 0,.string ⟨#[]⟩] 31)) H pb (c.size:Int) R:=Q.o.keep ac.o (by simp);have ak:=Q.o.keep aA.o (by simp);obtain⟨q1,f1⟩:=zf J 1 _ rfl;have q4:(E.alloc (.cells #[.int .i64 0,.string ⟨#[]⟩] 31)).cell? ⟨S,4,none⟩=some (.int .i64 (D:Int)):=(zf ak 4 _ rfl).1;have ai:RAt ((E.alloc (.cells #[.int .i64 0,.string ⟨#[]⟩] 31)).setCell ⟨H,1,none⟩ (.int .i64 (D:Int))).drew H pb (c'.size:Int) R:=by rw [av.o];exact qo J 1 _
     have aa:zg (fun k=>k=H) [TRd] (E.alloc (.cells #[.int .i64 0,.string ⟨#[]⟩] 31)) ((E.alloc (.cells #[.int .i64 0,.string ⟨#[]⟩] 31)).setCell ⟨H,1,none⟩ (.int .i64 (D:Int))).drew:=(zg.set (O:=fun k=>k=H) (T:=[TRd]) (zg.refl _ _ _) (.inl rfl) J (by simp) _).drew;have K:zg (fun k=>k=H) [TRd] E ((E.alloc (.cells #[.int .i64 0,.string ⟨#[]⟩] 31)).setCell ⟨H,1,none⟩ (.int .i64 (D:Int))).drew:=(Q.o.mono (fun _ h=>h.elim) (by simp)).trans (aa.mono (fun _ h=> .inl h) (fun _ h=>h));obtain⟨g1,g2,g3⟩:=zdi al.o aC.o HN.o HC.o.own ap.o HW.o aL.o aK.o (Nat.le_of_eq av.o) aq.o.1 aq.o.2 ac.o K ai;have az:=za g1;have a1:=za g2;have ad:=za g3;have a2:Hid (RP W.heap.size _ O S db n es D key d):=au.o.stay K (by decide) (by decide) (by decide) (by decide) (by decide) (by decide) (by decide) (by decide);have ae:=za (zcz _ (.slice none 0 0) ps w.heap.size 0 _ (by have:=aN.o;omega) (zi aw.o K (by decide)) (zi am.o aa (by decide)));clear J ak ai aa K g1 g2 g3 al HX aw au am Q;go_wp2_with fail;go_region;all_goals go_wp2_with fail
     generalize ((E.alloc (.cells #[.int .i64 0,.string ⟨#[]⟩] 31)).setCell ⟨H,1,none⟩ (.int .i64 (D:Int))).drew=Y at *
     refine ae.o.mono ?_;rintro r w6 ⟨rfl,I⟩;have U:=za I;have Z:=za (zb0 W O _ H nb S db n es D key d R (t+1) w6 hn (a2.o.below I) (ad.o.below I));clear I ae;unfold zo at Z;go_wp2_with fail;refine Z.o.mono ?_;rintro r w7 ⟨rfl,aj,ah⟩;have V:=za aj;have a3:=za ah;clear aj ah Z;go_wp2_with fail;go_ret;have s6:=U.o.size;have s7:=V.o.size;refine⟨by first | rfl | simp,(az.o.then_below U.o).trans (V.o.mono (fun k L=>?_) (by decide)),⟨n',(a1.o.below U.o).past V.o (fun k L=>(ad.o.own k L).1) (by decide) (by decide) (by decide) (by decide) (by decide),ar.o.1,by have:=ar.o.2;omega⟩,a3.o.ext (by omega) ap.o HW.o⟩;rcases L with L | L
     ·exact .inl (.inr L)
     ·exact .inr ⟨L.1,by omega⟩
theorem z63 (c k:Int)(n:Nat)(A:k=(n:Int))(w:World)(h1:-9223372036854775808≤c)(h2:c≤9223372036854775807)(D:0 < n)(h:n≤1000000):
  Calls Tryz.prog 25 #[.int .i64 c,.int .i64 k] w fun r w'=>(∃ m:Nat,m < n∧r= .returned (.int .i64 m))∧w'=w:=by
 subst A;exact z6x c n w h1 h2 D h
theorem z3g {w:World}{B:Nat}{r:Option Addr}{E:Nat}{es:List (List UInt8)}(h:w.ownsRow B 9 1 (.slice r es.length E) es.length (es.map txv))(h0:0 < es.length):∃ g,r=some ⟨g,0,none⟩:=by
 rcases h.2 with ⟨h1,h2⟩ | ⟨g,A,D,e,-⟩
 ·omega
 ·simp only [Value.slice.injEq] at e;exact⟨g,e.1⟩
end Go.Proofs.YtndkblnpbjffhaaGreatDoor
