import Derived.Test.YtfdbeldiomkdiaaGreatDoorG25
set_option maxHeartbeats 8000000
set_option maxRecDepth 100000
set_option linter.all false
namespace Go.Proofs.YtfdbeldiomkdiaaGreatDoor
open Go.RowKit Go.Proofs.Tryz
def J5:=@World.cell?_of_block
def K7 (O:Nat->Prop)(W:World)(ai:Nat->Addr)(ak:vj W ai)(p db:Nat)(lv ev:Value)(x:Wd)(d:Dk)(s:List Nat)(n:Nat)(t:zb)(w:World)(M:∀k,O k->W.heap.size<=k/\k<w.heap.size)(hW:zc W w)(hn:n<=4200)(ht:t.length<=9223372036854775807)(hO:O p)(m:za)(av:Nat)(h:Fh w O p db lv ev x d s n m av):
  Calls prog 90 #[.pointer (some ⟨p,0,none⟩),.string ⟨t.toArray⟩] w λr J=>r=.returned (.bool true)/\zl O aT w J/\(((20<t.length\/x.failed=true)/\zc w J)\/(t.length<=20/\(∀k,qv O w J k->W.heap.size<=k/\k<J.heap.size)/\∃aK aI s',Fh J (qv O w J) p db aK aI x d s' (n+1) (m++[t]) av)):=by
 obtain⟨am,R,hd,a,pb,lb,rfl,aj,an,i,B,ao,b⟩:=h;have ab:=ze a;have aG:=ze R;have HD:=ze hd;have aD:=ze M;have aB:Hid (∀k,O k->W.heap.size<=k):=λk D=>(M k D).1;have HW:=ze hW;have aE:=ze ak;have HO:=ze hO;have az:=ze am;have ad:=ze an;have Z:=ze i;have ag:=ze B;have af:=ze ao;have Y:=ze b;have aC:=ze aj;have aL:m.length<=40000:=by have:=Nl b;have:=a.small;omega
 obtain⟨-,-,⟨c2,-⟩,-⟩:=FK R;obtain⟨ea,ec,rfl⟩:=qt B;clear R hd a M hW ak hO am an i B ao b aj;go_enter func90,ntmps90;go_wp2_with fail;refine(Wy O W ai aE.o aB.o db pb lb _ t w HW.o (by show m.length<=_;omega) ht ad.o Z.o).mono ?_;rintro r l ⟨P,ap⟩;have v:=ze P;have y:Hid (KO l p db (.pointer (some ⟨pb,0,none⟩)) (.slice ea m.length ec) x):=P.keep aG.o (by decide);obtain⟨⟨k0,-⟩,⟨k1,-⟩,⟨k2,f2⟩,⟨k3,f3⟩,⟨k4,f4⟩,⟨k5,f5⟩,-⟩:=FK y.o;unfold BD at k0;unfold qy at k1;have a5:∀o,(l.alloc o).cell? ⟨p,5,none⟩=some (.bool x.failed):=λo=>by rw[xg _ _ ⟨p,5,none⟩ (yf k5)];exact k5
 have a3:∀o,(l.alloc o).cell? ⟨p,3,none⟩=some (.slice ea m.length ec):=λo=>by rw[xg _ _ ⟨p,3,none⟩ (yf k3)];exact k3
 clear P c2 k0 k1 k2 f2 k3 f3 k4 f4 k5 f5;rcases ap with ⟨ax,rfl,hb⟩|⟨ax,c,rfl,hb⟩|⟨ax,c,rfl,i⟩
 ·have V:=ze hb;unfold told;clear hb
  go_wp2
  go_ret;have z:=λo=>V.o.alloc V.o.size o;exact⟨by first|rfl|simp,zl.aa (z _),.inl ⟨.inl (by omega),z _⟩⟩
 ·have V:=ze hb;have u:x.failed=true:=by simpa using c
  have aA:=ze u;unfold told;rw[u]at a5;clear hb c u
  go_wp2
  go_ret;have z:=λo=>V.o.alloc V.o.size o;exact⟨by first|rfl|simp,zl.aa (z _),.inl ⟨.inr aA.o,z _⟩⟩
 ·have u:x.failed=false:=by simpa using c
  have f:zl O [] l (l.alloc (.cells #[.int .i64 0,.string ⟨#[]⟩] 39)):=.aa (zi l _);have al:(l.alloc (.cells #[.int .i64 0,.string ⟨#[]⟩] 39)).heap[l.heap.size]?=some (.cells #[.int .i64 0,.string ⟨#[]⟩] 39 (0,0)):=zf _ _;have S:∀k,qv O w l k->qv O w (l.alloc (.cells #[.int .i64 0,.string ⟨#[]⟩] 39)) k:=λk D=>qv.more f.size k D;have K:=ze ((i.stay f (by simp) (by simp) (by simp)).mono S);have hT:zl O aT w l:=v.o.mono (λ_ h=>h) (by decide);have aF:=ze (hT.trans (f.mono (λ_ h=>.inl h) (by simp)));have L:=ze (zy (zy ag.o v.o (by decide)) f (by simp));have ay:Hid (ym (l.alloc (.cells #[.int .i64 0,.string ⟨#[]⟩] 39)) (qv O w l) db d):=((HD.o.stay v.o (by decide) (by decide)).mono (λ_ h=>.inl h)).stay f (by simp) (by simp);have ae:=ze (JM (JM ad.o v.o (by decide)) f (by simp));have ah:=ze (f.keep y.o (by simp));have aw:=ze al;have aH:=ze S;have ar:=ze v.o.size;have aM:¬l.heap.size=p:=by have:=zg y.o;omega
  unfold told;rw[u]at a5;clear c u i hT f al S;go_wp2_with (at_builtin;refine J6 (l.alloc (.cells #[.int .i64 0,.string ⟨#[]⟩] 39)) rfl _ _ rfl 0 (yk _) (.slice ea m.length ec) m rfl L.o t (l.heap.size+1) (by simp) rfl (by omega) ?_;intro v' U A F I;have G:=ze A;have X:=ze I;have q:=ze F;obtain⟨ya,yc,N⟩:=qt A;subst N;have Q:=F.keep ah.o (by decide);have H:=ze Q;obtain⟨-,-,-,⟨m3,g3⟩,-⟩:=FK Q;obtain⟨n0,-⟩:=zm (F.keep aw.o (by decide)) 0 _ rfl;clear A F Q I);go_ret;have aq:=(RV H.o).2.1 (.slice ya (m.length+1) yc);have C:zl (λk=>k=p) [76] U (U.setCell ⟨p,3,none⟩ (.slice ya (m.length+1) yc)):=(zl.refl (λk=>k=p) [76] U).set (.inl rfl) H.o (by simp) _;have E:(U.setCell ⟨p,3,none⟩ (.slice ya (m.length+1) yc)).heap.size=U.heap.size:=by simp[World.setCell]
  have h3:=aF.o.trans (q.o.mono (λg T=>.inl (af.o g T)) (by decide));have hx:∀k,qv O w l k->qv O w (U.setCell ⟨p,3,none⟩ (.slice ya (m.length+1) yc)) k:=λk D=>qv.more (by rw[E];exact q.o.size) k (aH.o k D);refine⟨by first|rfl|simp,h3.trans (C.mono (λk D=>.inl (by rw[D];exact HO.o)) (by decide)),.inr ⟨ax,Db HW.o.size aD.o (by rw[E];exact h3.size),_,_,m.length/4::s,az.o,aq,((ay.o.stay q.o (by decide) (by decide)).stay C (by decide) (by decide)).mono hx,?_,pb,lb,rfl,.inl aC.o,JM (JM ae.o q.o (by decide)) C (by decide),((K.o.stay q.o (by decide) (by decide) (by decide)).stay C (by decide) (by decide) (by decide)).mono (λk D=>qv.more (by rw[E];exact q.o.size) k D),by have h:=zy G.o C (by decide);rw[zw]at h ⊢;exact h,λg T=>?_,?_⟩⟩
  ·have a:=ab.o;exact⟨a.apart,a.data,zt a.count (RZ (CK _ (Ar n)) _),λj J h1 h4 h=>BV _ (a.ba j J h1 h4 h),by have:=a.small;simp only[xf];omega,a.key,a.au⟩
  ·have T:(Value.slice ya (m++[t]).length yc).ownBlock=some g:=by rw[zw];exact T
   have aJ:=G.o.lt g T;rcases X.o g T with h|h
   ·exact .inl (af.o g h)
   ·exact .inr ⟨by have:=ar.out;simp at h;omega,by rw[E];exact aJ.2⟩
  ·have b:=Y.o;refine⟨λe N=>?_,λj hj=>?_,by have:=b.le;rw[zw];omega,λhf=>?_⟩
   ·rcases yj.1 N with N|N
    ·exact b.short e N
    ·obtain rfl:e=t:=by simpa using N
     exact ax
   ·rw[zw]at hj;simp only[xf,jq]at hj
    by_cases h4:4*j<m.length
    ·exact BV _ (b.ins j h4)
    ·obtain rfl:j=m.length/4:=by omega
     exact Dv
   ·rw[vr b.le];exact b.there hf
def X5 (O:Nat->Prop)(W:World)(a:Nat->Addr)(u:vj W a)(i j:Nat)(l o:Value)(x:Wd)(d:Dk)(s:List Nat)(n:Nat)(t:zb)(w:World)(b:∀k,O k->W.heap.size<=k/\k<w.heap.size)(G:zc W w)(Q:n<=4200)(R:t.length<=9223372036854775807)(F:O i)(h:Jz w O i j l o x d s n)(y:l≠ .pointer none):
  Calls prog 90 #[.pointer (some ⟨i,0,none⟩),.string ⟨t.toArray⟩] w λr m=>r=.returned (.bool true)/\zl O aT w m/\MU W.heap.size m (qv O w m) i (n+1):=by
 obtain⟨v,A,P,c,e|⟨D,B,E,f,e,q⟩⟩:=id h
 ·exact absurd e y
 refine(K7 O W a u i j l o x d s n t w b G Q R F E f ⟨v,A,P,c,D,B,e,q⟩).mono ?_;rintro r m ⟨rfl,z,N⟩;refine⟨rfl,z,.inl F,?_⟩;rcases N with ⟨-,H⟩|⟨-,M,C,p,S,I,J,K,L,D,B,e,g⟩
 ·obtain⟨f0,f1,f2,f3,f4⟩:=h.below H;exact⟨Db G.size b H.size,.inr ⟨j,l,o,x,d,s,f0,f1,f2,f3.more (Ar n),f4⟩⟩
 ·exact⟨M,.inr ⟨j,C,p,x,d,S,I,J,K,L,.inr ⟨D,B,E++[t],f,e,g⟩⟩⟩
variable {B db wb:Nat}{O O':Nat->Prop}{d:Dk}{ev lv:Value}{w w' w0 w1:World}
def MU.same {n:Nat}(h:MU B w O wb n)(c:zc w w')(g:B<=w.heap.size):MU B w' (qv O w w') wb n:=by
 obtain⟨h0,i,h⟩:=h;refine⟨.inl h0,Db g i c.size,?_⟩;rcases h with ⟨a,f,b,x,j,e⟩|⟨a,f,b,x,d,s,e⟩
 ·exact .inl ⟨a,f,b,x,(zl.aa (O:=O) (T:=[]) c).keep j (by simp),e⟩
 ·exact .inr ⟨a,f,b,x,d,s,e.below c⟩
def Yk (d:Dk)(m:Int)(a b:Bool):Dk:={d with az:=wrap64 (d.calls+m),half:=a,once:=b,dead:=false,hit:=false}
def Jz.fault {x:Wd}{s:List Nat}{n:Nat}(h:Jz w O wb db lv ev x d s n)(e:zl O Oi w w')(m:Int)(a b:Bool)(u:ym w' O db (Yk d m a b)):Jz w' O wb db lv ev x (Yk d m a b) s n:=by
 obtain⟨h0,q,-,r,t⟩:=h;refine⟨h0,e.keep q (by decide),u,JK r rfl rfl rfl,?_⟩;rcases t with h|⟨z,y,g,f,i,j,k,l,o,p,c⟩
 ·exact .inl h
 ·exact .inr ⟨z,y,g,f,i,j,e.keep k (by decide),l.stay e (by decide) (by decide) (by decide),zy o e (by decide),p,⟨c.short,c.ins,c.le,λv=>⟨⟨rfl,rfl⟩,(c.there v).2⟩⟩⟩
def Jz.ext {x:Wd}{s:List Nat}{n:Nat}(h:Jz w O wb db lv ev x d s n)(a:∀k,O k->O' k):Jz w O' wb db lv ev x d s n:=by
 obtain⟨h0,p,q,r,t⟩:=h;refine⟨h0,p,q.mono a,r,?_⟩;rcases t with h|⟨y,v,c,b,e,f,i,j,l,m,o⟩
 ·exact .inl h
 ·exact .inr ⟨y,v,c,b,e,a _ f,i,j.mono a,l,λg u=>a g (m g u),o⟩
def MU.wide {n:Nat}(h:MU B w O wb n)(a:∀k,O k->O' k)(e:∀k,O' k->B<=k/\k<w.heap.size):MU B w O' wb n:=by
 obtain⟨h0,-,h⟩:=h;refine⟨a _ h0,e,?_⟩;rcases h with h|⟨b,g,c,x,d,s,f⟩
 ·exact .inl h
 ·exact .inr ⟨b,g,c,x,d,s,f.ext a⟩
def Q0 {n:Nat}(a:zc w w0)(d:∀k,O k->B<=k/\k<w.heap.size)(c:B<=w.heap.size)(b:zl (qv O w w0) aT w0 w1)(e:MU B w1 (qv (qv O w w0) w0 w1) wb n):zl O aT w w1/\MU B w1 (qv O w w1) wb n:=
 ⟨(zl.aa a).trans b,e.wide (qv.trans a.size b.size) (Db c d (zt a.size b.size))⟩
def zg8 {x:Wd}{s:List Nat}(h:Pub w O db lv ev x d s):lv=.pointer none\/∃a,lv=.pointer (some ⟨a,0,none⟩):=by
 rcases h with h|⟨a,_,_,_,h,-⟩
 ·exact .inl h
 ·exact .inr ⟨a,h⟩
def Ml (O:Nat->Prop)(W:World)(D:Nat->Addr)(hE:DW W)(al:vj W D)(ak:RW W)(l n:Nat)(w:World)(hW:zc W w)(hn:n<=4100)(h:MU W.heap.size w O l n)(a A:Int)(c:Bool)(t:zb)(aJ:-9223372036854775808<=A)(aK:A<=9223372036854775807)(ht:t.length<=9223372036854775807):
  Calls prog 45 #[.pointer (some ⟨l,0,none⟩),.agg #[.int .i64 a,.int .i64 A,.bool c,.string ⟨t.toArray⟩]] w λr w'=>r=.returned (.bool true)/\zl O aT w w'/\MU W.heap.size w' (qv O w w') l (n+1):=by
 have p:Hid (∀o,zc w (w.alloc o)):=λo=>zi w o;have i:Hid (∀o,MU W.heap.size (w.alloc o) (qv O w (w.alloc o)) l (n+1)):=λo=>(h.same (zi w o) hW.size).more (by omega);have HW:=ze hW;have I:=ze hE;have C:=ze al;have J:=ze ak;obtain⟨h0,ab,h⟩:=h;have HO:=ze h0;have z:=ze ab;have g:Hid (∀o,(∀k,qv O w (w.alloc o) k->W.heap.size<=k/\k<(w.alloc o).heap.size)/\zc W (w.alloc o)):=λo=>⟨Db hW.size ab (zi w o).size,hW.trans ((zi w o).mono hW.size)⟩
 clear hW hE al ak h0 ab;rcases h with ⟨q,lv,N,x,hw,hf⟩|⟨q,lv,N,x,d,s,hf⟩
 ·obtain⟨-,-,-,-,-,-,⟨K,-⟩⟩:=FK hw;rw[hf]at K;have a6:∀o,(w.alloc o).cell? ⟨l,6,none⟩=some (.bool true):=λo=>by rw[xg _ _ ⟨l,6,none⟩ (yf K)];exact K
  clear hw hf K;go_enter func45,ntmps45
  go_wp2
  go_ret;exact⟨rfl,zl.aa (p.o _),i.o _⟩
 ·have U:Hid (∀o,Jz (w.alloc o) (qv O w (w.alloc o)) l q lv N x d s n):=λo=>hf.below (zi w o);obtain⟨ao,hw,hd,-,hp⟩:=hf;obtain⟨⟨c0,-⟩,-,⟨c2,-⟩,⟨c3,-⟩,-,-,⟨K,-⟩⟩:=FK hw;rw[ao]at K;have V:=ze (zg8 hp);unfold BD at c0;have a0:∀o,(w.alloc o).cell? ⟨l,0,none⟩=some (.pointer (some ⟨q,0,none⟩)):=λo=>by rw[xg _ _ ⟨l,0,none⟩ (yf c0)];exact c0
  have a2:∀o,(w.alloc o).cell? ⟨l,2,none⟩=some lv:=λo=>by rw[xg _ _ ⟨l,2,none⟩ (yf c2)];exact c2
  have a3:∀o,(w.alloc o).cell? ⟨l,3,none⟩=some N:=λo=>by rw[xg _ _ ⟨l,3,none⟩ (yf c3)];exact c3
  have a6:∀o,(w.alloc o).cell? ⟨l,6,none⟩=some (.bool false):=λo=>by rw[xg _ _ ⟨l,6,none⟩ (yf K)];exact K
  have HP:=ze hp;clear hw ao hd hp c0 c2 c3 K
  by_cases ap:a=1
  ·subst ap;go_enter func45,ntmps45;go_wp2_with fail;refine(zeq (qv O w _) W D I.o C.o J.o l q lv N x d s n _ (g.o _).1 (g.o _).2 (by omega) (.inl HO.o) (U.o _)).mono ?_;rintro r y ⟨rfl,b,j⟩;have f:=ze (Q0 (p.o _) z.o HW.o.size b (j.more (show n<=n+1 by omega)));clear b j
   go_wp2
   go_ret;exact⟨rfl,f.o.1,f.o.2⟩
  ·have M:(a==1)=false:=by simpa using ap
   by_cases av:a=5
   ·subst av;clear M;go_enter func45,ntmps45
    go_upto_region 7 with fail
    go_cut [] from 18 to 33 (λwx=>∃(m:Int) (E G:Bool),zl (qv O w (w.alloc (.cells #[.int .i64 5,.int .i64 A,.bool c,.string ⟨t.toArray⟩] 65))) Oi (w.alloc (.cells #[.int .i64 5,.int .i64 A,.bool c,.string ⟨t.toArray⟩] 65)) wx/\ym wx (qv O w (w.alloc (.cells #[.int .i64 5,.int .i64 A,.bool c,.string ⟨t.toArray⟩] 65))) q (Yk d m E G))
    case first =>
     have aB:Hid (ym (w.alloc (.cells #[.int .i64 5,.int .i64 A,.bool c,.string ⟨t.toArray⟩] 65)) (qv O w (w.alloc (.cells #[.int .i64 5,.int .i64 A,.bool c,.string ⟨t.toArray⟩] 65))) q d):=(U.o _).2.2.1;have L:(w.alloc (.cells #[.int .i64 5,.int .i64 A,.bool c,.string ⟨t.toArray⟩] 65)).heap[w.heap.size]?=some (.cells #[.int .i64 5,.int .i64 A,.bool c,.string ⟨t.toArray⟩] 65 (0,0)):=zf _ _;have az:=(U.o (.cells #[.int .i64 5,.int .i64 A,.bool c,.string ⟨t.toArray⟩] 65)).2.1;have e0:=a0 (.cells #[.int .i64 5,.int .i64 A,.bool c,.string ⟨t.toArray⟩] 65);have e1:=(zm L 1 _ rfl).1;have e3:=(zm L 3 _ rfl).1;have aG:Hid (∀y T,zl (qv O w (w.alloc (.cells #[.int .i64 5,.int .i64 A,.bool c,.string ⟨t.toArray⟩] 65))) T (w.alloc (.cells #[.int .i64 5,.int .i64 A,.bool c,.string ⟨t.toArray⟩] 65)).drew y->T=Oi->y.cell? ⟨l,0,none⟩=some (.pointer (some ⟨q,0,none⟩))/\y.cell? ⟨w.heap.size,1,none⟩=some (.int .i64 A)/\y.cell? ⟨w.heap.size,3,none⟩=some (.string ⟨t.toArray⟩)):=λy T hT e=>by
      subst e;have h1:=hT.aF.keep az (by decide);have h2:=hT.aF.keep L (by decide);exact⟨(zm h1 0 _ rfl).1,(zm h2 1 _ rfl).1,(zm h2 3 _ rfl).1⟩
     clear i HW I C J HO z g U V HP p a0 a2 a3 a6 L az;generalize (w.alloc (.cells #[.int .i64 5,.int .i64 A,.bool c,.string ⟨t.toArray⟩] 65))=wz at *;generalize w.heap.size=ob at *
     go_region_held3 (λX=>X.cell? ⟨l,0,none⟩=some (.pointer (some ⟨q,0,none⟩))/\X.cell? ⟨ob,1,none⟩=some (.int .i64 A)/\X.cell? ⟨ob,3,none⟩=some (.string ⟨t.toArray⟩)) (go_keep) (first
      |(go_at_call 53;refine(N9 A 30 _ aJ aK (by omega) (by omega)).mono ?_;rintro r w' ⟨⟨m,hm,rfl⟩,rfl⟩)
      |(go_at_call 88;refine(zbo (qv O w wz) q d _ (by exact aB.o) _ _ _).mono ?_;rintro r y ⟨rfl,b,am⟩;obtain⟨q0,q1,q3⟩:=aG.o y _ b rfl;have aH:=ze b;have aA:=ze am;clear b am))
     all_goals go_wp2_with fail
     all_goals go_meet
     all_goals exact⟨_,_,_,aH.o.aF,aA.o⟩
    case rest =>
     obtain⟨m,E,G,F,an⟩:=hcut;have ae:=(U.o _).fault F m E G an;have ag:=ze ae;obtain⟨-,-,⟨b2,-⟩,-⟩:=FK ae.2.1;have ad:=p.o (.cells #[.int .i64 5,.int .i64 A,.bool c,.string ⟨t.toArray⟩] 65);have R:=ad.size;have v:=F.size;have aj:Hid (∀k,qv O w (w.alloc (.cells #[.int .i64 5,.int .i64 A,.bool c,.string ⟨t.toArray⟩] 65)) k->W.heap.size<=k/\k<wc.heap.size):=λk u=>by
      have:=(g.o _).1 k u;exact⟨this.1,zq this.2 v⟩
     have aI:=ze ((g.o _).2.trans (F.below (λk u=>((g.o _).1 k u).1) (g.o _).2.size));have Y:Hid (zl O aT w wc):=(zl.aa ad).trans (F.mono (λ_ h=>h) (by decide));have Z:Hid (∀k,qv O w (w.alloc (.cells #[.int .i64 5,.int .i64 A,.bool c,.string ⟨t.toArray⟩] 65)) k->qv O w wc k):=λk u=>qv.more v k u;have aE:=ze (zt R v);clear F an ae ad R v a0 a2 a3 a6;rcases V.o with rfl|⟨pb,rfl⟩
     ·go_wp2_with fail;refine(Z3 _ W D I.o C.o J.o l q N x _ s n wc aj.o aI.o (by omega) (.inl HO.o) ag.o ⟨rfl,rfl⟩).mono ?_;rintro r y ⟨rfl,b,j⟩;have ah:=ze (Y.o.trans (b.mono (λk u=>Z.o k u) (λ_ h=>h)));have aC:Hid (MU W.heap.size y (qv O w y) l (n+1)):=by
       refine(j.wide (λk u=>?_) (Db HW.o.size z.o ah.o.size)).more (by omega);rcases u with u|u
       ·exact qv.more b.size k (Z.o k u)
       ·exact .inr ⟨zt aE.o u.1,u.2⟩
      clear b j
      go_wp2
      go_ret;exact⟨rfl,ah.o,aC.o⟩
     ·go_wp2
      go_ret;exact⟨rfl,Y.o,(MU.wide (B:=W.heap.size) ⟨.inl HO.o,aj.o,.inr ⟨_,_,_,_,_,_,ag.o⟩⟩ Z.o (Db HW.o.size z.o Y.o.size)).more (by omega)⟩
   ·have af:(a==5)=false:=by simpa using av
    rcases V.o with rfl|⟨pb,rfl⟩
    ·go_enter func45,ntmps45
     go_wp2
     go_ret;exact⟨rfl,zl.aa (p.o _),i.o _⟩
    ·have aw:Hid (Value.pointer (some (⟨pb,0,none⟩:Addr))≠ .pointer none):=λh=>by simp at h
     by_cases aq:a=2
     ·subst aq;clear M af;go_enter func45,ntmps45;go_wp2_with fail;refine(X5 (qv O w _) W D C.o l q _ N x d s n t _ (g.o _).1 (g.o _).2 (by omega) ht (.inl HO.o) (U.o _) aw.out).mono ?_;rintro r y ⟨rfl,b,j⟩;have f:=ze (Q0 (p.o _) z.o HW.o.size b j);clear b j
      go_wp2
      go_ret;exact⟨rfl,f.o.1,f.o.2⟩
     ·have ay:(a==2)=false:=by simpa using aq
      by_cases ar:a=3
      ·subst ar;clear M af ay;go_enter func45,ntmps45;go_wp2_with fail;refine(UW (qv O w _) W D I.o C.o J.o l q _ N x d s n _ (g.o _).1 (g.o _).2 hn (.inl HO.o) (U.o _) aw.out).mono ?_;rintro r y ⟨rfl,b,j⟩;have f:=ze (Q0 (p.o _) z.o HW.o.size b j);clear b j
       go_wp2
       go_ret;exact⟨rfl,f.o.1,f.o.2⟩
      ·have aL:(a==3)=false:=by simpa using ar
       by_cases au:a=4
       ·subst au;clear M af ay aL;obtain⟨S,es,H,ax,P,Q⟩:∃S es H,KM w pb S/\Ak w O q S {key:=x.key,es:=es,put:=H,live:=!x.failed}/\w.ownsRow 0 9 1 N es.length (es.map qy):=by
         rcases HP.o with h|⟨aM,S,es,H,e,-,h3,h4,h5,-⟩
         ·simp at h
         ·obtain rfl:pb=aM:=by simpa using e
          exact⟨S,es,H,h3,h4,h5⟩
        have aD:Hid (∀o,KM (w.alloc o) pb S):=λo=>(zl.aa (O:=O) (T:=[]) (zi w o)).keep ax (by simp);have ai:Hid (∀o,Ak (w.alloc o) O q S {key:=x.key,es:=es,put:=H,live:=!x.failed}):=λo=>P.stay (zl.aa (O:=O) (T:=[]) (zi w o)) (by simp) (by simp) (by simp);obtain⟨ea,ec,rfl⟩:=qt Q;clear ax P Q;go_enter func45,ntmps45;go_wp2_with fail;refine(Tq O q pb S _ _ (aD.o _) (ai.o _)).mono ?_;rintro r y ⟨rfl,rfl⟩
        go_wp2
        go_ret;exact⟨by first|rfl|simp,zl.aa (p.o _),i.o _⟩
       ·have aN:(a==4)=false:=by simpa using au
        go_enter func45,ntmps45
        go_wp2
        go_ret;exact⟨rfl,zl.aa (p.o _),i.o _⟩
structure OpR where
 kind:Int
 a:Int
 two:Bool
 s:zb
def Oss (w:World)(v:Value)(c:List OpR):Prop:=
 ∃a e,v=.slice a c.length e/\c.length<=e/\(c=[]\/∃b d,a=some ⟨b,d,none⟩/\∀i (h:i<c.length),w.cell? ⟨b,d+i*4,none⟩=some (.int .i64 c[i].kind)/\w.cell? ⟨b,d+i*4+1,none⟩=some (.int .i64 c[i].a)/\w.cell? ⟨b,d+i*4+2,none⟩=some (.bool c[i].two)/\w.cell? ⟨b,d+i*4+3,none⟩=some (qy c[i].s))
variable {OA:Nat->Prop}
def ym.narrow {b:Nat}(h:ym w O b d):ym w (λk=>O k/\k<w.heap.size) b d:=by
 obtain⟨i,a,c,f,j⟩:=h;exact⟨i,⟨a,zg c⟩,c,f,λg e=>⟨j g e,(f.lt g e).2⟩⟩
def ZS {b:Nat}{c:Fs}{d:zb}(j:B<=b)(l:∀k,O k->b<=k)(g:O b)(e:d.length<=1048577)(p:c.length<=4096)(o:∀f∈c,f.2.length<=1048576)(i:KO w b (b+1) (.pointer none) (.slice none 0 0) {key:=d,ar:=0,failed:=false,aw:=false})(m:ym w O (b+1) {ZG with fs:=GK [] c}):
  MU B w (λk=>O k/\k<w.heap.size) b 0:=by
 refine⟨⟨g,zg i⟩,λk e=>⟨zt j (l k e.1),e.2⟩,.inr ⟨_,_,_,_,_,(GK [] c).map λf=>ixN f.1,rfl,i,m.narrow,?_,.inl rfl⟩⟩;have a:=QP c [];refine⟨QO c [] (by simp[D5]),λf n=>?_,by simp at a ⊢;omega,OR _,by simp at a ⊢;omega,e,rfl⟩;rcases Wv c [] f n with h|h
 ·simp at h
 ·exact o f h
def zbm {OB:Nat->Prop}(h:∀k,OA k->¬OB k)(c:∀k,OA k->k<w.heap.size):∀k,OA k->¬qv OB w w' k:=by
 rintro k b (a|a)
 ·exact h k b a
 ·have:=c k b;omega
def Yj {OB:Nat->Prop}(h:∀k,OA k->¬OB k)(c:∀k,OB k->k<w.heap.size):∀k,qv OA w w' k->¬OB k:=by
 rintro k (a|a) b
 ·exact h k a b
 ·have:=c k b;omega
def Sq (W:World)(u:Nat->Addr)(hE:DW W)(an:vj W u)(am:RW W)(v sv:Value)(fs:Fs)(m:zb)(c:List OpR)(ay:∀f∈fs,f.1.length<=9223372036854775807/\f.2.length<=9223372036854775807)(aI:m.length<=9223372036854775807)
 (I:∀o∈c,-9223372036854775808<=o.a/\o.a<=9223372036854775807/\o.s.length<=9223372036854775807) (P:Mr W v fs) (hs:Oss W sv c) :
  Calls prog 11 #[v,.string ⟨m.toArray⟩,sv] W λr w'=>r=.returned (.bool true)/\zc W w':=by
 have HF:=ze P;have HS:=ze hs;have D:=ze hE;have B:=ze an;have E:=ze am;have ak:=ze ay;have al:=ze I;obtain⟨fa,aE,rfl,-,-⟩:=P;obtain⟨sa,ag,rfl,aK,-⟩:=hs;go_enter func11,ntmps11;go_wp2_with fail;refine(OW _ fs sa c.length ag W ak.o HF.o).mono ?_;rintro r w1 ⟨ao,bb,rfl,ar⟩;have q:=ze ao;have aj:=ze ar;cases bb with
 |false =>
  go_wp2
  go_ret;exact⟨rfl,q.o⟩
 |true =>
  obtain⟨ax,aJ,Y⟩:=aj.o rfl;have Q:=ze Y
  by_cases aH:1048576<m.length
  ·have ad:(1048576:Int)<(m.length:Int):=by omega
   go_wp2
   go_ret;exact⟨rfl,q.o⟩
  ·have ad:¬(1048576:Int)<(m.length:Int):=by omega
   go_wp2_with fail;refine(zc6 w1 u (jn B.o q.o)).mono ?_;rintro r wt ⟨rfl,V⟩;have C:Hid (zc W (wt.alloc (.cells #[.int .i64 7,.string ⟨#[]⟩] 39))):=(q.o.trans (V.mono q.o.size)).alloc (zt q.o.size V.size) _;unfold told;go_wp2_with fail;generalize wt.alloc (.cells #[.int .i64 7,.string ⟨#[]⟩] 39)=w2 at *;generalize wt.heap.size=aL at *;refine(Mj _ fs m w2 (by omega) (HF.o.below C.o)).mono ?_;rintro r w3 ⟨rfl,ap,ae,au⟩;have J:=ze (C.o.trans (ap.mono C.o.size));have R:=ze (ZS C.o.size (λ_ h=>h) (zk _) (by omega) ax (λf P=>(Q.o f P).2) ae au);have aF:¬9223372036854775807<m.length+1:=by omega
   go_wp2_with fail;refine(Mj _ [] (m++[50]) w3 (by simp) ⟨none,0,rfl,zk _,.inl rfl⟩).mono ?_;rintro r w4 ⟨rfl,X,af,av⟩;have ah:=ze (J.o.trans (X.mono J.o.size));have T:=ze (ZS J.o.size (λ_ h=>h) (zk _) (by simp;omega) (by simp) (λf P=>by simp at P) af av);have S:=ze (R.o.out (zl.aa (O:=λ_=>False) X) (λ_ _ h=>h));generalize w2.heap.size=wa at *;generalize w3.heap.size=wv at *
   go_wp2
   go_loopw [7,12] (λkv iv wr=>∃(i:Nat) (F OB:Nat->Prop),i<=c.length/\iv=.int .i64 (i:Int)/\zc W wr/\MU W.heap.size wr F wa i/\MU W.heap.size wr OB wv i/\∀k,F k->¬OB k) (λ_ iv _=>c.length-(intOf iv).toNat)
   case atStart=>exact⟨0,_,_,yk _,rfl,ah.o,S.o,T.o,λk h1 h2=>by omega⟩
   case round =>
    obtain⟨i,F,OB,hi,rfl,aq,Z,ab,aw⟩:=hrel;have d:=ze aq;have K:=ze Z;have L:=ze ab;have x:=ze aw;have M:Hid (∀k,F k->W.heap.size<=k/\k<wr.heap.size):=Z.2.1;have N:=ze ab.2.1
    by_cases H:i<c.length
    ·obtain⟨a',aD,he,-,aB⟩:=HS.o;simp only[jk]at he;obtain⟨rfl,-,rfl⟩:=he;obtain⟨b,e,rfl,hx⟩:∃b e,sa=some ⟨b,e,none⟩/\∀i (h:i<c.length),W.cell? ⟨b,e+i*4,none⟩=some (.int .i64 c[i].kind)/\W.cell? ⟨b,e+i*4+1,none⟩=some (.int .i64 c[i].a)/\W.cell? ⟨b,e+i*4+2,none⟩=some (.bool c[i].two)/\W.cell? ⟨b,e+i*4+3,none⟩=some (qy c[i].s):=by
      rcases aB with h|h
      ·rw[h]at H;simp at H
      ·exact h
     obtain⟨y0,y1,y2,y3⟩:=hx i H;have I:=al.o _ (ye H);have r0:wr.cell? ⟨b,e+i*4,none⟩=some (.int .i64 c[i].kind):=by rw[d.o.cell (p:=⟨b,_,none⟩) (yf y0)];exact y0
     have r1:wr.cell? ⟨b,e+i*4+1,none⟩=some (.int .i64 c[i].a):=by rw[d.o.cell (p:=⟨b,_,none⟩) (yf y1)];exact y1
     have r2:wr.cell? ⟨b,e+i*4+2,none⟩=some (.bool c[i].two):=by rw[d.o.cell (p:=⟨b,_,none⟩) (yf y2)];exact y2
     have r3:wr.cell? ⟨b,e+i*4+3,none⟩=some (.string ⟨c[i].s.toArray⟩):=by rw[d.o.cell (p:=⟨b,_,none⟩) (yf y3)];exact y3
     generalize c[i]=o at *;obtain⟨kd,A,aC,t⟩:=o;simp only at r0 r1 r2 r3 I;have g:=ze I;cases aC with
     |true =>
      go_wp2_with fail;refine(Ml OB W u D.o B.o E.o wv i wr d.o (by omega) L.o kd A true t g.o.1 g.o.2.1 g.o.2.2).mono ?_;rintro r w5 ⟨rfl,l,G⟩;have n:=ze (d.o.trans (l.below (λk w=>(N.o k w).1) d.o.size));have z:=ze G;have j:=ze ((K.o.out l x.o).more (show i<=i+1 by omega));have y:Hid (∀k,F k->¬qv OB wr w5 k):=zbm x.o (λk w=>(M.o k w).2)
      go_wp2
      go_roundw
      case rel=>exact⟨i+1,_,_,by omega,by go_num,n.o,j.o,z.o,y.o⟩
      case measure=>simp[intOf];omega
     |false =>
      go_wp2_with fail;refine(Ml F W u D.o B.o E.o wa i wr d.o (by omega) K.o kd A false t g.o.1 g.o.2.1 g.o.2.2).mono ?_;rintro r w5 ⟨rfl,l,G⟩;have n:=ze (d.o.trans (l.below (λk w=>(M.o k w).1) d.o.size));have j:=ze G;have z:=ze ((L.o.out l (λk w az=>x.o k az w)).more (show i<=i+1 by omega));have y:Hid (∀k,qv F wr w5 k->¬OB k):=Yj x.o (λk w=>(N.o k w).2)
      go_wp2
      go_roundw
      case rel=>exact⟨i+1,_,_,by omega,by go_num,n.o,j.o,z.o,y.o⟩
      case measure=>simp[intOf];omega
    ·go_wp2_with fail;refine(Ml OB W u D.o B.o E.o wv i wr d.o (by omega) L.o 1 0 false [] (by omega) (by omega) (by simp)).mono ?_;rintro r w5 ⟨rfl,l,G⟩;have n:=ze (d.o.trans (l.below (λk w=>(N.o k w).1) d.o.size));have j:=ze (K.o.out l x.o);have U:Hid (∀k,F k->W.heap.size<=k):=λk w=>(M.o k w).1;go_wp2_with fail;refine(Ml F W u D.o B.o E.o wa i w5 n.o (by omega) j.o 1 0 false [] (by omega) (by omega) (by simp)).mono ?_;rintro r w6 ⟨rfl,aA,aG⟩;have ai:=ze (n.o.trans (aA.below U.o n.o.size))
     go_wp2
     go_ret;exact⟨rfl,ai.o⟩
variable {O1:Nat->Prop}{T:List Nat}{nb:Nat}{v:Value}
def Qd (w:World)(v:Value)(c:List Ly):Prop:=∃a d,v=.slice a c.length d/\(c.length=0\/∃g,a=some ⟨g,0,none⟩/\∃b,w.heap[g]?=some (.cells b 155 (0,0))/\∀j (h:j<c.length),b[j*4]?=some (qy c[j].path)/\b[j*4+1]?=some (qy c[j].data)/\b[j*4+2]?=some (.bool c[j].aH)/\b[j*4+3]?=some (.int .i64 c[j].times))
def TV (w:World)(O:Nat->Prop)(v:Value)(c:List Int):Prop:=∃a b,v=.slice a c.length b/\(c.length=0\/∃g,a=some ⟨g,0,none⟩/\O g/\w.heap[g]?=some (.cells (c.map (Value.int .i64)).toArray 3 (0,0)))
def De (w:World)(O:Nat->Prop)(b c:Nat)(n:Nt):Prop:=
 ∃a tv,O b/\w.heap[b]?=some (.cells #[BD c,a,tv,.int .i64 n.ai] 148 (0,0))/\Qd w a n.ao/\TV w O tv n.told/\n.told.length=n.ao.length
abbrev nT:List Nat:=[148,3]
def Qd.aj {d:List Ly}(h:Qd w v d)(k:zl O T w w')(i:155∉T):Qd w' v d:=by
 obtain⟨a,b,e,h|⟨g,f,c,j,r⟩⟩:=h
 ·exact⟨a,b,e,.inl h⟩
 ·exact⟨a,b,e,.inr ⟨g,f,c,k.keep j i,r⟩⟩
def TV.aj {c:List Int}(h:TV w O v c)(k:zl O1 T w w')(i:3∉T):TV w' O v c:=by
 obtain⟨a,b,e,h|⟨g,d,f,j⟩⟩:=h
 ·exact⟨a,b,e,.inl h⟩
 ·exact⟨a,b,e,.inr ⟨g,d,f,k.keep j i⟩⟩
def De.aj {n:Nt}(h:De w O nb db n)(a:zl O1 T w w')(c:148∉T)(d:155∉T)(e:3∉T):De w' O nb db n:=by
 obtain⟨k,tv,f,g,j,b,i⟩:=h;exact⟨k,tv,f,a.keep g c,j.aj a d,b.aj a e,i⟩
def De.below {n:Nt}(h:De w O nb db n)(a:zc w w'):De w' O nb db n:=h.aj (O1:=λ_=>False) (T:=[]) (.aa a) (by simp) (by simp) (by simp)
def Y6 (O:Nat->Prop)(q db:Nat)(n:Nt)(d:Dk)(p:zb)(w:World)(hn:d.fs.length<=1000000000)(hl:∀f∈d.fs,f.2.length<=1000000000)
 (hy:∀l∈n.ao,l.data.length<=1000000000/\l.aH=false/\l.times=0) (be:n.ao.length<=1000000000) (hf:0<=n.ai/\n.ai<4611686018427387904) (aV:∀t∈n.told,0<=t/\t<4611686018427387904)
 (hD:ym w O db d) (hN:De w O q db n) :
  Calls prog 319 #[.pointer (some ⟨q,0,none⟩),qy p] w λr w'=>∃v e x,r=.returned (.tuple #[v,e])/\zl O nT w w'/\De w' O q db (qr d.fs n p).2/\JY w' v x/\x.getD []=(qr d.fs n p).1.1 /\
   (((qr d.fs n p).1.2=true/\e=.nilIface)\/((qr d.fs n p).1.2=false/\∃g,e=Eh g)):=by
 obtain⟨lv,tv,hO,N,hL,hT,ae⟩:=hN;obtain⟨la,R,rfl,aK⟩:=hL;obtain⟨ta,u,rfl,aM⟩:=hT;have c0:=(zm N 0 _ rfl).1;have c1:=(zm N 1 _ rfl).1;have c2:=(zm N 2 _ rfl).1;have c3:=(zm N 3 _ rfl).1;have f3:=(zm N 3 _ rfl).2;rw[ae]at c2;have HB:=ze N;have aB:=ze aK;have aI:=ze aM;have HD:=ze hD;have HL:=ze hl;have HY:=ze hy;have a2:=ze aV;have S:=ze ae;obtain⟨bm,bn⟩:=hf;have W:Hid (zl O nT w (w.setCell ⟨q,3,none⟩ (.int .i64 (n.ai+1)))/\(w.setCell ⟨q,3,none⟩ (.int .i64 (n.ai+1))).heap[q]?=some (.cells #[BD db,.slice la n.ao.length R,.slice ta n.told.length u,.int .i64 (n.ai+1)] 148 (0,0))):=by
  refine⟨(zl.refl O nT w).set (.inl hO) N (by simp) _,?_⟩;rw[Aw N]
  rfl
 clear N aK aM hD hl hy aV ae;unfold qy;unfold BD at c0;go_enter func319,ntmps319;go_wp2_with fail;have a0:=ze HB.o;have aA:=ze (HD.o.stay (O1:=O) (T:=nT) W.out.1 (by decide) (by decide));have C:Hid (∀k (hk:k<n.ao.length),∃g,la=some ⟨g,0,none⟩/\∃B,(w.setCell ⟨q,3,none⟩ (.int .i64 (n.ai+1))).heap[g]?=some (.cells B 155 (0,0))/\B[k*4]?=some (qy n.ao[k].path)/\B[k*4+1]?=some (qy n.ao[k].data)/\B[k*4+2]?=some (.bool n.ao[k].aH)/\B[k*4+3]?=some (.int .i64 n.ao[k].times)):=by
  intro k hk;rcases aB.o with h0|⟨g,ea,B,hg,hx⟩
  ·omega
  ·exact⟨g,ea,B,W.out.1.keep hg (by decide),hx k hk⟩
 have M:Hid (∀k,k<n.ao.length->∃g,ta=some ⟨g,0,none⟩/\O g/\g≠q/\(w.setCell ⟨q,3,none⟩ (.int .i64 (n.ai+1))).heap[g]?=some (.cells (n.told.map (Value.int .i64)).toArray 3 (0,0))):=by
  intro k hk;rcases aI.o with h0|⟨g,ea,a5,hg⟩
  ·have:=S.o;omega
  ·have al:g≠q:=by
    rintro rfl;rw[HB.o]at hg;simp at hg
   exact⟨g,ea,a5,al,by rw[yh _ _ _ _ al];exact hg⟩
 have d1:=(zm W.out.2 0 _ rfl).1;have d2:=(zm W.out.2 2 _ rfl).1;have d3:=(zm W.out.2 3 _ rfl).1;rw[S.o]at d2;clear c0 c1 c2 c3 f3 HB aB aI HD;have ba:=zg a0.o;have s:=zq ba W.out.1.size;generalize w.setCell ⟨q,3,none⟩ (.int .i64 (n.ai+1))=w1 at *;go_loopw [21] (λi wr=>∃k:Nat,k<=n.ao.length/\i=.int .i64 k/\zc w1 wr/\∀j,j<k->Gf n p j=false) (λi _=>n.ao.length-(intOf i).toNat)
 case atStart=>exact⟨0,yk _,rfl,zu _ _,λj hj=>absurd hj (Am _)⟩
 case round =>
  obtain⟨k,hk,rfl,m,ax⟩:=hrel;have U:=ze m;have V:=ze ax
  by_cases H:k<n.ao.length
  ·obtain⟨g,rfl,B,hg,x0,x1,x2,x3⟩:=C.o k H;obtain⟨z,rfl,aL,bd,K⟩:=M.o k H;have ab:wr.heap[g]?=some (.cells B 155 (0,0)):=by rw[m.block g (zg hg)];exact hg
   have bc:=zq (zg K) m.size;have af:wr.heap[z]?=some (.cells (n.told.map (Value.int .i64)).toArray 3 (0,0)):=by rw[m.block z (zg K)];exact K
   have y0:wr.cell? ⟨g,k*4,none⟩=some (qy n.ao[k].path):=by rw[xe _ _ _ _ _ _ ab];exact x0
   have y1:wr.cell? ⟨g,k*4+1,none⟩=some (qy n.ao[k].data):=by rw[xe _ _ _ _ _ _ ab];exact x1
   have y2:wr.cell? ⟨g,k*4+2,none⟩=some (.bool n.ao[k].aH):=by rw[xe _ _ _ _ _ _ ab];exact x2
   have y3:wr.cell? ⟨g,k*4+3,none⟩=some (.int .i64 n.ao[k].times):=by rw[xe _ _ _ _ _ _ ab];exact x3
   have D:k<n.told.length:=by rw[S.o];exact H
   have e1:wr.cell? ⟨q,0,none⟩=some (.pointer (some ⟨db,0,none⟩)):=by rw[m.cell (p:=⟨q,0,none⟩) s];exact d1
   have e2:wr.cell? ⟨q,2,none⟩=some (.slice (some ⟨z,0,none⟩) n.ao.length u):=by rw[m.cell (p:=⟨q,2,none⟩) s];exact d2
   have e3:wr.cell? ⟨q,3,none⟩=some (.int .i64 (n.ai+1)):=by rw[m.cell (p:=⟨q,3,none⟩) s];exact d3
   have et:wr.cell? ⟨z,k,none⟩=some (.int .i64 n.told[k]):=(zm af k _ (by simp[D])).1;have ft:=(zm af k (.int .i64 n.told[k]) (by simp[D])).2;have aJ:Gf n p k=(decide (n.ao[k].path=p)&&!(decide (0<n.ao[k].times)&&decide (n.ao[k].times<=n.told[k]))):=by
    unfold Gf;rw[show n.ao.getD k .none=n.ao[k] by rw[zj,zo H];rfl,show n.told.getD k 0=n.told[k] by rw[zj,zo D];rfl]
   have au:=ze aJ;have i0:(0:Int)<=(k:Int):=by omega
   have i1:(k:Int)<n.ao.length:=by omega
   have E:q<wr.heap.size:=zq s m.size;clear hg x0 x1 x2 x3 ab K af aJ ax m d1 d2 d3;unfold qy at y0 y1;generalize aS:n.ao[k]=l at *;generalize aX:n.told[k]=t at *;have av:=ze aS;have ak:=ze aX;clear aS aX;obtain⟨c,b,aH,az⟩:=l;obtain⟨bl,rfl,rfl⟩:=HY.o ⟨c,b,aH,az⟩ (by rw[<- av.o];exact ye H);simp only at *;have aw:Hid (∀wn,zc wr wn->Gf n p k=false->zc w1 wn/\∀j,j<k+1->Gf n p j=false):=λwn N h=>⟨U.o.trans (N.mono U.o.size),λj hj=>by
    rcases qf j k with aQ|aQ
    ·exact V.o j aQ
    ·obtain rfl:j=k:=by omega
     exact h⟩
   have an:Hid (∀F,zc wr F->F.heap[z]?=some (.cells (n.told.map (Value.int .i64)).toArray 3 (0,0))/\zl O nT w (F.setCell ⟨z,k,none⟩ (.int .i64 (t+1)))/\De (F.setCell ⟨z,k,none⟩ (.int .i64 (t+1))) O q db {n with told:=n.told.set k (t+1),ai:=n.ai+1}):=by
    intro F J;have Q:=U.o.trans (J.mono U.o.size);obtain⟨L,eg,ap,aW,ag⟩:=M.o k H;obtain rfl:L=z:=by simpa using eg.symm
    have aj:F.heap[L]?=some (.cells (n.told.map (Value.int .i64)).toArray 3 (0,0)):=by rw[Q.block L (zg ag)];exact ag
    have ay:=W.out.1.ah Q;refine⟨aj,ay.set (.inl ap) aj (by simp) _,.slice (some ⟨g,0,none⟩) n.ao.length R,.slice (some ⟨L,0,none⟩) n.told.length u,hO,?_,?_,?_,by simp[S.o]⟩
    ·rw[yh _ _ _ _ (Ne.symm aW),Q.block q s];exact W.out.2
    ·refine⟨_,_,rfl,.inr ?_⟩;obtain⟨g1,Y,I,G,-⟩:=C.o k H;refine⟨g1,Y,I,?_,λj hj=>?_⟩
     ·have al:g1≠L:=by
       rintro rfl;rw[ag]at G;simp at G
      rw[yh _ _ _ _ al,Q.block g1 (zg G)];exact G
     ·obtain⟨g2,Z,X,ad,hx⟩:=C.o j hj;obtain rfl:g2=g1:=by rw[Y]at Z;simpa using Z.symm
      rw[G]at ad;have:I=X:=by simpa using ad
      rw[this];exact hx
    ·refine⟨some ⟨L,0,none⟩,u,by simp,.inr ⟨L,rfl,ap,?_⟩⟩;rw[Aw aj];simp[List.map_set]
   have A:Hid (Gf n p k=true->qr d.fs n p=((b,true),{n with told:=n.told.set k (t+1),ai:=n.ai+1})):=λh=>by
    unfold qr;rw[Wk H h V.o];simp only;rw[show n.ao.getD k .none=n.ao[k] by rw[zj,zo H];rfl,show n.told.getD k 0=n.told[k] by rw[zj,zo D];rfl,av.o,ak.o];rfl
   have ay:=a2.o t (by rw[<- ak.o];exact ye D);obtain⟨bh,bi⟩:=ay;have a3:∀o,(wr.alloc o).cell? ⟨q,2,none⟩=some (.slice (some ⟨z,0,none⟩) n.ao.length u):=λo=>by rw[xg _ _ ⟨_,2,none⟩ E];exact e2
   have a4:∀o,(wr.alloc o).cell? ⟨z,k,none⟩=some (.int .i64 t):=λo=>by rw[xg _ _ ⟨_,k,none⟩ bc];exact et
   by_cases hp:c=p
   ·subst hp;have bb:(c==c)=true:=by simp
    have aU:(c != c)=false:=by simp
    have bg:decide ((0:Int)>0)=false:=by simp
    have HF:Hid (Gf n c k=true):=by show _=_;rw[au.o];simp
    have HQ:=ze (A.o HF.o);have z1:((wr.alloc (.cells #[.string ⟨c.toArray⟩,.string ⟨b.toArray⟩,.bool false,.int .i64 0] 155)).drew).cell? ⟨wr.heap.size,1,none⟩=some (.string ⟨b.toArray⟩):=(zm (zf wr _) 1 _ rfl).1;have z2:((wr.alloc (.cells #[.string ⟨c.toArray⟩,.string ⟨b.toArray⟩,.bool false,.int .i64 0] 155)).drew).cell? ⟨wr.heap.size,2,none⟩=some (.bool false):=(zm (zf wr _) 2 _ rfl).1;have z3:((wr.alloc (.cells #[.string ⟨c.toArray⟩,.string ⟨b.toArray⟩,.bool false,.int .i64 0] 155)).drew).cell? ⟨q,2,none⟩=some (.slice (some ⟨z,0,none⟩) n.ao.length u):=a3 _;have z4:((wr.alloc (.cells #[.string ⟨c.toArray⟩,.string ⟨b.toArray⟩,.bool false,.int .i64 0] 155)).drew).cell? ⟨z,k,none⟩=some (.int .i64 t):=a4 _;have z5:((wr.alloc (.cells #[.string ⟨c.toArray⟩,.string ⟨b.toArray⟩,.bool false,.int .i64 0] 155)).drew).cell? ⟨q,3,none⟩=some (.int .i64 (n.ai+1)):=(xg _ _ ⟨_,3,none⟩ E).trans e3;have ar:=ze (an.o _ (zi wr (.cells #[.string ⟨c.toArray⟩,.string ⟨b.toArray⟩,.bool false,.int .i64 0] 155)).drew);have z6:=(zm ar.o.1 k (.int .i64 t) (by simp[D,ak.o])).2;have n1:wr.heap.size≠z:=by omega
    have n3:q≠z:=λh=>bd h.symm;have a7:=λw0=>AI (P:=prog) w0 9 94 5 ⟨b.toArray⟩ xt underlying94 jc;have aY:wr.heap.size<((wr.alloc (.cells #[.string ⟨c.toArray⟩,.string ⟨b.toArray⟩,.bool false,.int .i64 0] 155)).drew).heap.size:=by show _<(wr.heap.push _).size;simp
    clear aw A an au V av ak
    go_wp2
    go_region
    generalize (wr.alloc (.cells #[.string ⟨c.toArray⟩,.string ⟨b.toArray⟩,.bool false,.int .i64 0] 155)).drew=F at *;have u1:(F.setCell ⟨z,k,none⟩ (.int .i64 (t+1))).cell? ⟨wr.heap.size,1,none⟩=some (.string ⟨b.toArray⟩):=by rw[J5 (w:=F) (yh _ _ _ _ n1)];exact z1
    have u2:(F.setCell ⟨z,k,none⟩ (.int .i64 (t+1))).cell? ⟨wr.heap.size,2,none⟩=some (.bool false):=by rw[J5 (w:=F) (yh _ _ _ _ n1)];exact z2
    have u3:(F.setCell ⟨z,k,none⟩ (.int .i64 (t+1))).cell? ⟨q,3,none⟩=some (.int .i64 (n.ai+1)):=by rw[J5 (w:=F) (yh _ _ _ _ n3)];exact z5
    have am:(F.setCell ⟨z,k,none⟩ (.int .i64 (t+1))).heap.size=F.heap.size:=by simp[World.setCell]
    have bo:∀o,((F.setCell ⟨z,k,none⟩ (.int .i64 (t+1))).alloc o).cell? ⟨wr.heap.size,1,none⟩=some (.string ⟨b.toArray⟩):=λo=>by rw[xg _ _ ⟨_,1,none⟩ (by rw[am];exact aY)];exact u1
    have bp:∀o,((F.setCell ⟨z,k,none⟩ (.int .i64 (t+1))).alloc o).cell? ⟨q,3,none⟩=some (.int .i64 (n.ai+1)):=λo=>by rw[xg _ _ ⟨_,3,none⟩ (by rw[am];exact Nat.lt_trans E aY)];exact u3
    have a1:=ze am;clear am
    go_wp2
    go_ret2
    have hq:=Nf (F.setCell ⟨z,k,none⟩ (.int .i64 (t+1))) b (grownCap (F.setCell ⟨z,k,none⟩ (.int .i64 (t+1))) b.length 0 5) (My _ _ _ _);rw[a1.o]at hq;exact⟨_,_,some b,rfl,(ar.o.2.1.alloc _).drew,by rw[HQ.o];exact ar.o.2.2.below (zi _ _).drew,.inl ⟨b,rfl,hq⟩,by rw[HQ.o];rfl,.inl ⟨by rw[HQ.o],rfl⟩⟩
   ·have bb:(c==p)=false:=by simp[hp]
    have aU:(c != p)=true:=by simp[hp]
    have HF:Hid (Gf n p k=false):=by show _=_;rw[au.o];simp[hp]
    clear hp
    go_wp2
    go_region
    all_goals go_wp2_with fail
    all_goals go_roundw
    case rel =>
     exact⟨k+1,by omega,by go_num,(aw.o _ ((zi _ _).drew) HF.o).1,(aw.o wr (zu _ _) HF.o).2⟩
    all_goals (simp[intOf];omega)
  ·have a9:k=n.ao.length:=by omega
   have aE:=ze (Y0 (λj hj=>V.o j (by omega)));have aq:=ze (aA.o.stay (O1:=λ_=>False) (T:=[]) (.aa m) (by simp) (by simp));have aF:=ze (W.out.1.ah m);have aC:Hid (De wr O q db {n with ai:=n.ai+1}):=by
    refine⟨.slice la n.ao.length R,.slice ta n.told.length u,hO,(m.block q s).trans W.out.2,?_,?_,S.o⟩
    ·refine⟨la,R,rfl,?_⟩;rcases Dw n.ao.length with h0|h0
     ·exact .inl h0
     ·obtain⟨g1,Y,I,G,-⟩:=C.o 0 h0;refine .inr ⟨g1,Y,I,(m.block g1 (zg G)).trans G,λj hj=>?_⟩;obtain⟨g2,Z,X,ad,hx⟩:=C.o j hj;obtain rfl:g2=g1:=by rw[Y]at Z;simpa using Z.symm
      rw[G]at ad;have:I=X:=by simpa using ad
      rw[this];exact hx
    ·refine⟨ta,u,rfl,?_⟩;rcases Dw n.ao.length with h0|h0
     ·exact .inl (S.o.trans h0)
     ·obtain⟨z,eg,aL,-,K⟩:=M.o 0 h0;exact .inr ⟨z,eg,aL,(m.block z (zg K)).trans K⟩
   have e1:wr.cell? ⟨q,0,none⟩=some (.pointer (some ⟨db,0,none⟩)):=by rw[m.cell (p:=⟨q,0,none⟩) s];exact d1
   have e3:wr.cell? ⟨q,3,none⟩=some (.int .i64 (n.ai+1)):=by rw[m.cell (p:=⟨q,3,none⟩) s];exact d3
   have E:q<wr.heap.size:=zq s m.size;clear d1 d2 d3 m ax U V C M aA W;subst a9;go_wp2_with fail;refine(Lq O db d p wr hn aq.o).mono ?_;rintro e w2 ⟨rfl,J⟩;have aG:=ze (aF.o.ah J);have aD:=ze (aC.o.below J);have aZ:=ze (aq.o.stay (O1:=λ_=>False) (T:=[]) (.aa J) (by simp) (by simp));have v1:w2.cell? ⟨q,0,none⟩=some (.pointer (some ⟨db,0,none⟩)):=by rw[J.cell (p:=⟨q,0,none⟩) E];exact e1
   have v3:w2.cell? ⟨q,3,none⟩=some (.int .i64 (n.ai+1)):=by rw[J.cell (p:=⟨q,3,none⟩) E];exact e3
   clear e1 e3 J aq aF aC;cases e:GC d.fs p with
   |some i =>
    have he:Ed d.fs p=i:=by unfold Ed;rw[e]
    rw[he];obtain⟨hi,a8,aR,-⟩:=Bn e;obtain⟨fv,bk,N,aN,aP⟩:=aZ.o;obtain⟨⟨c0,f0⟩,-⟩:=GW N;rcases Ir aN with ⟨a,bj,rfl,h0|⟨g,rfl,B,aO,bf,a6,hx⟩⟩
    ·omega
    have y1:w2.cell? ⟨g,i*2+1,none⟩=some (.string ⟨d.fs[i].2.toArray⟩):=by
     rw[xe _ _ _ _ _ _ aO];exact(hx i hi).2
    have be:=HL.o _ (ye hi);have A:Hid (qr d.fs n p=((d.fs[i].2,true),{n with ai:=n.ai+1})):=by
     show _=_;unfold qr;rw[aE.o];simp only[aR]
    clear hx aO N aN aP e he a8 a6 aR;generalize d.fs[i].2=y at *;have a7:=λw0=>AI (P:=prog) w0 9 94 5 ⟨y.toArray⟩ xt underlying94 jc
    go_wp2
    go_ret2
    have hq:=Nf w2 y (grownCap w2 y.length 0 5) (My _ _ _ _);exact⟨_,_,some y,rfl,(aG.o.alloc _).drew,by rw[A.o];exact aD.o.below (zi _ _).drew,.inl ⟨y,rfl,hq⟩,by rw[A.o];rfl,.inl ⟨by rw[A.o],rfl⟩⟩
   |none =>
    have he:Ed d.fs p=-1:=by unfold Ed;rw[e]
    rw[he];have A:Hid (qr d.fs n p=(([],false),{n with ai:=n.ai+1})):=by
     show _=_;unfold qr;rw[aE.o];simp only[(Bm e).1]
    clear e he
    go_wp2
    go_region
    all_goals go_wp2
    all_goals go_ret2
    all_goals exact⟨_,_,none,rfl,(aG.o.alloc _).drew,by rw[A.o];exact aD.o.below (zi _ _).drew,.inr ⟨rfl,rfl⟩,by rw[A.o];rfl,.inr ⟨by rw[A.o],_,rfl⟩⟩
end Go.Proofs.YtfdbeldiomkdiaaGreatDoor
