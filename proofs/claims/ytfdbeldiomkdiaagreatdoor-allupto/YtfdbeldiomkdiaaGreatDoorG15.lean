import Derived.Test.YtfdbeldiomkdiaaGreatDoorG14
import Derived.Deep.CutRange
set_option maxHeartbeats 8000000
set_option maxRecDepth 100000
set_option linter.all false
namespace Go.Proofs.YtfdbeldiomkdiaaGreatDoor
open Go.RowKit Go.Proofs.Tryz
def A5:=@List.getElem_map
def EH:=@Nat.mul_comm
variable {l:zb}{ls:za}{v:Value}{w:World}
def Bs.conv (h:Bs w v l):(convert 94 9 v).run prog w=.ok (.string ⟨l.toArray⟩) w:=by
 obtain⟨a,c,rfl,h⟩:=h;rcases h with rfl|⟨b,e,rfl,f⟩
 ·cases a with
  |none=>exact run_convert_bytes_nil w _ _ underlying94 jc _ _ _ xt
  |some a=>exact BB w _ _ 5 a c [] underlying94 jc xt (λj d=>by simp at d)
 ·refine BB w _ _ 5 ⟨b,e,none⟩ c l underlying94 jc xt (λj d=>?_);rw[vp];exact f j d
def zjw (x y:Value)(a b:zb)(w:World)(c:Bs w x a)(d:Bs w y b):
  Calls prog 176 #[x,y] w λr e=>r=.returned (.bool (decide (a=b)))/\e=w:=by
 have f:=c.conv;have g:=d.conv;go_enter func176,ntmps176
 go_wp2
 go_ret;exact⟨congrArg (λb=>Ending.returned (.bool b)) (by show(a==b)=_;rw[CV];simp),rfl⟩
def JW.at (h:JW w v ls):∃a c,v=.slice a ls.length c/\∀j (e:j<ls.length),∃b d,a=some ⟨b,d,none⟩/\ls.length<=c/\∃x,w.cell? ⟨b,d+j,none⟩=some x/\Bs w x ls[j]:=by
 obtain⟨a,c,rfl,i,h⟩:=h;refine⟨a,c,rfl,λj e=>?_⟩;rcases h with rfl|⟨b,d,rfl,h⟩
 ·simp at e
 ·obtain⟨x,f,g⟩:=h j e;exact⟨b,d,rfl,i,x,f,g⟩
def ZI (x y:Value)(d g:za)(w:World)(E:d.length=g.length)(hn:d.length<=1000000)(H:JW w x d)(I:JW w y g):
  Calls prog 175 #[x,y,.func (.func 176) #[] #[]] w λr G=>r=.returned (.bool (decide (d=g)))/\G=w:=by
 have Z:∀i w,(callFunc 176 i).run prog w=.ok (.enter 176 i) w:=KP func176 (by kernel_rfl) rfl;obtain⟨a,V,rfl,q⟩:=H.at;obtain⟨b,W,rfl,t⟩:=I.at;have L:=ze q;have M:=ze t;clear H I q t;rw[<- E];have A:=ze E;have O:d.length<=g.length:=by omega
 have J:g.length<=d.length:=by omega
 clear E;go_enter func175,ntmps175
 go_wp2
 go_loopw [7,8,9,17] (λ_ _ _ s wr=>∃k:Nat,k<=d.length/\s=.int .i64 k/\wr=w/\∀j (h:j<d.length),j<k->d[j]=g[j]'(by omega)) (λ_ _ _ s _=>d.length-(intOf s).toNat)
 case atStart=>exact⟨0,yk _,rfl,rfl,λj _ h=>absurd h (Am _)⟩
 case round =>
  obtain⟨k,hk,rfl,rfl,v⟩:=hrel;have z:=ze v;clear v
  by_cases F:k<d.length
  ·obtain⟨T,o1,rfl,P,R,X,D⟩:=L.o k F;obtain⟨U,o2,rfl,Q,S,Y,l⟩:=M.o k (by omega);obtain⟨u1,m1,n1,rfl⟩:∃u m n,R=.slice u m n:=by obtain⟨u,c,e,-⟩:=D;exact⟨_,_,_,e⟩
   obtain⟨u2,m2,n2,rfl⟩:∃u m n,S=.slice u m n:=by obtain⟨u,c,e,-⟩:=l;exact⟨_,_,_,e⟩
   have K:k<g.length:=by omega
   have f:=zjw _ _ _ _ wr D l;clear D l
   by_cases p:d[k]=g[k]
   ·rw[show decide (d[k]=g[k])=true by simp[p]]at f;have B:Hid (∀j (h:j<d.length),j<k+1->d[j]=g[j]'(by omega)):=λj h hj=>by
     by_cases e:j=k
     ·subst e;exact p
     ·exact z.o j h (by omega)
    clear p z;go_wp2_with (go_at_fn 176;refine f.mono ?_;rintro e G ⟨rfl,rfl⟩)
    go_roundw
    case rel =>
     exact⟨k+1,by omega,by go_num,by first|trivial|rfl,B.o⟩
    case measure=>simp[intOf];omega
   ·rw[show decide (d[k]=g[k])=false by simp[p]]at f;have C:Hid (decide (d=g)=false):=by
     show decide (d=g)=false;simp only[decide_eq_false_iff_not];rintro rfl;exact p rfl
    clear p z;go_wp2_with (go_at_fn 176;refine f.mono ?_;rintro e G ⟨rfl,rfl⟩);go_ret;exact⟨by rw[C.o];rfl,rfl⟩
  ·have C:Hid (decide (d=g)=true):=by
    show decide (d=g)=true;simp only[ja];exact FF A.o (λj N h2=>z.o j N (by omega))
   go_wp2
   go_ret;exact⟨by rw[C.o];rfl,rfl⟩
variable {O:Nat->Prop}{W3 W4 w' w5:World}{d':Dk}{db:Nat}
def Vo (h:Bq w v l):∃a n c,v=.slice a n c:=by
 obtain⟨g,b,C,d,rfl,-⟩:=h;exact⟨_,_,_,rfl⟩
def qv.aF:∀k,qv O w.drew w' k->qv O w w' k:=λ_ h=>h
def zia (O:Nat->Prop)(b k g i j:Nat)(d:Dk)(p x:zb)(v:Value)(w:World)(u:d.fs.length<=1000000000)(h:ym w O b d)(hv:Bq w v x)
 (A:w.cell? ⟨g,0,none⟩=some (.pointer (some ⟨k,0,none⟩))) (s:w.cell? ⟨i,0,none⟩=some (qy p)) (B:w.cell? ⟨j,0,none⟩=some v) (a:w.cell? ⟨k,0,none⟩=some (UN b true)) :
  Calls prog 296 #[.pointer (some ⟨g,0,none⟩),.pointer (some ⟨i,0,none⟩),.pointer (some ⟨j,0,none⟩)] w λr c=>∃e,r=.returned e/\FU (Mo d p x) w.heap.size e c/\zl O dT w c/\ym c (qv O w c) b (E0 d p x):=by
 unfold UN BD at a;simp only[if_true]at a;unfold qy at s;have l:=ze h;have q:=ze hv;have C:=zhe;go_enter func296,ntmps296
 go_wp2
 go_region_with (go_at_call 321;refine(zle O b d p x v _ u (by exact l.o) (by exact q.o)).mono ?_;rintro r D ⟨e,rfl,y,z,t⟩;have m:=ze y;have n:=ze z;have f:=ze t)
 all_goals go_wp2
 all_goals go_ret
 all_goals exact⟨_,rfl,m.o,n.o.aF,f.o.mono qv.aF⟩
def Z6 {b:Bool}{p:zb}{e:Value}{r:Ending}(a:zc w W4)(m:w.heap.size<=W3.heap.size)(h0:W4.heap[W3.heap.size]?=some (.cells #[.nilIface] 100 (0,0)))
 (q:FU b W4.heap.size e w') (s:zl O dT W4 w') (n:ym w' (qv O W4 w') db d')
 (h:(e=.nilIface/\r=.returned .nilIface/\w5=w'.setCell ⟨W3.heap.size,0,none⟩ .nilIface)\/((∃g,e=Eh g)/\r=.returned (DT w'.heap.size)/\w5=(w'.alloc (.cells #[qy p,e] 180)).setCell ⟨W3.heap.size,0,none⟩ (DT w'.heap.size))) :
  ∃j,r=.returned j/\EF b p w.heap.size j w5/\zl O dT w w5/\ym w5 (qv O w w5) db d':=by
 have i:=(zl.aa a).trans (s.mono (λ_ h=>.inl h) (λ_ h=>h));have u:=s.keep h0 (by decide);have y:=a.size;have t:∀k,qv O W4 w' k->qv O w w' k:=by
  rintro k (h|h)
  ·exact .inl h
  ·exact .inr (by omega)
 rcases h with ⟨rfl,rfl,rfl⟩|⟨⟨d,rfl⟩,rfl,rfl⟩
 ·have f:b=false:=by
   rcases q with ⟨h,-⟩|⟨-,g,h,-⟩
   ·exact h
   ·simp[Eh]at h
  have c:=Dn u (by decide) .nilIface;exact⟨_,rfl,.inl ⟨f,rfl⟩,i.aA m _ _,((n.mono t).stay c (by decide) (by decide)).mono (qv.more (by simp[World.setCell]))⟩
 ·have f:b=true/\PZ w' d:=by
   rcases q with ⟨-,h⟩|⟨h,g,l,-,x⟩
   ·simp[Eh]at h
   ·simp[Eh]at l;exact⟨h,l▸x⟩
  have v:zl (λ_=>True) cT w' (w'.alloc (.cells #[qy p,Eh d] 180)):=(zl.refl _ _ _).alloc _;have c:=Dn (zr (o:=.cells #[qy p,Eh d] 180) u) (by decide) (DT w'.heap.size);refine⟨_,rfl,.inr ⟨f.1,_,rfl,i.size,d,c.keep (zf _ _) (by decide),(f.2.aj v (by decide)).aj c (by decide)⟩,(i.alloc _).aA m _ _,(((n.mono t).stay v (by decide) (by decide)).stay c (by decide) (by decide)).mono (qv.more (by simp[World.setCell]))⟩
def zg7 (O:Nat->Prop)(l j:Nat)(d:Dk)(p x:zb)(v:Value)(w:World)(L:d.fs.length<=1000000000)(h:ym w O l d)(hv:Bq w v x)(y:w.cell? ⟨j,0,none⟩=some (UN l true)):
  Calls prog 286 #[.pointer (some ⟨j,0,none⟩),qy p,v] w λr f=>∃e,r=.returned e/\EF (Mo d p x) p w.heap.size e f/\zl O dT w f/\ym f (qv O w f) l (E0 d p x):=by
 have K:∀(C:Fn) (first k:Array Value) (w:World),(Instr.makeFunc C first k).run prog w=.ok (.func C first k) w:=λ_ _ _ _=>rfl;have I:=KP func296 (by kernel_rfl) rfl;obtain⟨a,n,c,rfl⟩:=Vo hv;have D:=ze h;have F:=ze hv;have q:=ze y;have A:qy p=.string ⟨p.toArray⟩:=rfl;rw[A];go_enter func286,ntmps286;go_wp2_with fail;obtain⟨Q,M,N,P,b⟩:=TW w (.cells #[.pointer (some ⟨j,0,none⟩)] 126) (.cells #[.string ⟨p.toArray⟩] 9) (.cells #[.slice a n c] 94);generalize (((w.alloc (.cells #[.pointer (some ⟨j,0,none⟩)] 126)).alloc (.cells #[.string ⟨p.toArray⟩] 9)).alloc (.cells #[.slice a n c] 94))=g at *;have H:=ze Q;have i:=zia O l j w.heap.size (w.heap.size+1) (w.heap.size+1+1) d p x (.slice a n c) (g.alloc (.cells #[.nilIface] 100)) L
  (D.o.stay (O1:=λ_=>False) (T:=[]) ((zl.aa b).alloc _) (by simp) (by simp)) ((F.o.below b).below (zi _ _))
  (zm (zr M) 0 _ rfl).1 (zm (zr N) 0 _ rfl).1 (zm (zr P) 0 _ rfl).1 (by rw[xg _ _ ⟨_,0,none⟩ (zq (yf q.o) b.size),b.cell (p:=⟨j,0,none⟩) (yf q.o)];exact q.o)
 have B:Hid ((g.alloc (.cells #[.nilIface] 100)).heap[g.heap.size]?=some (.cells #[.nilIface] 100 (0,0))):=zf _ _;have t:Hid (zc w (g.alloc (.cells #[.nilIface] 100))):=b.alloc (by omega) _;refine(TX p 296 _ g (λe f=>FU (Mo d p x) (g.alloc (.cells #[.nilIface] 100)).heap.size e f/\zl O dT (g.alloc (.cells #[.nilIface] 100)) f/\ym f (qv O (g.alloc (.cells #[.nilIface] 100)) f) l (E0 d p x)) I i ?_).mono ?_
 ·rintro e f ⟨u,z,-⟩;exact⟨O5 u,z.keep B.o (by decide)⟩
 generalize g.alloc (.cells #[.nilIface] 100)=R at *;have s:w.heap.size<=g.heap.size:=by have:=H.out;omega
 rintro r U ⟨e,f,⟨u,z,J⟩,h⟩;have E:=ze (Z6 t.out s B.o u z J h);obtain⟨S,m⟩:=E.o;obtain rfl:=m.1;have G:=ze m.2
 go_wp2
 go_ret;exact⟨_,rfl,G.o⟩
variable {B B' g:Nat}{ev:Value}{t:TypeId}{w1:World}
def zhw {e:Bool}{r:Value}(h:FU e B r w)(d:B'<=B):FU e B' r w:=by
 rcases h with h|⟨h,g,a,b,c⟩
 ·exact .inl h
 ·exact .inr ⟨h,g,a,zt d b,c⟩
def zd7 (O:Nat->Prop)(b c g j:Nat)(d:Dk)(x:zb)(w:World)(A:d.fs.length<=1000000000)(h:ym w O b d)
 (l:w.cell? ⟨g,0,none⟩=some (.pointer (some ⟨c,0,none⟩))) (m:w.cell? ⟨j,0,none⟩=some (qy x)) (a:w.cell? ⟨c,0,none⟩=some (UN b true)) :
  Calls prog 288 #[.pointer (some ⟨g,0,none⟩),.pointer (some ⟨j,0,none⟩)] w λr f=>∃e,r=.returned e/\FU (Jy d) w.heap.size e f/\zl O dT w f/\ym f (qv O w f) b (GR d CA x):=by
 have D:=yf l;have H:=yf m;have E:=yf a;unfold UN BD at a;simp only[if_true]at a;unfold qy at m;have t:∀o,(w.alloc o).cell? ⟨g,0,none⟩=some (.pointer (some ⟨c,0,none⟩)):=λo=>by rw[xg _ _ ⟨_,0,none⟩ D];exact l
 have u:∀o,(w.alloc o).cell? ⟨c,0,none⟩=some (.iface 73 (.pointer (some ⟨b,0,none⟩))):=λo=>by rw[xg _ _ ⟨_,0,none⟩ E];exact a
 have n:=ze h;have G:=zch;have v:=λF=>AI (P:=prog) F 9 94 5 ⟨x.toArray⟩ xt underlying94 jc;go_enter func288,ntmps288
 go_wp2
 go_region_with (go_at_call 322;refine(zi5 O b d CA x _ _ A (by exact n.o.stay (O1:=λ_=>False) (T:=[]) ((zl.refl _ _ w).alloc _).drew.drew (by simp) (by simp)) (by exact Nf w x _ (My _ _ _ _))).mono ?_;rintro r I ⟨e,rfl,B,C,y⟩;have p:=ze B;have q:=ze C;have i:=ze y)
 all_goals go_wp2
 all_goals go_ret
 all_goals refine⟨_,rfl,zhw p.o (by show w.heap.size<=(w.heap.push _).size;simp),((zl.refl O dT w).alloc _).drew.drew.trans (q.o.mono (λ_ h=>.inl h) (λ_ h=>h)),i.o.mono (λk z=>?_)⟩
 all_goals rcases z with h|⟨h,s⟩
 all_goals first|exact .inl h|exact .inr ⟨zt (by show w.heap.size<=(w.heap.push _).size;simp) h,s⟩
def KB.bss' (h:KB w B v ls):JW w v ls:=by
 obtain⟨z,⟨t,p⟩,r⟩:=h;rcases p with ⟨rfl,h0⟩|⟨g,c,d,rfl,s,m,o,u,y,q⟩
 ·exact⟨none,0,by rw[h0],by rw[h0];exact zk _,.inl (vw.1 h0)⟩
 ·refine⟨_,_,rfl,o,.inr ⟨g,0,rfl,λi b=>?_⟩⟩;obtain⟨x,e,k⟩:=r i b;refine⟨x,?_,?_⟩
  ·rw[xk,xe _ _ _ _ _ _ m];rw[<- q,Ba]at e;rw[qi,if_pos b]at e;simpa using e
  ·obtain⟨f,a,rfl,-,-,l⟩:=k.form;exact⟨_,_,rfl,.inr ⟨f,0,rfl,λj n=>by rw[xk];exact l j n⟩⟩
def Jr {b:Nat}{l:Lg}(h:w.heap[b]?=some (.cells (Ge db ev l) 200 (0,0))):(w.cell? ⟨b,0,none⟩=some (UN db l.live)/\w.frozen? ⟨b,0,none⟩=false)/\(w.cell? ⟨b,1,none⟩=some (qy l.key)/\w.frozen? ⟨b,1,none⟩=false)/\(w.cell? ⟨b,2,none⟩=some ev/\w.frozen? ⟨b,2,none⟩=false)/\(w.cell? ⟨b,3,none⟩=some (.int .i64 l.put)/\w.frozen? ⟨b,3,none⟩=false):=
 ⟨zm h 0 _ rfl,zm h 1 _ rfl,zm h 2 _ rfl,zm h 3 _ rfl⟩
abbrev z9v:Array Value:=#[.int .i64 0,.int .u8 0,.int .u8 0,.int .u8 0,.int .u8 0,.int .u8 0,.int .u8 0,.int .u8 0,.int .u8 0]
def Ur {a:Array Value}(h:w.heap[g]?=some (.cells a t (0,0))):∀i,w.frozen? ⟨g,i,none⟩=false:=λi=>by simp[World.frozen?,h]
def znk (w:World)(b a:Obj)(c:Below ((w.alloc b).alloc a).drew.heap.size ((w.alloc b).alloc a).drew w1):w1.heap[w.heap.size+1]?=some a:=by
 have e:((w.alloc b).alloc a).drew.heap[w.heap.size+1]?=some a:=by
  show((w.alloc b).alloc a).heap[w.heap.size+1]?=some a;rw[show w.heap.size+1=(w.alloc b).heap.size by simp];exact zf _ _
 rw[c.block _ (zg e)];exact e
variable {O' O1:Nat->Prop}{T:List Nat}{cap cap' k lb q:Nat}{lk:Lk}{w0 w4:World}
abbrev rT:List Nat:=[144,200,94]
abbrev lT:List Nat:=[200,94]
def zl.bg (h:zl O Oi w w'):zl O rT w w':=h.mono (λ_ h=>h) (λt a=>by simp at a;simp[a])
def Ak.stay {b:Nat}{l:Lg}(h:Ak w O db b l)(d:zl O1 T w w')(g:200∉T)(i:94∉T)(k:5∉T):Ak w' O db b l:=by
 obtain⟨f,a,m,⟨r,p,q⟩,n⟩:=h;refine⟨f,a,d.keep m g,⟨r,zy p d i,λj o=>?_⟩,n⟩;obtain⟨x,e,c⟩:=q j o;exact⟨x,e,zy c.1 d k,c.2⟩
def Ak.mono {b:Nat}{l:Lg}(h:Ak w O db b l)(d:∀k,O k->O' k):Ak w O' db b l:=by
 obtain⟨f,a,i,c,j⟩:=h;exact⟨f,d _ a,i,c,λg e=>d g (j g e)⟩
def Ak.out {b:Nat}{l:Lg}(h:Ak w O db b l)(f:zl O1 T w w')(i:∀k,O k->¬O1 k)(o:5∉T):Ak w' O db b l:=by
 obtain⟨n,a,p,⟨t,r,s⟩,m⟩:=h;refine⟨n,a,f.stay p (i b a),⟨t,Kp r f (λg d=>i g (m g d)),λj q=>?_⟩,m⟩;obtain⟨x,e,c⟩:=s j q;exact⟨x,e,zy c.1 f o,c.2⟩
def QU {b:za}(h:KB w B v b)(c:zl O T w w')(d:94∉T)(f:5∉T):KB w' B v b:=by
 obtain⟨l,i,k⟩:=h;refine⟨l,zy i c d,λj g=>?_⟩;obtain⟨x,e,a⟩:=k j g;exact⟨x,e,zy a.1 c f,a.2⟩
def UO {a:za}{hv:Nat}(c:a.length/4=q)(b:a.length%4=hv)(h:(RY lk q hv).bind (λk=>Df lk q k)=none):Cb lk a=([],false):=by
 subst c b;unfold Cb;cases e:RY lk (a.length/4) (a.length%4)with
 |none=>rfl
 |some w=>rw[e]at h;simp only[MZ]at h;simp only[h]
def TA {a b:za}{hv:Nat}(f:a.length/4=q)(d:a.length%4=hv)(h:(RY lk q hv).bind (λk=>Df lk q k)=some b)(c:¬b.take hv=a.drop (4*q)):Cb lk a=([],false):=by
 subst f d;unfold Cb;cases e:RY lk (a.length/4) (a.length%4)with
 |none=>rfl
 |some w=>rw[e]at h;simp only[MZ]at h;simp only[h,if_neg c]
def Xp {a b:za}{n hv:Nat}(f:a.length/4=q)(e:a.length%4=hv)(c:RY lk q hv=some n)(h:(RY lk q hv).bind (λk=>Df lk q k)=some b)(d:b.take hv=a.drop (4*q)):Cb lk a=(b.drop hv,decide (n=4))/\b.length=n:=by
 subst f e;rw[c]at h;simp only[MZ]at h;refine⟨?_,(Hr h).1⟩;unfold Cb;simp only[c,h,if_pos d]
def GD.of {d:za}(a:∀i,i<k->(Cb lk (CQ lk d i)).2=true)(b:(Cb lk (CQ lk d k)).2=false):GD lk d (CQ lk d k++(Cb lk (CQ lk d k)).1):=⟨k,a,b,rfl⟩
def Md {a:Option Addr}{b:za}(h:KB w B (.slice a b.length cap) b)(h0:0<b.length):∃g,a=some ⟨g,0,none⟩/\∃d:List Value,w.ownsRow B 94 1 (.slice a b.length cap) b.length d:=by
 obtain⟨d,f,k⟩:=h;rcases f.2 with ⟨e,j⟩|⟨g,c,i,e,r⟩
 ·omega
 ·simp at e;exact⟨g,e.1,d,f⟩
def U2 {a:Option Addr}{b:za}(h:KB w B (.slice a b.length cap) b):b.length<=cap:=by
 obtain⟨d,c,e,f,-⟩:=h.bss';simp only[jk,IJ]at e;omega
def Xq {a:za}(h:KB w B (.slice (some ⟨g,0,none⟩) a.length cap) a)(b:k<=a.length):JW w (.slice (some ⟨g,0,none⟩) k cap) (a.take k):=h.bss'.take k b
def Km {l:Lg}{es b:za}{a:Option Addr}{hv:Nat}{t ys:List Value}
 (G:zl O T w0 w) (K:qv O w0 w lb) (H:∀g,(Value.slice a es.length cap).ownBlock=some g->qv O w0 w g)
 (m:w.ownsRow 0 94 1 (.slice a es.length cap) es.length t) (v:∀j (h:j<es.length),∃x,t[j]?=some x/\OB w 0 x es[j])
 (y:∀j (h:j<b.length),∃x,ys[j]?=some x/\OB w B x b[j]) (M:hv<=b.length) (N:ys.length=b.length)
 (p:w4.ownsRow 0 94 1 (.slice (some ⟨g,0,none⟩) (es.length+(b.length-hv)) cap') (es.length+(b.length-hv)) (t++ys.drop hv))
 (k:w.drew.grownBy w4 (Value.slice a es.length cap).ownBlock) (u:(Value.slice a es.length cap).ownBlock=some g\/g=w.heap.size)
 (i:w4.heap[lb]?=some (.cells (Ge db (.slice a es.length cap) {key:=l.key,es:=es,put:=l.put,live:=l.live}) 200 (0,0))) (z:94∈T:=by decide) (A:200∈T:=by decide) :
  zl O T w0 (w4.setCell ⟨lb,2,none⟩ (.slice (some ⟨g,0,none⟩) (es.length+(b.length-hv)) cap'))/\Ak (w4.setCell ⟨lb,2,none⟩ (.slice (some ⟨g,0,none⟩) (es.length+(b.length-hv)) cap')) (qv O w0 (w4.setCell ⟨lb,2,none⟩ (.slice (some ⟨g,0,none⟩) (es.length+(b.length-hv)) cap'))) db lb {l with es:=es++b.drop hv} /\
   (∀d,ym w O db d->ym (w4.setCell ⟨lb,2,none⟩ (.slice (some ⟨g,0,none⟩) (es.length+(b.length-hv)) cap')) O db d)/\zl (λ_=>True) [94,200] w (w4.setCell ⟨lb,2,none⟩ (.slice (some ⟨g,0,none⟩) (es.length+(b.length-hv)) cap')):=by
 have c:zl (λ_=>True) [94] w w4:=(zl.refl _ _ w).drew.grown (w:=w.drew) m k (λ_ _=>.inl trivial) (by decide);have n:zl (λ_=>True) [200] w4 (w4.setCell ⟨lb,2,none⟩ (.slice (some ⟨g,0,none⟩) (es.length+(b.length-hv)) cap')):=(zl.refl _ _ w4).set (.inl trivial) i (by decide) _;have t4:=G.drew.grown (w:=w.drew) m k H z;have s:=k.size;have f:=qv.more s _ K;have o:(w4.setCell ⟨lb,2,none⟩ (.slice (some ⟨g,0,none⟩) (es.length+(b.length-hv)) cap')).heap.size=w4.heap.size:=by simp[World.setCell]
 have F:t.length=es.length:=by rw[m.1,Ba]
 have E:g<w4.heap.size:=by
  rcases p.2 with ⟨e,-⟩|⟨J,P,I,e,-,D,-⟩
  ·simp at e
  ·simp at e;rw[e.1];exact zg D
 have C:(es++b.drop hv).length=es.length+(b.length-hv):=by simp
 refine⟨t4.set f i A _,⟨.slice (some ⟨g,0,none⟩) (es.length+(b.length-hv)) cap',?_,Aw i 2 _,?_,?_⟩,λd L=>?_,(c.mono (λ_ h=>h) (by simp)).trans (n.mono (λ_ _=>.inl trivial) (by simp))⟩
 ·exact qv.more (by rw[o];exact zk _) _ f
 ·show KB _ 0 _ (es++b.drop hv);refine QU ⟨t++ys.drop hv,by rw[C];exact p,λj Q=>?_⟩ n (by decide) (by decide)
  by_cases r:j<es.length
  ·obtain⟨x,e,q⟩:=v j r;refine⟨x,by rw[qh (by omega)];exact e,?_⟩;rw[List.getElem_append_left r];exact⟨zy q.1 c (by decide),q.2⟩
  ·obtain⟨x,e,q⟩:=y (hv+(j-es.length)) (by omega);refine⟨x,by rw[qq (by omega),F,BT];exact e,?_⟩;rw[List.getElem_append_right (by omega),Ai];exact(show OB w4 B x _ from ⟨zy q.1 c (by decide),q.2⟩).weaken (yk _)
 ·intro J e;simp only[Value.ownBlock,zn]at e;subst e;rcases u with h|h
  ·exact qv.more (by rw[o];exact s) _ (H _ h)
  ·exact .inr ⟨by have:=G.size;omega,by rw[o];exact E⟩
 ·exact(L.stay c (by decide) (by decide)).stay n (by decide) (by decide)
def S7 {a:Option Addr}{c:za}(h:KB w B (.slice a c.length cap) c):∀i,4*i<=c.length->(cap=4*i->JW w (.slice a (c.length-4*i) 0) (c.drop (4*i)))/\(JW w (.slice (a.map λx=>x.add (4*i)) (c.length-4*i) (cap-4*i)) (c.drop (4*i))):=by
 intro i r;have n:=h.bss';obtain⟨p,l,e,q,d⟩:=n;simp only[jk,IJ]at e;obtain⟨rfl,rfl⟩:=e;refine⟨λm=>⟨a,0,by rw[vi],by rw[vi];omega,.inl (by rw[List.drop_eq_nil_iff];omega)⟩,?_⟩;refine⟨_,_,by rw[vi],by rw[vi];omega,?_⟩;rcases d with rfl|⟨b,k,rfl,d⟩
 ·exact .inl (by simp)
 ·refine .inr ⟨b,k+4*i,by simp[vp],λj o=>?_⟩;rw[vi]at o;obtain⟨x,f,g⟩:=d (4*i+j) (by omega);refine⟨x,by rw[AP];exact f,?_⟩;rw[Ai];exact g
def XM (O:Nat->Prop)(W:World)(hE:DW W)(aU:∀k,O k->W.heap.size<=k)(db lb:Nat)(d:Dk)(l:Lg)(w:World)(hn:d.fs.length<=1000000000)(hl:∀f∈d.fs,f.2.length<=1000000000)(hc:Fz d)(hW:zc W w)(h:ym w O db d)(hL:Ak w O db lb l)(bC:l.live=true)
 (s:List Nat) (hs:IS (xr d.fs) s) (bQ:s.length<=100000) (h0:∀j,4*j<l.es.length->j∈s) :
  Calls prog 128 #[.pointer (some ⟨lb,0,none⟩)] w λr w'=>∃(d':Dk) (aR:za),zl O rT w w'/\ym w' O db d'/\Ak w' (qv O w w') db lb {l with es:=aR}/\d'.fs=d.fs/\tk d'=tk d /\
   ((d'.hit=true/\∃p e,r=.returned e/\EF true p w.heap.size e w')\/(Fz d'/\r=.returned .nilIface/\GD (xr d.fs) l.es aR)):=by
 have HL:=ze hl;have HD:=ze h;have bt:=ze hL;have HW:=ze hW;have HC:=ze hc;have HO:=ze aU;have aS:=ze hE;have HS:=ze hs;have H0:=ze h0;clear hl h hL hW hc aU hE hs h0;go_enter func128,ntmps128
 go_wp2
 go_loopg [3,4,5,6,7,8,9] (s.length+1) (λgg _ _ _ _ _ _ _ wr=>∃(k:Nat) (d1:Dk),s.length+1-k<=gg/\zl O rT w wr/\ym wr O db d1/\Ak wr (qv O w wr) db lb {l with es:=CQ (xr d.fs) l.es k}/\d1.fs=d.fs/\tk d1=tk d/\Fz d1/\∀i,i<k->(Cb (xr d.fs) (CQ (xr d.fs) l.es i)).2=true)
 case atStart=>exact⟨0,d,by omega,zl.refl _ _ _,HD.o,bt.o.mono (λ_ h=>.inl h),rfl,rfl,HC.o,λi hi=>absurd hi (Am _)⟩
 case round =>
  obtain⟨k,d1,bL,ht,hd,a8,a5,bf,a0,ax⟩:=hrel;have aW:=Ql HS.o H0.o ax;have HT:=ze ht;have bp:=ze hd;have HF:=ze (And.intro a5 bf);have bo:=ze a0;have ab:=ze ax;have br:=ze (DW.aj aS.out HW.o ht HO.o);have bn:=ze aW;have aH:=ze a8;obtain⟨ev,hO,U,ar,hg⟩:=a8;generalize al:CQ (xr d.fs) l.es k=m at *;have Q:=ze al;have hm:m.length<=400000:=by omega
  obtain⟨⟨c0,f0⟩,-,⟨c2,f2⟩,-⟩:=Jr U;obtain⟨a,L,bz⟩:=Ia ar;subst bz;have aB:=ze U;have bq:=ze ar;have HG:=ze hg;clear ht hd a5 bf a0 ax U ar hg al aW
  go_upto_region 2 with fail
  go_cut [3,4] from 10 to 66 (λs3 s4 wx=>s3=.int .i64 (m.length/4:Nat)/\wx=wr/\∃a' c',s4=.slice a' (m.length%4) c'/\∀W',KB W' 0 (.slice a m.length L) m->JW W' s4 (m.drop (4*(m.length/4))))
  case first =>
   have e1:m.length-m.length/4*4=m.length%4:=by omega
   have e2:((m.length:Int)/4)=((m.length/4:Nat):Int):=by omega
   have E1:=ze e1;have E2:=ze e2;have a3:4*(m.length/4)<=m.length:=by omega
   clear e1 e2;go_wp2_with fail
   all_goals go_meet
   all_goals refine⟨by rw[E2.out],rfl,_,_,by rw[E1.out],λW' aV=>?_⟩
   ·have:=(S7 aV (m.length/4) a3).1 (by omega);rw[show m.length/4*4=4*(m.length/4) by omega];exact this
   ·have:=(S7 aV (m.length/4) a3).2;rw[show m.length/4*4=4*(m.length/4) by omega];exact this
  case rest =>
   obtain⟨rfl,rfl,a',c',rfl,aX⟩:=hcut;have bO:4*(m.length/4)+m.length%4<=m.length:=by omega
   have bP:m.length<=4*(m.length/4)+m.length%4:=by omega
   have h4:m.length%4<4:=by omega
   generalize be:m.length/4=q at *;generalize a6:m.length%4=hv at *;have HQ:=ze (And.intro be a6);have aA:=ze aX;clear aX be a6;have aw:q<=1000000:=by omega
   go_wp2_with fail;refine(Z1 O W aS.out HO.o db lb d1 q hv wc (by rw[HF.o.1];exact hn) (by rw[HF.o.1];exact HL.o) aw h4 bo.o br.o.2 bp.o _ aB.o (by show some (UN db l.live)=_;rw[bC])).mono ?_;rintro r w1 ⟨d2,n,v,e,rfl,N,a1,a4,bh,C⟩;have aL:=ze N;have aE:=ze a1;have D:Hid (d2.fs=d.fs/\tk d2=tk d):=⟨a4.trans HF.o.1,bh.trans HF.o.2⟩;have ai:=ze (aH.o.stay N (by decide) (by decide) (by decide));have aM:=ze (HT.o.trans (N.bg.mono (λ_ h=>.inl h) (λ_ h=>h)));have aF:=ze (QU bq.o N (by decide) (by decide));have aC:=ze (N.keep aB.o (by decide));rw[HF.o.1]at C;clear N a1 a4 bh;rcases C with ⟨hh,p,av⟩|⟨aZ,rfl,C⟩
   ·have HH:=ze hh;have bs:=ze av;obtain⟨g,rfl⟩:∃g,e=.iface 178 (.pointer (some ⟨g,0,none⟩)):=by
     rcases Bw av with ⟨h,-⟩|⟨-,h⟩
     ·simp at h
     ·exact h
    clear hh av
    go_wp2
    go_ret;exact⟨d2,m,aM.o,aE.o,ai.o.mono (qv.more aL.o.size),D.o.1,D.o.2,.inl ⟨HH.o,p,_,rfl,bs.o.weaken HT.o.size⟩⟩
   ·have X:=ze aZ;have V:JY w1 v ((RY (xr d.fs) q hv).bind λk=>xr d.fs (qz (-1) (q:Nat) (k:Nat)))/\J7 ((RY (xr d.fs) q hv).bind λk=>xr d.fs (qz (-1) (q:Nat) (k:Nat))) n=(RY (xr d.fs) q hv).bind λk=>Df (xr d.fs) q k:=by
     rcases C with ⟨h1,rfl,rfl⟩|⟨h1,x,h2,h3⟩
     ·rw[h1];exact⟨.inr ⟨rfl,rfl⟩,rfl⟩
     ·rw[h1];refine⟨.inl ⟨x,h2,h3⟩,?_⟩;show J7 (xr d.fs (qz (-1) (q:Nat) (n:Nat))) n=Df (xr d.fs) q n
      rfl
    have bN:n<=4:=by
     rcases C with ⟨-,rfl,-⟩|⟨h1,-⟩
     ·omega
     ·exact(RS h1).2.1
    have aK:Hid (n=0/\RY (xr d.fs) q hv=none\/RY (xr d.fs) q hv=some n):=by
     rcases C with ⟨h1,h2,-⟩|⟨h1,-⟩
     ·exact .inl ⟨h2,h1⟩
     ·exact .inr h1
    obtain⟨va,vn,vc,rfl⟩:∃a n c,v=.slice a n c:=by
     rcases Kk V.1 with ⟨-,rfl⟩|⟨_,_,_,_,-,rfl⟩
     ·exact⟨_,_,_,rfl⟩
     ·exact⟨_,_,_,rfl⟩
    have af:=ze V;clear aZ V C;go_wp2_with fail;refine(OJ n (.slice va vn vc) _ w1 af.o.1).mono ?_;rintro r w2 ⟨ad,hr⟩;rw[af.o.2]at hr;have S:zl O [] w1 w2:=.aa ad;have Y:=ze (aE.o.stay S (by decide) (by decide));have ak:=ze (ai.o.stay S (by decide) (by decide) (by decide));have K:=ze (aM.o.ah ad);have R:=ze (QU aF.o S (by decide) (by decide));have J:=ze (S.keep aC.o (by decide));have A:=ze (zt aL.o.size ad.size);clear ad S;rcases hr with ⟨b,y,U,rfl,F⟩|⟨U,rfl⟩
    ·obtain⟨ya,yc,rfl⟩:=Ia F;have ae:RY (xr d.fs) q hv=some n:=by
      rcases aK.o with ⟨-,h⟩|h
      ·rw[h]at U;simp at U
      ·exact h
     have am:=RS ae;have aY:b.length=n:=by
      have h:=U;rw[ae]at h;exact(Hr h).1
     obtain⟨gb,rfl,bx⟩:=Md F (by omega);have ap:=ze F;have aG:=ze U;have bu:=ze ae;have aD:=ze aY;have bK:hv<b.length:=by omega
     have bR:=U2 F;have bF:=am.1;clear F bx U ae am aY
     by_cases M:b.take hv=m.drop (4*q)
     ·have E:=ze (Xp HQ.o.1 HQ.o.2 bu.o aG.o M);have z:=ZI (.slice (some ⟨gb,0,none⟩) hv yc) (.slice a' hv c') (b.take hv) (m.drop (4*q)) w2 (by simp;omega) (by simp;omega) (by exact Xq ap.o (by omega)) (aA.o w2 R.o);rw[show decide (b.take hv=m.drop (4*q))=true by simp[M]]at z;clear M;go_wp2_with fail;refine z.mono ?_;rintro r w3 ⟨rfl,rfl⟩;clear z;obtain⟨i,hi,a7⟩:=zx.1 JH;obtain⟨bk,bl,bm⟩:i.zero=some (.slice none 0 0)/\i.size=1/\i.bytes=24:=by simpa using a7
      clear a7;have HI:=ze hi;have HZ:=ze (And.intro bk (And.intro bl bm));clear hi bk bl bm;obtain⟨-,-,⟨bH,bJ⟩,-⟩:=Jr J.o;obtain⟨xs,bd,bj⟩:=R.o;obtain⟨ys,F,ay⟩:=ap.o;have az:ys.length=b.length:=by rw[F.1,Ba]
      have bc:Hid (∀j u,(ys.drop hv)[j]?=some u->w3.drew.cell? ((⟨gb,hv,none⟩:Addr).add j)=some u):=λj u hj=>by
       rw[BT]at hj;have:=F.cells rfl _ _ hj;rw[vp]at this ⊢;rw[xk]at this;exact this
      have ba:Hid (∀u∈ys.drop hv,u.oneCell'=true):=λu hu=>by
       obtain⟨j,hj,rfl⟩:=ji (jz hu);obtain⟨x,hx,bD⟩:=ay j (by omega);rw[zo hj]at hx;obtain rfl:ys[j]=x:=by simpa using hx
       exact QS bD _ (by simp)
      have Z:=ze bd;have aN:=ze bj;have aO:=ze ay;have aP:=ze az;have bS:¬yc=hv:=by omega
      have bi:hv<=b.length:=by omega
      have bE:b.length<=4:=by have:=aD.o;omega
      have bM:=bn.o.2;have a2:Hid ((ys.drop hv).length=(b.length-hv)*1):=by show _=_;rw[vi,az];omega
      clear bd bj F ay az;have aI:Hid (w3.drew.ownsRow 0 94 1 (.slice a m.length L) m.length xs):=Z.o;have ag:Hid (∀w4,w3.drew.grownBy w4 (Value.slice a m.length L).ownBlock->w4.heap[lb]?=some (.cells (Ge db (.slice a m.length L) {key:=l.key,es:=m,put:=l.put,live:=l.live}) 200 (0,0))):=λw4 bA=>by
       rw[bA.block lb (show lb<w3.heap.size from zg J.o) (λe=>?_)]
       ·exact J.o
       ·rcases Z.o.2 with ⟨h,-⟩|⟨g,cp,bI,h,-,hg,-⟩
        ·simp at h;rw[h.1]at e;simp[Value.ownBlock]at e
        ·simp at h;rw[h.1]at e;simp only[Value.ownBlock,zn]at e;subst e;have:=J.o;rw[hg]at this;simp at this
      have aJ:=ze hO
      by_cases bG:n<4
      ·have bb:(n:Int)<4:=by omega
       go_wp2
       go_region_law (refine AZ _ (by rfl) _ _ _ (by rfl) 0 94 i (.slice none 0 0) 1 24 underlying88 HI.o HZ.o.1 HZ.o.2.1 HZ.o.2.2 rfl (by omega) (.slice a m.length L) m.length xs (by rfl) aI.o ⟨gb,hv,none⟩ (b.length-hv) (yc-hv) (ys.drop hv) (by rfl) a2.out bc.out ba.out (by omega) (by unfold maxLen;omega) (by omega) (by omega) w3.heap.size (by rfl) ?_;intro g aQ w4 G t T a9;have I:=ag.o w4 t;obtain⟨-,-,⟨k4,z4⟩,-⟩:=Jr I;have aq:=ze G;have ao:=ze t;have an:=ze T;have P:=ze I;clear G t T I)
       all_goals go_wp2_with fail
       all_goals go_ret
       all_goals
        have B:=Km (l:=l) K.o (qv.more A.out _ aJ.o) (λg' au=>qv.more A.out _ (HG.o g' au)) Z.o aN.o aO.o bi aP.o aq.o ao.o an.o P.o;refine⟨d2,m++b.drop hv,B.1,B.2.2.1 d2 Y.o,B.2.1,D.o.1,D.o.2,.inr ⟨X.o,rfl,?_⟩⟩;have H:=E.o.1;rw[show decide (n=4)=false by simp;omega]at H;rw[<- Q.o]at H ⊢;have:=GD.of ab.o (by rw[H]);rw[H]at this;exact this
      ·have bb:¬(n:Int)<4:=by omega
       go_wp2
       go_region_law (refine AZ _ (by rfl) _ _ _ (by rfl) 0 94 i (.slice none 0 0) 1 24 underlying88 HI.o HZ.o.1 HZ.o.2.1 HZ.o.2.2 rfl (by omega) (.slice a m.length L) m.length xs (by rfl) aI.o ⟨gb,hv,none⟩ (b.length-hv) (yc-hv) (ys.drop hv) (by rfl) a2.out bc.out ba.out (by omega) (by unfold maxLen;omega) (by omega) (by omega) w3.heap.size (by rfl) ?_;intro g aQ w4 G t T a9;have I:=ag.o w4 t;obtain⟨-,-,⟨k4,z4⟩,-⟩:=Jr I;have aq:=ze G;have ao:=ze t;have an:=ze T;have P:=ze I;clear G t T I)
       all_goals go_wp2_with fail
       all_goals go_roundg (gk-1)
       case rel =>
        have B:=Km (l:=l) K.o (qv.more A.out _ aJ.o) (λg' au=>qv.more A.out _ (HG.o g' au)) Z.o aN.o aO.o bi aP.o aq.o ao.o an.o P.o;have H:=E.o.1;rw[show decide (n=4)=true by simp;omega]at H;have bw:CQ (xr d.fs) l.es (k+1)=m++b.drop hv:=by
         rw[CQ,Q.o,H]
        refine⟨k+1,d2,by omega,B.1,B.2.2.1 d2 Y.o,by rw[bw];exact B.2.1,D.o.1,D.o.2,X.o,λj hj=>?_⟩
        by_cases bB:j<k
        ·exact ab.o j bB
        ·obtain rfl:j=k:=by omega
         rw[Q.o,H]
       case measure=>omega
     ·have E:=ze (TA HQ.o.1 HQ.o.2 aG.o M);have z:=ZI (.slice (some ⟨gb,0,none⟩) hv yc) (.slice a' hv c') (b.take hv) (m.drop (4*q)) w2 (by simp;omega) (by simp;omega) (by exact Xq ap.o (by omega)) (aA.o w2 R.o);rw[show decide (b.take hv=m.drop (4*q))=false by simp[M]]at z;clear M;go_wp2_with fail;refine z.mono ?_;rintro r w3 ⟨rfl,rfl⟩
      go_wp2
      go_ret;refine⟨d2,m,K.o,Y.o,ak.o.mono (qv.more A.out),D.o.1,D.o.2,.inr ⟨X.o,rfl,?_⟩⟩;rw[<- Q.o]at E ⊢;have:=GD.of ab.o (by rw[E.o]);rw[E.o,AT]at this;exact this
    ·have E:=ze (UO HQ.o.1 HQ.o.2 U)
     go_wp2
     go_ret;refine⟨d2,m,K.o,Y.o,ak.o.mono (qv.more A.out),D.o.1,D.o.2,.inr ⟨X.o,rfl,?_⟩⟩;rw[<- Q.o]at E ⊢;have:=GD.of ab.o (by rw[E.o]);rw[E.o,AT]at this;exact this
def La (w:World)(v:Value)(d:za):Prop:=
 ∃a c,v=.slice a d.length c/\d.length<=c/\(d=[]\/∃b e,a=some ⟨b,e,none⟩/\∀i (h:i<d.length),w.cell? ⟨b,e+i,none⟩=some (qy d[i]))
def La.of (h:CT w v (ls.map tb)):La w v ls:=by
 obtain⟨a,c,e,g,d⟩:=h;rw[yg]at e g;refine⟨a,c,e,g,?_⟩;rcases d with h|⟨b,f,j,d⟩
 ·exact .inl (by simpa using h)
 ·refine .inr ⟨b,f,j,λi k=>?_⟩;have:=d i (by simpa using k);rw[A5]at this;exact this
def La.to (h:La w v ls):CT w v (ls.map tb):=by
 obtain⟨a,c,e,j,d⟩:=h;refine⟨a,c,by rw[yg];exact e,by rw[yg];exact j,?_⟩;rcases d with h|⟨b,f,g,d⟩
 ·exact .inl (by simp[h])
 ·refine .inr ⟨b,f,g,λi k=>?_⟩;rw[A5];exact d i (by simpa using k)
def La.below (h:La w v ls)(l:zc w w'):La w' v ls:=by
 obtain⟨a,c,e,f,h|⟨b,d,k,j⟩⟩:=h
 ·exact⟨a,c,e,f,.inl h⟩
 ·exact⟨a,c,e,f,.inr ⟨b,d,k,λi g=>by rw[l.cell (p:=⟨b,_,none⟩) (yf (j i g))];exact j i g⟩⟩
def La.nil (w:World):La w (.slice none 0 0) []:=⟨none,0,rfl,zk _,.inl rfl⟩
def La.at {a:Option Addr}{n:Nat}(h:La w (.slice a n cap) ls):n=ls.length/\ls.length<=cap/\(0<ls.length->∃b c,a=some ⟨b,c,none⟩/\∀i (h:i<ls.length),w.cell? ⟨b,c+i,none⟩=some (qy ls[i])):=by
 obtain⟨j,d,e,f,g⟩:=h;simp only[jk]at e;obtain⟨rfl,rfl,rfl⟩:=e;refine⟨rfl,f,λh0=>?_⟩;rcases g with h|h
 ·rw[h]at h0;simp at h0
 ·exact h
def Rr (v:Value)(a:Option Addr)(T:Nat)(d:Fs)(c:za)(q hv:Nat)(w:World)(hn:d.length<=1000000000)(hl:∀f∈d,f.2.length<=1048576)(hd:c.length=4*q+hv)(aD:hv<4)(hq:q<=1000000)(h:Mr w v d)(hs:La w (.slice a c.length T) c):
  Calls prog 142 #[v,.slice a c.length T] w λr w'=>zc w w'/\∃x,r=.returned (.tuple #[x,.bool (Cb (xr d) c).2])/\La w' x (Cb (xr d) c).1:=by
 have HF:=ze h;have HL:=ze hl;have HS:=ze hs;have C:Hid (c.length/4=q/\c.length%4=hv):=by constructor<;>omega
 have HD:=ze hd;obtain⟨fa,av,rfl,aw,-⟩:=h;rw[hd];go_enter func142,ntmps142;go_wp2_with fail;rw[show(4*(q:Int)+(hv:Int))/4=q by omega,show 4*(q:Int)+(hv:Int)-(q:Int)*4=hv by omega];go_loopw [8] (λi wr=>∃k:Nat,hv<=k/\k<=4/\i=.int .i64 k/\zc w wr/\∀j:Nat,k<j->j<=4->hv<j->(xr d (qz (-1) q (j:Nat))).isSome=false) (λi _=>(intOf i).toNat)
 case atStart=>exact⟨4,by omega,by omega,rfl,zu _ _,λj s y=>by omega⟩
 case round =>
  obtain⟨k,aA,ap,rfl,F,ar⟩:=hrel;have HB:=ze F;have HN:=ze ar
  by_cases aq:hv<k
  ·go_wp2_with fail;refine(C5 (-1) q k (by omega) wr).mono ?_;rintro r w1 ⟨rfl,ai⟩;have u:Hid (zc w w1):=HB.o.trans (ai.mono HB.o.size);have Q:=ze (HF.o.below u.o);have A:∃L,qz (-1) (q:Int) (k:Int)=L:=⟨_,rfl⟩;obtain⟨L,A⟩:=A;have R:=ze A;rw[A];go_wp2_with fail;refine(AF _ d L w1 hn Q.o).mono ?_;rintro r w2 ⟨rfl,rfl⟩;cases e:GC d L with
   |none =>
    have he:Ed d L=-1:=by unfold Ed;rw[e]
    rw[he];have ag:Hid (∀j:Nat,k-1<j->j<=4->hv<j->(xr d (qz (-1) q (j:Nat))).isSome=false):=λj s y h3=>by
     rcases qf k j with h|h
     ·exact HN.o j h y h3
     ·obtain rfl:j=k:=by omega
      rw[R.o,(Bm e).1]
      rfl
    have t:(k:Int)-1=((k-1:Nat):Int):=by omega
    have ae:=ze t;clear t
    go_wp2
    go_round
    case rel=>exact⟨k-1,by omega,by omega,congrArg (Value.int .i64) ae.o,u.o,ag.o⟩
    case measure=>simp[intOf];omega
   |some kk =>
    have he:Ed d L=kk:=by unfold Ed;rw[e]
    rw[he];have E:=ze (zje aq ap (by rw[R.o];obtain⟨_,_,h3,_⟩:=Bn e;rw[h3];rfl) HN.o);go_wp2_with fail;refine(Kw _ d q k w2 hn HL.o hq Q.o).mono ?_;rintro r w3 ⟨aj,ea,en,ec,rfl,an⟩;have g:=ze (u.o.trans (aj.mono u.o.size));have af:=ze an;cases G:Df (xr d) q k with
    |none =>
     have b:=ze (UO C.o.1 C.o.2 (by rw[E.o];exact G))
     go_wp2
     go_ret2
     exact⟨g.o,_,by rw[b.o];rfl,by rw[b.o];exact La.nil _⟩
    |some n =>
     obtain⟨Y,au⟩:=af.o n G;obtain⟨rfl,az,am⟩:=(La.of au).at;have ak:(RY (xr d) q hv).bind (λk=>Df (xr d) q k)=some n:=by rw[E.o];exact G
     have O:=ze ak;obtain⟨K,eo,rfl,X⟩:=am (by omega);have P:=ze X;have D:=ze Y;have aC:¬ec=hv:=by omega
     have ax:k<=ec:=by omega
     rw[Y]
     go_wp2
     go_loopw [13] (λi wr=>∃j:Nat,j<=hv/\i=.int .i64 j/\zc w3 wr/\∀m (h:m<j) (s:m<n.length) (y:4*q+m<c.length),n[m]=c[4*q+m]) (λi _=>hv-(intOf i).toNat)
     case atStart=>exact⟨0,by omega,rfl,zu _ _,λm h=>by omega⟩
     case round =>
      obtain⟨j,hj,rfl,F,V⟩:=hrel;have l:=ze F;have M:=ze V
      by_cases ao:j<hv
      ·obtain⟨-,ay,W⟩:=HS.o.at;obtain⟨db,U,rfl,al⟩:=W (by have:=HD.o;omega);have Z:4*q+j<c.length:=by have:=HD.o;omega
       have aa:j<n.length:=by have:=D.o;omega
       have y2:=al (4*q+j) Z;have y1:=P.o j aa;obtain⟨p,hp⟩:∃p,n[j]=p:=⟨_,rfl⟩;obtain⟨J,ab⟩:∃J,c[4*q+j]=J:=⟨_,rfl⟩;rw[hp]at y1;rw[ab]at y2;unfold qy at y1 y2;have r1:wr.cell? ⟨K,eo+j,none⟩=some (.string ⟨p.toArray⟩):=by rw[l.o.cell (p:=⟨K,_,none⟩) (yf y1)];exact y1
       have y3:w3.cell? ⟨db,U+(4*q+j),none⟩=some (.string ⟨J.toArray⟩):=by rw[g.o.cell (p:=⟨db,_,none⟩) (yf y2)];exact y2
       have r2:wr.cell? ⟨db,U+(q*4+j),none⟩=some (.string ⟨J.toArray⟩):=by
        rw[EH q 4,l.o.cell (p:=⟨db,_,none⟩) (yf y3)];exact y3
       have HP:=ze hp;have S:=ze ab
       go_wp2
       go_region
       all_goals
        by_cases B:p=J
        ·have ah:=ze B;have N:Hid (∀m (h:m<j+1) (s:m<n.length) (y:4*q+m<c.length),n[m]=c[4*q+m]):=λm h s y=>by
          rcases qf m j with h'|h'
          ·exact M.o m h' s y
          ·obtain rfl:m=j:=by omega
           exact HP.o.trans (ah.o.trans S.o.symm)
         rw[show(p==J)=true by simpa using B]
         go_wp2
         go_round
         case rel=>exact⟨j+1,by omega,by go_num,l.o.drew,N.o⟩
         case measure=>simp[intOf];omega
        ·have H:¬n.take hv=c.drop (4*q):=λh=>by
          have s:(n.take hv)[j]?=some p:=by
           rw[qi,if_pos ao,zo aa,HP.o]
          rw[h,BT,zo Z,S.o]at s;exact B (by simpa using s.symm)
         have b:=ze (TA C.o.1 C.o.2 O.o H);rw[show(p==J)=false by simpa using B]
         go_wp2
         go_ret2
         exact⟨(g.o.trans (l.o.mono g.o.size)).drew,_,by rw[b.o];rfl,by rw[b.o];exact La.nil _⟩
      ·obtain rfl:j=hv:=by omega
       have ad:n.take j=c.drop (4*q):=by
        have s:=D.o;have y:=HD.o;apply FF
        ·simp;omega
        ·intro m I aB;rw[js,Ai];exact M.o m (by simp at I;omega) (by simp at I;omega) (by simp at I;omega)
       have HY:=ze (Xp C.o.1 C.o.2 E.o O.o ad)
       go_wp2
       go_ret2
       refine⟨g.o.trans (l.o.mono g.o.size),.slice (some ⟨K,eo+j,none⟩) (k-j) (ec-j),?_,?_⟩
       ·rw[HY.o.1];refine congrArg (λz=>Ending.returned (.tuple #[.slice (some ⟨K,eo+j,none⟩) (k-j) (ec-j),.bool z])) ?_;show((k:Int)==4)=decide (k=4)
        by_cases h4:k=4
        ·simp[h4]
        ·rw[decide_eq_false h4];simp only[yp,ne_eq];omega
       ·rw[HY.o.1];have hl:=D.o;refine⟨_,_,by rw[vi,hl],by rw[vi,hl];omega,.inr ⟨K,eo+j,rfl,λi hi=>?_⟩⟩;rw[vi]at hi;have hx:=P.o (j+i) (by omega);rw[Ai,AP,l.o.cell (p:=⟨K,_,none⟩) (yf hx)];exact hx
  ·have b:Hid (Cb (xr d) c=([],false)):=UO C.o.1 C.o.2 (by rw[zjf (λj s y=>HN.o j (by omega) s y)];rfl)
   go_wp2
   go_ret2
   exact⟨HB.o,_,by rw[b.o];rfl,by rw[b.o];exact La.nil _⟩
end Go.Proofs.YtfdbeldiomkdiaaGreatDoor
