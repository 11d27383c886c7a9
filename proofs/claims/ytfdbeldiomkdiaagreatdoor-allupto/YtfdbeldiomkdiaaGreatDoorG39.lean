import Derived.Test.YtfdbeldiomkdiaaGreatDoorG38
set_option maxHeartbeats 8000000
set_option maxRecDepth 100000
set_option linter.all false
namespace Go.Proofs.YtfdbeldiomkdiaaGreatDoor
open Go.RowKit Go.Proofs.Tryz
variable {A O OP:Nat->Prop}{B cb db nb nm pm:Nat}{W W0 w w' w0 w1:World}{at_:Nat->Addr}{c c':Cl}{d:Dk}{n':Nt}
def zmp (a:Nat->Addr)(e:Value)(t:Int×zb):Prop:=(e=.nilIface/\t=(0,[]))\/(e=Eg a 1/\t=(2,[]))\/(e=Eg a 2/\t=(3,[]))
def GA (t:Int×zb):Value:=.agg #[.int .i64 t.1,.string ⟨t.2.toArray⟩]
def YB (a:Nat->Addr)(w:World)(b:vj w a)(e:Value)(t:Int×zb)(h:zmp a e t):
  Calls prog 67 #[e] w λr c=>r=.returned (GA t)/\zc w c:=by
 rcases h with ⟨rfl,rfl⟩|⟨rfl,rfl⟩|⟨rfl,rfl⟩
 ·exact O0 a w b
 ·exact Gw a w b 1 2 (by decide)
 ·exact Gw a w b 2 3 (by decide)
def erT (e:Er):Int×zb:=(e.n,e.p)
def IP (o:Sum Er (za)):za×(Int×zb):=match o with
 |.inl e=>([],erT e)
 |.inr a=>(a,(0,[]))
def Te (B:Nat)(w:World):Fj B w (.slice none 0 0) []:=⟨rfl,.inl ⟨rfl,rfl⟩⟩
def zmu.tell {o:Sum Er (za)}{r:Ending}(h:zmu at_ B w' o r):∃v e,r=.returned (.tuple #[v,e])/\Fj B w' v (IP o).1/\(∀p∈(IP o).1,p.length=8)/\(IP o).1.length<=65/\zmp at_ e (IP o).2:=by
 rcases h with ⟨f,v,rfl,a,b,d,c⟩|⟨rfl,a⟩
 ·exact⟨v,_,c,a,b,d,.inl ⟨rfl,rfl⟩⟩
 ·exact⟨_,_,a,Te _ _,by simp[IP],by simp[IP],.inr (.inr ⟨rfl,rfl⟩)⟩
def CR.since {P:(Nat->Prop)->Prop}(h:CR W0 w0 w1 O A OP cb nb db pm nm d c' n' P)(i:zc w w0):CR W0 w w1 O A OP cb nb db pm nm d c' n' P:=by
 obtain⟨j,c,f,g,e,k⟩:=h.rest;have l:=i.size;exact⟨(zl.aa i).trans (h.aj.mono (λ_ h=>.inl h) (λ_ h=>h)),⟨j,c,⟨f.1,λb a=>(f.2 b a).imp id (λh=>⟨by omega,h.2⟩)⟩,⟨g.1,λb a=>(g.2 b a).imp id (λh=>⟨by omega,h.2⟩)⟩,e,k⟩,h.sh⟩
def Pv.below (h:Pv W0 w O A OP cb nb pm nm c)(a:zc w w'):Pv W0 w' O A OP cb nb pm nm c:=
 h.other (N:=λ_=>False) (T:=[]) (.aa a) (λ_ _ h=>h) (by simp)
def Sh.below {n:Nt}(h:Sh W0 w O nb db d n)(a:zc w w'):Sh W0 w' O nb db d n:=
 h.past (G:=λ_=>False) (T:=[]) (.aa a) (λ_ h=>h.elim) (by simp) (by simp) (by simp) (by simp) (by simp)
abbrev TPc:Nat:=136
def J3 (w:World)(b a:Nat):Prop:=w.heap[b]?=some (.cells #[yu a] TPc (0,0))
def Ih (h:FH B W)(u v:Value):zl (λk=>k=B) [39] W ((W.setCell ⟨B,0,none⟩ u).setCell ⟨B,1,none⟩ v):=by
 have t1:zl (λk=>k=B) [39] W (W.setCell ⟨B,0,none⟩ u):=zl.set (O:=λk=>k=B) (T:=[39]) (zl.refl _ _ _) (.inl rfl) h (by simp) u;exact zl.set (O:=λk=>k=B) (T:=[39]) t1 (.inl rfl) (Aw h 0 u) (by simp) v
def TJ (h:FH B W):IU (λk=>k=B) [39] W:=λk a=>by
 subst a;exact⟨_,_,_,h,by simp⟩
def YS (f:Nat):∀a:za,a.length<=f->j7 (f+1) a=j7 f a:=by
 induction f with
 |zero=>intro a h;rw[Dd _ _ (by omega),Dd _ _ (by omega)]
 |succ f c =>
  intro a h
  by_cases h0:a.length=0
  ·rw[Dd _ _ h0,Dd _ _ h0]
  by_cases b:a.length=1
  ·rw[Gm _ _ b,Gm _ _ b]
  obtain⟨d,e,g⟩:=Be a.length (by omega);rw[Ct (f+1) a (by omega),Ct f a (by omega),c (a.take (yo a.length)) (by simp;omega),c (a.drop (yo a.length)) (by simp;omega)]
def Gz (P:za)(R:zb):(P++[R]).dropLast=P:=by simp
def Mh (P:za)(R:zb):(P++[R]).getLastD []=R:=by simp[List.getLastD_eq_getLast?]
def PV (P:za)(R:zb):(P++[R]).length≠0:=by simp
def zhz (f:Nat):∀(a:za) (i:Nat),1<=a.length->(C1 f a i).length+1<=a.length:=by
 induction f with
 |zero=>intro a i h;simpa[C1]using h
 |succ f c =>
  intro a i h
  by_cases d:a.length<=1
  ·rw[Gj _ _ _ d];simpa using h
  obtain⟨e,g,j⟩:=Be a.length (by omega)
  by_cases b:i<yo a.length
  ·rw[Gi _ _ _ (by omega) b];have:=c (a.take (yo a.length)) i (by simp;omega);simp at this ⊢;omega
  ·rw[Ft _ _ _ (by omega) b];have:=c (a.drop (yo a.length)) (i-yo a.length) (by simp;omega);simp at this ⊢;omega
def zim (z:zb)(f:Nat):∀(a:za) (i:Nat),1<=a.length->a.length<=f->i<a.length ->
  BF z f (AH (a.getD i [])) i a.length (C1 f a i)=(j7 f a,true):=by
 induction f with
 |zero=>intro a i j k;omega
 |succ f g =>
  intro a i j m n
  by_cases h:a.length=1
  ·rw[Gj _ _ _ (by omega),h,I5,Gm _ _ h];obtain rfl:i=0:=by omega
   match a,h with
   |[l],_=>simp
  obtain⟨o,p,q⟩:=Be a.length (by omega)
  by_cases b:i<yo a.length
  ·rw[Gi _ _ _ (by omega) b,JN _ _ _ _ _ _ h (PV _ _) b,Gz,Mh];have e:=g (a.take (yo a.length)) i (by simp;omega) (by simp;omega) (by simp;omega);have c:(a.take (yo a.length)).getD i []=a.getD i []:=by simp[zj,b]
   have d:(a.take (yo a.length)).length=yo a.length:=by simp;omega
   rw[c,d]at e;rw[e,Ct _ _ (by omega)]
  ·rw[Ft _ _ _ (by omega) b,I6 _ _ _ _ _ _ h (PV _ _) b,Gz,Mh];have e:=g (a.drop (yo a.length)) (i-yo a.length) (by simp;omega) (by simp;omega) (by simp;omega);have c:(a.drop (yo a.length)).getD (i-yo a.length) []=a.getD i []:=by
    simp only[zj,BT];rw[show yo a.length+(i-yo a.length)=i by omega]
   have d:(a.drop (yo a.length)).length=a.length-yo a.length:=by simp
   rw[c,d]at e;rw[e,Ct _ _ (by omega)]
def zlb (f:Nat):∀(m:Nat) (b:za) (a:Bool),1<=m->m<=b.length->(EI f m b a).length<=b.length:=by
 induction f with
 |zero=>intro m b a h g;simp[EI]
 |succ f e =>
  intro m b a h g
  by_cases c:m=b.length
  ·subst c;cases a with
   |true=>rw[Fe];simp
   |false=>rw[I2];simpa using h
  obtain⟨i,j,k⟩:=Be b.length (by omega)
  by_cases d:m<=yo b.length
  ·rw[Ib _ _ _ _ c d];have:=e m (b.take (yo b.length)) a h (by simp;omega);simp at this ⊢;omega
  ·rw[Gl _ _ _ _ c d];have:=e (m-yo b.length) (b.drop (yo b.length)) false (by omega) (by simp;omega);simp at this ⊢;omega
def ziw (z a:zb)(f:Nat):∀(m:Nat) (b:za) (c:Bool),1<=m->m<=b.length->b.length<=f->(c=true->a=j7 f (b.take m)) ->
  Ad z a f m b.length (EI f m b c) c=(j7 f (b.take m),j7 f b,true):=by
 induction f with
 |zero=>intro m b c n r v;omega
 |succ f o =>
  intro m b c n r w i
  by_cases g:m=b.length
  ·subst g;cases c with
   |true=>rw[Fe,Ff,jb] ;rw[jb]at i;rw[<- i rfl];simp
   |false=>rw[I2,Gn _ _ _ _ _ (by simp),jb];simp
  obtain⟨x,u,y⟩:=Be b.length (by omega)
  by_cases d:m<=yo b.length
  ·rw[Ib _ _ _ _ g d,JP _ _ _ _ _ _ _ g (PV _ _) d,Gz,Mh];have k:(b.take (yo b.length)).take m=b.take m:=by rw[KV,JZ d]
   have h:(b.take (yo b.length)).length=yo b.length:=by simp;omega
   have l:j7 (f+1) (b.take m)=j7 f (b.take m):=YS f _ (by simp;omega);have e:=o m (b.take (yo b.length)) c n (by omega) (by omega) (λt=>by rw[k,<- l];exact i t);rw[k,h]at e;rw[e,l,Ct f b (by omega)]
  ·rw[Gl _ _ _ _ g d,I9 _ _ _ _ _ _ _ g (PV _ _) d,Gz,Mh];have h:(b.drop (yo b.length)).length=b.length-yo b.length:=by simp
   have e:=o (m-yo b.length) (b.drop (yo b.length)) false (by omega) (by omega) (by omega) (by simp);rw[h]at e;have s:(b.take m).length=m:=by simp;omega
   have j:yo m=yo b.length:=by
    unfold yo at d u ⊢;refine(zgt m _ (by omega) ?_).symm;rw[xp];omega
   have p:(b.take m).take (yo b.length)=b.take (yo b.length):=by rw[KV,JZ (by omega)]
   have q:(b.take m).drop (yo b.length)=(b.drop (yo b.length)).take (m-yo b.length):=by rw[List.drop_take]
   rw[e,Ct f b (by omega),Ct f (b.take m) (by omega),s,j,p,q]
variable {j new t':Nat}
section
def zdk (z b:zb):∀(f g i n:Nat) (a:za),a.length<f->a.length<g->BF z f b i n a=BF z g b i n a:=by
 intro f
 induction f with
 |zero=>intro g i n a h;omega
 |succ f j =>
  intro g i n a l m;obtain⟨g,rfl⟩:∃k,g=k+1:=⟨g-1,by omega⟩;unfold BF
  by_cases d:n=1
  ·rw[if_pos d,if_pos d]
  rw[if_neg d,if_neg d]
  by_cases h0:a.length=0
  ·rw[if_pos h0,if_pos h0]
  rw[if_neg h0,if_neg h0];have e:a.dropLast.length<f:=by simp;omega
  have c:a.dropLast.length<g:=by simp;omega
  rw[j g i (yo n) _ e c,j g (i-yo n) (n-yo n) _ e c]
def zd1 (z a:zb):∀(f g m n:Nat) (c:za) (b:Bool),c.length<f->c.length<g->Ad z a f m n c b=Ad z a g m n c b:=by
 intro f
 induction f with
 |zero=>intro g m n c b h;omega
 |succ f j =>
  intro g m n c b l o;obtain⟨g,rfl⟩:∃k,g=k+1:=⟨g-1,by omega⟩;unfold Ad
  by_cases e:m=n
  ·rw[if_pos e,if_pos e]
  rw[if_neg e,if_neg e]
  by_cases h0:c.length=0
  ·rw[if_pos h0,if_pos h0]
  rw[if_neg h0,if_neg h0];have i:c.dropLast.length<f:=by simp;omega
  have d:c.dropLast.length<g:=by simp;omega
  rw[j g m (yo n) _ b i d,j g (m-yo n) (n-yo n) _ false i d]
def Ey (es:za)(a i:Nat):za:=(AD 64 0 a i).map λs=>yy (CC es s)
def EC (es:za)(b a:Nat):za:=(AB 64 b 0 a true).map λs=>yy (CC es s)
def Xh (es:za)(n:Nat):CC es (0,n)=es.take n:=by simp[CC]
def WC (es:za)(a i g:Nat)(h:a<=es.length)(d:a<2^63)(c:i<a)(b:a<=g):C1 g (es.take a) i=Ey es a i:=by
 have:=Pm es 64 g 0 a i (by omega) b (by omega) (by omega) (by omega);rw[Xh,Vc]at this;exact this
def W9 (es:za)(b a g:Nat)(h:a<=es.length)(e:a<2^63)(h0:0<b)(d:b<=a)(c:a<=g):EI g b (es.take a) true=EC es b a:=by
 have:=Pk es 64 g b 0 a true (by omega) c (by omega) (by omega) (by omega);rw[Xh,Vc]at this;exact this
def Tn (es:za)(a i:Nat):(Ey es a i).length<=64:=by
 unfold Ey;rw[yg];exact C4 64 0 a i
def Tj (es:za)(b a:Nat):(EC es b a).length<=65:=by
 unfold EC;rw[yg];exact Ci 64 b 0 a true
def ET {es:za}{n:Nat}(h:n<=es.length):(es.take n).length=n:=by simp;omega
def zgq (z:zb)(es:za)(a i:Nat)(h:a<=es.length)(g:a<2^63)(c:i<a):BF z 1001 (AH (es.getD i [])) i a (Ey es a i)=(yy (es.take a),true):=by
 have d:=ET h;have b:=zim z a (es.take a) i (by omega) (by omega) (by omega);have f:=zhz a (es.take a) i (by omega);rw[WC es a i a h g c (zk _)]at b f;have j:=Tn es a i;rw[zdk z _ 1001 a i a _ (by omega) (by omega)];rw[d]at b;have e:(es.take a).getD i []=es.getD i []:=by
  rw[zj,zj,qi,if_pos c]
 rw[e]at b;rw[b];unfold yy;rw[d]
def zft (z:zb)(es:za)(b a:Nat)(h:a<=es.length)(l:a<2^63)(h0:0<b)(k:b<=a):Ad z (yy (es.take b)) 1001 b a (EC es b a) true=(yy (es.take b),yy (es.take a),true):=by
 have i:=ET h;have d:(es.take a).take b=es.take b:=by rw[KV];congr 1;omega
 have j:(es.take b).length=b:=ET (by omega);have e:j7 (a+1) (es.take b)=yy (es.take b):=Dm _ _ _ (by omega) (by omega);have f:j7 (a+1) (es.take a)=yy (es.take a):=Dm _ _ _ (by omega) (by omega);have c:=ziw z (yy (es.take b)) (a+1) b (es.take a) true (by omega) (by omega) (by omega) (λ_=>by rw[d,e]);have g:=zlb (a+1) b (es.take a) true (by omega) (by omega);rw[W9 es b a (a+1) h l h0 k (by omega)]at c g;have m:=Tj es b a;rw[zd1 z _ 1001 (a+1) b a _ true (by omega) (by omega)];rw[i,d,e,f]at c;exact c
section
variable {σ:Type}{fe:σ -> zb -> (zb × Bool) × σ}
def Y5 (d:σ->Int)(q:∀s p,d (fe s p).2=d s+1){b:Mm}{c:Nat}{m i:Ms σ}{l:Int}{o:Sum (zb) Pc}(h:BI fe b c m l j=(o,i)):
  d i.al<=d m.al+2/\i.ag.length<=m.ag.length+1:=by
 have g:∀s p,d (B0 fe s p).2=d s+1:=λs p=>q s _;have e:∀(a:Mm) p f,(a.drop p++[(p,f)]).length<=a.length+1:=λa p f=>by
  have:=BL (λx:Pl×Fl=>!decide (x.1=p)) a;simp only[zw,xf,jq];unfold Mm.drop;omega
 unfold BI at h
 by_cases k:((j6 b m.ag (yd c l j)).getD (j%4) .no).there=true
 ·rw[if_pos k]at h;simp only[xj]at h;obtain⟨-,rfl⟩:=h;exact⟨by simp only;omega,e _ _ _⟩
 ·rw[if_neg k]at h;have n:=g m.al (yd c l j);cases r:B0 fe m.al (yd c l j)with
  |mk o s =>
   rw[r]at h n;cases o
   all_goals
    simp only[xj]at h;obtain⟨-,rfl⟩:=h;simp only at *;exact⟨by omega,by first|exact e _ _ _|omega⟩
def Bu.cost {a:Mm}{c:Nat}{m d:Ms σ}{f:List (Pl×Nat)}(h:Bu fe a c m f d)(b:σ->Int)(g:∀s p,b (fe s p).2=b s+1):b d.al<=b m.al+2*(f.length:Int)/\d.ag.length<=m.ag.length+f.length:=by
 induction h using Bu.ind with
 |nil m=>exact⟨by simp,by simp⟩
 |cons i e _ j =>
  have:=Y5 b g e;simp only[xf];omega
def zlf (a:Int)(m:Mm)(p:Pl)(f:Fl):(m.put a p f).length<=m.length+1:=by
 have:=BL (λx:Pl×Fl=>!decide (x.1=p)) m;unfold Mm.put Mm.drop;split
 ·simp only[List.length_tail,zw,xf,jq];omega
 ·simp only[zw,xf,jq];omega
def Ky (a:Int):∀(c b:Mm),(qd a b c).length<=b.length+c.length
 |[],b=>by simp[qd]
 |x::c,b=>by
  have d:=Ky a c (b.put a x.1 (GY x.2));have e:=zlf a b x.1 (GY x.2);show(qd a (b.put a x.1 (GY x.2)) c).length<=_;simp only[xf];omega
end
structure CI (es:za)(c:Cl)(t:Nat):Prop where
 le:c.size<=es.length
 gd:GB (En es) c.proved
 ins:P6 c.size c.proved
 rt:c.root=yy (es.take c.size)
 room:ze3 c.room c.proved
 len:c.proved.length<=10000*t
def CI.more {es:za}{t:Nat}(h:CI es c t)(a:za):CI (es++a) c t:=
 ⟨by have:=h.le;simp;omega,h.gd.bN (λ_ _ _ b=>Zm b a),h.ins,by rw[vr h.le];exact h.rt,h.room,h.len⟩
def CI.later {es:za}{t:Nat}(h:CI es c t)(a:t<=t'):CI es c t':=⟨h.le,h.gd,h.ins,h.rt,h.room,by have:=h.len;omega⟩
def Uf (es:za)(b:zb)(a:Int):CI es ⟨b,0,yy [],a,[]⟩ 0:=
 ⟨yk _,Ec _,λx c=>by simp at c,by simp,⟨λ_=>rfl,λ_=>by simp⟩,by simp⟩
section
variable {fs:Fs}{es:za}{c:Cl}{n:Nt}{t i:Nat}
def Ug (b:zb->Nat->Nat->za->zb->Bool)(g:∀a i,a<=es.length->i<a->b (AH (es.getD i [])) i a (Ey es a i) (yy (es.take a))=true)(s:∀e∈es,e.length<=20)(l:es.length<4^21)(d:Bb fs es c.size)(z:n.ao=[])(h:CI es c t)(q:i<c.size):
  ∃m,Bu (qr fs) c.proved c.size ⟨n,[]⟩ (I4 c.size i) m/\m.al.ao=[]/\n.ai<=m.al.ai/\m.al.ai<=n.ai+17000 /\
   GQ (qr fs) b c n i=(.inr (es.getD i [],Ey es c.size i),{c with proved:=qd c.room c.proved (AO c.size m.ag i (AH (es.getD i [])))},m.al) /\
   CI es {c with proved:=qd c.room c.proved (AO c.size m.ag i (AH (es.getD i [])))} (t+1):=by
 have o:=JT (fs:=fs) s h.le (qw h.le l) d;have k:=o.lt;obtain⟨m,j,u,v,w,y⟩:=YL o h.gd h.ins z q b (by rw[h.rt];exact g c.size i h.le q);have p:=j.cost (λx:Nt=>x.ai) (F8 fs);have f:=j.aP (λx:Nt=>x.ai) (F8 fs);have r:(I4 c.size i).length<=8401:=by
  have:=Tp c.size i k;unfold I4;simp only[xf];omega
 simp only at p f;refine⟨m,j,u,f,by omega,v,h.le,w,y,h.rt,h.room.aK _,?_⟩;have e:=congrArg List.length (Ho c.size m.ag i (AH (es.getD i [])));simp only[yg]at e;have:=Ky c.room (AO c.size m.ag i (AH (es.getD i []))) c.proved;have:=h.len;have:=p.2;simp only[jq]at this;simp only;omega
def zfr (b:zb->Nat->Nat->za->zb->Bool)(g:∀a i,a<=es.length->i<a->b (AH (es.getD i [])) i a (Ey es a i) (yy (es.take a))=true)(q:∀e∈es,e.length<=20)(j:es.length<4^21)(f:Bb fs es c.size)(H:n.ao=[])(h:CI es c t)(p:i<c.size):
  ∃k d o l,GQ (qr fs) b c n i=(.inr (es.getD i [],Ey es c.size i),k,d)/\GQ (qr fs) b k d i=(.inr (es.getD i [],Ey es c.size i),o,l) /\
   (k.key=c.key/\k.size=c.size/\k.room=c.room)/\(o.key=c.key/\o.size=c.size/\o.room=c.room)/\CI es k (t+1)/\CI es o (t+2)/\d.ao=[]/\l.ao=[] /\
   (n.ai<=d.ai/\d.ai<=n.ai+17000)/\(d.ai<=l.ai/\l.ai<=d.ai+17000) /\
   (16<=c.room->c.size<=256->l.ai=d.ai)/\((c.room<=0\/(c.room=1/\2<=c.size))->d.ai<l.ai):=by
 obtain⟨m,v,w,E,F,G,y⟩:=Ug b g q j f H h p;obtain⟨I,u,z,A,B,C,D⟩:=Ug (c:={c with proved:=qd c.room c.proved (AO c.size m.ag i (AH (es.getD i [])))}) (n:=m.al) b g q j f w y p;refine⟨_,_,_,_,G,C,⟨rfl,rfl,rfl⟩,⟨rfl,rfl,rfl⟩,y,D,w,z,⟨E,F⟩,⟨A,B⟩,λr s=>?_,λr=>?_⟩
 ·have:=Vf h.gd.wf r s p v u;rw[this]
 ·exact XH (λx:Nt=>x.ai) (F8 fs) h.gd.wf h.room r (qw h.le (Nat.lt_trans j (by decide))) v u
def zfq (k:∀e∈es,e.length<=20)(g:es.length<4^21)(d:Bb fs es c.size)(v:n.ao=[])(h:CI es c t)(u:i<c.size):∀p s,BI (qr fs) c.proved c.size ⟨n,[]⟩ (-1) i=(.inr p,s)->p.entry.length<=1000000:=by
 intro p s e;have o:=JT (fs:=fs) k h.le (qw h.le g) d;have q:i<qx (-1) c.size:=by simpa[qx]using u
 rcases Oy (fe:=qr fs) (proved:=c.proved) (m:=⟨n,[]⟩) (l:=-1) (j:=i) o.bE.aZ (II es) (λb e=>(o.ctx h.gd).told _ _ b (by omega) q e) h.gd (Ec _) v q with ⟨x,w,a,y,hv,-,-⟩|⟨w,a,-,-,-⟩
 ·rw[e]at a;simp only[xj,S2]at a;obtain⟨rfl,-⟩:=a;have r:=(hv.1.1 rfl).2;rw[Fy]at r;have f:i<es.length:=by have:=h.le;omega
  rw[r,zj,zo f];have:=k es[i] (ye _);simp only[AX];omega
 ·rw[e]at a;simp at a
def Ob (d:Nat->Nat->zb->zb->za->Bool)(i:∀a b,0<a->a<=b->b<=es.length->d a b (yy (es.take a)) (yy (es.take b)) (EC es a b)=true)(A:∀e∈es,e.length<=20)(p:es.length<4^21)(g:Bb fs es new)(w:n.ao=[])(h:CI es c t)(o:c.size<=new)(k:new<=es.length):
  ∃f l,IQ (qr fs) d c n (some (new,yy (es.take new)))=(.inr (if 0<c.size/\c.size<new then EC es c.size new else []),f,l)/\(f.key=c.key/\f.size=new/\f.room=c.room)/\CI es f (t+1)/\l.ao=[]/\n.ai<=l.ai/\l.ai<=n.ai+17000:=by
 have s:=JT (fs:=fs) A k (qw k p) g;have m:=s.lt;obtain⟨E,F,e,q,r,C,D⟩:=WJ (c:=c) s h.gd h.ins w h.rt o d (λh0 G=>by rw[h.rt];exact i c.size new h0 o k);refine⟨{c with size:=new,root:=yy (es.take new),proved:=E},F,?_,⟨rfl,rfl,rfl⟩,?_⟩
 ·unfold IQ;simp only;rw[e]
  rfl
 ·rcases D with ⟨rfl,rfl⟩|⟨z,y,rfl,rfl,h0⟩
  ·exact⟨⟨k,q,r,rfl,h.room,by have:=h.len;simp only;omega⟩,w,Qc _,by omega⟩
  ·have u:=y.cost (λx:Nt=>x.ai) (F8 fs);have j:=y.aP (λx:Nt=>x.ai) (F8 fs);have v:=Tl c.size new m h0 o;simp only at u j;have B:=congrArg List.length (NJ new z.ag c.size c.root);simp only[yg]at B;have:=Ky c.room (F9 new z.ag c.size c.root) c.proved;have:=h.len;have:=u.2;simp only[jq]at this;exact⟨⟨k,q,r,rfl,h.room.aK _,by simp only;omega⟩,C,j,by omega⟩
end
end
def Og:J9=CA:=by decide
def RQ {a:Fs}{f:za}{c:Nat}{d:zb}{b:Nt}{o:Option (Nat×zb)}(h:Chp a f c d)(j:b.ao=[])(k:c<=9223372036854775807)(e:K8 d (qr a b J9).1 o):
  (qr a b J9).2={b with ai:=b.ai+1}/\((xr a CA=none/\c=0/\o=none)\/(xr a CA≠none/\Bb a f c/\o=some (c,yy (f.take c)))):=by
 rw[Og,Eu a b j]at *;rcases h.2 with ⟨g,i⟩|⟨g,i⟩
 ·rw[g]at e ⊢;refine⟨rfl,.inl ⟨rfl,i,?_⟩⟩;cases o with
  |none=>rfl
  |some x=>exact absurd e.1 (by simp)
 ·rw[g]at e ⊢;refine⟨rfl,.inr ⟨by simp,i,?_⟩⟩;exact K8.yes e ⟨k,EX _,rfl⟩
def SQ {a:Fs}{p x:zb}(h:xr a p=some x):∃f∈a,f.2=x:=by
 cases e:GC a p with
 |none=>rw[(Bm e).1]at h;simp at h
 |some k =>
  obtain⟨c,-,b,-⟩:=Bn e;rw[h]at b;exact⟨a[k],ye c,by simpa using b.symm⟩
def Ot (b:za)(d:b.length<4^21):∀a i,a<=b.length->i<a->Oq (AH (b.getD i [])) i a (Ey b a i) (yy (b.take a))=true:=by
 intro a i h c;unfold Oq;rw[Uu (by omega),zz,zz,zgq jh b a i h (by omega) c];simp only[S0];simp[Kh]
def LW (c:za)(f:c.length<4^21):∀a b,0<a->a<=b->b<=c.length->EM a b (yy (c.take a)) (yy (c.take b)) (EC c a b)=true:=by
 intro a b h0 d e;unfold EM;rw[Uj (by omega),zz,zz,zft jh c a b e (by omega) h0 d];simp only[S0,A3];exact⟨by simp[Kh],by simp[Kh]⟩
def Zs {b:za}{o t:Nat}{g:Nt}(h:Chp d.fs b o c.key)(l:g.ao=[])(p:∀e∈b,e.length<=20)(j:b.length<4^21)(i:CI b c t)(k:c.size<=o):Ve c d g:=λu v q=>by
 have m:=h.1;obtain⟨e,⟨-,-,f⟩|⟨-,a,f⟩⟩:=RQ h l (by omega) q
 ·simp at f
 ·cases f;obtain⟨r,s,f,-⟩:=Ob (n:={g with ai:=g.ai+1}) EM (LW b j) p j a l i k m;rw[e];exact⟨⟨_,by rw[f]⟩,λ_=>⟨(JT p m (qw m j) a).has,l⟩⟩
variable {i:Nat}
def Xw {j:Fs}{a:za}{b t:Nat}{i:zb}{d:Nt}{q:Option (Nat×zb)}(h:Chp j a b i)(s:d.ao=[])(v:∀e∈a,e.length<=20)(r:a.length<4^21)(h0:0<b)(k:CI a c t)(l:c.size<=b)(z:c.key=i)(u:K8 c.key (qr j d J9).1 q):
  ∃f o,IQ (qr j) EM c (qr j d J9).2 q=(.inr (if 0<c.size/\c.size<b then EC a c.size b else []),f,o)/\f.size=b/\CI a f (t+1):=by
 rw[z]at u;have m:=h.1;obtain⟨e,y⟩:=RQ h s (by omega) u;rcases y with ⟨-,p,-⟩|⟨-,g,rfl⟩
 ·omega
 ·obtain⟨f,o,p,⟨-,w,-⟩,x,-⟩:=Ob (n:={d with ai:=d.ai+1}) EM (LW a r) v r g s k l m;exact⟨f,o,by rw[e];exact p,w,x⟩
def zeg {h:Fs}{a:za}{t:Nat}{f:Nt}(b:Bb h a c.size)(p:f.ao=[])(k:∀e∈a,e.length<=20)(j:a.length<4^21)(d:CI a c t)(o:i<c.size):
  ∃g q,GQ (qr h) Oq c f i=(.inr (a.getD i [],Ey a c.size i),g,q)/\CI a g (t+1):=by
 obtain⟨m,-,-,-,-,l,n⟩:=Ug Oq (Ot a j) k j b p d o;exact⟨_,_,l,n⟩
variable {l:zb}{v x:Value}
section
attribute [local go_sem ↓] Et D8
def LJ (a:Nat)(w:World):Calls prog 49 #[BD a] w λr b=>r=.returned (yu w.heap.size)/\zc w b/\De b (λk=>k=w.heap.size) w.heap.size a ⟨[],[],0⟩:=by
 unfold BD;go_enter func49,ntmps49
 go_wp2
 go_ret;exact⟨rfl,zi _ _,.slice none 0 0,.slice none 0 0,rfl,zf _ _,⟨none,0,rfl,.inl rfl⟩,⟨none,0,rfl,.inl rfl⟩,rfl⟩
def zc5 (b:zb)(a:Int)(w:World):
  Calls prog 46 #[.pointer none,qy b,.int .i64 a] w λr h=>∃(f c g e:Nat),r=.returned (yu f)/\zc w h/\w.heap.size<=c/\w.heap.size<=f/\J3 h f c/\h.heap[c]?=some (.cells (Yb .nilIface b 0 (j7 0 []) g e).toArray Bd (0,0)):=by
 have i:=ze (Wu .nilIface (.inl rfl) b a w);unfold qy at i ⊢;go_enter func46,ntmps46;go_wp2_with fail;refine i.o.mono ?_;rintro r n ⟨c,g,e,A,p,rfl,l,q,k,-,-,-,-,m⟩;have d:=ze l;have j:=ze m;unfold yu
 go_wp2
 go_ret;exact⟨n.heap.size,c,g,e,rfl,d.o.alloc d.o.size _,k,d.o.size,zf _ _,zr j.o⟩
def O8 (l:World)(O:Nat->Prop)(p:Nat)(c:zb)(a:Int)(w:World)(m:l.heap.size<=w.heap.size)(y:∀b,O b->b<w.heap.size):
  Calls prog 46 #[yu p,qy c,.int .i64 a] w λr i=>∃(g f s q:Nat) (A h:Nat->Prop),r=.returned (yu g)/\zc w i/\w.heap.size<=g/\g<i.heap.size/\(∀k,A k\/h k\/k=f->w.heap.size<=k/\k<g)/\J3 i g f/\Pv l i O A h f p s q ⟨c,0,j7 0 [],a,[]⟩:=by
 have u:=ze (zhh l O p c a w m y);unfold qy QM at u;unfold qy yu;go_enter func46,ntmps46;go_wp2_with fail;refine u.o.mono ?_;rintro r B ⟨f,s,q,A,h,rfl,z,v,x,n⟩;have j:=ze z;have e:=ze n;have t:=ze x;unfold yu
 go_wp2
 go_ret;refine⟨B.heap.size,f,s,q,A,h,rfl,j.o.alloc j.o.size _,j.o.size,by simp,λk d=>?_,zf _ _,e.o.below (zi _ _)⟩;refine⟨?_,(e.o.own k d).2.1⟩;rcases d with d|d|rfl
 ·exact t.o k (.inl d)
 ·exact t.o k (.inr d)
 ·exact v
def Pv.bF (h:Pv W0 w O A OP cb nb pm nm c)(d:zl (λb=>b=cb) [Bd] w w')(i:w'.heap[cb]?=w.heap[cb]?):Pv W0 w' O A OP cb nb pm nm c:=by
 obtain⟨C,g,f⟩:=h.aC;exact⟨λb a=>⟨(h.own b a).1,zq (h.own b a).2.1 d.size,(h.own b a).2.2⟩,h.sep,h.bS,h.bT,⟨C,i.trans g,f⟩,h.aV.stay d (λb a e=>h.bT (by rw[<- e];exact a)) (by decide) (λ_ h=>h),h.aM.stay d (λb a e=>h.bS (by rw[<- e];exact a)) (λ_ h=>h)⟩
def NB (s:World)(O A q:Nat->Prop)(d z E B:Nat)(c:Cl)(D:Nat)(w:World)(h:Pv s w O A q d z E B c)(y:J3 w D d):
  Calls prog 101 #[yu D] w λr F=>r=.returned (.tuple #[.int .i64 c.size,qy c.root])/\zl (λb=>b=d) [Bd] w F/\F.heap[d]?=w.heap[d]?:=by
 have m:=ze (Xx s O A q d z E B c w h);have t:=(zm y 0 _ rfl).1;obtain⟨C,x,v⟩:=h.aC;have k:Hid (c.root.length=8):=v.num.r8;have i:Hid (w.heap[d]?=some (.cells C Bd (0,0))):=x;clear h y x v;unfold yu at t m ⊢;go_enter func101,ntmps101;go_wp2_with fail;refine m.o.mono ?_;rintro r a ⟨rfl,g,j⟩;have e:(a.alloc (.cells #[.int .i64 0,.int .u8 0,.int .u8 0,.int .u8 0,.int .u8 0,.int .u8 0,.int .u8 0,.int .u8 0,.int .u8 0] 120)).heap[a.heap.size]?=some (.cells (BN 0 BE).toArray 120 (0,0)):=zf _ _;have H:(IE (.pointer (some ⟨a.heap.size,0,none⟩)) (.agg (BN c.size c.root).toArray)).run prog (a.alloc (.cells #[.int .i64 0,.int .u8 0,.int .u8 0,.int .u8 0,.int .u8 0,.int .u8 0,.int .u8 0,.int .u8 0,.int .u8 0] 120))=.ok () ((a.alloc (.cells #[.int .i64 0,.int .u8 0,.int .u8 0,.int .u8 0,.int .u8 0,.int .u8 0,.int .u8 0,.int .u8 0,.int .u8 0] 120)).setCells a.heap.size 0 (BN c.size c.root)):=Fw (BG e) k.o;have f:=Cd e (ds:=BN c.size c.root) (by rw[FA _ k.o];rfl);have I:=(zm f 0 (.int .i64 c.size) rfl).1;have n:Hid (zl (λb=>b=d) [Bd] w ((a.alloc (.cells #[.int .i64 0,.int .u8 0,.int .u8 0,.int .u8 0,.int .u8 0,.int .u8 0,.int .u8 0,.int .u8 0,.int .u8 0] 120)).setCells a.heap.size 0 (BN c.size c.root))):=(g.ah (zi _ _)).aB g.size _ _;have l:Hid (((a.alloc (.cells #[.int .i64 0,.int .u8 0,.int .u8 0,.int .u8 0,.int .u8 0,.int .u8 0,.int .u8 0,.int .u8 0,.int .u8 0] 120)).setCells a.heap.size 0 (BN c.size c.root)).heap[d]?=w.heap[d]?):=by
  show _=_;have u:a.heap[d]?=some (.cells C Bd (0,0)):=j.trans i.o;rw[Br _ _ (by have:=zg u;omega),zr u,i.o]
 have p:=Nj ((a.alloc (.cells #[.int .i64 0,.int .u8 0,.int .u8 0,.int .u8 0,.int .u8 0,.int .u8 0,.int .u8 0,.int .u8 0,.int .u8 0] 120)).setCells a.heap.size 0 (BN c.size c.root)).drew a.heap.size 1 8 8 c.root k.o (by have h:=RI f;have G:World.rangeAt (World.drew _) _ _ _:=h;simpa[hv]using G);unfold AL at p;clear g j e f t m;generalize (a.alloc (.cells #[.int .i64 0,.int .u8 0,.int .u8 0,.int .u8 0,.int .u8 0,.int .u8 0,.int .u8 0,.int .u8 0,.int .u8 0] 120)).setCells a.heap.size 0 (BN c.size c.root)=V at *
 go_wp2
 go_region
 all_goals go_wp2_with fail
 all_goals go_ret2
 all_goals exact⟨rfl,n.o.drew,l.o⟩
def Pp (y:World)(z:Nat->Addr)(O A OP:Nat->Prop)(U V db pm nm:Nat)(d:Dk)(c:Cl)(n:Nt)(pb:Nat)(w:World)(hE:DW y)(hS:vj y z)(L:F0 y)(h:Pv y w O A OP U V pm nm c)(hs:Sh y w O V db d n)(hp:J3 w pb U)(hf:n.ai+20000<4611686018427387904)(Q:c.size<9223372036854775808)(N:c.key.length<=9223372036854775807)(R:(qr d.fs n J9).1.1.length<=1048576)(P:c.proved.length<=100000000000)(S:Lb c.proved)(M:Ve c d n):
  Calls prog 48 #[yu pb] w λr w'=>∃o,K8 c.key (qr d.fs n J9).1 o/\CR y w w' O A OP U V db pm nm d (IQ (qr d.fs) EM c (qr d.fs n J9).2 o).2.1 (IQ (qr d.fs) EM c (qr d.fs n J9).2 o).2.2 (λ_=>True)/\∃x,r=.returned (.tuple #[x,GA (IP (IQ (qr d.fs) EM c (qr d.fs n J9).2 o).1).2])/\w'.ownsRow w.heap.size 9 1 x (IP (IQ (qr d.fs) EM c (qr d.fs n J9).2 o).1).1.length ((IP (IQ (qr d.fs) EM c (qr d.fs n J9).2 o).1).1.map AL):=by
 have j:zc w (w.alloc (.cells #[.int .i64 0,.string ⟨#[]⟩] 39)):=zi _ _;have C:=ze j;have Z:=ze hs.base.size;have X:=ze (Zt y z O A OP U V db pm nm d c n _ hE hS L (h.below j) (hs.below j) hf Q N R P S M);have W:Hid (FH w.heap.size (w.alloc (.cells #[.int .i64 0,.string ⟨#[]⟩] 39))):=zf _ _;have c0:=(zm (zr (o:=.cells #[.int .i64 0,.string ⟨#[]⟩] 39) hp) 0 _ rfl).1;have HS:=ze hS;clear h hs hp j hE hS L P S hf Q N R M;unfold yu at c0 X ⊢;go_enter func48,ntmps48;go_wp2_with fail;generalize w.alloc (.cells #[.int .i64 0,.string ⟨#[]⟩] 39)=W1 at *;refine X.o.mono ?_;rintro r w2 ⟨o,p,m,i⟩;have E:=ze p;obtain⟨u,c',n',hU⟩:∃u c' n',IQ (qr d.fs) EM c (qr d.fs n J9).2 o=(u,c',n'):=⟨_,_,_,rfl⟩;rw[hU]at m i;have Y:=ze hU;obtain⟨v,e,rfl,g,h8,s,q⟩:=i.tell;have t:=ze (m.since C.o);have H:=ze (W.o.aj m.aj (by decide));have f:=ze g;have G:=ze q;have J:=ze (MQ W1.heap.size v (IP u).1 w2 (zt s (by decide)) h8 g);clear p hU m i g s X c0 h8 q;go_wp2_with fail;refine J.o.mono ?_;rintro r w3 ⟨x,rfl,B,T⟩;have D:=ze C.o.size;have b:=ze (t.o.past (P':=λ_=>True) B (Tg f.o) (λk hk=>zt D.o (Rc f.o k hk)) Z.o (by decide) (by decide) (by decide) (by decide) (by decide) (by decide) (by decide) (by decide) (by decide) (by decide) (.inl (by decide)) (λ_ _=>trivial));have I:=ze (H.o.aj B (by decide));have K:=ze (G5 T t.o.aj.size);clear B T J f t H;go_wp2_with fail;refine(YB z w3 (jn HS.o b.o.sh.base) e _ G.o).mono ?_;rintro r w4 ⟨rfl,l⟩;have F:=ze (b.o.below Z.o l);have a:=ze (I.o.below l);have aa:=ze (yx K.o l);obtain⟨q0,z0⟩:=zm a.o 0 _ rfl;obtain⟨q1,z1⟩:=zm a.o 1 _ rfl;clear l b I K;unfold GA;go_wp2_with fail;refine zv (v:=.tuple #[x,.agg #[.int .i64 (IP u).2.1,.string ⟨(IP u).2.2.toArray⟩]]) (vo results48 _ _ w.heap.size 39 _ (0,0) _ rfl (BH a.o _ _ rfl) underlying39 rfl (by kernel_rfl) _ rfl) rfl ?_;refine⟨o,E.o,?_⟩;rw[Y.o];refine⟨F.o.past (Ih a.o _ _) (TJ a.o) (λk hk=>by omega) Z.o (by decide) (by decide) (by decide) (by decide) (by decide) (by decide) (by decide) (by decide) (by decide) (by decide) (.inl (by decide)) (λ_ h=>h),x,rfl,zy aa.o (Ih a.o _ _) (by decide)⟩
theorem NH {P:Program}{fn:Func}{p u1 u2 u3:Tmp}{ty:TypeId}(h:fn.results=#[.tmp u1,.tmp u2,.tmp u3,.cell p ty])(tmps:Array Value)(w:World)(g:Nat)(t:TypeId)(cs:Array Value)(fr:Nat×Nat)(d:TypeDesc)
  (hp:tmps.getD p undef=.pointer (some ⟨g,0,none⟩)) (hg:w.heap[g]?=some (.cells cs t fr))
  (hu:P.underlying ty=some d) (hd:(match d with|.struct _|.array _ _=>true|_=>false)=true) (hi:(P.info? ty).map (·.size)=some cs.size) (x1 x2 x3:Value) (h1:tmps.getD u1 undef=x1) (h2:tmps.getD u2 undef=x2) (h3:tmps.getD u3 undef=x3) :
  (results fn tmps).run P w=.ok (.tuple #[x1,x2,x3,.agg cs]) w:=by
 have a:=BS (P:=P) w g t ty cs fr d hg hu hd hi;simp only[vh]at hp h1 h2 h3;simp[results,h,hp,h1,h2,h3,asAddr,a]
def CR.bH {P:(Nat->Prop)->Prop}{e:Value}(h:CR W0 w w1 O A OP cb nb db pm nm d c' n' P):CR W0 w w1 O A OP cb nb db pm nm d c' n' (Qa w1 pm c'.room c'.proved (.returned (.tuple #[.slice none 0 0,v,e]))):=by
 obtain⟨i,c,j,k,b,-⟩:=h.rest;refine⟨h.aj,⟨i,c,j,k,b,λx n m f=>?_⟩,h.sh⟩;simp only[Ending.returned.injEq,Value.tuple.injEq]at f;have:=congrArg (λa:Array Value=>a[0]?) f;simp only[vy,GO,zn]at this;subst this;exact⟨w1,λ_=>False,[],b.aV,zl.refl _ _ _,λ_ _ h=>h,by simp,λg l=>by simp[Value.ownBlock]at l⟩
abbrev IG:Obj:=.cells #[.int .i64 0,.string ⟨#[]⟩] 39
def zhp (h:OB w B x l):∃g b a,x=.slice (some ⟨g,0,none⟩) l.length b/\B<=g/\w.heap[g]?=some (.cells a 5 (0,0))/\w.rangeAt g 0 (hv l).toList/\w.there g 0 l.length:=by
 rcases h.1.2 with h0|⟨g,b,a,e,i,c,p,o,m,n⟩
 ·exact absurd h0.1 h.2
 ·refine⟨g,b,a,e,i,c,λj v d=>?_,λj d=>?_⟩
  ·rw[xk,xe _ _ _ _ _ _ c];have k:j<l.length:=by
    have:=(qm.1 d).1;simpa[hv]using this
   have f:(a.toList.take (l.length*1))[j]?=some v:=by
    rw[n];simpa[hv]using d
   rw[qi,if_pos (by omega)]at f;simpa using f
  ·rw[xk];refine⟨?_,by simp[World.frozen?,c]⟩;rw[xe _ _ _ _ _ _ c];have:j<a.size:=by rw[m];omega
   simp[this]
def zov (e:World)(B:Nat)(b:zb)(c:za)(t:Int×zb)(d:Bool)(r:Ending):Prop:=
 ∃a x,r=.returned (.tuple #[qy b,.bool a,x,GA t])/\(a=true->b=[])/\(d=true->a=true)/\e.ownsRow B 9 1 x c.length (c.map AL)
def Rl (W0:World)(H:Nat->Addr)(O A OP:Nat->Prop)(cb nb db pm nm:Nat)(d:Dk)(y:Cl)(L:Nt)(pb:Nat)(i:Int)(w:World)(z:zb)(ps:za)(t:Int×zb)(nl:Bool)(hS:vj W0 H)(hW:W0.heap.size<=w.heap.size)(hp:J3 w pb cb)
 (ad:Calls prog 147 #[yu cb,.int .i64 i] (w.alloc IG) λr f=>CR W0 (w.alloc IG) f O A OP cb nb db pm nm d y L (Qa f pm y.room y.proved r)/\∃x v e,r=.returned (.tuple #[x,v,e])/\zmo (w.alloc IG).heap.size f x z/\Fj (w.alloc IG).heap.size f v ps/\(∀p∈ps,p.length=8)/\zmp H e t/\ps.length<=65/\(nl=true->x=.slice none 0 0)) :
  Calls prog 100 #[yu pb,.int .i64 i] w λr w'=>CR W0 w w' O A OP cb nb db pm nm d y L (λ_=>True)/\zov w' w.heap.size z ps t nl r:=by
 have M:Hid (zc w (w.alloc IG)):=zi _ _;have HW:=ze hW;have G:=ze ad;have ah:Hid (FH w.heap.size (w.alloc IG)):=zf _ _;have c0:=(zm (zr (o:=IG) hp) 0 _ rfl).1;have HS:=ze hS;clear hp hS hW ad;unfold yu at c0 G ⊢;go_enter func100,ntmps100;go_wp2_with fail;generalize w.alloc IG=W1 at *;refine G.o.mono ?_;rintro r f ⟨I,x,v,e,rfl,Z,D,h8,B,ai,aa⟩;have E:=ze (I.since M.o);have F:=ze (ah.o.aj I.aj (by decide));have l:=ze D;have N:=ze B;have H8:=ze h8;have s:=ze M.o.size;have al:∀(w:World) (a:Option Addr) (n c L y:Nat),(binOp .eql 94 (.slice a n c) (.slice none L y)).run prog w=.ok (.bool a.isNone) w:=λw a n c L y=>EZ w _ _ a n c L y underlying94;clear I D B G c0 h8;rcases Z with ⟨rfl,rfl⟩|ab
 case' inl =>
  have u:=ze (And.intro (E.o.bN (P':=λ_=>True) (λ_ _=>trivial)) (And.intro l.o F.o));have J:=VA f;have X:=λty=>Qt (P:=prog) f 94 5 ty underlying94 none 0
 case' inr =>
  obtain⟨g,V,W,rfl,hB,hg,ae,af⟩:=zhp ab;have J:=Nj f g 0 V z.length z rfl ae;have X:=λty=>Ll (P:=prog) f 94 5 ty (.int .u8 0) underlying94 NR rfl rfl g z.length V af;have m:zl (λk=>k=g) [5] f (f.setCells g 0 (List.replicate z.length (.int .u8 0))):=zl.bd (O:=λk=>k=g) (T:=[5]) (zl.refl _ _ _) rfl (.inl ⟨W,_,_,hg,by simp⟩) _ _;have u:=ze (And.intro (E.o.past (P':=λ_=>True) m (λk C=>by subst C;exact⟨W,_,_,hg,yl.2 rfl⟩) (λk C=>by subst C;exact zt s.o hB) HW.o (by decide) (by decide) (by decide) (by decide) (by decide) (by decide) (by decide) (by decide) (by decide) (by decide) (.inr (λak hP=>OM.clear (hP _ _ _ rfl) m (λk C=>by subst C;rfl))) (λ_ _=>trivial)) (And.intro (zy l.o m (by decide)) (F.o.aj m (by decide))));have Q:Hid ((false=true->z=[])/\(nl=true->false=true)):=⟨λh=>by simp at h,λh=>by have:=aa h;simp at this⟩;clear ab hB hg ae af m;unfold AL at J;generalize f.setCells g 0 (List.replicate z.length (.int .u8 0))=Y at *
 all_goals
  clear E aa l F;go_wp2_with fail;refine(MQ W1.heap.size v ps _ (by omega) H8.o u.o.2.1).mono ?_;rintro r w3 ⟨x,rfl,K,ag⟩;have j:=ze (u.o.1.past (P':=λ_=>True) K (Tg u.o.2.1) (λk C=>zt s.o (Rc u.o.2.1 k C)) HW.o (by decide) (by decide) (by decide) (by decide) (by decide) (by decide) (by decide) (by decide) (by decide) (by decide) (.inl (by decide)) (λ_ _=>trivial));have R:=ze (u.o.2.2.aj K (by decide));have S:=ze (G5 ag u.o.1.aj.size);clear K ag u X J;go_wp2_with fail;refine(YB H w3 (jn HS.o j.o.sh.base) e _ N.o).mono ?_;rintro r w4 ⟨rfl,q⟩;have b:=ze (R.o.below q);have U:=ze (And.intro (j.o.below HW.o q) (yx S.o q));obtain⟨q0,z0⟩:=zm b.o 0 _ rfl;obtain⟨q1,z1⟩:=zm b.o 1 _ rfl;clear q j R S;unfold GA;go_wp2_with fail;exact zv (v:=.tuple #[_,_,x,.agg #[.int .i64 t.1,.string ⟨t.2.toArray⟩]]) (NH results100 _ _ w.heap.size 39 _ (0,0) _ rfl (BH b.o _ _ rfl) underlying39 rfl (by kernel_rfl) _ _ _ rfl rfl rfl) rfl ⟨U.o.1.past (Ih b.o _ _) (TJ b.o) (λk C=>by omega) HW.o (by decide) (by decide) (by decide) (by decide) (by decide) (by decide) (by decide) (by decide) (by decide) (by decide) (.inl (by decide)) (λ_ h=>h),_,x,rfl,by first|exact λ_=>rfl|exact Q.o.1,by first|exact λ_=>rfl|exact Q.o.2,zy U.o.2 (Ih b.o _ _) (by decide)⟩
def Rm (b:World)(g:Nat->Addr)(O A s:Nat->Prop)(k q u D B:Nat)(d:Dk)(c:Cl)(n:Nt)(i:Nat)(H:Nat)(w:World)(R:DW b)(K:vj b g)(G:F0 b)(h:Pv b w O A s k q D B c)(M:Sh b w O q u d n)(T:J3 w H k)(S:n.ai+20000<4611686018427387904){z:za}{t:Nat}(a:CI z c t)(X:t<=1000002)(J:∀e∈z,e.length<=20)(m:z.length<4^21)(f:Bb d.fs z c.size)(o:n.ao=[])(L:i<c.size){x:zb×za}(p:GQ (qr d.fs) Oq c n i=(.inr x,c',n')):
  Calls prog 100 #[yu H,.int .i64 i] w λr I=>CR b w I O A s k q u D B d c' n' (λ_=>True)/\∃C y,r=.returned (.tuple #[qy x.1,.bool C,y,GA (0,[])])/\(C=true->x.1=[])/\I.ownsRow w.heap.size 9 1 y x.2.length (x.2.map AL):=by
 have l:zc w (w.alloc IG):=zi _ _;have U:=zlm b g O A s k q u D B d c n i _ R K G (h.below l) (M.below l) S (by have:=a.le;omega) L (zfq J m f o a L) (by have:=a.len;omega) a.gd.wf (JT J a.le (qw a.le m) f).has o ⟨x,by rw[p]⟩;refine(Rl b g O A s k q u D B d c' n' H (i:Int) w x.1 x.2 (0,[]) false K M.base.size T (U.mono ?_)).mono ?_
 ·rintro r Z ⟨V,Y,y,e,j,W,v,E,F,P,Q,rfl⟩;rw[p]at e;cases e;exact⟨j,W,v,_,rfl,E,F,P,.inl ⟨rfl,rfl⟩,Q,λh=>by simp at h⟩
 ·rintro r I ⟨j,C,x,N,E,-,F⟩;exact⟨j,C,x,N,E,F⟩
def zdb (e:World)(a:Nat->Addr)(O A k:Nat->Prop)(f j l o m:Nat)(d:Dk)(c:Cl)(n:Nt)(i:Int)(q:Nat)(w:World)(t:vj e a)(h:Pv e w O A k f j o m c)(u:Sh e w O j l d n)(D:J3 w q f)(B:n.ai<4611686018427387904)(C:i<0\/(c.size:Int)<=i):
  Calls prog 100 #[yu q,.int .i64 i] w λr s=>CR e w s O A k f j l o m d c n (λ_=>True)/\∃x,r=.returned (.tuple #[qy [],.bool true,x,GA (2,[])])/\s.ownsRow w.heap.size 9 1 x 0 []:=by
 have g:zc w (w.alloc IG):=zi _ _;refine(Rl e a O A k f j l o m d c n q i w [] [] (2,[]) true t u.base.size D ((zil e a O A k f j l o m d c n i _ t (h.below g) (u.below g) B C).mono ?_)).mono ?_
 ·rintro r F ⟨b,rfl⟩;exact⟨b.bH,_,_,_,rfl,.inl ⟨rfl,rfl⟩,Te _ _,by simp,.inr (.inl ⟨rfl,rfl⟩),by simp,λ_=>rfl⟩
 ·rintro r s ⟨b,E,x,v,-,y,z⟩;have p:=y rfl;subst p;exact⟨b,x,v,z⟩
end
end Go.Proofs.YtfdbeldiomkdiaaGreatDoor
