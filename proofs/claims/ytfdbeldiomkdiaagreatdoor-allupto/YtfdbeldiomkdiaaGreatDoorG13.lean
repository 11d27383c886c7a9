import Derived.Test.YtfdbeldiomkdiaaGreatDoorG12
import Derived.Shelf.SlicesQ.Load
set_option maxHeartbeats 8000000
set_option maxRecDepth 100000
set_option linter.all false
namespace Go.Proofs.YtfdbeldiomkdiaaGreatDoor
open Go.RowKit Go.Proofs.Tryz
def yh:=@heap_setCell_other
def Dp:=@leaves_cons
def DJ:=@List.length_set
def El:=@World.ownsRow.alloc
def KP:=@enters_of
variable {B cap g:Nat}{O:Nat->Prop}{T:List Nat}{d:Dk}{fv v:Value}{l:zb}{t:TypeId}{w w' w1 w3:World}
def SG (a:Fs):∀(j:Nat) (h:j<a.length),(vt a)[j*2]?=some (qy a[j].1)/\(vt a)[j*2+1]?=some (qy a[j].2):=by
 induction a with
 |nil=>intro j h;simp at h
 |cons f r b =>
  intro j h;have e:vt (f::r)=qy f.1::qy f.2::vt r:=by simp[vt]
  cases j with
  |zero=>rw[e];exact⟨rfl,rfl⟩
  |succ j =>
   rw[e,show(j+1)*2=j*2+1+1 by omega];have:=b j (by simpa using h);simpa using this
def Yl (a:Fs):(vt a).length=a.length*2:=by
 induction a with
 |nil=>rfl
 |cons f r b=>simp[vt]at b ⊢;omega
def Qy:∀(a:Fs) (k:Nat)(p x:zb)(b:k<a.length) ,a[k].1=p->vt (a.set k (p,x))=(vt a).set (k*2+1) (qy x)
 |[],k,_,_,b,_=>by simp at b
 |f::r,0,p,x,_,e=>by
  obtain rfl:f.1=p:=by simpa using e
  simp[vt]
 |f::r,k+1,p,x,b,e=>by
  have h:=Qy r k p x (by simpa using b) (by simpa using e);rw[KU,show(k+1)*2+1=k*2+1+1+1 by omega];have c:∀l,vt (f::l)=qy f.1::qy f.2::vt l:=λl=>by simp[vt]
  rw[c,c,h]
  rfl
def Jp (a b:Fs):vt (a++b)=vt a++vt b:=by simp[vt]
def MX (w:World)(t:TypeId)(v:Value)(d:Fs):Prop:=∃a c,v=.slice a d.length c/\(d.length=0\/∃g,a=some ⟨g,0,none⟩/\∃b,w.heap[g]?=some (.cells b t (0,0))/\d.length<=c/\b.size=c*2/\∀j (h:j<d.length),b[j*2]?=some (qy d[j].1)/\b[j*2+1]?=some (qy d[j].2))
def Ir {a:Fs}(h:w.ownsRow B t 2 v a.length (vt a)):MX w t v a:=by
 rcases h.2 with ⟨rfl,h0⟩|⟨g,c,b,rfl,-,d,i,-,k,l⟩
 ·exact⟨none,0,by rw[h0],.inl h0⟩
 ·refine⟨_,_,rfl,.inr ⟨g,rfl,b,d,i,k,λj f=>?_⟩⟩;have e:=SG a j f;rw[<- l,qi,qi,if_pos (by omega),if_pos (by omega)]at e;simpa using e
def MX.below {d:Fs}(h:MX w t v d)(j:zc w w'):MX w' t v d:=by
 obtain⟨a,b,e,h|⟨g,i,c,f,r⟩⟩:=h
 ·exact⟨a,b,e,.inl h⟩
 ·exact⟨a,b,e,.inr ⟨g,i,c,by rw[j.block g (zg f)];exact f,r⟩⟩
def zh5 (q:zb)(B:Nat)(f:zb×zb)(w:World)(a:w.cell? ⟨B,0,none⟩=some (qy q)):
  Calls prog 178 #[.agg #[qy f.1,qy f.2],.pointer (some ⟨B,0,none⟩)] w λr e=>r=.returned (.bool (decide (f.1=q)))/\zc w e:=by
 have d:=yf a;unfold qy at *;have c:∀o,(w.alloc o).cell? ⟨B,0,none⟩=some (.string ⟨q.toArray⟩):=λo=>by rw[xg _ _ ⟨_,0,none⟩ d];exact a
 go_enter func178,ntmps178
 go_wp2
 go_ret;exact⟨congrArg (λb=>Ending.returned (.bool b)) (by show(f.1==q)=_;rw[CV];simp),(zu _ _).alloc (zk _) _⟩
def Ed (fs:Fs)(p:zb):Int:=match GC fs p with
 |some i=>i
 |none=>-1
def zb0 (q:zb)(B:Nat)(v:Value)(b:Fs)(w:World)(X:b.length<=1000000000)(h:MX w 125 v b)(J:w.cell? ⟨B,0,none⟩=some (qy q)):
  Calls prog 177 #[v,.func (.func 178) #[] #[.pointer (some ⟨B,0,none⟩)]] w λr I=>r=.returned (.int .i64 (Ed b q))/\zc w I:=by
 obtain⟨a,y,rfl,K⟩:=h;have P:=ze K;have x:=ze J;clear K J;have V:∀m w,(callFunc 178 m).run prog w=.ok (.enter 178 m) w:=KP func178 (by kernel_rfl) rfl;go_enter func177,ntmps177
 go_wp2
 go_loopw [5,8] (λ_ i wr=>∃k:Nat,k<=b.length/\i=.int .i64 k/\zc w wr/\∀j (t:j<b.length),j<k->b[j].1≠q) (λ_ i _=>b.length-(intOf i).toNat)
 case atStart=>exact⟨0,yk _,rfl,zu _ _,λj _ t=>absurd t (Am _)⟩
 case round =>
  obtain⟨k,W,rfl,z,C⟩:=hrel;have d:=ze z;have D:=ze C;clear z C
  by_cases A:k<b.length
  ·obtain⟨g,rfl,l,G,L,F,M⟩:∃g,a=some ⟨g,0,none⟩/\∃l,w.heap[g]?=some (.cells l 125 (0,0))/\b.length<=y/\l.size=y*2/\∀j (h:j<b.length),l[j*2]?=some (qy b[j].1)/\l[j*2+1]?=some (qy b[j].2):=by
    rcases P.o with h0|h0
    ·omega
    ·exact h0
   have s:wr.heap[g]?=some (.cells l 125 (0,0)):=by rw[d.o.block g (zg G)];exact G
   obtain⟨N,O⟩:=M k A;have T:wr.cell? ⟨g,k*2,none⟩=some (qy b[k].1):=by rw[xe _ _ _ _ _ _ s];exact N
   have U:wr.cell? ⟨g,k*2+1,none⟩=some (qy b[k].2):=by rw[xe _ _ _ _ _ _ s];exact O
   unfold qy at T U;have c:=zh5 q B b[k] wr (by rw[d.o.cell (p:=⟨B,0,none⟩) (yf x.o)];exact x.o);unfold qy at c;clear G s M F N O
   by_cases u:b[k].1=q
   ·have Q:Hid (GC b q=some k):=Ys A u (λj t=>D.o j (by omega) t);rw[show decide (b[k].1=q)=true by simp[u]]at c;clear u;generalize b[k]=f at *;go_wp2_with (go_at_fn 178;refine c.mono ?_;rintro e I ⟨rfl,n⟩);go_ret;exact⟨by unfold Ed;rw[Q.o];rfl,d.o.trans (n.mono d.o.size)⟩
   ·rw[show decide (b[k].1=q)=false by simp[u]]at c;have E:Hid (∀j (t:j<b.length),j<k+1->b[j].1≠q):=λj H S=>by
     rcases qf j k with h|h
     ·exact D.o j H h
     ·obtain rfl:j=k:=by omega
      exact u
    clear u D;generalize b[k]=f at *;go_wp2_with (go_at_fn 178;refine c.mono ?_;rintro e I ⟨rfl,n⟩)
    go_roundw
    case rel=>exact⟨k+1,by omega,by go_num,d.o.trans (n.mono d.o.size),E.o⟩
    case measure=>simp[intOf];omega
  ·go_wp2
   go_ret;refine⟨?_,d.o⟩;have:=Je (λf R=>by
    obtain⟨j,t,rfl⟩:=ji R;exact D.o j t (by omega))
   unfold Ed;rw[this]
   rfl
def Lq (O:Nat->Prop)(b:Nat)(d:Dk)(q:zb)(w:World)(p:d.fs.length<=1000000000)(h:ym w O b d):
  Calls prog 129 #[BD b,qy q] w λr i=>r=.returned (.int .i64 (Ed d.fs q))/\zc w i:=by
 obtain⟨f,s,g,n,t⟩:=h;obtain⟨l,f0⟩:=(GW g).1;have c:=zg g;have k:=ze (Ir n);unfold BD qy;have m:∀o,(w.alloc o).cell? ⟨b,0,none⟩=some f:=λo=>by rw[xg _ _ ⟨_,0,none⟩ c];exact l
 go_enter func129,ntmps129;go_wp2_with fail;refine(zb0 q w.heap.size f d.fs _ p (k.o.below (zi _ _)) (by simp[qy])).mono ?_;rintro e i ⟨rfl,a⟩;have j:=ze ((zi w _).trans (a.mono (by simp)))
 go_wp2
 go_ret;exact⟨rfl,j.o⟩
def Bq (w:World)(v:Value)(l:zb):Prop:=∃g a C b,v=.slice (some ⟨g,0,none⟩) l.length a/\l.length<=a/\w.heap[g]?=some (.cells C 5 b)/\∀i (c:i<l.length),C[i]?=some (bv l[i])
def Bq.aj (h:Bq w v l)(j:zl O T w w')(c:5∉T):Bq w' v l:=by
 obtain⟨g,a,C,b,e,i,f,d⟩:=h;exact⟨g,a,C,b,e,i,j.keep f c,d⟩
def Bq.below (h:Bq w v l)(a:zc w w'):Bq w' v l:=h.aj (O:=λ_=>False) (T:=[]) (.aa a) (by simp)
def Bq.conv (h:Bq w v l):(convert 94 9 v).run prog w=.ok (.string ⟨l.toArray⟩) w:=by
 obtain⟨g,a,C,e,rfl,-,c,b⟩:=h;refine BB w _ _ 5 ⟨g,0,none⟩ a l underlying94 jc xt (λj d=>?_);rw[vp,xk,xe _ _ _ _ _ _ c];exact b j d
def Q8:(prog.info? 125).map (λi=>(i.zero,i.size,i.bytes))=some (some (.agg #[.string ⟨#[]⟩,.string ⟨#[]⟩]),2,32):=by kernel_rfl
def zac {b:Nat}{p x:zb}{o:Obj}(v:zl O [] w w1)(l:O b)(r:∀g,fv.ownBlock=some g->O g)(u:w1.ownsRow 0 125 2 fv d.fs.length (vt d.fs))(t:GC d.fs p=none)
 (c:w3.ownsRow 0 125 2 (.slice (some ⟨g,0,none⟩) (d.fs.length+1) cap) (d.fs.length+1) (vt d.fs++[.string ⟨p.toArray⟩,.string ⟨x.toArray⟩])) (j:(w1.alloc o).drew.grownBy w3 fv.ownBlock) (i:fv.ownBlock=some g\/g=w1.heap.size+1) (a:w3.heap[b]?=some (.cells (FY fv d) 144 (0,0))) :
  Ending.returned (.tuple #[])=.returned (.tuple #[])/\zl O dT w (w3.setCell ⟨b,0,none⟩ (.slice (some ⟨g,0,none⟩) (d.fs.length+1) cap))/\ym (w3.setCell ⟨b,0,none⟩ (.slice (some ⟨g,0,none⟩) (d.fs.length+1) cap)) (qv O w (w3.setCell ⟨b,0,none⟩ (.slice (some ⟨g,0,none⟩) (d.fs.length+1) cap))) b {d with fs:=DG d.fs p x}:=by
 have t0:zl O dT w w1:=v.mono (λ_ h=>h) (by simp);have t1:=(t0.alloc o).drew;have m:=El (w:=w1) u o;have t2:=t1.grown m j (λk n=>.inl (r k n)) (by decide);have t3:=t2.set (o:=0) (.inl l) a (by decide) (.slice (some ⟨g,0,none⟩) (d.fs.length+1) cap);have f:DG d.fs p x=d.fs++[(p,x)]:=by unfold DG;rw[t]
 have A:g<w3.heap.size:=by
  rcases c.2 with ⟨e,-⟩|⟨k,s,y,e,-,z,-⟩
  ·simp at e
  ·simp at e;rw[e.1];exact zg z
 have q:(w3.setCell ⟨b,0,none⟩ (.slice (some ⟨g,0,none⟩) (d.fs.length+1) cap)).heap.size=w3.heap.size:=by simp[World.setCell]
 have tb:zl O Oi w3 (w3.setCell ⟨b,0,none⟩ (.slice (some ⟨g,0,none⟩) (d.fs.length+1) cap)):=(zl.refl O Oi w3).set (.inl l) a (by decide) _;refine⟨rfl,t3,.slice (some ⟨g,0,none⟩) (d.fs.length+1) cap,.inl l,Aw a 0 _,?_,λk e=>?_⟩
 ·show World.ownsRow _ 0 125 2 _ (DG d.fs p x).length (vt (DG d.fs p x));rw[f,Jp,zw];exact zy c tb (by decide)
 ·simp only[Value.ownBlock,zn]at e;subst e;rcases i with h|h
  ·exact .inl (r _ h)
  ·have:=t0.size;exact .inr (by rw[q];omega)
def Mg (O:Nat->Prop)(b:Nat)(d:Dk)(p x:zb)(v:Value)(w:World)(hn:d.fs.length<=1000000000)(h:ym w O b d)(hv:Bq w v x):
  Calls prog 324 #[BD b,qy p,v] w λr w'=>r=.returned (.tuple #[])/\zl O dT w w'/\ym w' (qv O w w') b {d with fs:=DG d.fs p x}:=by
 have L:=ze h;have HV:=ze hv;unfold BD qy;go_enter func324,ntmps324;go_wp2_with fail;refine(Lq O b d p w hn L.o).mono ?_;rintro e a ⟨rfl,D⟩;have S:Hid (zl O [] w a):=.aa D;have q:=ze (L.o.stay S.o (by decide) (by decide));have t:=ze (HV.o.below D);cases e:GC d.fs p with
 |some k =>
  have H:Ed d.fs p=k:=by unfold Ed;rw[e]
  rw[H];obtain⟨hk,Y,-⟩:=Bn e;obtain⟨z,U,j,A,l⟩:=q.o;obtain⟨c0,f0⟩:=(GW j).1;have W:=Bq.conv (w:=a.drew) t.o;rcases A.2 with ⟨rfl,h0⟩|⟨g,C,y,rfl,-,c,Z,hm,hs,ht⟩
  ·omega
  have c1:∃u,a.cell? ⟨g,k*2+1,none⟩=some u:=by
   rw[xe _ _ _ _ _ _ c];exact⟨y[k*2+1]'(by omega),by simp⟩
  have f1:a.frozen? ⟨g,k*2+1,none⟩=false:=by simp[World.frozen?,c]
  obtain⟨u,c1⟩:=c1;have G:=ze l;have s:=ze c;have J:=ze j;have HS:=ze (And.intro hs ht);have HF:=ze A;have M:=ze e;have HK:=ze Y
  go_wp2
  go_region
  go_end0
  have t1:zl O dT w (a.setCell ⟨g,k*2+1,none⟩ (.string ⟨x.toArray⟩)):=(S.o.mono (T':=dT) (λ_ h=>h) (by simp)).set (.inl (G.o g rfl)) s.o (by decide) _;have ab:b≠g:=λe=>by
   have h1:=J.o;rw[e,s.o]at h1;simp at h1
  refine⟨rfl,t1.drew,_,.inl U,?_,?_,λg' e=>.inl (G.o g' e)⟩
  ·show(a.setCell ⟨g,k*2+1,none⟩ (.string ⟨x.toArray⟩)).heap[b]?=_;rw[yh _ _ _ _ (by simpa using ab)];exact J.o
  ·have n:DG d.fs p x=d.fs.set k (p,x):=by unfold DG;rw[M.o]
   have m:(DG d.fs p x).length=d.fs.length:=by rw[n,DJ]
   show World.ownsRow _ 0 125 2 _ (DG d.fs p x).length (vt (DG d.fs p x));rw[m];refine⟨by rw[Yl,m],.inr ⟨g,C,_,rfl,yk _,Mz a g (k*2+1) y _ _ s.o,Z,hm,by rw[Array.size_setIfInBounds];exact HS.o.1,?_⟩⟩;rw[n,Qy d.fs k p x hk HK.o,<- HS.o.2,Array.toList_setIfInBounds,List.take_set]
   rfl
 |none =>
  have H:Ed d.fs p=-1:=by unfold Ed;rw[e]
  rw[H];obtain⟨i,hi,X⟩:=zx.1 Q8;obtain⟨ad,ae,af⟩:i.zero=some (.agg #[.string ⟨#[]⟩,.string ⟨#[]⟩])/\i.size=2/\i.bytes=32:=by simpa using X
  have HI:=ze hi;have T:=ze (And.intro ad (And.intro ae af));obtain⟨z,U,j,A,l⟩:=q.o;obtain⟨c0,f0⟩:=(GW j).1;have W:=Bq.conv (w:=a.drew) t.o;have G:=ze l;have J:=ze j;have HF:=ze A;have M:=ze e;have N:Hid (∀o,(a.alloc o).drew.ownsRow 0 125 2 z d.fs.length (vt d.fs)):=λo=>El (w:=a) A o;have B:Hid (∀o,(a.alloc o).drew.heap[b]?=some (.cells (FY z d) 144 (0,0))):=λo=>zr (w:=a) j;have ai:∀o,(a.alloc o).cell? ⟨b,0,none⟩=some z:=λo=>by rw[xg _ _ ⟨_,0,none⟩ (zg j)];exact c0
  have Q:Hid (∀g,z.ownBlock=some g->b≠g):=λg l e=>by
   rcases A.2 with ⟨rfl,-⟩|⟨g',C,y,rfl,-,c,-⟩
   ·simp[Value.ownBlock]at l
   ·simp only[Value.ownBlock,zn]at l;subst l;rw[e,c]at j;simp at j
  clear l j A e H HV t L q
  go_wp2
  go_region_law (refine AZ _ (by rfl) _ _ _ (by rfl) 0 125 i (.agg #[.string ⟨#[]⟩,.string ⟨#[]⟩]) 2 32 underlying23 HI.o T.o.1 T.o.2.1 T.o.2.2 rfl (by omega) z d.fs.length (vt d.fs) (by rfl) (N.o _) ⟨a.heap.size,0,none⟩ 1 1 [.string ⟨p.toArray⟩,.string ⟨x.toArray⟩] (by rfl) rfl (xm (zf _ _)) (by simp[Value.oneCell']) (by omega) (by unfold maxLen;omega) (by omega) (by omega) (a.heap.size+1) (by simp) ?_;intro g ag w3 F f V ah;have E:w3.heap[b]?=some (.cells (FY z d) 144 (0,0)):=(by rw[f.block b (zg (B.o _)) (λe=>Q.o b e.symm rfl)];exact B.o _);obtain⟨c3,f3⟩:=(GW E).1;have R:=ze F;have P:=ze f;have I:=ze V;have K:=ze E)
  all_goals go_end0
  all_goals exact zac S.o U G.o HF.o M.o R.o P.o I.o K.o
def Eh (g:Nat):Value:=.iface 177 (.pointer (some ⟨g,0,none⟩))
def PZ (w:World)(g:Nat):Prop:=∃c,w.heap[g]?=some (.cells #[.int .i64 c] 430 (0,0))
def FU (e:Bool)(B:Nat)(r:Value)(w:World):Prop:=(e=false/\r=.nilIface)\/(e=true/\∃g,r=Eh g/\B<=g/\PZ w g)
def Kc (w:World)(n:Nat):zc w (w.drewN n):=⟨rfl,rfl,rfl,zk _,λ_ _=>rfl⟩
def Ki {b:Nat}(h:ym w' (qv O w w') b d)(o:Obj):ym (w'.alloc o) (qv O w (w'.alloc o)) b d:=
 (h.stay (T:=[]) (O1:=λ_=>False) (.aa (zi w' o)) (by simp) (by simp)).mono (qv.more (by simp))
def Bq.bX {n:Nat}{a:Addr}(h:EB w B (.slice (some a) n cap) l)(j:l.length<=cap):Bq w (.slice (some a) n cap) l:=by
 obtain⟨g,b,C,c,e,-,d,f,-⟩:=h;have i:cap=b:=by simp at e;exact e.2.2
 exact⟨g,b,C,c,e,by omega,d,f⟩
def Nf (w:World)(y:zb)(a:Nat)(b:y.length<=a):Bq (w.alloc (.cells (bytesRow ⟨y.toArray⟩ a) 5 ((bytesRow ⟨y.toArray⟩ a).size,(bytesRow ⟨y.toArray⟩ a).size+1))) (.slice (some ⟨w.heap.size,0,none⟩) y.length a) y:=by
 have h:=EB.conv w ⟨y.toArray⟩ 0 a (yk _);simp only at h;exact Bq.bX h b
def zl.bj (h:zl O Oi w w'):zl O dT w w':=h.mono (λ_ h=>h) (λt a=>by simp at a;simp[a])
def zle (O:Nat->Prop)(b:Nat)(d:Dk)(p x:zb)(v:Value)(w:World)(U:d.fs.length<=1000000000)(h:ym w O b d)(hv:Bq w v x):
  Calls prog 321 #[BD b,qy p,v] w λr X=>∃e,r=.returned e/\FU (Mo d p x) w.heap.size e X/\zl O dT w X/\ym X (qv O w X) b (E0 d p x):=by
 have HV:=ze hv;have HD:=ze h;clear h hv;unfold BD;have V:∀q,qy q=.string ⟨q.toArray⟩:=λ_=>rfl;rw[V];go_enter func321,ntmps321;go_wp2_with fail;refine(Ol O b d w HD.o).mono ?_;rintro e w1 ⟨rfl,t1,d1⟩;have K:=je d;go_wp2_with fail;refine(Lq O b (qu d) p w1 (by rw[K];exact U) d1).mono ?_;rintro e s ⟨rfl,E⟩;rw[K];have N:=ze (t1.ah E);have A:=ze (d1.stay (O1:=λ_=>False) (T:=[]) (.aa E) (by simp) (by simp));have B:=ze ((HV.o.aj t1 (by decide)).below E);have Q:∀n,(convert 94 9 v).run prog (s.drewN n)=.ok (.string ⟨x.toArray⟩) (s.drewN n):=λn=>Bq.conv (w:=s.drewN n) B.o;have HK:=ze (LY d);clear t1 d1 E HV HD V K;cases e:GC d.fs p with
 |some k =>
  have R:Ed d.fs p=k:=by unfold Ed;rw[e]
  rw[R];obtain⟨F,ad,G,-⟩:=Bn e;obtain⟨fv,Y,Z,hf,hg⟩:=A.o;obtain⟨⟨c0,f0⟩,⟨c1,f1⟩,-,-,-,-,-,⟨c7,f7⟩⟩:=GW Z;rcases Ir hf with ⟨a,ae,rfl,h0|⟨g,rfl,af,S,P,ab,hx⟩⟩
  ·rw[je]at h0;omega
  rw[je]at c0 P;have y1:s.cell? ⟨g,k*2+1,none⟩=some (.string ⟨d.fs[k].2.toArray⟩):=by
   rw[xe _ _ _ _ _ _ S];have:=(hx k (by rw[je];exact F)).2;simp only[je]at this;exact this
  have W:=ze Z;have HF:=ze hf;have HG:=ze hg;clear hx S Z hf hg e R ad ab
  by_cases z:d.fs[k].2=x
  ·have t:Hid (Mo d p x=decide (0<A2 d)/\E0 d p x=if A2 d<2 then {qu d with fs:=DG d.fs p x} else qu d):=by
    unfold Mo E0;rw[G];simp only[if_pos z];exact⟨trivial,trivial⟩
   have q1:(d.fs[k].2==x)=true:=by simp[z]
   clear z G W HF HG;generalize d.fs[k].2=y at *
   go_wp2
   go_quiet (fail)
   have u:Hid (ym (s.drewN nq) O b (qu d)):=A.o.stay (O1:=λ_=>False) (T:=[]) (.aa (Kc _ _)) (by simp) (by simp);have C:Hid (Bq (s.drewN nq) v x):=B.o.below (Kc _ _);have i:=ze ((N.o.drewN nq).bj);clear A B N Q c0 f0 c1 f1 c7 f7 y1;have D:A2 d=0\/A2 d=1\/A2 d=2:=by have:=HK.o;omega
   generalize s.drewN nq=H at *;rcases D with j|j|j
   ·rw[j];have f:=ze j;clear j;go_wp2_with fail;refine(Mg O b (qu d) p x v H (by rw[je];exact U) u.o C.o).mono ?_;rintro e L ⟨rfl,t4,d4⟩;have m:=ze (i.o.trans (t4.mono (λ_ h=>.inl h) (λ_ h=>h)));have c:=ze (d4.mono (O':=qv O w L) (λk F=>by rcases F with h|h;exact .inl h;exact .inr ⟨by have:=i.o.size;omega,h.2⟩));clear t4 d4
    go_wp2
    go_ret;refine⟨_,rfl,.inl ⟨by rw[t.out.1,f.o];rfl,rfl⟩,m.o,?_⟩;rw[t.out.2,f.o,if_pos (by omega)];rw[je]at c;exact c.o
   ·rw[j];have f:=ze j;clear j;go_wp2_with fail;refine(Mg O b (qu d) p x v H (by rw[je];exact U) u.o C.o).mono ?_;rintro e L ⟨rfl,t4,d4⟩;have m:=ze (i.o.trans (t4.mono (λ_ h=>.inl h) (λ_ h=>h)));have c:=ze (d4.mono (O':=qv O w L) (λk F=>by rcases F with h|h;exact .inl h;exact .inr ⟨by have:=i.o.size;omega,h.2⟩));clear t4 d4;obtain⟨I,J,l,-,-⟩:=c.o;obtain⟨-,⟨z1,M⟩,-⟩:=GW l;clear l
    go_wp2
    go_ret;refine⟨_,rfl,.inr ⟨by rw[t.out.1,f.o];rfl,_,rfl,m.o.size,_,zf _ _⟩,m.o.alloc _,?_⟩;rw[t.out.2,f.o,if_pos (by omega)];rw[je]at c;exact Ki c.o _
   ·rw[j];have f:=ze j;clear j;have c:Hid (ym H (qv O w H) b (qu d)):=u.o.mono (λ_ h=>.inl h);obtain⟨I,J,l,-,-⟩:=c.o;obtain⟨-,⟨z1,M⟩,-⟩:=GW l;clear l
    go_wp2
    go_ret;refine⟨_,rfl,.inr ⟨by rw[t.out.1,f.o];rfl,_,rfl,i.o.size,_,zf _ _⟩,i.o.alloc _,?_⟩;rw[t.out.2,f.o,if_neg (by omega)];exact Ki c.o _
  ·have t:Hid (Mo d p x=true/\E0 d p x={qu d with au:=true}):=by
    unfold Mo E0;rw[G];simp only[if_neg z];exact⟨trivial,trivial⟩
   have q1:(d.fs[k].2==x)=false:=by simp[z]
   clear z G;generalize d.fs[k].2=y at *
   go_wp2
   go_quiet (fail)
   go_wp2
   go_ret;have t2:=((N.o.drewN nq).set (o:=7) (.inl Y) (show(s.drewN nq).heap[b]?=_ from W.o) (by decide) (.bool true));have h2:=Aw (show(s.drewN nq).heap[b]?=_ from W.o) 7 (.bool true);have d2:ym ((s.drewN nq).setCell ⟨b,7,none⟩ (.bool true)) (qv O w ((s.drewN nq).setCell ⟨b,7,none⟩ (.bool true))) b {qu d with au:=true}:=
    ym.aj (w:=s) (d:=qu d) (λ_ h=>.inl h) Y HF.o HG.o ((zl.refl O Oi s).drewN nq |>.set (.inl Y) (show(s.drewN nq).heap[b]?=_ from W.o) (by decide) _) h2 rfl
   refine⟨_,rfl,?_,(t2.alloc _).bj,?_⟩
   ·rw[t.out.1];refine .inr ⟨rfl,_,rfl,N.o.size,(qu d).calls,?_⟩;rw[show s.heap.size=((s.drewN nq).setCell ⟨b,7,none⟩ (.bool true)).heap.size by simp[World.setCell,World.drewN]];exact zf _ _
   ·rw[t.out.2];exact Ki d2 _
 |none =>
  have R:Ed d.fs p=-1:=by unfold Ed;rw[e]
  rw[R];have t:Hid (Mo d p x=decide (0<A2 d)/\E0 d p x=if A2 d<2 then {qu d with fs:=DG d.fs p x} else qu d):=by
   unfold Mo E0;rw[(Bm e).1];exact⟨rfl,rfl⟩
  clear e R
  go_wp2
  go_quiet (fail)
  have u:Hid (ym (s.drewN nq) O b (qu d)):=A.o.stay (O1:=λ_=>False) (T:=[]) (.aa (Kc _ _)) (by simp) (by simp);have C:Hid (Bq (s.drewN nq) v x):=B.o.below (Kc _ _);have i:=ze ((N.o.drewN nq).bj);clear A B N Q;have D:A2 d=0\/A2 d=1\/A2 d=2:=by have:=HK.o;omega
  generalize s.drewN nq=H at *;rcases D with j|j|j
  ·rw[j];have f:=ze j;clear j;go_wp2_with fail;refine(Mg O b (qu d) p x v H (by rw[je];exact U) u.o C.o).mono ?_;rintro e L ⟨rfl,t4,d4⟩;have m:=ze (i.o.trans (t4.mono (λ_ h=>.inl h) (λ_ h=>h)));have c:=ze (d4.mono (O':=qv O w L) (λk F=>by rcases F with h|h;exact .inl h;exact .inr ⟨by have:=i.o.size;omega,h.2⟩));clear t4 d4
   go_wp2
   go_ret;refine⟨_,rfl,.inl ⟨by rw[t.out.1,f.o];rfl,rfl⟩,m.o,?_⟩;rw[t.out.2,f.o,if_pos (by omega)];rw[je]at c;exact c.o
  ·rw[j];have f:=ze j;clear j;go_wp2_with fail;refine(Mg O b (qu d) p x v H (by rw[je];exact U) u.o C.o).mono ?_;rintro e L ⟨rfl,t4,d4⟩;have m:=ze (i.o.trans (t4.mono (λ_ h=>.inl h) (λ_ h=>h)));have c:=ze (d4.mono (O':=qv O w L) (λk F=>by rcases F with h|h;exact .inl h;exact .inr ⟨by have:=i.o.size;omega,h.2⟩));clear t4 d4;obtain⟨I,J,l,-,-⟩:=c.o;obtain⟨-,⟨z1,M⟩,-⟩:=GW l;clear l
   go_wp2
   go_ret;refine⟨_,rfl,.inr ⟨by rw[t.out.1,f.o];rfl,_,rfl,m.o.size,_,zf _ _⟩,m.o.alloc _,?_⟩;rw[t.out.2,f.o,if_pos (by omega)];rw[je]at c;exact Ki c.o _
  ·rw[j];have f:=ze j;clear j;have c:Hid (ym H (qv O w H) b (qu d)):=u.o.mono (λ_ h=>.inl h);obtain⟨I,J,l,-,-⟩:=c.o;obtain⟨-,⟨z1,M⟩,-⟩:=GW l;clear l
   go_wp2
   go_ret;refine⟨_,rfl,.inr ⟨by rw[t.out.1,f.o];rfl,_,rfl,i.o.size,_,zf _ _⟩,i.o.alloc _,?_⟩;rw[t.out.2,f.o,if_neg (by omega)];exact Ki c.o _
def zi5 (O:Nat->Prop)(b:Nat)(d:Dk)(p x:zb)(v:Value)(w:World)(E:d.fs.length<=1000000000)(h:ym w O b d)(hv:Bq w v x):
  Calls prog 322 #[BD b,qy p,v] w λr t=>∃e,r=.returned e/\FU (Jy d) w.heap.size e t/\zl O dT w t/\ym t (qv O w t) b (GR d p x):=by
 have H:=ze hv;have F:=ze h;unfold BD;have B:∀q,qy q=.string ⟨q.toArray⟩:=λ_=>rfl;rw[B];go_enter func322,ntmps322;go_wp2_with fail;refine(Ol O b d w F.o).mono ?_;rintro e u ⟨rfl,t1,d1⟩;have f:=ze t1.bj;have j:=ze d1;have n:=ze (H.o.aj t1 (by decide));have G:=ze (LY d);have m:Hid (Jy d=decide (0<A2 d)/\GR d p x=if A2 d<2 then {qu d with fs:=DG d.fs p x} else qu d):=⟨rfl,rfl⟩;have s:A2 d=0\/A2 d=1\/A2 d=2:=by have:=G.o;omega
 rcases s with i|i|i
 ·rw[i];have c:=ze i;go_wp2_with fail;refine(Mg O b (qu d) p x v u (by rw[je];exact E) j.o n.o).mono ?_;rintro e C ⟨rfl,t4,d4⟩;have g:=ze (f.o.trans (t4.mono (λ_ h=>.inl h) (λ_ h=>h)));have a:=ze (d4.mono (O':=qv O w C) (λk A=>by rcases A with h|h;exact .inl h;exact .inr ⟨by have:=f.o.size;omega,h.2⟩))
  go_wp2
  go_ret;refine⟨_,rfl,.inl ⟨by rw[m.out.1,c.o];rfl,rfl⟩,g.o,?_⟩;rw[m.out.2,c.o,if_pos (by omega)];rw[je]at a;exact a.o
 ·rw[i];have c:=ze i;go_wp2_with fail;refine(Mg O b (qu d) p x v u (by rw[je];exact E) j.o n.o).mono ?_;rintro e C ⟨rfl,t4,d4⟩;have g:=ze (f.o.trans (t4.mono (λ_ h=>.inl h) (λ_ h=>h)));have a:=ze (d4.mono (O':=qv O w C) (λk A=>by rcases A with h|h;exact .inl h;exact .inr ⟨by have:=f.o.size;omega,h.2⟩));obtain⟨y,z,l,-,-⟩:=a.o;obtain⟨-,⟨I,D⟩,-⟩:=GW l
  go_wp2
  go_ret;refine⟨_,rfl,.inr ⟨by rw[m.out.1,c.o];rfl,_,rfl,g.o.size,_,zf _ _⟩,g.o.alloc _,?_⟩;rw[m.out.2,c.o,if_pos (by omega)];rw[je]at a;exact Ki a.o _
 ·rw[i];have c:=ze i;have a:Hid (ym u (qv O w u) b (qu d)):=j.o.mono (λ_ h=>.inl h);obtain⟨y,z,l,-,-⟩:=a.o;obtain⟨-,⟨I,D⟩,-⟩:=GW l
  go_wp2
  go_ret;refine⟨_,rfl,.inr ⟨by rw[m.out.1,c.o];rfl,_,rfl,f.o.size,_,zf _ _⟩,f.o.alloc _,?_⟩;rw[m.out.2,c.o,if_neg (by omega)];exact Ki a.o _
def zkk (O:Nat->Prop)(b:Nat)(d:Dk)(p:zb)(w:World)(hn:d.fs.length<=1000000000)(Z:∀f∈d.fs,f.2.length<=1000000000)(h:ym w O b d):
  Calls prog 320 #[BD b,qy p] w λr u=>∃v e,r=.returned (.tuple #[v,e])/\FU (Jy d) w.heap.size e u/\zl O Oi w u/\ym u O b (qu d) /\
   ((Jy d=false/\∃x,xr d.fs p=some x/\Bq u v x)\/((Jy d=true\/xr d.fs p=none)/\v=.slice none 0 0)):=by
 have J:=ze h;have K:=ze Z;unfold BD;have F:∀q,qy q=.string ⟨q.toArray⟩:=λ_=>rfl;rw[F];go_enter func320,ntmps320;go_wp2_with fail;refine(Ol O b d w J.o).mono ?_;rintro e I ⟨rfl,t1,d1⟩;have A:=ze t1;have c:=ze d1;have R:=LY d
 by_cases G:0<A2 d
 ·have l:Hid (Jy d=true):=by show decide _=true;simpa using G
  obtain⟨Q,S,B,-,-⟩:=c.o;obtain⟨-,⟨z1,ad⟩,-⟩:=GW B
  go_wp2
  go_region
  all_goals go_wp2
  all_goals go_ret2
  all_goals refine⟨_,_,rfl,.inr ⟨l.o,_,rfl,A.o.size,_,zf _ _⟩,(A.o.alloc _).drew,c.o.stay (O1:=λ_=>False) (T:=[]) ((zl.refl _ _ I).alloc _).drew (by simp) (by simp),.inr ⟨.inl l.o,rfl⟩⟩
 ·have l:Hid (Jy d=false):=by show decide _=false;simpa using G
  have t:=je d;go_wp2_with fail;refine(Lq O b (qu d) p I (by rw[t];exact hn) c.o).mono ?_;rintro e z ⟨rfl,n⟩;rw[t];have m:=ze (A.o.ah n);have i:=ze (c.o.stay (O1:=λ_=>False) (T:=[]) (.aa n) (by simp) (by simp));cases e:GC d.fs p with
  |some k =>
   have C:Ed d.fs p=k:=by unfold Ed;rw[e]
   rw[C];obtain⟨H,Y,E,-⟩:=Bn e;obtain⟨fv,hO,U,X,hg⟩:=i.o;obtain⟨⟨L,f0⟩,-⟩:=GW U;rcases Ir X with ⟨a,M,rfl,h0|⟨g,rfl,N,D,s,V,hx⟩⟩
   ·rw[je]at h0;omega
   rw[je]at L s;have y1:z.cell? ⟨g,k*2+1,none⟩=some (.string ⟨d.fs[k].2.toArray⟩):=by
    rw[xe _ _ _ _ _ _ D];have:=(hx k (by rw[je];exact H)).2;simp only[je]at this;exact this
   have ab:=K.o _ (ye H);have j:=ze E;generalize d.fs[k].2=y at *;have W:=λw0=>AI (P:=prog) w0 9 94 5 ⟨y.toArray⟩ xt underlying94 jc
   go_wp2
   go_ret2
   have hq:=Nf z y (grownCap z y.length 0 5) (My _ _ _ _);exact⟨_,_,rfl,.inl ⟨l.o,rfl⟩,(m.o.alloc _).drew,i.o.stay (O1:=λ_=>False) (T:=[]) ((zl.refl _ _ z).alloc _).drew (by simp) (by simp),.inl ⟨l.o,y,j.o,hq⟩⟩
  |none =>
   have C:Ed d.fs p=-1:=by unfold Ed;rw[e]
   rw[C];have j:=ze (Bm e).1
   go_wp2
   go_ret2
   exact⟨_,_,rfl,.inl ⟨l.o,rfl⟩,m.o,i.o,.inr ⟨.inr j.o,rfl⟩⟩
def Qn (p:Addr)(w:World):
  CallsD prog 252 #[.pointer (some p)] .returning w λe b c=>e=.returned (.tuple #[])/\b=.returning/\c=w:=by
 refine callsD_of_wpS func252 rfl λc₀ d a=>?_;apply wpS_seq;apply wpS_region;simp[wpOpsS,go_sem,recoverD,a,ntmps252,Exit.thenS];refine wpS_cond (t:=false) (by simp[Act.eval,Array.replicate]) ?_;simp only[vz,CM];refine wpS_of_wp (wp_skip ?_);cases c₀
 simp_all[bodyPostS,results,results252]
def DT (g:Nat):Value:=.iface 178 (.pointer (some ⟨g,0,none⟩))
def TX (c:zb)(g:Nat)(s:Array Value)(w:World)(Q:Value->World->Prop)(C:∀b w,(callFunc g b).run prog w=.ok (.enter g b) w)
 (d:Calls prog g s (w.alloc (.cells #[.nilIface] 100)) λr a=>∃e,r=.returned e/\Q e a)
 (x:∀e a,Q e a->(e=.nilIface\/∃g,e=Eh g)/\a.heap[w.heap.size]?=some (.cells #[.nilIface] 100 (0,0))) :
  Calls prog 212 #[qy c,.func (.func g) #[] s] w λr t=>∃e a,Q e a /\
   ((e=.nilIface/\r=.returned .nilIface/\t=a.setCell ⟨w.heap.size,0,none⟩ .nilIface) \/
    ((∃g,e=Eh g)/\r=.returned (DT a.heap.size)/\t=(a.alloc (.cells #[qy c,e] 180)).setCell ⟨w.heap.size,0,none⟩ (DT a.heap.size))):=by
 have A:∀(n:Fn) (first i:Array Value) (w:World),(Instr.makeFunc n first i).run prog w=.ok (.func n first i) w:=λ_ _ _ _=>rfl;have v:=ze x;have u:=ze d;unfold qy DT
 go_enter_defers func212,ntmps212
 go_wp2_with fail;refine u.o.mono ?_;rintro r k ⟨e,rfl,q⟩;obtain⟨z,j⟩:=v.o _ _ q;obtain⟨D,F⟩:=zm j 0 _ rfl;have E:∀o,(k.alloc o).cell? ⟨w.heap.size,0,none⟩=some .nilIface:=λo=>(zm (zr (o:=o) j) 0 _ rfl).1;have G:∀o,(k.alloc o).frozen? ⟨w.heap.size,0,none⟩=false:=λo=>(zm (zr (o:=o) j) 0 .nilIface rfl).2;have h:=ze j;have m:=ze q;rcases z with rfl|⟨p,rfl⟩
 ·go_wp2_with fail;refine Dp (f:=252) (args:=#[.pointer (some ⟨w.heap.size,0,none⟩)]) (by simp) (by simp[go_sem]) ?_;refine(Qn ⟨w.heap.size,0,none⟩ _).mono ?_;rintro e B l ⟨rfl,rfl,rfl⟩;simp[Leaves,settle,results,results212,go_sem];have y:=(zm (Aw h.o 0 .nilIface) 0 _ rfl).1;rw[y];exact⟨_,rfl,.nilIface,k,m.o,.inl ⟨rfl,rfl,rfl⟩⟩
 ·unfold Eh;go_wp2_with fail;refine Dp (f:=252) (args:=#[.pointer (some ⟨w.heap.size,0,none⟩)]) (by simp) (by simp[go_sem]) ?_;refine(Qn ⟨w.heap.size,0,none⟩ _).mono ?_;rintro e B l ⟨rfl,rfl,rfl⟩;simp[Leaves,settle,results,results212,go_sem];rw[(zm (Aw (zr h.o) 0 _) 0 _ rfl).1];exact⟨_,rfl,Eh p,k,m.o,.inr ⟨⟨p,rfl⟩,rfl,rfl⟩⟩
variable {k:Nat}{u:Value}
structure Lg where
 key:zb
 es:za
 put:Nat
 live:Bool
def UN (b:Nat)(a:Bool):Value:=if a then .iface 73 (BD b) else .nilIface
def Ge (a:Nat)(b:Value)(l:Lg):Array Value:=#[UN a l.live,qy l.key,b,.int .i64 l.put]
def Ak (w:World)(O:Nat->Prop)(c b:Nat)(l:Lg):Prop:=
 ∃a,O b/\w.heap[b]?=some (.cells (Ge c a l) 200 (0,0))/\KB w 0 a l.es/\∀g,a.ownBlock=some g->O g
def JE {p:zb}(h:(Jy d=false/\∃x,xr d.fs p=some x/\Bq w v x)\/((Jy d=true\/xr d.fs p=none)/\v=.slice none 0 0)):∃a n c,v=.slice a n c:=by
 rcases h with ⟨-,x,-,g,b,C,e,rfl,-⟩|⟨-,rfl⟩
 ·exact⟨_,_,_,rfl⟩
 ·exact⟨_,_,_,rfl⟩
def zhd (n:Nat)(v:Value)(w:World):(method (n+1) 73 v "Get").run prog w=.ok (320,v) w:=by kernel_rfl
def zhe (n:Nat)(v:Value)(w:World):(method (n+1) 73 v "Put").run prog w=.ok (321,v) w:=by kernel_rfl
def zch (n:Nat)(v:Value)(w:World):(method (n+1) 73 v "Swap").run prog w=.ok (322,v) w:=by kernel_rfl
def zgh (O:Nat->Prop)(j y m q i:Nat)(d:Dk)(p:zb)(u:Value)(w:World)(I:d.fs.length<=1000000000)(H:∀f∈d.fs,f.2.length<=1000000000)(h:ym w O j d)
 (M:w.cell? ⟨m,0,none⟩=some (.pointer (some ⟨y,0,none⟩))) (F:w.cell? ⟨q,0,none⟩=some (qy p)) (s:w.heap[i]?=some (.cells #[u] 94 (0,0))) (b:w.cell? ⟨y,0,none⟩=some (UN j true)) :
  Calls prog 213 #[.pointer (some ⟨m,0,none⟩),.pointer (some ⟨q,0,none⟩),.pointer (some ⟨i,0,none⟩)] w λr L=>∃v e g,r=.returned e/\L=g.setCell ⟨i,0,none⟩ v/\FU (Jy d) w.heap.size e g/\zl O Oi w g/\ym g O j (qu d) /\
   ((Jy d=false/\∃x,xr d.fs p=some x/\Bq g v x)\/((Jy d=true\/xr d.fs p=none)/\v=.slice none 0 0)):=by
 unfold UN BD at b;simp only[if_true]at b;unfold qy at F;obtain⟨P,R⟩:=zm s 0 u rfl;have A:=ze h;have z:=ze s;have B:=ze H;go_enter func213,ntmps213;go_wp2_with fail;have N:=zhd
 go_region_with (go_at_call 320;refine(zkk O j d p _ I B.o (by exact A.o)).mono ?_;rintro r K ⟨v,e,rfl,J,t,G,hv⟩;obtain⟨a,n,c,rfl⟩:=JE hv;have C:=ze J;have D:=ze t;have l:=ze G;have E:=ze hv;obtain⟨Q,S⟩:=zm (t.keep (k:=i) z.o (by decide)) 0 u rfl)
 all_goals go_wp2
 all_goals go_ret
 all_goals exact⟨_,_,K,rfl,rfl,C.o,D.o.aF,l.o,E.o⟩
def XF (w:World)(g:Nat)(p:zb):Prop:=∃a,w.heap[g]?=some (.cells #[qy p,Eh a] 180 (0,0))/\PZ w a
def EF (e:Bool)(p:zb)(B:Nat)(r:Value)(w:World):Prop:=(e=false/\r=.nilIface)\/(e=true/\∃g,r=DT g/\B<=g/\XF w g p)
def PZ.aj (h:PZ w g)(b:zl O T w w')(a:430∉T):PZ w' g:=by
 obtain⟨c,h⟩:=h;exact⟨c,b.keep h a⟩
def XF.aj {p:zb}(h:XF w g p)(b:zl O T w w')(e:430∉T)(a:180∉T):XF w' g p:=by
 obtain⟨c,h,d⟩:=h;exact⟨c,b.keep h a,d.aj b e⟩
def O5 {e:Bool}{r:Value}(h:FU e B r w):r=.nilIface\/∃g,r=Eh g:=by
 rcases h with ⟨-,rfl⟩|⟨-,g,rfl,-⟩
 ·exact .inl rfl
 ·exact .inr ⟨g,rfl⟩
abbrev cT:List Nat:=[94,100]
def Dn {b:Nat}{a:Array Value}(c:w.heap[b]?=some (.cells a t (0,0)))(d:t∈cT)(u:Value):zl (λ_=>True) cT w (w.setCell ⟨b,0,none⟩ u):=(zl.refl _ _ w).set (.inl trivial) c d u
def TW (w:World)(a b c:Obj):(((w.alloc a).alloc b).alloc c).heap.size=w.heap.size+3/\(((w.alloc a).alloc b).alloc c).heap[w.heap.size]?=some a/\(((w.alloc a).alloc b).alloc c).heap[w.heap.size+1]?=some b/\(((w.alloc a).alloc b).alloc c).heap[w.heap.size+1+1]?=some c/\zc w (((w.alloc a).alloc b).alloc c):=by
 have d:(w.alloc a).heap.size=w.heap.size+1:=by simp
 have e:((w.alloc a).alloc b).heap.size=w.heap.size+1+1:=by simp
 refine⟨by simp,zr (zr (zf _ _)),?_,?_,?_⟩
 ·rw[<- d];exact zr (zf _ _)
 ·rw[<- e];exact zf _ _
 ·exact((zi w a).trans ((zi _ b).mono (by simp))).trans ((zi _ c).mono (by simp;omega))
def Jd {b:Nat}{o:Obj}(h:w.heap[k]?=some o)(a:k≠b):(w.setCell ⟨b,0,none⟩ u).heap[k]?=some o:=by rw[yh _ _ _ _ a];exact h
def QD (O:Nat->Prop)(D J:Nat)(d:Dk)(p:zb)(w:World)(hn:d.fs.length<=1000000000)(hl:∀f∈d.fs,f.2.length<=1000000000)(h:ym w O D d)(P:w.cell? ⟨J,0,none⟩=some (UN D true)):
  Calls prog 172 #[.pointer (some ⟨J,0,none⟩),qy p] w λr b=>∃v e,r=.returned (.tuple #[v,e])/\EF (Jy d) p w.heap.size e b/\zl O Oi w b/\ym b O D (qu d) /\
   ((Jy d=false/\∃x,xr d.fs p=some x/\Bq b v x)\/((Jy d=true\/xr d.fs p=none)/\v=.slice none 0 0)):=by
 have ae:∀(fn:Fn) (first M:Array Value) (w:World),(Instr.makeFunc fn first M).run prog w=.ok (.func fn first M) w:=λ_ _ _ _=>rfl;have eg:∀t w,(callFunc 213 t).run prog w=.ok (.enter 213 t) w:=KP func213 (by kernel_rfl) rfl;have HD:=ze h;have HL:=ze hl;have L:=ze P;clear h hl P;have ad:qy p=.string ⟨p.toArray⟩:=rfl;rw[ad];go_enter func172,ntmps172;go_wp2_with fail;obtain⟨s3,p1,p2,p3,m⟩:=TW w (.cells #[.pointer (some ⟨J,0,none⟩)] 126) (.cells #[.string ⟨p.toArray⟩] 9) (.cells #[.slice none 0 0] 94);generalize (((w.alloc (.cells #[.pointer (some ⟨J,0,none⟩)] 126)).alloc (.cells #[.string ⟨p.toArray⟩] 9)).alloc (.cells #[.slice none 0 0] 94))=i at *;have S3:=ze s3;have q:=zgh O D J w.heap.size (w.heap.size+1) (w.heap.size+1+1) d p (.slice none 0 0) (i.alloc (.cells #[.nilIface] 100)) hn HL.o
  (HD.o.stay (O1:=λ_=>False) (T:=[]) ((zl.aa m).alloc _) (by simp) (by simp))
  (zm (zr p1) 0 _ rfl).1 (zm (zr p2) 0 _ rfl).1 (zr p3) (by rw[xg _ _ ⟨_,0,none⟩ (zq (yf L.o) m.size),m.cell (p:=⟨J,0,none⟩) (yf L.o)];exact L.o)
 have V:Hid ((i.alloc (.cells #[.nilIface] 100)).heap[i.heap.size]?=some (.cells #[.nilIface] 100 (0,0))):=zf _ _;have E:Hid (zc w (i.alloc (.cells #[.nilIface] 100))):=m.alloc (by omega) _;have P4:Hid ((i.alloc (.cells #[.nilIface] 100)).heap[w.heap.size+1+1]?=some (.cells #[.slice none 0 0] 94 (0,0))):=zr p3;refine(TX p 213 _ i (λe w2=>∃v b,w2=b.setCell ⟨w.heap.size+1+1,0,none⟩ v/\FU (Jy d) (i.alloc (.cells #[.nilIface] 100)).heap.size e b/\zl O Oi (i.alloc (.cells #[.nilIface] 100)) b/\ym b O D (qu d)/\((Jy d=false/\∃x,xr d.fs p=some x/\Bq b v x)\/((Jy d=true\/xr d.fs p=none)/\v=.slice none 0 0))) eg
  (q.mono (by rintro r w2 ⟨v,e,b,rfl,h⟩;exact⟨e,rfl,v,b,h⟩)) ?_).mono ?_
 ·rintro e w2 ⟨v,b,rfl,F,I,-⟩;exact⟨O5 F,Jd (I.keep V.o (by decide)) (by have:=S3.out;omega)⟩
 clear q p1 p2 p3 m s3;generalize i.alloc (.cells #[.nilIface] 100)=W4 at *;rintro r w5 ⟨e,w2,⟨v,b,rfl,F,I,X,hv⟩,h⟩;obtain⟨a,n,c,rfl⟩:=JE hv;have Y:=I.keep P4.out (by decide);have q0:=I.keep V.o (by decide);have U:zl O Oi w b:=(zl.aa E.out).trans (I.mono (λ_ h=>.inl h) (λ_ h=>h));have H:i.heap.size≠w.heap.size+1+1:=by have:=S3.out;omega
 have z:w.heap.size<=i.heap.size:=by have:=S3.out;omega
 have r3:=Aw Y 0 (.slice a n c);have Z:=Jd (u:=.slice a n c) q0 H;have K:zl (λ_=>True) cT b (b.setCell ⟨w.heap.size+1+1,0,none⟩ (.slice a n c)):=Dn Y (by decide) _;rcases h with ⟨rfl,rfl,rfl⟩|⟨⟨l,rfl⟩,rfl,rfl⟩
 ·have s:Jy d=false:=by
   rcases F with ⟨h,-⟩|⟨-,g,h,-⟩
   ·exact h
   ·simp[Eh]at h
  have A:=Dn Z (by decide) .nilIface;have j:=Jd (u:=.nilIface) r3 (Ne.symm H);have B:=Dn j (by decide) (.slice a n c);have S:=Aw j 0 (.slice a n c);have k:Hid (EF (Jy d) p w.heap.size .nilIface (((b.setCell ⟨w.heap.size+1+1,0,none⟩ (.slice a n c)).setCell ⟨i.heap.size,0,none⟩ .nilIface).setCell ⟨w.heap.size+1+1,0,none⟩ (.slice a n c))/\zl O Oi w (((b.setCell ⟨w.heap.size+1+1,0,none⟩ (.slice a n c)).setCell ⟨i.heap.size,0,none⟩ .nilIface).setCell ⟨w.heap.size+1+1,0,none⟩ (.slice a n c))/\ym (((b.setCell ⟨w.heap.size+1+1,0,none⟩ (.slice a n c)).setCell ⟨i.heap.size,0,none⟩ .nilIface).setCell ⟨w.heap.size+1+1,0,none⟩ (.slice a n c)) O D (qu d) /\
   ((Jy d=false/\∃x,xr d.fs p=some x/\Bq (((b.setCell ⟨w.heap.size+1+1,0,none⟩ (.slice a n c)).setCell ⟨i.heap.size,0,none⟩ .nilIface).setCell ⟨w.heap.size+1+1,0,none⟩ (.slice a n c)) (.slice a n c) x)\/((Jy d=true\/xr d.fs p=none)/\Value.slice a n c=.slice none 0 0))):=by
   refine⟨.inl ⟨s,rfl⟩,((U.aA (by omega) _ _).aA z _ _).aA (by omega) _ _,((X.stay K (by decide) (by decide)).stay A (by decide) (by decide)).stay B (by decide) (by decide),?_⟩;rcases hv with ⟨W,x,h2,h3⟩|h
   ·exact .inl ⟨W,x,h2,((h3.aj K (by decide)).aj A (by decide)).aj B (by decide)⟩
   ·exact .inr h
  obtain⟨kc,kz⟩:=zm j 0 (.slice a n c) rfl;have C:=ze (zm S 0 (.slice a n c) rfl).1;clear K A B U F I X hv Y q0 r3 Z j S E V P4 L HL HD;go_wp2_with fail;refine zv (v:=.tuple #[.slice a n c,.nilIface]) ?_ rfl ⟨_,_,rfl,k.o⟩;simp[results,results172,go_sem,C.o]
 ·have s:Jy d=true:=by
   rcases F with ⟨-,h⟩|⟨h,-⟩
   ·simp[Eh]at h
   ·exact h
  have y:PZ b l:=by
   rcases F with ⟨-,h⟩|⟨-,g,h,-,h'⟩
   ·simp[Eh]at h
   ·simp[Eh]at h;exact h▸h'
  have G:(b.setCell ⟨w.heap.size+1+1,0,none⟩ (.slice a n c)).heap.size=b.heap.size:=by simp[World.setCell]
  rw[G];have N:((b.setCell ⟨w.heap.size+1+1,0,none⟩ (.slice a n c)).alloc (.cells #[qy p,Eh l] 180)).heap[b.heap.size]?=some (.cells #[qy p,Eh l] 180 (0,0)):=by rw[<- G];exact zf _ _
  have tP:zl (λ_=>True) cT (b.setCell ⟨w.heap.size+1+1,0,none⟩ (.slice a n c)) ((b.setCell ⟨w.heap.size+1+1,0,none⟩ (.slice a n c)).alloc (.cells #[qy p,Eh l] 180)):=(zl.refl _ _ _).alloc _;have Q:=zr (o:=.cells #[qy p,Eh l] 180) Z;have R:=zr (o:=.cells #[qy p,Eh l] 180) r3;have A:=Dn Q (by decide) (DT b.heap.size);have j:=Jd (u:=DT b.heap.size) R (Ne.symm H);have B:=Dn j (by decide) (.slice a n c);have S:=Aw j 0 (.slice a n c);have ab:w.heap.size<=b.heap.size:=U.size;have k:Hid (EF (Jy d) p w.heap.size (DT b.heap.size) ((((b.setCell ⟨w.heap.size+1+1,0,none⟩ (.slice a n c)).alloc (.cells #[qy p,Eh l] 180)).setCell ⟨i.heap.size,0,none⟩ (DT b.heap.size)).setCell ⟨w.heap.size+1+1,0,none⟩ (.slice a n c))/\zl O Oi w ((((b.setCell ⟨w.heap.size+1+1,0,none⟩ (.slice a n c)).alloc (.cells #[qy p,Eh l] 180)).setCell ⟨i.heap.size,0,none⟩ (DT b.heap.size)).setCell ⟨w.heap.size+1+1,0,none⟩ (.slice a n c))/\ym ((((b.setCell ⟨w.heap.size+1+1,0,none⟩ (.slice a n c)).alloc (.cells #[qy p,Eh l] 180)).setCell ⟨i.heap.size,0,none⟩ (DT b.heap.size)).setCell ⟨w.heap.size+1+1,0,none⟩ (.slice a n c)) O D (qu d) /\
   ((Jy d=false/\∃x,xr d.fs p=some x/\Bq ((((b.setCell ⟨w.heap.size+1+1,0,none⟩ (.slice a n c)).alloc (.cells #[qy p,Eh l] 180)).setCell ⟨i.heap.size,0,none⟩ (DT b.heap.size)).setCell ⟨w.heap.size+1+1,0,none⟩ (.slice a n c)) (.slice a n c) x)\/((Jy d=true\/xr d.fs p=none)/\Value.slice a n c=.slice none 0 0))):=by
   refine⟨.inr ⟨s,b.heap.size,rfl,ab,l,?_,?_⟩,(((U.aA (by omega) _ _).alloc _).aA z _ _).aA (by omega) _ _,(((X.stay K (by decide) (by decide)).stay tP (by decide) (by decide)).stay A (by decide) (by decide)).stay B (by decide) (by decide),?_⟩
   ·exact B.keep (A.keep N (by decide)) (by decide)
   ·exact(((y.aj K (by decide)).aj tP (by decide)).aj A (by decide)).aj B (by decide)
   ·rcases hv with ⟨W,x,h2,h3⟩|h
    ·rw[s]at W;simp at W
    ·exact .inr h
  obtain⟨kc,kz⟩:=zm j 0 (.slice a n c) rfl;have C:=ze (zm S 0 (.slice a n c) rfl).1;clear K A B tP U F I X hv Y q0 r3 Z j R Q S E V P4 L HL HD N y G;unfold qy DT Eh at *;go_wp2_with fail;refine zv (v:=.tuple #[.slice a n c,.iface 178 (.pointer (some ⟨b.heap.size,0,none⟩))]) ?_ rfl ⟨_,_,rfl,k.o⟩;simp[results,results172,go_sem,C.o]
end Go.Proofs.YtfdbeldiomkdiaaGreatDoor
