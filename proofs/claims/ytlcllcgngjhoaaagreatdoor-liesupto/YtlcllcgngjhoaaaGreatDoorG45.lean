import Derived.Test.YtlcllcgngjhoaaaGreatDoorG44
set_option maxHeartbeats 8000000
set_option maxRecDepth 100000
set_option linter.all false
namespace Go.Proofs.YtlcllcgngjhoaaaGreatDoor
open Go.RowKit Go.Proofs.Tryz
variable {nb nm pm:Nat}
section
attribute [local go_sem ↓] jy jn j4 jo ji jh j3 jm zgb ze4
def yfw (parts:Array (Nat×Value)):Sem Value:=Instr.build 112 parts
theorem z2m (parts:Array (Nat×Value)):Instr.build 112 parts=yfw parts:=rfl
def yft (parts:Array (Nat×Value)):Sem Value:=Instr.build zbx parts
theorem z2k (parts:Array (Nat×Value)):Instr.build zbx parts=yft parts:=rfl
attribute [local go_sem ↓] z2m z2k
theorem ybh (h:zc)(a:h.length=8)(w:World):(yfw #[(1,.agg (hv h))]).run prog w= .ok (.agg (trC 0 h).toArray) w:=by
 obtain⟨b,c,d,e,f,g,i,j,rfl⟩:=hv8 h a
 kernel_rfl
def ybt (tv:Value)(b:zc)(n:Nat)(a:zc)(d c:Nat):List Value:=[.int .i32 0,.int .u32 0,tv,qo b]++(trC n a++[yx d,yx c])
theorem ybg (tv:Value)(b:tv= .nilIface∨∃ t p,tv= .iface t p)(a h:zc)(e:h.length=8)(d c:Nat)(w:World):(yft #[(1,tv),(2,.string ⟨a.toArray⟩),(3,.agg (trC 0 h).toArray),(4,.pointer (some ⟨d,0,none⟩)),(5,.pointer (some ⟨c,0,none⟩))]).run prog w= .ok (.agg (ybt tv a 0 h d c).toArray) w:=by
 obtain⟨f,g,i,j,k,l,m,n,rfl⟩:=hv8 h e;rcases b with rfl | ⟨t,p,rfl⟩
 ·kernel_rfl
 ·kernel_rfl
theorem yh4 (tv:Value)(v:tv= .nilIface∨∃ t p,tv= .iface t p)(b:zc)(a:Int)(w:World):
  Calls prog 45 #[tv,qo b,.int .i64 a] w fun r x=>∃(g f e:Nat) (A E:Nat→Prop),r= .returned (yx g)∧Below w.heap.size w x∧g < x.heap.size∧w.heap.size≤g∧(∀ k,A k→w.heap.size≤k∧k < g)∧(∀ k,E k→w.heap.size≤k∧k < g∧¬ A k)∧zjg x E f a []∧zen x A e zgx []∧x.heap[g]?=some (.cells (ybt tv b 0 (zaf 0 []) f e).toArray zbx (0,0)):=by
 have D:=zf (zsb 0 (.slice none 0 0) [] w (by simp) (by simp) (by simp) ⟨none,0,rfl,by simp,.inl rfl⟩);have l:Hid ((zaf 0 []).length=8):=zbv _ _;have H:=zf v;clear v;generalize zaf 0 []=R at *;have J:=fun X=>ybh R l.o X;have I:=fun f e X=>ybg tv H.o b R l.o f e X;unfold qo;go_enter func45,ntmps45;go_wp2_with fail;refine D.o.mono ?_;rintro r G ⟨rfl,m⟩;have i:=zf m;clear m D;go_wp2_with fail;refine(yh7 a G).mono ?_;rintro r B ⟨f,rfl,n,u⟩;have j:=zf n;have z:=zf u;clear n u;unfold yx;go_wp2_with fail;refine(yh6 zgx B).mono ?_;rintro r C ⟨e,rfl,q,s⟩;have c:=zf q;have y:=zf s;clear q s;unfold yx;go_wp2_with fail;go_ret;have K:=i.o.size;have L:=j.o.size;have M:=c.o.size;have d:=zk C (.cells (ybt tv b 0 R f e).toArray zbx);refine⟨C.heap.size,f,e,fun k=>B.heap.size≤k∧k < C.heap.size,fun k=>G.heap.size≤k∧k < B.heap.size,rfl,?_,by simp,by omega,fun k F=>⟨by omega,F.2⟩,fun k F=>⟨by omega,by omega,fun h=>by omega⟩,(z.o.below c.o (fun _ h=>h)).below d (fun _ h=>h),y.o.below d (fun _ h=>h),zg _ _⟩;exact((i.o.trans (j.o.mono (by omega))).trans (c.o.mono (by omega))).trans (d.mono (by omega))
theorem ykr {n:Nat}{b a:zc}(c:Int)(i:Mm)(h:a.length=8):CBl (ybt (zwm nb) b n a pm nm).toArray nb pm nm ⟨b,n,a,c,i⟩:=by
 have e:=zh9 n h;have d:∀ j,(ybt (zwm nb) b n a pm nm).toArray[4+j]?=(trC n a++[yx pm,yx nm])[j]?:=fun j=>by
  rw [jw,ybt,qi (by simp)];congr 1;simp
 have g:(trC n a++[yx pm,yx nm])[9]?=some (yx pm):=by
  rw [qi (by omega),e];rfl
 have f:(trC n a++[yx pm,yx nm])[10]?=some (yx nm):=by
  rw [qi (by omega),e];rfl
 refine⟨⟨rfl,(d 9).trans g,(d 10).trans f⟩,rfl,rfl,⟨(d 0).trans ?_,fun j v hv=>?_,h⟩⟩
 ·rw [qd (by omega)];rfl
 ·have k:j < 8:=by
   have:=(xy.1 hv).1;simp at this;omega
  rw [show 5+j=4+(j+1) by omega,d (j+1),qd (by omega)];exact hv
theorem yh5 (q:World)(O:Nat→Prop)(m:Nat)(d:zc)(a:Int)(w:World)(v:q.heap.size≤w.heap.size)(t:∀ b,O b→b < w.heap.size):
  Calls prog 45 #[zwm m,qo d,.int .i64 a] w fun r p=>∃(c o n:Nat) (A e:Nat→Prop),r= .returned (yx c)∧Below w.heap.size w p∧w.heap.size≤c∧(∀ k,A k∨e k→w.heap.size≤k)∧Pv q p O A e c m o n ⟨d,0,zaf 0 [],a,[]⟩:=by
 refine(yh4 (zwm m) (.inr ⟨_,_,rfl⟩) d a w).mono ?_;rintro r p ⟨c,o,n,A,e,rfl,u,z,s,g,f,l,j,x⟩;refine⟨c,o,n,A,e,rfl,u,s,fun k y=>y.elim (fun h=>(g k h).1) (fun h=>(f k h).1),⟨fun b i=>?_,fun b h=>(f b h).2.2,fun h=>zqr _ (g c h).2,fun h=>zqr _ (f c h).2.1,⟨_,x,ykr a [] (zbv _ _)⟩,⟨[],l,.nil⟩,j⟩⟩;have:w.heap.size≤b∧b≤c:=by
  rcases i with h | h | rfl
  ·have:=g b h;omega
  ·have:=f b h;omega
  ·omega
 exact⟨by omega,by omega,fun h=>by have:=t b h;omega⟩
end
section
attribute [local go_sem ↓] jy jn j4 jo ji jh j3 jm zgb ze4
theorem yf8 (w:World):(convert 114 9 (.slice none 0 0)).run prog w= .ok (.string ⟨#[]⟩) w:=by kernel_rfl
end
variable {B H g k s:Nat}{e:TypeId}{ps:za}{v:Value}{w w':World}{xs:List Value}
theorem zvt (w:World)(g o:Nat)(a n:Nat)(l:zc)(d:l.length=n)(b:w.rangeAt g o (hv l).toList):
  (convert 114 9 (.slice (some ⟨g,o,none⟩) n a)).run prog w= .ok (txt l) w:=by
 subst d;refine zde w _ _ 5 ⟨g,o,none⟩ a l underlying114 jt qw (fun j c=>?_);rw [zcc];exact b j _ (by simp [hv,bv,c])
def z0l (w:World)(g:Nat)(ps:za)(k:Nat):Prop:=w.there g 0 (ps.length*8)∧∀ j (h:j < ps.length),k≤j→w.rangeAt g (j*8) (hv ps[j]).toList
theorem z0l.below (h:z0l w g ps k)(b:g < H)(a:Below H w w'):z0l w' g ps k :=
 ⟨fun j c=>by rw [a.cell (p:=⟨g,0+j,none⟩) b,a.frozen (p:=⟨g,0+j,none⟩) b];exact h.1 j c,fun j c d i v hv=>by rw [a.cell (p:=⟨g,j*8+i,none⟩) b];exact h.2 j c d i v hv⟩
theorem z0l.next (h:z0l w g ps k)(a:List Value)(hv8:a.length=8):z0l (w.setCells g (k*8) a) g ps (k+1) :=
 ⟨World.there_setCells h.1 _ _ _,fun j b c=>World.rangeAt_setCells_apart (h.2 j b (by omega)) _ _ _ (.inr (.inr (by rw [hv8];omega)))⟩
theorem zya {n:Nat}(h:w.ownsRow B e s v n xs)(g:Nat)(k:g < B)(o:Nat)(j:List Value):(w.setCells g o j).ownsRow B e s v n xs:=by
 refine⟨h.1,?_⟩;rcases h.2 with h | ⟨i,a,b,c,d,f,r⟩
 ·exact .inl h
 ·exact .inr ⟨i,a,b,c,d,by rw [zd5 _ _ _ _ _ (by omega)];exact f,r⟩
theorem z02 (d:∀ p∈ps,p.length=8)(h:w.ownsRow B 110 8 v ps.length (zug ps)):
  (v= .slice none 0 0∧ps.length=0)∨∃ g a,v= .slice (some ⟨g,0,none⟩) ps.length a∧B≤g∧g < w.heap.size∧z0l w g ps 0:=by
 rcases h.2 with h0 | ⟨g,a,c,rfl,l,b,q,o,m,n⟩
 ·exact .inl h0
 ·refine .inr ⟨g,a,rfl,l,ju b,fun j k=>?_,fun i f _ j v hv=>?_⟩
  ·rw [xk];refine⟨?_,by simp [World.frozen?,b]⟩;rw [yq _ _ _ _ _ _ b];have:j < c.size:=by rw [m];omega
   simp [this]
  ·have k:j < 8:=by
    have:=(xy.1 hv).1;rw [zik,zay,d _ (yd f)] at this;exact this
   rw [yq _ _ _ _ _ _ b];have e:=yac ps d i j f k;rw [hv,← n,qj,if_pos (by omega)] at e;simpa using e
def ylo:Array Value:=#[.int .u8 1,.int .u8 0,.int .u8 0,.int .u8 0,.int .u8 0,.int .u8 0,.int .u8 0,.int .u8 0]
theorem yc2:(prog.info? 110).map (·.size)=some ylo.size:=by kernel_rfl
theorem yhx:ylo.all (·.oneCell') =true:=by simp [ylo,Value.oneCell']
variable {O:Nat→Prop}{T:List Nat}{a:World}{b:Nat}
theorem zq.cells_old (h:zq O T a w)(e:O b)(f:Tob T a.heap[b]?)(o:Nat)(d:List Value):zq O T a (w.setCells b o d):=by
 obtain⟨i,j,l,m⟩:=zg8 b d o w;refine⟨i.trans h.os,j.trans h.tape,l.trans h.output,by rw [m];exact h.size,fun k g=>?_⟩
 by_cases c:k=b
 ·subst c;exact .inr ⟨e,f⟩
 ·rw [zd5 _ _ _ _ _ c];exact h.block k g
theorem zq.more {b c:World}(h:zq O T a b)(d:Below a.heap.size b c):zq O T a c :=
 ⟨d.os.trans h.os,d.tape.trans h.tape,d.output.trans h.output,zu h.size d.size,fun k e=>by rw [d.block k e];exact h.block k e⟩
theorem zzo {n:Nat}(h:w.ownsRow B e s v n xs)(b:v.ownBlock=some k):∃ c x,w.heap[k]?=some (.cells c e x):=by
 rcases h.2 with ⟨rfl,_⟩ | ⟨g,d,a,rfl,-,f,-⟩
 ·simp [Value.ownBlock] at b
 ·simp only [Value.ownBlock,zr] at b;subst b;exact⟨a,_,f⟩
theorem zq7 (B:Nat)(v:Value)(ps:za)(w:World)(hn:ps.length≤1000000)(S:∀ p∈ps,p.length=8)(h:w.ownsRow B 110 8 v ps.length (zug ps)):
  Calls prog 49 #[v] w fun r w'=>∃ x,r= .returned x∧zq (fun k=>v.ownBlock=some k) [110] w w'∧w'.ownsRow w.heap.size 9 1 x ps.length (ps.map txt):=by
 obtain⟨i,Y,D⟩:=zz.1 zps;obtain⟨F,G,H⟩:i.zero=some (.string ⟨#[]⟩)∧i.size=1∧i.bytes=16:=by simpa using D
 clear D;have HI:=zf Y;have Q:=zf (And.intro F (And.intro G H));clear Y F G H;have R:=zf (z02 S h);have H8:=zf S;have P:Hid (∀ k,v.ownBlock=some k→Tob [110] w.heap[k]?):=fun k Z=>by
  obtain⟨c,x,e⟩:=zzo h Z;exact .inl ⟨c,_,x,e,by simp⟩
 obtain⟨a,l,rfl⟩:∃ a l,v= .slice a ps.length l:=by
  rcases R.o with ⟨rfl,h0⟩ | ⟨g,l,rfl,-⟩
  ·exact⟨_,_,by rw [h0]⟩
  ·exact⟨_,_,rfl⟩
 clear h S;go_enter func49,ntmps49;go_wp2_with fail;go_loopw [3,7] (fun t i wr=>∃ k:Nat,k≤ps.length∧i= .int .i64 k∧zq (fun k=>Value.ownBlock (.slice a ps.length l)=some k) [110] w wr∧wr.ownsRow w.heap.size 9 1 t k ((ps.take k).map txt)∧(∀ g m,a=some ⟨g,m,none⟩→m=0∧B≤g∧g < w.heap.size∧z0l wr g ps k)) (fun _ i _=>ps.length - (intOf i).toNat)
 case atStart =>
  refine⟨0,yv _,rfl,zq.refl _ _ _,⟨rfl,.inl ⟨rfl,rfl⟩⟩,fun g m e=>?_⟩;rcases R.o with ⟨q,h0⟩ | ⟨J,n,q,r⟩
  ·simp [e] at q
  ·simp [e] at q;obtain⟨⟨rfl,rfl⟩,_⟩:=q;exact⟨rfl,r⟩
 case round =>
  obtain⟨k,Z,rfl,C,d,b⟩:=hrel;have K:=zf C;have M:=zf d;have V:=zf b;clear C d b
  by_cases s:k < ps.length
  ·obtain⟨g,rfl⟩:∃ g,a=some ⟨g,0,none⟩:=by
    rcases R.o with ⟨_,h0⟩ | ⟨J,n,q,r⟩
    ·omega
    ·simp at q;exact⟨J,q.1⟩
   obtain⟨-,W,X,b⟩:=V.o g 0 rfl;have I:=zf (And.intro W X);have z:=zf b;clear b W X V;have hs:(ps.take (k+1)).map txt=(ps.take k).map txt++[txt ps[k]]:=by rw [qf s,yy];rfl
   have Hs:=zf hs;clear hs;have U:=zvt wr g (k*8) 8 8 ps[k] (H8.o _ (yd s)) (z.o.2 k s (zm _));generalize ps[k]=p at *;unfold txt at U;have u:Hid (w.heap.size≤wr.heap.size):=K.o.size;have N:Hid (∀ o,(wr.alloc o).ownsRow w.heap.size 9 1 u3 k ((ps.take k).map txt)):=fun o=>ym M.o (zk wr o);go_wp2_with (first
    | (at_builtin;refine zaa _ rfl _ _ _ rfl w.heap.size 9 i (.string ⟨#[]⟩) 1 16 underlying22 HI.o Q.o.1 Q.o.2.1 Q.o.2.2 rfl (by omega) u3 k _ rfl (N.o _) ⟨wr.heap.size,0,none⟩ 1 1 [.string ⟨p.toArray⟩] rfl rfl (xj (zg _ _)) (by simp [Value.oneCell']) (by omega) (by unfold maxLen;omega) (by omega) (by have:=u.out;simp;omega) (wr.heap.size+1) (by simp) ?_;intro J n w2 d f T E;have y:Hid (Below w.heap.size wr w2):=((zk wr _).mono u.out).grown f (by have:=u.out;simp;omega) (vq M.o);have O:=zf d;have A:Hid (z0l w2 g ps k):=z.o.below I.o.2 y.o;clear f T E d)
    | (show wpList _ _ _ ({ dst:=none,op:=Op.store _ _ _,type:=_,pos:=_,after:=_,guard:=_ }::_) _ _;refine wpList_store_mid rfl 110 _ _ rfl g (k*8) ylo rfl rfl (by intro j hj;have aa:j < 8:=hj;have:=A.o.1 (k*8+j) (by omega);rw [xk] at this;exact this) yc2 yhx ?_))
   have L:=zf (K.o.more y.o)
   go_roundw
   case rel =>
    refine⟨k+1,by omega,by go_num,L.o.cells_old rfl (P.o g rfl) _ _,by rw [Hs.o];exact zya O.o g I.o.2 _ _,fun J m e=>?_⟩;simp only [zr,zhb] at e;obtain⟨rfl,rfl,-⟩:=e;exact⟨rfl,I.o.1,I.o.2,A.o.next _ rfl⟩
   case measure=>simp [intOf];omega
  ·go_wp2_with fail;go_ret;refine⟨_,rfl,K.o,?_⟩;have:=M.o;rw [ja (by omega)] at this;rw [show ps.length=k by omega];exact this
variable {A A' G N O' OP:Nat→Prop}{T':List Nat}{W0 w1 w2:World}{c c':Cl}{cb db hb mb:Nat}{d:Dk}{n':Nt}
def zqe (G:Nat→Prop)(T:List Nat)(w:World):Prop:=∀ k,G k→∃ c t x,w.heap[k]?=some (.cells c t x)∧t∈T
theorem zq.same (g:zq G T w w')(a:zqe G T' w){o:Obj}(h:w.heap[k]?=some o)(f:∀ c t x,o= .cells c t x→t∉T'):w'.heap[k]?=some o:=by
 rcases g.block k (zi h) with e | ⟨d,-⟩
 ·rw [e];exact h
 ·obtain⟨c,t,x,e,b⟩:=a k d;rw [h] at e;simp only [zr] at e;exact absurd b (f c t x e)
theorem zir {b:Array Value}{y:Nat×Nat}(h:e∉T):∀ c t x,Obj.cells b e y= .cells c t x→t∉T:=by
 intro c t x a;simp only [vw] at a;rw [← a.2.1];exact h
theorem zb6.past {l:Ks}(h:zb6 w hb l)(d:zq G T w w')(b:zqe G T' w):zb6 w' hb l:=by
 obtain⟨es,c,e⟩:=h.isMap;exact h.same ((d.same b e (fun c t x a=>by simp at a)).trans e.symm)
theorem zen.past {a:Int}{L:LsN}(h:zen w O mb a L)(c:zq G T w w')(b:zqe G T' w)(f:MeN∉T')(d:LkN∉T'):zen w' O mb a L:=by
 obtain⟨g,e,j,k,h⟩:=h;exact⟨g,e,j,k,h.own,c.same b h.mem (zir f),⟨c.same b h.ring.ends (zir d),fun x i=>c.same b (h.ring.link x i) (zir d),h.ring.circ⟩,h.map.past c b,h.ok⟩
theorem zjg.past {a:Int}{L:LsP}(h:zjg w O mb a L)(c:zq G T w w')(b:zqe G T' w)(f:MeP∉T')(d:LkP∉T'):zjg w' O mb a L:=by
 obtain⟨g,e,j,k,h⟩:=h;exact⟨g,e,j,k,h.own,c.same b h.mem (zir f),⟨c.same b h.ring.ends (zir d),fun x i=>c.same b (h.ring.link x i) (zir d),h.ring.circ,h.ring.len⟩,h.map.past c b,h.ok⟩
theorem zof.past {c:Int}{e:Mm}(h:zof w OP pm c e)(d:zq G T w w')(m:zqe G T' w)(j:MeP∉T')(k:LkP∉T')(l:5∉T):zof w' OP pm c e:=by
 obtain⟨f,g,i⟩:=h;exact⟨f,g.past d m j k,i.mono fun a _ b n=>n.turn d l⟩
theorem Pv.past (h:Pv W0 w O A OP cb nb pm nm c)(d:zq G T w w')(e:zqe G T' w)(f:MeN∉T')(g:LkN∉T')(i:zbx∉T')(l:zof w' OP pm c.room c.proved):Pv W0 w' O A OP cb nb pm nm c:=by
 obtain⟨C,k,j⟩:=h.cli;exact⟨fun b a=>⟨(h.own b a).1,zx (h.own b a).2.1 d.size,(h.own b a).2.2⟩,h.sep,h.cbA,h.cbP,⟨C,d.same e k (zir i),j⟩,l,h.nee.past d e f g⟩
theorem Pv.other (h:Pv W0 w O A OP cb nb pm nm c)(d:zq N T w w')(e:∀ b,A b∨OP b∨b=cb→¬ N b)(i:5∉T):Pv W0 w' O A OP cb nb pm nm c:=by
 obtain⟨C,g,f⟩:=h.cli;exact⟨fun b a=>⟨(h.own b a).1,zx (h.own b a).2.1 d.size,(h.own b a).2.2⟩,h.sep,h.cbA,h.cbP,⟨C,d.stay g (e cb (.inr (.inr rfl))),f⟩,h.prv.stay d (fun b a=>e b (.inr (.inl a))) i (fun _ h=>h),h.nee.stay d (fun b a=>e b (.inl a)) (fun _ h=>h)⟩
theorem Pv.grow (h:Pv W0 w O A OP cb nb pm nm c)(d:∀ b,A b∨OP b∨b=cb→¬ O' b):Pv W0 w O' A OP cb nb pm nm c :=
 ⟨fun b a=>⟨(h.own b a).1,(h.own b a).2.1,d b a⟩,h.sep,h.cbA,h.cbP,h.cli,h.prv,h.nee⟩
theorem Sh.past {n:Nt}(h:Sh W0 w O nb db d n)(a:zq G T w w')(l:∀ k,G k→W0.heap.size≤k)(e:82∉T)(f:99∉T)(g:93∉T)(i:36∉T)(j:3∉T):Sh W0 w' O nb db d n :=
 ⟨h.base.trans (a.below l h.base.size),fun b c=>⟨(h.own b c).1,zx (h.own b c).2 a.size⟩,h.disk.stay a e f,h.net.turn a g i j,h.st⟩
theorem ztd {n:Nat}(h:w.ownsRow B e s v n xs):zqe (fun k=>v.ownBlock=some k) [e] w:=by
 intro k a;obtain⟨c,x,e⟩:=zzo h a;exact⟨c,_,x,e,by simp⟩
theorem zq3 {n:Nat}(h:w.ownsRow B e s v n xs):∀ k,v.ownBlock=some k→B≤k:=by
 intro k a;rcases h.2 with ⟨rfl,_⟩ | ⟨g,b,c,rfl,d,-⟩
 ·simp [Value.ownBlock] at a
 ·simp only [Value.ownBlock,zr] at a;omega
theorem zeb.more (h:zeb A A' w w1)(c:w1.heap.size≤w2.heap.size):zeb A A' w w2:=⟨h.1,fun b a=>(h.2 b a).imp id (fun h=>⟨h.1,by omega⟩)⟩
theorem CR.past {P:(Nat→Prop)→Prop}(h:CR W0 w w1 O A OP cb nb db pm nm d c' n' P)(b:zq G T w1 w2)(f:zqe G T' w1)(g:∀ k,G k→w.heap.size≤k)(B:W0.heap.size≤w.heap.size)(l:MeN∉T')(m:LkN∉T')(n:zbx∉T')(o:MeP∉T')(p:LkP∉T')
 (u:82∉T) (v:99∉T) (x:93∉T) (y:36∉T) (z:3∉T) (e:5∉T∨∀ a,P a→zof w2 a pm c'.room c'.proved) {P':(Nat→Prop)→Prop} (s:∀ a,P a→P' a):CR W0 w w2 O A OP cb nb db pm nm d c' n' P':=by
 obtain⟨j,a,q,r,c,i⟩:=h.rest;refine⟨h.turn.apart b g,⟨j,a,q.more b.size,r.more b.size,c.past b f l m n ?_,s _ i⟩,h.sh.past b (fun k t=>by have:=g k t;omega) u v x y z⟩;rcases e with e | e
 ·exact c.prv.past b f o p e
 ·exact e a i
theorem CR.weak {P P':(Nat→Prop)→Prop}(h:CR W0 w w1 O A OP cb nb db pm nm d c' n' P)(g:∀ a,P a→P' a):CR W0 w w1 O A OP cb nb db pm nm d c' n' P':=by
 obtain⟨c,a,e,f,b,i⟩:=h.rest;exact⟨h.turn,⟨c,a,e,f,b,g _ i⟩,h.sh⟩
theorem CR.below {P:(Nat→Prop)→Prop}(h:CR W0 w w1 O A OP cb nb db pm nm d c' n' P)(a:W0.heap.size≤w.heap.size)(b:Below w1.heap.size w1 w2):CR W0 w w2 O A OP cb nb db pm nm d c' n' P :=
 h.past (G:=fun _=>False) (T:=[]) (T':=[]) (.of_below b) (fun _ h=>h.elim) (fun _ h=>h.elim) a (by simp) (by simp) (by simp) (by simp) (by simp) (by simp) (by simp) (by simp) (by simp) (by simp) (.inl (by simp)) (fun _ h=>h)
theorem yii (a:Nat→Addr)(w:World)(G:zbz w a):
  Calls prog 50 #[.iface 364 (.pointer (some (a 3)))] w fun e I=>e= .returned (told 4)∧Below w.heap.size w I:=by
 obtain⟨h0,r,s,t,u,y,x,n,p⟩:=G;have g:=zf n;have b:=zf p;clear n p y;have J:∀ o,(w.alloc o).cell? ⟨1,0,none⟩=some (.iface 364 (.pointer (some (a 0)))):=fun o=>by rw [yp _ _ ⟨_,0,none⟩ (yg h0)];exact h0
 have K:∀ o,(w.alloc o).cell? ⟨2,0,none⟩=some (.iface 364 (.pointer (some (a 1)))):=fun o=>by rw [yp _ _ ⟨_,0,none⟩ (yg r)];exact r
 have L:∀ o,(w.alloc o).cell? ⟨0,0,none⟩=some (.iface 364 (.pointer (some (a 2)))):=fun o=>by rw [yp _ _ ⟨_,0,none⟩ (yg s)];exact s
 have M:∀ o,(w.alloc o).cell? ⟨3,0,none⟩=some (.iface 364 (.pointer (some (a 3)))):=fun o=>by rw [yp _ _ ⟨_,0,none⟩ (yg t)];exact t
 have N:∀ o,(w.alloc o).cell? ⟨4,0,none⟩=some (.iface 364 (.pointer (some (a 4)))):=fun o=>by rw [yp _ _ ⟨_,0,none⟩ (yg u)];exact u
 have O:∀ o,(w.alloc o).cell? ⟨5,0,none⟩=some (.iface 364 (.pointer (some (a 6)))):=fun o=>by rw [yp _ _ ⟨_,0,none⟩ (yg x)];exact x
 clear h0 r s t u x;have F:=zkh (.pointer (some (a 3)));have z:∀ c d f,(binOp .eql 102 (.iface 364 (.pointer (some (a 3)))) (.iface 364 (.pointer (some (a 0))))).run prog (((w.alloc c).alloc d).alloc f)= .ok (.bool false) (((w.alloc c).alloc d).alloc f):=fun c d f=>by
  obtain⟨h,t0,l⟩:=b.o 0 (by decide);obtain⟨k,t1,m⟩:=b.o 3 (by decide);exact zbl (g.o 3 0 (by decide) (by decide) (by decide)) ⟨k,t1,zj (zj (zj m))⟩ ⟨h,t0,zj (zj (zj l))⟩
 have A:∀ c d f,(binOp .eql 102 (.iface 364 (.pointer (some (a 3)))) (.iface 364 (.pointer (some (a 1))))).run prog (((w.alloc c).alloc d).alloc f)= .ok (.bool false) (((w.alloc c).alloc d).alloc f):=fun c d f=>by
  obtain⟨h,t0,l⟩:=b.o 1 (by decide);obtain⟨k,t1,m⟩:=b.o 3 (by decide);exact zbl (g.o 3 1 (by decide) (by decide) (by decide)) ⟨k,t1,zj (zj (zj m))⟩ ⟨h,t0,zj (zj (zj l))⟩
 have B:∀ c d f,(binOp .eql 102 (.iface 364 (.pointer (some (a 3)))) (.iface 364 (.pointer (some (a 2))))).run prog (((w.alloc c).alloc d).alloc f)= .ok (.bool false) (((w.alloc c).alloc d).alloc f):=fun c d f=>by
  obtain⟨h,t0,l⟩:=b.o 2 (by decide);obtain⟨k,t1,m⟩:=b.o 3 (by decide);exact zbl (g.o 3 2 (by decide) (by decide) (by decide)) ⟨k,t1,zj (zj (zj m))⟩ ⟨h,t0,zj (zj (zj l))⟩
 have H:∀ W,(binOp .eql 102 (.iface 364 (.pointer (some (a 3)))) (.iface 364 (.pointer (some (a 3))))).run prog W= .ok (.bool true) W:=fun W=>by
  obtain⟨i,C,q⟩:=zz.1 zj8;obtain⟨j,D,E⟩:=zz.1 zkf;exact zch W (a 3) underlying102 underlying364 C q D
 go_enter func50,ntmps50;go_wp2_with fail;refine zd8 5 ?_;rw [xo];go_wp2_with fail;rw [xo];go_wp2_with fail;rw [xo];go_wp2_with fail;rw [xo];go_wp2_with fail;rw [xo];go_wp2_with fail;refine z8 (v:=told 4) (zbs results50 _ _ w.heap.size 52 _ (0,0) _ rfl (zj (zj (zg _ _))) underlying52 rfl (by kernel_rfl)) rfl ⟨rfl,?_⟩;exact((zk _ _).trans ((zk _ _).mono (by simp))).trans ((zk _ _).mono (by simp;omega))
variable {W w0:World}
def z6g (a:Nat→Addr)(w:World)(e:Value)(t:Int×zc):Prop :=
 (e= .nilIface∧t=(0,[]))∨(e=zd2 a 1∧t=(2,[]))∨(e=zd2 a 2∧t=(3,[]))∨(e=zd2 a 3∧t=(4,[]))∨(e=zd2 a 4∧t=(5,[])) ∨
 (∃ p g,e=za7 g∧w.heap[g]?=some (.cells #[qo p,zd2 a 5] 179 (0,0))∧t=(6,p))
def zl0 (t:Int×zc):Value:= .agg #[.int .i64 t.1,.string ⟨t.2.toArray⟩]
theorem z6g.turn {a:Nat→Addr}{e:Value}{t:Int×zc}(h:z6g a w e t)(i:zq N T w w')(f:179∉T):z6g a w' e t:=by
 rcases h with h | h | h | h | h | ⟨p,g,b,c,d⟩
 ·exact .inl h
 ·exact .inr (.inl h)
 ·exact .inr (.inr (.inl h))
 ·exact .inr (.inr (.inr (.inl h)))
 ·exact .inr (.inr (.inr (.inr (.inl h))))
 ·exact .inr (.inr (.inr (.inr (.inr ⟨p,g,b,i.keep c f,d⟩))))
theorem z7z (a:Nat→Addr)(w:World)(b:zbz w a)(e:Value)(t:Int×zc)(h:z6g a w e t):
  Calls prog 50 #[e] w fun r d=>r= .returned (zl0 t)∧Below w.heap.size w d:=by
 rcases h with ⟨rfl,rfl⟩ | ⟨rfl,rfl⟩ | ⟨rfl,rfl⟩ | ⟨rfl,rfl⟩ | ⟨rfl,rfl⟩ | ⟨p,g,rfl,c,rfl⟩
 ·exact z09 a w b
 ·exact yif a w b
 ·exact yih a w b
 ·exact yii a w b
 ·exact yij a w b
 ·exact yls a g p w b c
def erT (e:Er):Int×zc:=(e.n,e.p)
def ze9 (o:Sum Er (za)):za×(Int×zc):=match o with
 | .inl e=>([],erT e)
 | .inr ps=>(ps,(0,[]))
theorem zkj (B:Nat)(w:World):zg1 B w (.slice none 0 0) []:=⟨rfl,.inl ⟨rfl,rfl⟩⟩
theorem ymy.tell {b:Nat→Addr}{o:Sum Er (za)}{r:Ending}(h:ymy b B w' o r):∃ v e,r= .returned (.tuple #[v,e])∧zg1 B w' v (ze9 o).1∧(∀ p∈(ze9 o).1,p.length=8)∧z6g b w' e (ze9 o).2:=by
 rcases h with (⟨ps,v,rfl,a,c,d⟩ | ⟨p,g,rfl,a,c⟩ | ⟨rfl,a⟩ | ⟨rfl,a⟩) | ⟨rfl,a⟩
 ·exact⟨v,_,d,a,c,.inl ⟨rfl,rfl⟩⟩
 ·exact⟨_,_,c,zkj _ _,by simp [ze9],.inr (.inr (.inr (.inr (.inr ⟨p,g,rfl,a,rfl⟩))))⟩
 ·exact⟨_,_,a,zkj _ _,by simp [ze9],.inr (.inr (.inr (.inr (.inl ⟨rfl,rfl⟩))))⟩
 ·exact⟨_,_,a,zkj _ _,by simp [ze9],.inr (.inr (.inr (.inl ⟨rfl,rfl⟩)))⟩
 ·exact⟨_,_,a,zkj _ _,by simp [ze9],.inr (.inr (.inl ⟨rfl,rfl⟩))⟩
def zhi (o:Sum Er (zc×za)):zc×za×(Int×zc):=match o with
 | .inl e=>([],[],erT e)
 | .inr x=>(x.1,x.2,(0,[]))
theorem zoh.tell {a:Nat→Addr}{o:Sum Er (zc×za)}{r:Ending}(h:zoh a B w' o r):∃ x v e,r= .returned (.tuple #[x,v,e])∧ykb B w' x (zhi o).1∧zg1 B w' v (zhi o).2.1∧(∀ p∈(zhi o).2.1,p.length=8)∧z6g a w' e (zhi o).2.2:=by
 rcases h with ⟨e,ps,x,v,rfl,b,c,d,f⟩ | ⟨p,g,rfl,b,c⟩ | ⟨rfl,b⟩
 ·exact⟨x,v,_,f,b,c,d,.inl ⟨rfl,rfl⟩⟩
 ·exact⟨_,_,_,c,.inl ⟨rfl,rfl⟩,zkj _ _,by simp [zhi],.inr (.inr (.inr (.inr (.inr ⟨p,g,rfl,b,rfl⟩))))⟩
 ·exact⟨_,_,_,b,.inl ⟨rfl,rfl⟩,zkj _ _,by simp [zhi],.inr (.inr (.inr (.inr (.inl ⟨rfl,rfl⟩))))⟩
theorem CR.since {P:(Nat→Prop)→Prop}(h:CR W0 w0 w1 O A OP cb nb db pm nm d c' n' P)(i:Below w.heap.size w w0):CR W0 w w1 O A OP cb nb db pm nm d c' n' P:=by
 obtain⟨j,c,f,g,e,k⟩:=h.rest;have l:=i.size;exact⟨(zq.of_below i).trans (h.turn.mono (fun _ h=> .inl h) (fun _ h=>h)),⟨j,c,⟨f.1,fun b a=>(f.2 b a).imp id (fun h=>⟨by omega,h.2⟩)⟩,⟨g.1,fun b a=>(g.2 b a).imp id (fun h=>⟨by omega,h.2⟩)⟩,e,k⟩,h.sh⟩
theorem Pv.below (h:Pv W0 w O A OP cb nb pm nm c)(a:Below w.heap.size w w'):Pv W0 w' O A OP cb nb pm nm c :=
 h.other (N:=fun _=>False) (T:=[]) (.of_below a) (fun _ _ h=>h) (by simp)
theorem Sh.below {n:Nt}(h:Sh W0 w O nb db d n)(a:Below w.heap.size w w'):Sh W0 w' O nb db d n :=
 h.past (G:=fun _=>False) (T:=[]) (.of_below a) (fun _ h=>h.elim) (by simp) (by simp) (by simp) (by simp) (by simp)
abbrev TPc:Nat:=97
def ybb (w:World)(b a:Nat):Prop:=w.heap[b]?=some (.cells #[yx a] TPc (0,0))
theorem zp2 (h:zkz B W)(u v:Value):zq (fun k=>k=B) [52] W ((W.setCell ⟨B,0,none⟩ u).setCell ⟨B,1,none⟩ v):=by
 have t1:zq (fun k=>k=B) [52] W (W.setCell ⟨B,0,none⟩ u):=zq.set (O:=fun k=>k=B) (T:=[52]) (zq.refl _ _ _) (.inl rfl) h (by simp) u;exact zq.set (O:=fun k=>k=B) (T:=[52]) t1 (.inl rfl) (zav h 0 u) (by simp) v
theorem zz9 (h:zkz B W):zqe (fun k=>k=B) [52] W:=fun k a=>by
 subst a;exact⟨_,_,_,h,by simp⟩
end Go.Proofs.YtlcllcgngjhoaaaGreatDoor
