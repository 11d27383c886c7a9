import Derived.Test.YtlcllcgngjhoaaaGreatDoorG43
set_option maxHeartbeats 8000000
set_option maxRecDepth 100000
set_option linter.all false
namespace Go.Proofs.YtlcllcgngjhoaaaGreatDoor
open Go.RowKit Go.Proofs.Tryz
variable {A A' O OP OP':Nat→Prop}{C:Array Value}{W0 w w1 w2 w8:World}{c c':Cl}{cb db k nb nm pm:Nat}{d:Dk}{n':Nt}
section
attribute [local go_sem ↓] jy jn j4 jo ji jh j3 jm zgb ze4
structure CR (W0 w w':World)(O A OP:Nat→Prop)(cb nb db pm nm:Nat)(d:Dk)(c':Cl)(n':Nt)(P:(Nat→Prop)→Prop):Prop where
 turn:zq (fun b=>O b∨A b∨OP b∨b=cb) (zbx::clT) w w'
 rest:∃ A' OP',zeb A A' w w'∧zeb OP OP' w w'∧Pv W0 w' O A' OP' cb nb pm nm c'∧P OP'
 sh:Sh W0 w' O nb db d n'
theorem zzu {σ:Type}{fe:σ→zc→(zc×Bool)×σ}{inc:zc→Nat→Nat→za→zc→Bool}(c:Cl)(s:σ)(i:Nat):zbd fe inc c s i=((zbd fe inc (zc5 c.size c.root c.room c.proved) s i).1,{ c with proved:=(zbd fe inc (zc5 c.size c.root c.room c.proved) s i).2.1.proved },(zbd fe inc (zc5 c.size c.root c.room c.proved) s i).2.2):=by
 cases a:zaq fe c.proved c.size ⟨s,[]⟩ (-1) i with
 | mk o m =>
  cases o with
  | inl p=>rw [zux a,zux (c:=zc5 c.size c.root c.room c.proved) a];rfl
  | inr e =>
   cases b:qx fe c.proved c.size m (qz 64 0 c.size i) with
   | mk f g =>
    cases f with
    | inl p=>rw [zuy a b,zuy (c:=zc5 c.size c.root c.room c.proved) a b];rfl
    | inr ps =>
     cases d:inc e.hash i c.size ps c.root with
     | false=>rw [zuz a b d,zuz (c:=zc5 c.size c.root c.room c.proved) a b d];rfl
     | true=>rw [zu0 a b d,zu0 (c:=zc5 c.size c.root c.room c.proved) a b d];rfl
theorem CBl.locked (h:CBl C nb pm nm c):CCs (C.setIfInBounds 0 (.int .i32 1)) nb pm nm∧(C.setIfInBounds 0 (.int .i32 1))[3]?=some (qo c.key)∧zra (C.setIfInBounds 0 (.int .i32 1)) c.size c.root∧(C.setIfInBounds 0 (.int .i32 1))[0]?=some (.int .i32 1) :=
 ⟨h.ccs.set 0 _ (by omega),by rw [vr (by omega)];exact h.key,h.num.set0 _,zdr (zb4.1 h.mu).1⟩
theorem CBl.free (a:CCs C nb pm nm)(b:C[3]?=some (qo c.key))(d:zra C c.size c.root)(e:C[0]?=some (.int .i32 1)):CBl (C.setIfInBounds 0 (.int .i32 0)) nb pm nm c :=
 ⟨a.set 0 _ (by omega),zdr (zb4.1 e).1,by rw [vr (by omega)];exact b,d.set0 _⟩
theorem yan {n:Nt}(h:Pv W0 w O A OP cb nb pm nm c)(m:Sh W0 w O nb db d n)(e:w.heap[cb]?=some (.cells C zbx (0,0)))(i:CBl C nb pm nm c)(f:Below w.heap.size w w1)(l:n.fetches+2*k < 4611686018427387904)(g:k≤1000000000):
  CS W0 (w1.setCell ⟨cb,0,none⟩ (.int .i32 1)) O A OP cb nb db pm nm (C.setIfInBounds 0 (.int .i32 1)) d c.room c.proved ⟨n,[]⟩ k∧zq (fun b=>b=cb) [zbx] w (w1.setCell ⟨cb,0,none⟩ (.int .i32 1)):=by
 have a:w1.heap[cb]?=some (.cells C zbx (0,0)):=(f.block _ (zi e)).trans e;have j:zq (fun b=>b=cb) [zbx] w1 (w1.setCell ⟨cb,0,none⟩ (.int .i32 1)):=zq.set (O:=fun b=>b=cb) (T:=[zbx]) (zq.refl _ _ _) (.inl rfl) a (by simp) _;refine⟨((h.cs m e i.ccs l g).below f).client j ⟨(h.own cb (.inr (.inr rfl))).1,h.cbA,h.cbP⟩ (zav a 0 _) i.locked.1,?_⟩;exact(zq.of_below f).trans (j.mono (fun _ h=> .inl h) (fun _ h=>h))
theorem zmt (h:Pv W0 w O A OP cb nb pm nm c)(s:zq (fun b=>b=cb) [zbx] w w2)(m:zq (fun b=>O b∨A b∨OP b∨b=cb) (zbx::clT) w2 w8)(p:zeb A A' w2 w8)(o:zeb OP OP' w2 w8)(a:CS W0 w8 O A' OP' cb nb db pm nm C d c'.room c'.proved ⟨n',[]⟩ k)
 (t:C[3]?=some (qo c'.key)) (u:zra C c'.size c'.root) (v:C[0]?=some (.int .i32 1)) {P:(Nat→Prop)→Prop} (x:¬ OP' cb→P OP'):CR W0 w (w8.setCell ⟨cb,0,none⟩ (.int .i32 0)) O A OP cb nb db pm nm d c' n' P:=by
 have j:=h.own cb (.inr (.inr rfl));have z:=s.size;have B:=m.size;have l:¬ A' cb:=fun e=>by
  rcases p.2 cb e with e | e
  ·exact h.cbA e
  ·omega
 have i:¬ OP' cb:=fun e=>by
  rcases o.2 cb e with e | e
  ·exact h.cbP e
  ·omega
 have n:zq (fun b=>b=cb) [zbx] w8 (w8.setCell ⟨cb,0,none⟩ (.int .i32 0)):=zq.set (O:=fun b=>b=cb) (T:=[zbx]) (zq.refl _ _ _) (.inl rfl) a.cli (by simp) _;have g:=a.client n ⟨j.1,l,i⟩ (zav a.cli 0 _) (a.cells.set 0 _ (by omega));have D:(w8.setCell ⟨cb,0,none⟩ (.int .i32 0)).heap.size=w8.heap.size:=by simp [World.setCell]
 refine⟨?_,⟨A',OP',⟨p.1,fun b f=>(p.2 b f).imp id (fun h=>⟨by omega,by omega⟩)⟩,⟨o.1,fun b f=>(o.2 b f).imp id (fun h=>⟨by omega,by omega⟩)⟩,?_,x i⟩,Sh.drop g⟩
 ·refine(s.mono (fun b f=> .inr (.inr (.inr f))) (by decide)).trans ((m.mono (fun _ h=> .inl h) (fun _ h=>h)).trans (n.mono (fun b f=> .inl (.inl (.inr (.inr (.inr f))))) (by decide)))
 ·refine⟨fun b f=>?_,fun b r q=>a.away b r (.inr q),l,i,⟨_,zav a.cli 0 _,CBl.free a.cells t u v⟩,g.prv,?_⟩
  ·rcases f with f | f | rfl
   ·exact⟨a.own b (.inr f),g.lt b (.inr (.inl f)),fun e=>a.apart b e f⟩
   ·refine⟨?_,g.lt b (.inr (.inr f)),fun e=>a.away b f (.inl e)⟩;rcases o.2 b f with e | e
    ·exact(h.own b (.inr (.inl e))).1
    ·have:=a.base.size;have:=h.own cb (.inr (.inr rfl));omega
   ·exact⟨j.1,by omega,j.2.2⟩
  ·obtain⟨L,y,h0,-⟩:=g.nee;obtain rfl:L=[]:=h0.empty;exact y
end
variable {B:Nat}{w':World}
section
attribute [local go_sem ↓] jy jn j4 jo ji jh j3 jm zgb ze4
theorem zoh.join {c:Nat→Addr}{o:Sum Er (zc×za)}{r:Ending}(h:zoh c B w' o r):∃ x v e,r= .returned (.tuple #[x,v,e])∧∀(N:Nat→Prop) (b:World),zq N [zbx] w' b→zoh c B b o r:=by
 rcases h with ⟨e,ps,x,v,d,a,i,k,j⟩ | ⟨p,g,d,a,i⟩ | ⟨d,a⟩
 ·refine⟨x,v,_,j,fun N b f=> .inl ⟨e,ps,x,v,d,?_,zo i f (by decide),k,j⟩⟩;rcases a with a | a
  ·exact .inl a
  ·exact .inr ⟨zo a.1 f (by decide),a.2⟩
 ·exact⟨_,_,_,i,fun N b f=> .inr (.inl ⟨p,g,d,f.keep a (by decide),i⟩)⟩
 ·exact⟨_,_,_,a,fun N b f=> .inr (.inr ⟨d,a⟩)⟩
theorem zeb.turn (h:zq (fun b=>O b∨A b∨OP b) clT w w'):zq (fun b=>O b∨A b∨OP b∨b=cb) (zbx::clT) w w':=h.mono (fun _ a=>a.imp id (fun h=>h.imp id .inl)) (fun _ c=>zc0 _ c)
theorem yl4 (m:World)(u:Nat→Addr)(O A W:Nat→Prop)(a L P M S:Nat)(d:Dk)(c:Cl)(n:Nt)(i:Nat)(w:World)(hE:Env m)(hS:zbz m u)(G:zjx m)(h:Pv m w O A W a L M S c)(hs:Sh m w O L P d n)(hf:n.fetches+20000 < 4611686018427387904)(Z:c.size < 9223372036854775808)(hi:i < c.size)
 (q:∀ p m',zaq (yz d.fs) c.proved c.size ⟨n,[]⟩ (-1) i=(.inr p,m')→p.entry.length≤1000000) (J:c.proved.length≤100000000000) (K:WfM c.proved) :
  Calls prog 58 #[yx a,.int .i64 i] w fun r N=>CR m w N O A W a L P M S d (zbd (yz d.fs) zfw c n i).2.1 (zbd (yz d.fs) zfw c n i).2.2 (zu7 N M c.room (zbd (yz d.fs) zfw c n i).2.1.proved r)∧zoh u w.heap.size N (zbd (yz d.fs) zfw c n i).1 r:=by
 obtain⟨C,Q,y⟩:=h.cli;have HL:=zf (zwh ⟨a,0,none⟩ w (zw Q 0 _ y.mu).1 (zw Q 0 _ y.mu).2);obtain⟨z,ht⟩:=yan (k:=8401) h hs Q y (yf _ w) (by omega) (by omega);have HT:=zf ht;have HH:=zf h;have g:=zf y.locked;have V:Hid ((w.setCell ⟨a,0,none⟩ (.int .i32 1)).heap.size=w.heap.size):=by show _=_;simp [World.setCell]
 have c4:(w.setCell ⟨a,0,none⟩ (.int .i32 1)).cell? ⟨a,4,none⟩=some (.int .i64 c.size):=(zw z.cli 4 _ y.locked.2.2.1.sz).1;have t:=zf (zw6 m u O A W a L P M S _ d c.room c.proved n 0 c.size i c.root Z hi y.locked.2.2.1 hE hS G (fun A' F ab k' m' N=>zr8 m O A' F a L P M S _ d c.room ab k' m' N) q J K (fun b hb=>(h.own b (.inr (.inl hb))).1) _ (z.less (by have:=zth c.size i (by omega);unfold rPl;omega)));have D:=zf (zzu (fe:=yz d.fs) (inc:=zfw) c n i);have Y:¬(i:Int) < 0:=by omega
 have I:(i:Int) < (c.size:Int):=by omega
 clear Q y h hs z ht hS hE G q J K hf;generalize zbd (yz d.fs) zfw (zc5 c.size c.root c.room c.proved) n i=RC at *;obtain⟨o,c2,n2⟩:=RC;simp only at *;unfold yx at t ⊢
 go_enter_defers func58,ntmps58
 go_wp2_with fail;refine HL.o.mono ?_;rintro r w2 ⟨rfl,rfl⟩;clear HL;generalize w.setCell ⟨a,0,none⟩ (.int .i32 1)=W2 at *;go_wp2_with fail;refine t.o.mono ?_;rintro r B ⟨j,R⟩;obtain⟨x,v,e,rfl,R⟩:=R.join;obtain⟨A',F,hA,hP,l,H⟩:=j.cs;have U:=zf H;have HU:=zf (zi7 ⟨a,0,none⟩ .returning B (zw l.cli 0 _ g.o.2.2.2).1 (zw l.cli 0 _ g.o.2.2.2).2);have E:=zf j;have HR:=zf R;have HA:=zf hA;have HP:=zf hP;have s:=zf l;clear j R hA hP l H t c4 Y I;go_wp2_with fail;refine zb9 (f:=82) (args:=#[.pointer (some ⟨a,0,none⟩)]) (by simp) (by simp [go_sem]) ?_;refine HU.o.mono ?_;rintro e u' w9 ⟨rfl,rfl,rfl⟩;simp only [Leaves,settle];refine⟨.tuple #[x,v,e],by simp [results,results58,go_sem],?_⟩;rw [D.o];have aa:zq (fun b=>b=a) [zbx] B (B.setCell ⟨a,0,none⟩ (.int .i32 0)):=zq.set (O:=fun b=>b=a) (T:=[zbx]) (zq.refl _ _ B) (.inl rfl) s.o.cli (by simp) (.int .i32 0) (o:=0);refine⟨zmt (w8:=B) (c':={ c with proved:=c2.proved }) HH.o HT.o (zeb.turn E.o.turn) HA.o HP.o s.o g.o.2.1 g.o.2.2.1 g.o.2.2.2 (fun X x' v' e' he=>zrd.on (U.o x' v' e' he) aa (fun k hk e=>X (e▸hk)) (by decide)),?_⟩;have:=HR.o _ _ (zq.set (O:=fun b=>b=a) (T:=[zbx]) (zq.refl _ _ B) (.inl rfl) s.o.cli (by simp) (.int .i32 0) (o:=0));rw [V.o] at this;exact this
end
variable {B':Nat}{r rr:zc}{v:Value}
section
attribute [local go_sem ↓] jy jn j4 jo ji jh j3 jm zgb ze4
theorem ycg {x:Option (zc)}(h:zn2 w v x):(convert 114 9 v).run prog w= .ok (.string ⟨(x.getD []).toArray⟩) w:=by
 rcases h with ⟨d,rfl,a⟩ | ⟨rfl,rfl⟩
 ·exact a.conv
 ·kernel_rfl
theorem yf4 (t c:zc)(h:t.length≤1048576)(g:c.length≤9223372036854775807)(w:World)(E:Env w):
  Calls prog 84 #[.string ⟨t.toArray⟩,.string ⟨c.toArray⟩] w fun r f=>Below w.heap.size w f∧∃ n a b,a.length=8∧n < 9223372036854775808∧r= .returned (.tuple #[.agg (trC n a).toArray,.bool b])∧((b=true∧zba t c n a)∨(b=false∧∀ n a,¬ zba t c n a)):=by
 refine(ybn t c h g w E).mono ?_;rintro r f ⟨e,⟨n,i,j,k,l,m,o,p,q,d,rfl⟩ | ⟨d,rfl⟩⟩
 ·exact⟨e,n,_,true,rfl,by have:=d.1;omega,rfl,.inl ⟨rfl,d⟩⟩
 ·exact⟨e,0,vg,false,rfl,by omega,rfl,.inr ⟨rfl,d⟩⟩
theorem z8e {σ:Type}{fe:σ→zc→(zc×Bool)×σ}{con:Nat→Nat→zc→zc→za→Bool}(c:Cl)(s:σ)(n:Nat)(r:zc):vt fe con c s n r=vt fe con (zc5 c.size c.root c.room c.proved) s n r:=by
 by_cases g:n < c.size
 ·rw [znc g,znc (c:=zc5 c.size c.root c.room c.proved) g];rfl
 ·by_cases e:n=c.size
  ·by_cases a:r=c.root
   ·rw [zlw e a,zlw (c:=zc5 c.size c.root c.room c.proved) e a];rfl
   ·rw [zkc e a,zkc (c:=zc5 c.size c.root c.room c.proved) e a];rfl
  ·have b:c.size < n:=by omega
   by_cases a:c.size=0
   ·rw [zlx b a,zlx (c:=zc5 c.size c.root c.room c.proved) b a];rfl
   ·cases d:qx fe c.proved n ⟨s,[]⟩ (qk 64 c.size 0 n true) with
    | mk o m =>
     cases o with
     | inl p=>rw [zr2 b a d,zr2 (c:=zc5 c.size c.root c.room c.proved) b a d];rfl
     | inr ps =>
      cases f:con c.size n c.root r ps with
      | false=>rw [zr3 b a d f,zr3 (c:=zc5 c.size c.root c.room c.proved) b a d f];rfl
      | true=>rw [zr4 b a d f,zr4 (c:=zc5 c.size c.root c.room c.proved) b a d f];rfl
theorem z8d {σ:Type}{fe:σ→zc→(zc×Bool)×σ}{con:Nat→Nat→zc→zc→za→Bool}{s b:σ}{n:Nat}{e:Er}{a:Mm}(h:vt fe con c s n r=(.inl e,a,b)):a=c.proved:=by
 unfold vt at h;split at h
 ·simp only [ye] at h;exact h.2.1.symm
 ·split at h
  ·split at h
   ·simp at h
   ·simp only [ye] at h;exact h.2.1.symm
  ·split at h
   ·simp at h
   ·split at h
    ·simp only [ye] at h;exact h.2.1.symm
    ·split at h
     ·simp at h
     ·simp only [ye] at h;exact h.2.1.symm
theorem zog.join {d:Nat→Addr}{o:Sum Er (za)}{r:Ending}(h:zog d B w' o r):∃ v e,r= .returned (.tuple #[v,e])∧((e= .nilIface∧∃ ps,o= .inr ps)∨∃ l p k,v= .slice none 0 0∧e= .iface l p∧o= .inl k)∧∀(N:Nat→Prop) (a:World),zq N [zbx] w' a→zog d B a o r:=by
 rcases h with ⟨ps,v,b,c,f,j⟩ | ⟨p,g,b,c,f⟩ | ⟨b,c⟩ | ⟨b,c⟩
 ·exact⟨v,_,j,.inl ⟨rfl,ps,b⟩,fun N a i=> .inl ⟨ps,v,b,zo c i (by decide),f,j⟩⟩
 ·exact⟨_,_,f,.inr ⟨_,_,_,rfl,rfl,b⟩,fun N a i=> .inr (.inl ⟨p,g,b,i.keep c (by decide),f⟩)⟩
 ·exact⟨_,_,c,.inr ⟨_,_,_,rfl,rfl,b⟩,fun N a _=> .inr (.inr (.inl ⟨b,c⟩))⟩
 ·exact⟨_,_,c,.inr ⟨_,_,_,rfl,rfl,b⟩,fun N a _=> .inr (.inr (.inr ⟨b,c⟩))⟩
theorem zog.lower {a:Nat→Addr}{o:Sum Er (za)}{r:Ending}(h:zog a B w' o r)(f:B'≤B):zog a B' w' o r:=by
 rcases h with ⟨ps,v,b,c,d,e⟩ | h
 ·exact .inl ⟨ps,v,b,zk7 c f,d,e⟩
 ·exact .inr h
theorem yey {k n:Nat}{h:zc}{f:zc}(s:w.heap[cb]?=some (.cells C zbx (0,0)))(a:CCs C nb pm nm)(y:C[3]?=some (qo f))(z:C[0]?=some (.int .i32 1))(u:zra C k h)(m:rr.length=8):
  (zno (.pointer (some ⟨cb,4,none⟩)) (.agg (trC n rr).toArray)).run prog w= .ok () (w.setCells cb 4 (trC n rr))∧∃ d,(w.setCells cb 4 (trC n rr)).heap[cb]?=some (.cells d zbx (0,0))∧CCs d nb pm nm∧d[3]?=some (qo f)∧d[0]?=some (.int .i32 1)∧zra d n rr:=by
 have p:15≤C.size:=by
  have:=(zb4.1 a.nee).1;omega
 have A:15≤C.toList.length:=by simpa using p
 have r:=zh9 n m;have q:w.there cb 4 9:=by
  intro j t;have:=zw s (4+j) (C[4+j]'(by omega)) (zid _);exact⟨by rw [this.1];rfl,this.2⟩
 have o:w.heap[cb]?=some (.cells C.toList.toArray zbx (0,0)):=s;have e:=zfs (trC n rr) 4 o (by rw [r];omega);have c:∀ i,i < 4→(C.toList.take 4++(trC n rr++C.toList.drop (4+(trC n rr).length))).toArray[i]?=C[i]?:=by
  intro i x;rw [jw,qd (by simp;omega),List.getElem?_take_of_lt x,zco]
 have g:∀ j,j < 9→(C.toList.take 4++(trC n rr++C.toList.drop (4+(trC n rr).length))).toArray[4+j]?=(trC n rr)[j]?:=by
  intro j t;have l:(C.toList.take 4).length=4:=by simp;omega
  rw [jw,qi (by omega),l,zc1,qd (by omega)]
 have b:∀ j,(C.toList.take 4++(trC n rr++C.toList.drop (4+(trC n rr).length))).toArray[13+j]?=C[13+j]?:=by
  intro j;have l:(C.toList.take 4).length=4:=by simp;omega
  rw [jw,qi (by omega),l,qi (by omega),zeu,r,zco];congr 1;omega
 refine⟨zkr q m,_,e,⟨(c 2 (by omega)).trans a.net,(b 0).trans a.prv,(b 1).trans a.nee⟩,(c 3 (by omega)).trans y,(c 0 (by omega)).trans z,⟨(g 0 (by omega)).trans rfl,fun j v hv=>?_,m⟩⟩;have t:j < 8:=by
  have:=(xy.1 hv).1;simp at this;omega
 rw [show 5+j=4+(j+1) by omega,g (j+1) (by omega)];exact hv
def cpP:zc := "checkpoint".toUTF8.data.toList
def ymy (a:Nat→Addr)(B:Nat)(b:World)(o:Sum Er (za))(r:Ending):Prop:=zog a B b o r∨(o= .inl .cp∧r= .returned (.tuple #[.slice none 0 0,zd2 a 2]))
theorem z9o (W0:World)(D:Nat→Addr)(O A OP:Nat→Prop)(j nb db pm nm:Nat)(d:Dk)(c:Cl)(n:Nt)(w:World)(hE:Env W0)(hS:zbz W0 D)(aJ:zjx W0)(h:Pv W0 w O A OP j nb pm nm c)(hs:Sh W0 w O nb db d n)(hf:n.fetches+20000 < 4611686018427387904)(a0:c.size < 9223372036854775808)(aO:c.key.length≤9223372036854775807)(aj:(yz d.fs n cpP).1.1.length≤1048576)(aS:c.proved.length≤100000000000)(aV:WfM c.proved):
  Calls prog 48 #[yx j] w fun r w'=>∃ o,zkt c.key (yz d.fs n cpP).1 o∧CR W0 w w' O A OP j nb db pm nm d (zi8 (yz d.fs) zc7 c (yz d.fs n cpP).2 o).2.1 (zi8 (yz d.fs) zc7 c (yz d.fs n cpP).2 o).2.2 (fun _=>True)∧ymy D w.heap.size w' (zi8 (yz d.fs) zc7 c (yz d.fs n cpP).2 o).1 r:=by
 obtain⟨C,hC,hB⟩:=h.cli;have HL:=zf (zwh ⟨j,0,none⟩ w (zw hC 0 _ hB.mu).1 (zw hC 0 _ hB.mu).2);obtain⟨ax,ht⟩:=yan (k:=8401) h hs hC hB (yf _ w) (by omega) (by omega);have HT:=zf ht;have HH:=zf h;have i:=zf hB.locked;have aD:Hid ((w.setCell ⟨j,0,none⟩ (.int .i32 1)).heap.size=w.heap.size):=by show _=_;simp [World.setCell]
 have c3:(w.setCell ⟨j,0,none⟩ (.int .i32 1)).cell? ⟨j,3,none⟩=some (qo c.key):=(zw ax.cli 3 _ hB.locked.2.1).1;have s:=zf ax;have HE:=zf hE;have HS:=zf hS;have aY:=zf aJ;have L:=zf (And.intro aO (And.intro aj (And.intro aS aV)));clear hC hB h hs ax ht hS hE aJ aS aV aO aj;unfold yx
 go_enter_defers func48,ntmps48
 go_wp2_with fail;refine HL.o.mono ?_;rintro r w2 ⟨rfl,rfl⟩;clear HL;generalize w.setCell ⟨j,0,none⟩ (.int .i32 1)=Y at *;have I:=zf (s.o.st.ok (by have:=s.o.few;omega));have ap:=zf (zvo O nb db j n d cpP Y I.o.nf I.o.fl I.o.ly I.o.ll I.o.fe I.o.td s.o.disk s.o.net (zw s.o.cli 2 _ s.o.cells.net).1);unfold yx at ap;go_wp2_with fail;refine ap.o.mono ?_;rintro r l ⟨v,x,rfl,ai,aR,aM,hx⟩;have H:Hid (CS W0 l O (jz A Y l) OP j nb db pm nm (C.setIfInBounds 0 (.int .i32 1)) d c.room c.proved ⟨(yz d.fs n cpP).2,[]⟩ 8400):=by
  refine s.o.next (ai.mono (fun _ h=> .inl h) (by decide)) ⟨(yz d.fs n cpP).2,[]⟩ 8400 aR (s.o.st.step cpP) ?_ (s.o.nee.stay ai (fun b u e=>s.o.apart b e u) (by decide) (by decide) (fun _ h=> .inl h)) (by simp);show(yz d.fs n cpP).2.fetches+_ < _;rw [zh6];have:=s.o.few;simp only at this;omega
 have ae:Hid (zq (fun b=>O b∨A b∨OP b∨b=j) (zbx::clT) Y l):=ai.mono (fun _ h=> .inl h) (by decide);have Z:Hid (zeb A (jz A Y l) Y l):=zvg A Y l;have aX:=zf aM;have HX:=zf hx;clear ai aR aM hx ap I s c3;generalize aI:yz d.fs n cpP=NF at *;obtain⟨⟨t,S⟩,n3⟩:=NF;have ab:=zf aI;clear aI;simp only at *;have HK:Hid (∀ X,Below l.heap.size l X→(convert 114 9 v).run prog X= .ok (.string ⟨t.toArray⟩) X∧X.cell? ⟨j,3,none⟩=some (.string ⟨c.key.toArray⟩)):=by
  intro X hX;have:=ycg (zn2.turn (O:=fun _=>False) (T:=[]) aX.o (.of_below hX) (by decide));rw [HX.o] at this;exact⟨this,(zw ((hX.block _ (zi H.o.cli)).trans H.o.cli) 3 _ i.o.2.1).1⟩
 have ak:Hid (∀ X,Below l.heap.size l X→Calls prog 84 #[.string ⟨t.toArray⟩,.string ⟨c.key.toArray⟩] X fun r w'=>∃ g a b,r= .returned (.tuple #[.agg (trC g a).toArray,.bool b])∧Below X.heap.size X w'∧a.length=8∧g < 9223372036854775808∧((b=true∧zba t c.key g a)∨(b=false∧∀ n W,¬ zba t c.key n W))):=by
  intro X hX;refine(yf4 t c.key L.o.2.1 L.o.1 X (HE.o.below (H.o.below hX).base)).mono ?_;rintro r w' ⟨u,g,a,b,J,hn,rfl,K⟩;exact⟨g,a,b,rfl,u,J,hn,K⟩
 have al:Hid (∀(z:World) (g:Nat) (a:zc),Below (l.alloc (.cells #[.int .i64 0,.int .u8 0,.int .u8 0,.int .u8 0,.int .u8 0,.int .u8 0,.int .u8 0,.int .u8 0,.int .u8 0] 112)).drew.heap.size (l.alloc (.cells #[.int .i64 0,.int .u8 0,.int .u8 0,.int .u8 0,.int .u8 0,.int .u8 0,.int .u8 0,.int .u8 0,.int .u8 0] 112)).drew z→a.length=8→(zno (.pointer (some ⟨l.heap.size,0,none⟩)) (.agg (trC g a).toArray)).run prog z= .ok () (z.setCells l.heap.size 0 (trC g a))∧(z.setCells l.heap.size 0 (trC g a)).heap[l.heap.size]?=some (.cells (trC g a).toArray 112 (0,0))):=by
  intro z g a u J;have hz:z.heap[l.heap.size]?=some (.cells (trC 0 vg).toArray 112 (0,0)):=by
   rw [u.block _ (by show _ < (l.alloc _).heap.size;simp)];exact zg l _
  exact⟨zkr (zb1 hz) J,zb2 hz (by rw [zh9 _ J];rfl)⟩
 have am:Hid (∀(z:World) (g:Nat) (a:zc),a.length=8→(zno (.pointer (some ⟨z.heap.size,0,none⟩)) (.agg (trC g a).toArray)).run prog (z.alloc (.cells #[.int .i64 0,.int .u8 0,.int .u8 0,.int .u8 0,.int .u8 0,.int .u8 0,.int .u8 0,.int .u8 0,.int .u8 0] 112))= .ok () ((z.alloc (.cells #[.int .i64 0,.int .u8 0,.int .u8 0,.int .u8 0,.int .u8 0,.int .u8 0,.int .u8 0,.int .u8 0,.int .u8 0] 112)).setCells z.heap.size 0 (trC g a))∧((z.alloc (.cells #[.int .i64 0,.int .u8 0,.int .u8 0,.int .u8 0,.int .u8 0,.int .u8 0,.int .u8 0,.int .u8 0,.int .u8 0] 112)).setCells z.heap.size 0 (trC g a)).heap[z.heap.size]?=some (.cells (trC g a).toArray 112 (0,0))):=by
  intro z g a J;have hz:(z.alloc (.cells #[.int .i64 0,.int .u8 0,.int .u8 0,.int .u8 0,.int .u8 0,.int .u8 0,.int .u8 0,.int .u8 0,.int .u8 0] 112)).heap[z.heap.size]?=some (.cells (trC 0 vg).toArray 112 (0,0)):=zg z _;exact⟨zkr (zb1 hz) J,zb2 hz (by rw [zh9 _ J];rfl)⟩
 have P:Hid (Below l.heap.size l l.drew):=(yf _ l).drew;have Q:Hid (∀ o,Below l.heap.size l (l.alloc o).drew):=fun o=>(zk l o).drew;go_wp2_with fail;go_cut [6,7] from 26 to 34 (fun s6 s7 wx=>∃(tb g:Nat) (a:zc) (b:Bool),s6= .pointer (some ⟨tb,0,none⟩)∧s7= .bool b∧wx.heap[tb]?=some (.cells (trC g a).toArray 112 (0,0))∧l.heap.size≤tb∧Below l.heap.size l wx∧a.length=8∧g < 9223372036854775808∧((b=true∧zba t c.key g a)∨(b=false∧∀ n W,¬ zba t c.key n W)))
 case first =>
  go_region_held3 (fun X=>(convert 114 9 v).run prog X= .ok (.string ⟨t.toArray⟩) X∧X.cell? ⟨j,3,none⟩=some (.string ⟨c.key.toArray⟩)) (first | exact HK.o _ P.o | exact HK.o _ (Q.o _) | exact HK.o _ m.o | exact HK.o _ (m.o.alloc m.o.size _) | exact HK.o _ (xn m.o (zm _) _ _) | exact HK.o _ (xn (m.o.alloc m.o.size _) m.o.size _ _)) (first
   | (go_at_call 84;refine(ak.o _ (by first | exact P.o | exact Q.o _)).mono ?_;rintro r z ⟨g,a,b,rfl,ag,J,V,K⟩;have m:Hid (Below l.heap.size l z):=(by first | exact P.o.trans (ag.mono P.o.size) | exact(Q.o _).trans (ag.mono (Q.o _).size));have N:=zf K;have F:=zf V;have H8:=zf J;(first | (have HQ:=zf (al.o z g a ag J)) | (have HQ:=zf (am.o z g a J)));have aZ:=HQ.o.1;clear ag J V K))
  all_goals (rename_i y;clear y)
  all_goals go_wp2_with fail
  all_goals go_meet
  all_goals first
   | exact⟨l.heap.size,g,a,b,rfl,rfl,HQ.o.2,zm _,xn m.o (zm _) _ _,H8.o,F.o,N.o⟩
   | exact⟨z.heap.size,g,a,b,rfl,rfl,HQ.o.2,m.o.size,xn (m.o.alloc m.o.size _) m.o.size _ _,H8.o,F.o,N.o⟩
 case rest =>
  obtain⟨tb,g,a,b,rfl,rfl,aU,aj,aK,J,V,K⟩:=hcut;obtain⟨X,hX⟩:∃ X,X=wc:=⟨_,rfl⟩;subst hX;have B:=zf aK;have R:=zf aU;have N:=zf K;have F:=zf (And.intro J V);clear aU aj aK J V K HK ak al am P Q;cases S with
  | false =>
   have q:=zf (H.o.below B.o);have HU:=zf (zi7 ⟨j,0,none⟩ .returning X.drew (zw q.o.cli 0 _ i.o.2.2.2).1 (zw q.o.cli 0 _ i.o.2.2.2).2);have qe:X.cell? ⟨0,0,none⟩=some (.iface 364 (.pointer (some (D 2)))):=zki q.o.base HS.o.check;go_wp2_with fail
   go_region_held3 (fun w'=>w'.cell? ⟨0,0,none⟩=some (.iface 364 (.pointer (some (D 2))))) (go_keep) (fail)
   rename_i y;clear y;go_wp2_with fail;refine zb9 (f:=82) (args:=#[.pointer (some ⟨j,0,none⟩)]) (by simp) (by simp [go_sem]) ?_;refine HU.o.mono ?_;rintro e u' w9 ⟨rfl,rfl,rfl⟩;simp only [Leaves,settle];refine⟨.tuple #[.slice none 0 0,zd2 D 2],by simp [results,results48,go_sem,zd2],?_⟩;rw [ab.o];refine⟨none,.inl rfl,?_,.inr ⟨rfl,rfl⟩⟩;exact zmt (w8:=X.drew) (c':=c) HH.o HT.o ((ae.o.then_below B.o).then_below (yf _ X).drew) ((Z.o.below B.o.size).below (zm _)) (zeb.refl _ _ _) (q.o.below (yf _ X).drew) i.o.2.1 i.o.2.2.1 i.o.2.2.2 (fun _=>trivial)
  | true =>
   cases b with
   | false =>
    have q:=zf (H.o.below B.o);have HU:=zf (zi7 ⟨j,0,none⟩ .returning X.drew (zw q.o.cli 0 _ i.o.2.2.2).1 (zw q.o.cli 0 _ i.o.2.2.2).2);have qe:X.cell? ⟨0,0,none⟩=some (.iface 364 (.pointer (some (D 2)))):=zki q.o.base HS.o.check;go_wp2_with fail
    go_region_held3 (fun w'=>w'.cell? ⟨0,0,none⟩=some (.iface 364 (.pointer (some (D 2))))) (go_keep) (fail)
    rename_i y;clear y;go_wp2_with fail;refine zb9 (f:=82) (args:=#[.pointer (some ⟨j,0,none⟩)]) (by simp) (by simp [go_sem]) ?_;refine HU.o.mono ?_;rintro e u' w9 ⟨rfl,rfl,rfl⟩;simp only [Leaves,settle];refine⟨.tuple #[.slice none 0 0,zd2 D 2],by simp [results,results48,go_sem,zd2],?_⟩;rw [ab.o];refine⟨none,?_,?_,.inr ⟨rfl,rfl⟩⟩
    ·rcases N.o with h | h
     ·exact absurd h.1 (by decide)
     ·exact .inr h.2
    exact zmt (w8:=X.drew) (c':=c) HH.o HT.o ((ae.o.then_below B.o).then_below (yf _ X).drew) ((Z.o.below B.o.size).below (zm _)) (zeb.refl _ _ _) (q.o.below (yf _ X).drew) i.o.2.1 i.o.2.2.1 i.o.2.2.2 (fun _=>trivial)
   | true =>
    have aC:Hid (zba t c.key g a):=by
     rcases N.o with h | h
     ·exact h.2
     ·exact absurd h.1 (by decide)
    have q:=zf (H.o.below B.o);have au:=zf (ae.o.then_below B.o);have aa:=zf (Z.o.below B.o.size);have aP:(zwg (.pointer (some ⟨tb,0,none⟩))).run prog X= .ok (.agg (trC g a).toArray) X:=zo0 (j6 R.o) F.o.1;have ad:=zf (ydr W0 D O (jz A Y l) OP j nb db pm nm _ d c.room c.proved n3 0 c.size g c.root a a0 F.o.2 F.o.1 i.o.2.2.1 HE.o HS.o aY.o L.o.2.2.1 L.o.2.2.2 (fun b u=>(HH.o.own b (.inr (.inl u))).1) X q.o);rw [← z8e] at ad;have aG:Hid (∀ o pr s1,vt (yz d.fs) zc7 c n3 g a=(o,pr,s1)→zi8 (yz d.fs) zc7 c n3 (some (g,a))=match o with | .inl e=>(.inl e,c,s1) | .inr ps=>(.inr ps,{ c with size:=g,root:=a,proved:=pr },s1)):=by
     intro o pr s1 e;unfold zi8;simp only [e];cases o<;>rfl
    have aA:Hid (∀ e pr s1,vt (yz d.fs) zc7 c n3 g a=(.inl e,pr,s1)→pr=c.proved):=fun e pr s1 h=>z8d h;clear H ae Z;unfold yx at ad;generalize vt (yz d.fs) zc7 c n3 g a=PC at *;obtain⟨o,a1,n4⟩:=PC;simp only at *;go_wp2_with fail;refine ad.o.mono ?_;rintro r M ⟨G,hr⟩;obtain⟨pv,ev,rfl,aw,hr⟩:=hr.join;obtain⟨A',aH,hA,hP,aL,-⟩:=G.cs;have aE:Hid (zq (fun b=>O b∨A b∨OP b∨b=j) (zbx::clT) Y M):=by
     refine au.o.trans ((zeb.turn (cb:=j) G.turn).mono (fun b u=>?_) (fun _ h=>h));rcases u with u | u | u | u
     ·exact .inl (.inl u)
     ·exact(aa.o.2 b u).imp (fun h=> .inr (.inl h)) id
     ·exact .inl (.inr (.inr (.inl u)))
     ·exact .inl (.inr (.inr (.inr u)))
    have ar:=zf au.o.size;have an:Hid (zeb A A' Y M):=⟨fun b u=>hA.1 b (aa.o.1 b u),fun b u=>by
     have:=ar.o;rcases hA.2 b u with h | h
     ·exact(aa.o.2 b h).imp id (fun h=>⟨h.1,zx h.2 G.turn.size⟩)
     ·exact .inr ⟨by omega,h.2⟩⟩
    have aq:Hid (zeb OP aH Y M):=⟨hP.1,fun b u=>(hP.2 b u).imp id (fun h=>⟨zu ar.o h.1,h.2⟩)⟩;have E:=zf aL;have HR:=zf hr;have aF:=zf (G.turn.keep R.o (by decide));clear G hr hA hP aL ad q au aa R aP;have az:Hid (w.heap.size≤X.heap.size):=by have:=ar.o;have:=aD.o;show _≤_;omega
    rcases aw with ⟨rfl,ps,rfl⟩ | ⟨ty,p,er,rfl,rfl,rfl⟩
    ·have aP:(zwg (.pointer (some ⟨tb,0,none⟩))).run prog M= .ok (.agg (trC g a).toArray) M:=zo0 (j6 aF.o) F.o.1;obtain⟨aZ,C',af,U,aN,ah,aQ⟩:=yey (n:=g) E.o.cli E.o.cells i.o.2.1 i.o.2.2.2 i.o.2.2.1 F.o.1;have ao:=zf (And.intro U (And.intro aN (And.intro ah aQ)));have ay:zq (fun b=>b=j) [zbx] M (M.setCells j 4 (trC g a)):=zq.setCells (O:=fun b=>b=j) (T:=[zbx]) (zq.refl _ _ M) (.inl rfl) E.o.cli (by simp) _ _;have aW:Hid (W0.heap.size≤j∧¬ A' j∧¬ aH j):=by
      have h1:=HH.o.own j (.inr (.inr rfl));have h2:=aD.o;refine⟨h1.1,fun e=>?_,fun e=>?_⟩
      ·rcases an.o.2 j e with h | h
       ·exact HH.o.cbA h
       ·omega
      ·rcases aq.o.2 j e with h | h
       ·exact HH.o.cbP h
       ·omega
     have aB:=zf (E.o.client ay aW.o af U);have av:=zf ay;have HU:=zf (zi7 ⟨j,0,none⟩ .returning (M.setCells j 4 (trC g a)) (zw af 0 _ ah).1 (zw af 0 _ ah).2);clear af U aN ah aQ ay;generalize M.setCells j 4 (trC g a)=W6 at *;go_wp2_with fail;refine zb9 (f:=82) (args:=#[.pointer (some ⟨j,0,none⟩)]) (by simp) (by simp [go_sem]) ?_;refine HU.o.mono ?_;rintro e u' w9 ⟨rfl,rfl,rfl⟩;simp only [Leaves,settle];refine⟨.tuple #[pv,.nilIface],by simp [results,results48,go_sem],?_⟩;rw [ab.o];refine⟨some (g,a),⟨rfl,aC.o⟩,?_⟩;rw [aG.o _ _ _ rfl];have s6:=av.o.size;refine⟨zmt (w8:=W6) (c':={ c with size:=g,root:=a,proved:=a1 }) HH.o HT.o (aE.o.trans (av.o.mono (fun b u=> .inl (.inr (.inr (.inr u)))) (by decide))) (an.o.below s6) (aq.o.below s6) aB.o ao.o.2.1 ao.o.2.2.2 ao.o.2.2.1 (fun _=>trivial),.inl ((HR.o (fun b=>b=j) _ ?_).lower az.o)⟩;exact av.o.trans ((zq.set (O:=fun b=>b=j) (T:=[zbx]) (zq.refl _ _ W6) (.inl rfl) aB.o.cli (by simp) _).mono (fun _ h=> .inl h) (fun _ h=>h))
    ·obtain rfl:=aA.o _ _ _ rfl;have HU:=zf (zi7 ⟨j,0,none⟩ .returning M (zw E.o.cli 0 _ i.o.2.2.2).1 (zw E.o.cli 0 _ i.o.2.2.2).2);go_wp2_with fail;refine zb9 (f:=82) (args:=#[.pointer (some ⟨j,0,none⟩)]) (by simp) (by simp [go_sem]) ?_;refine HU.o.mono ?_;rintro e u' w9 ⟨rfl,rfl,rfl⟩;simp only [Leaves,settle];refine⟨.tuple #[.slice none 0 0,.iface ty p],by simp [results,results48,go_sem],?_⟩;rw [ab.o];refine⟨some (g,a),⟨rfl,aC.o⟩,?_⟩;rw [aG.o _ _ _ rfl];refine⟨zmt (w8:=M) (c':=c) HH.o HT.o aE.o an.o aq.o E.o i.o.2.1 i.o.2.2.1 i.o.2.2.2 (fun _=>trivial),.inl ((HR.o (fun b=>b=j) _ ?_).lower az.o)⟩;exact zq.set (O:=fun b=>b=j) (T:=[zbx]) (zq.refl _ _ M) (.inl rfl) E.o.cli (by simp) _
end
end Go.Proofs.YtlcllcgngjhoaaaGreatDoor
