import Derived.Test.YtinhekmmdlhfkaaGreatDoorG39
import Derived.Test.YtinhekmmdlhfkaaGreatDoorG30
import Derived.Test.YtinhekmmdlhfkaaGreatDoorG04
import Derived.Test.YtinhekmmdlhfkaaGreatDoorG01
import Derived.Test.YtinhekmmdlhfkaaGreatDoorG38
import Derived.Test.YtinhekmmdlhfkaaGreatDoorG20
import Derived.Test.YtinhekmmdlhfkaaGreatDoorG15
namespace Go.Proofs.YtinhekmmdlhfkaaGreatDoor
section
open Go.RowKit
set_option maxRecDepth 100000
attribute [local go_sem ↓] yq yk yt yp yn yo yu yl zay zae
theorem z18 (w:World):(convert 76 9 (.slice none 0 0)).run Tryz.prog w= .ok (.string ⟨#[]⟩) w:=by kernel_rfl
end
section
open Go.RowKit
set_option maxRecDepth 100000
theorem zm1 (w:World)(g o:Nat)(cap n:Nat)(l:List UInt8)(hn:l.length=n)(hg:w.rangeAt g o (hv l).toList):
  (convert 76 9 (.slice (some ⟨g,o,none⟩) n cap)).run Tryz.prog w= .ok (txt l) w:=by
 subst hn
 refine run_convert_bytes_back w _ _ 5 ⟨g,o,none⟩ cap l Tryz.underlying76 Tryz.underlying5 Tryz.underlying9 (fun j hj=>?_)
 rw [Addr.add_mid]
 exact hg j _ (by simp [hv,bv,hj])
def zp0 (w:World)(g:Nat)(ps:List (List UInt8))(k:Nat):Prop:=w.there g 0 (ps.length*8)∧∀ j (h:j < ps.length),k≤j→w.rangeAt g (j*8) (hv ps[j]).toList
theorem zp0.below {w w':World}{g:Nat}{ps:List (List UInt8)}{k H:Nat}(h:zp0 w g ps k)(hg:g < H)(hb:Below H w w'):zp0 w' g ps k :=
 ⟨fun j hj=>by rw [hb.cell (p:=⟨g,0+j,none⟩) hg,hb.frozen (p:=⟨g,0+j,none⟩) hg];exact h.1 j hj,fun j hj hk i v hv=>by rw [hb.cell (p:=⟨g,j*8+i,none⟩) hg];exact h.2 j hj hk i v hv⟩
theorem zp0.next {w:World}{g:Nat}{ps:List (List UInt8)}{k:Nat}(h:zp0 w g ps k)(vs:List Value)(hv8:vs.length=8):zp0 (w.setCells g (k*8) vs) g ps (k+1) :=
 ⟨World.there_setCells h.1 _ _ _,fun j hj hk=>World.rangeAt_setCells_apart (h.2 j hj (by omega)) _ _ _ (.inr (.inr (by rw [hv8];omega)))⟩
theorem zoa {w:World}{B:Nat}{e:TypeId}{s:Nat}{v:Value}{n:Nat}{xs:List Value}(h:w.ownsRow B e s v n xs)(g:Nat)(hg:g < B)(o:Nat)(vs:List Value):(w.setCells g o vs).ownsRow B e s v n xs:=by
 refine⟨h.1,?_⟩
 rcases h.2 with h | ⟨g',cap,cur,e1,e2,e3,r⟩
 ·exact .inl h
 ·exact .inr ⟨g',cap,cur,e1,e2,by rw [vd _ _ _ _ _ (by omega)];exact e3,r⟩
theorem zqz {w:World}{B:Nat}{v:Value}{ps:List (List UInt8)}(h8:∀ p∈ps,p.length=8)(h:w.ownsRow B 91 8 v ps.length (zk8 ps)):
  (v= .slice none 0 0∧ps.length=0)∨∃ g cap,v= .slice (some ⟨g,0,none⟩) ps.length cap∧B≤g∧g < w.heap.size∧zp0 w g ps 0:=by
 rcases h.2 with h0 | ⟨g,cap,cur,rfl,hB,hg,hn,hm,hs,ht⟩
 ·exact .inl h0
 ·refine .inr ⟨g,cap,rfl,hB,xe hg,fun j hj=>?_,fun i hi _ j v hv=>?_⟩
  ·rw [Nat.zero_add]
   refine⟨?_,by simp [World.frozen?,hg]⟩
   rw [cell_of_row _ _ _ _ _ _ hg]
   have:j < cur.size:=by rw [hs];omega
   simp [this]
  ·have hj:j < 8:=by
    have:=(List.getElem?_eq_some_iff.1 hv).1
    rw [Array.length_toList,qd,h8 _ (List.getElem_mem hi)] at this
    exact this
   rw [cell_of_row _ _ _ _ _ _ hg]
   have e:=zw6 ps h8 i j hi hj
   rw [hv,← ht,List.getElem?_take,if_pos (by omega)] at e
   simpa using e
def z6e:Array Value:=#[.int .u8 1,.int .u8 0,.int .u8 0,.int .u8 0,.int .u8 0,.int .u8 0,.int .u8 0,.int .u8 0]
theorem zxl:(Tryz.prog.info? 91).map (·.size)=some z6e.size:=by kernel_rfl
theorem z1f:z6e.all (·.oneCell') =true:=by simp [z6e,Value.oneCell']
end
section
set_option maxHeartbeats 400000
open Go.RowKit
set_option maxRecDepth 100000
theorem zf.cells_old {O:Nat→Prop}{T:List Nat}{a w:World}(h:zf O T a w){b:Nat}(hO:O b)(hT:Tob T a.heap[b]?)(o:Nat)(vs:List Value):zf O T a (w.setCells b o vs):=by
 obtain⟨r1,r2,r3,r4⟩:=zbi b vs o w
 refine⟨r1.trans h.os,r2.trans h.tape,r3.trans h.output,by rw [r4];exact h.size,fun k hk=>?_⟩
 by_cases hkb:k=b
 ·subst hkb;exact .inr ⟨hO,hT⟩
 ·rw [vd _ _ _ _ _ hkb];exact h.block k hk
theorem zf.more {O:Nat→Prop}{T:List Nat}{a b c:World}(h:zf O T a b)(hb:Below a.heap.size b c):zf O T a c :=
 ⟨hb.os.trans h.os,hb.tape.trans h.tape,hb.output.trans h.output,Nat.le_trans h.size hb.size,fun k hk=>by rw [hb.block k hk];exact h.block k hk⟩
theorem zo9 {w:World}{B:Nat}{e:TypeId}{s:Nat}{v:Value}{n:Nat}{xs:List Value}(h:w.ownsRow B e s v n xs){k:Nat}(hk:v.ownBlock=some k):∃ c x,w.heap[k]?=some (.cells c e x):=by
 rcases h.2 with ⟨rfl,_⟩ | ⟨g,cap,cur,rfl,-,hh,-⟩
 ·simp [Value.ownBlock] at hk
 ·simp only [Value.ownBlock,Option.some.injEq] at hk
  subst hk
  exact⟨cur,_,hh⟩
theorem zid (B:Nat)(v:Value)(ps:List (List UInt8))(w:World)(hn:ps.length≤1000000)(h8:∀ p∈ps,p.length=8)(h:w.ownsRow B 91 8 v ps.length (zk8 ps)):
  Calls Tryz.prog 33 #[v] w fun r w'=>∃ x,r= .returned x∧zf (fun k=>v.ownBlock=some k) [91] w w'∧w'.ownsRow w.heap.size 9 1 x ps.length (ps.map txt):=by
 obtain⟨i,hi,hi'⟩:=Option.map_eq_some_iff.1 zwp
 obtain⟨hz0,hz1,hz2⟩:i.zero=some (.string ⟨#[]⟩)∧i.size=1∧i.bytes=16:=by simpa using hi'
 clear hi'
 have HI:=za hi
 have HZ:=za (And.intro hz0 (And.intro hz1 hz2))
 clear hi hz0 hz1 hz2
 have Hc:=za (zqz h8 h)
 have H8:=za h8
 have HOT:Hid (∀ k,v.ownBlock=some k→Tob [91] w.heap[k]?):=fun k hk=>by
  obtain⟨c,x,e⟩:=zo9 h hk
  exact .inl ⟨c,_,x,e,by simp⟩
 obtain⟨a,cap,rfl⟩:∃ a cap,v= .slice a ps.length cap:=by
  rcases Hc.o with ⟨rfl,h0⟩ | ⟨g,cap,rfl,-⟩
  ·exact⟨_,_,by rw [h0]⟩
  ·exact⟨_,_,rfl⟩
 clear h h8
 go_enter Tryz.func33,Tryz.ntmps33
 go_wp2_with fail
 go_loopw [3,7] (fun t i wr=>∃ k:Nat,k≤ps.length∧i= .int .i64 k∧zf (fun k=>Value.ownBlock (.slice a ps.length cap)=some k) [91] w wr∧wr.ownsRow w.heap.size 9 1 t k ((ps.take k).map txt)∧(∀ g off,a=some ⟨g,off,none⟩→off=0∧B≤g∧g < w.heap.size∧zp0 wr g ps k)) (fun _ i _=>ps.length - (intOf i).toNat)
 case atStart =>
  refine⟨0,Nat.zero_le _,rfl,zf.refl _ _ _,⟨rfl,.inl ⟨rfl,rfl⟩⟩,fun g off e=>?_⟩
  rcases Hc.o with ⟨e',h0⟩ | ⟨g',cap',e',r⟩
  ·simp [e] at e'
  ·simp [e] at e'
   obtain⟨⟨rfl,rfl⟩,_⟩:=e'
   exact⟨rfl,r⟩
 case round =>
  obtain⟨k,hk,rfl,hbe,hown,hleft⟩:=hrel
  have HB:=za hbe
  have HO:=za hown
  have HL:=za hleft
  clear hbe hown hleft
  by_cases hlt:k < ps.length
  ·obtain⟨g,rfl⟩:∃ g,a=some ⟨g,0,none⟩:=by
    rcases Hc.o with ⟨_,h0⟩ | ⟨g',cap',e',r⟩
    ·omega
    ·simp at e';exact⟨g',e'.1⟩
   obtain⟨-,gB,gH,hleft⟩:=HL.o g 0 rfl
   have HG:=za (And.intro gB gH)
   have HL':=za hleft
   clear hleft gB gH HL
   have hs:(ps.take (k+1)).map txt=(ps.take k).map txt++[txt ps[k]]:=by rw [List.take_succ_eq_append_getElem hlt,List.map_append];rfl
   have Hs:=za hs
   clear hs
   have hcv:=zm1 wr g (k*8) 8 8 ps[k] (H8.o _ (List.getElem_mem hlt)) (HL'.o.2 k hlt (Nat.le_refl _))
   generalize ps[k]=p at *
   unfold txt at hcv
   have hsz:Hid (w.heap.size≤wr.heap.size):=HB.o.size
   have HO1:Hid (∀ o,(wr.alloc o).ownsRow w.heap.size 9 1 u3 k ((ps.take k).map txt)):=fun o=>yd HO.o (ze wr o)
   go_wp2_with (first
    | (at_builtin;refine wpList_append_lies _ rfl _ _ _ rfl w.heap.size 9 i (.string ⟨#[]⟩) 1 16 Tryz.underlying22 HI.o HZ.o.1 HZ.o.2.1 HZ.o.2.2 rfl (by omega) u3 k _ rfl (HO1.o _) ⟨wr.heap.size,0,none⟩ 1 1 [.string ⟨p.toArray⟩] rfl rfl (World.news_of_block (heap_alloc_last _ _)) (by simp [Value.oneCell']) (by omega) (by unfold maxLen;omega) (by omega) (by have:=hsz.out;simp;omega) (wr.heap.size+1) (by simp) ?_;intro g' cap' w2 hown hgrow hat hltg;have HB1:Hid (Below w.heap.size wr w2):=((ze wr _).mono hsz.out).grown hgrow (by have:=hsz.out;simp;omega) (js HO.o);have HO2:=za hown;have HL2:Hid (zp0 w2 g ps k):=HL'.o.below HG.o.2 HB1.o;clear hgrow hat hltg hown)
    | (show wpList _ _ _ ({ dst:=none,op:=Op.store _ _ _,type:=_,pos:=_,after:=_,guard:=_ }::_) _ _;refine wpList_store_mid rfl 91 _ _ rfl g (k*8) z6e rfl rfl (by intro j hj;have hj':j < 8:=hj;have:=HL2.o.1 (k*8+j) (by omega);rw [Nat.zero_add] at this;exact this) zxl z1f ?_))
   have HB2:=za (HB.o.more HB1.o)
   go_roundw
   case rel =>
    refine⟨k+1,by omega,by go_num,HB2.o.cells_old rfl (HOT.o g rfl) _ _,by rw [Hs.o];exact zoa HO2.o g HG.o.2 _ _,fun g' off e=>?_⟩
    simp only [Option.some.injEq,Addr.mk.injEq] at e
    obtain⟨rfl,rfl,-⟩:=e
    exact⟨rfl,HG.o.1,HG.o.2,HL2.o.next _ rfl⟩
   case measure=>simp [intOf];omega
  ·go_wp2_with fail
   go_ret
   refine⟨_,rfl,HB.o,?_⟩
   have:=HO.o
   rw [List.take_of_length_le (by omega)] at this
   rw [show ps.length=k by omega]
   exact this
end
section
open Go.RowKit
set_option maxRecDepth 100000
def zhu (G:Nat→Prop)(T:List Nat)(w:World):Prop:=∀ k,G k→∃ c t x,w.heap[k]?=some (.cells c t x)∧t∈T
theorem zf.same {G:Nat→Prop}{T T':List Nat}{w w':World}(ht:zf G T w w')(hG:zhu G T' w){k:Nat}{o:Obj}(h:w.heap[k]?=some o)(ho:∀ c t x,o= .cells c t x→t∉T'):w'.heap[k]?=some o:=by
 rcases ht.block k (zb h) with e | ⟨hk,-⟩
 ·rw [e];exact h
 ·obtain⟨c,t,x,e,hT⟩:=hG k hk
  rw [h] at e
  simp only [Option.some.injEq] at e
  exact absurd hT (ho c t x e)
theorem zci {T:List Nat}{cs:Array Value}{e:TypeId}{y:Nat×Nat}(h:e∉T):∀ c t x,Obj.cells cs e y= .cells c t x→t∉T:=by
 intro c t x he
 simp only [Obj.cells.injEq] at he
 rw [← he.2.1];exact h
theorem jc.past {G:Nat→Prop}{T T':List Nat}{w w':World}{hb:Nat}{l:Ks}(h:jc w hb l)(ht:zf G T w w')(hG:zhu G T' w):jc w' hb l:=by
 obtain⟨es,c,e⟩:=h.isMap
 exact h.same ((ht.same hG e (fun c t x e'=>by simp at e')).trans e.symm)
theorem vt.past {G O:Nat→Prop}{T T':List Nat}{w w':World}{mb:Nat}{room:Int}{L:LsN}(h:vt w O mb room L)(ht:zf G T w w')(hG:zhu G T' w)(h1:MeN∉T')(h2:LkN∉T'):vt w' O mb room L:=by
 obtain⟨hb,eb,nx,pv,h⟩:=h
 exact⟨hb,eb,nx,pv,h.own,ht.same hG h.mem (zci h1),⟨ht.same hG h.ring.ends (zci h2),fun x hx=>ht.same hG (h.ring.link x hx) (zci h2),h.ring.circ⟩,h.map.past ht hG,h.ok⟩
theorem zct.past {G O:Nat→Prop}{T T':List Nat}{w w':World}{mb:Nat}{room:Int}{L:LsP}(h:zct w O mb room L)(ht:zf G T w w')(hG:zhu G T' w)(h1:MeP∉T')(h2:LkP∉T'):zct w' O mb room L:=by
 obtain⟨hb,eb,nx,pv,h⟩:=h
 exact⟨hb,eb,nx,pv,h.own,ht.same hG h.mem (zci h1),⟨ht.same hG h.ring.ends (zci h2),fun x hx=>ht.same hG (h.ring.link x hx) (zci h2),h.ring.circ,h.ring.len⟩,h.map.past ht hG,h.ok⟩
theorem zgl.past {G OP:Nat→Prop}{T T':List Nat}{w w':World}{pm:Nat}{room:Int}{pr:Mm}(h:zgl w OP pm room pr)(ht:zf G T w w')(hG:zhu G T' w)(h1:MeP∉T')(h2:LkP∉T')(h3:5∉T):zgl w' OP pm room pr:=by
 obtain⟨LP,g1,g2⟩:=h
 exact⟨LP,g1.past ht hG h1 h2,g2.mono fun a _ b hr=>hr.turn ht h3⟩
theorem Pv.past {W0 w w':World}{O A OP G:Nat→Prop}{T T':List Nat}{cb nb pm nm:Nat}{c:Cl}(h:Pv W0 w O A OP cb nb pm nm c)(ht:zf G T w w')(hG:zhu G T' w)(h1:MeN∉T')(h2:LkN∉T')(h3:qw∉T')(hp:zgl w' OP pm c.room c.proved):Pv W0 w' O A OP cb nb pm nm c:=by
 obtain⟨C,hC,hB⟩:=h.cli
 exact⟨fun b hb=>⟨(h.own b hb).1,Nat.lt_of_lt_of_le (h.own b hb).2.1 ht.size,(h.own b hb).2.2⟩,h.sep,h.cbA,h.cbP,⟨C,ht.same hG hC (zci h3),hB⟩,hp,h.nee.past ht hG h1 h2⟩
theorem Pv.other {W0 w w':World}{O A OP N:Nat→Prop}{T:List Nat}{cb nb pm nm:Nat}{c:Cl}(h:Pv W0 w O A OP cb nb pm nm c)(ht:zf N T w w')(hd:∀ b,A b∨OP b∨b=cb→¬ N b)(hu:5∉T):Pv W0 w' O A OP cb nb pm nm c:=by
 obtain⟨C,hC,hB⟩:=h.cli
 exact⟨fun b hb=>⟨(h.own b hb).1,Nat.lt_of_lt_of_le (h.own b hb).2.1 ht.size,(h.own b hb).2.2⟩,h.sep,h.cbA,h.cbP,⟨C,ht.stay hC (hd cb (.inr (.inr rfl))),hB⟩,h.prv.stay ht (fun b hb=>hd b (.inr (.inl hb))) hu (fun _ h=>h),h.nee.stay ht (fun b hb=>hd b (.inl hb)) (fun _ h=>h)⟩
theorem Pv.grow {W0 w:World}{O O' A OP:Nat→Prop}{cb nb pm nm:Nat}{c:Cl}(h:Pv W0 w O A OP cb nb pm nm c)(hO:∀ b,A b∨OP b∨b=cb→¬ O' b):Pv W0 w O' A OP cb nb pm nm c :=
 ⟨fun b hb=>⟨(h.own b hb).1,(h.own b hb).2.1,hO b hb⟩,h.sep,h.cbA,h.cbP,h.cli,h.prv,h.nee⟩
theorem Sh.past {W0 w w':World}{O G:Nat→Prop}{T:List Nat}{nb db:Nat}{d:Dk}{n:Nt}(h:Sh W0 w O nb db d n)(ht:zf G T w w')(hB:∀ k,G k→W0.heap.size≤k)(h1:41∉T)(h2:63∉T)(h3:85∉T)(h4:65∉T)(h5:3∉T):Sh W0 w' O nb db d n :=
 ⟨h.base.trans (ht.below hB h.base.size),fun b hb=>⟨(h.own b hb).1,Nat.lt_of_lt_of_le (h.own b hb).2 ht.size⟩,h.disk.stay ht h1 h2,h.net.turn ht h3 h4 h5,h.st⟩
theorem zj6 {w:World}{B:Nat}{e:TypeId}{s:Nat}{v:Value}{n:Nat}{xs:List Value}(h:w.ownsRow B e s v n xs):zhu (fun k=>v.ownBlock=some k) [e] w:=by
 intro k hk
 obtain⟨c,x,e⟩:=zo9 h hk
 exact⟨c,_,x,e,by simp⟩
theorem zik {w:World}{B:Nat}{e:TypeId}{s:Nat}{v:Value}{n:Nat}{xs:List Value}(h:w.ownsRow B e s v n xs):∀ k,v.ownBlock=some k→B≤k:=by
 intro k hk
 rcases h.2 with ⟨rfl,_⟩ | ⟨g,cap,cur,rfl,hB,-⟩
 ·simp [Value.ownBlock] at hk
 ·simp only [Value.ownBlock,Option.some.injEq] at hk
  omega
theorem vf.more {A A':Nat→Prop}{w w1 w2:World}(h:vf A A' w w1)(hs:w1.heap.size≤w2.heap.size):vf A A' w w2:=⟨h.1,fun b hb=>(h.2 b hb).imp id (fun h=>⟨h.1,by omega⟩)⟩
theorem CR.past {W0 w w1 w2:World}{O A OP G:Nat→Prop}{T T':List Nat}{cb nb db pm nm:Nat}{d:Dk}{c':Cl}{n':Nt}{P:(Nat→Prop)→Prop}(h:CR W0 w w1 O A OP cb nb db pm nm d c' n' P)(ht:zf G T w1 w2)(hG:zhu G T' w1)(hg:∀ k,G k→w.heap.size≤k)(hW:W0.heap.size≤w.heap.size)(h1:MeN∉T')(h2:LkN∉T')(h3:qw∉T')(h4:MeP∉T')(h5:LkP∉T')
  (q1:41∉T) (q2:63∉T) (q3:85∉T) (q4:65∉T) (q5:3∉T) (hu:5∉T∨∀ OP',P OP'→zgl w2 OP' pm c'.room c'.proved) {P':(Nat→Prop)→Prop} (hP:∀ OP',P OP'→P' OP'):CR W0 w w2 O A OP cb nb db pm nm d c' n' P':=by
 obtain⟨A',OP',hA,hO,hpv,hp⟩:=h.rest
 refine⟨h.turn.apart ht hg,⟨A',OP',hA.more ht.size,hO.more ht.size,hpv.past ht hG h1 h2 h3 ?_,hP _ hp⟩,h.sh.past ht (fun k hk=>by have:=hg k hk;omega) q1 q2 q3 q4 q5⟩
 rcases hu with hu | hu
 ·exact hpv.prv.past ht hG h4 h5 hu
 ·exact hu OP' hp
theorem CR.weak {W0 w w1:World}{O A OP:Nat→Prop}{cb nb db pm nm:Nat}{d:Dk}{c':Cl}{n':Nt}{P P':(Nat→Prop)→Prop}(h:CR W0 w w1 O A OP cb nb db pm nm d c' n' P)(hP:∀ OP',P OP'→P' OP'):CR W0 w w1 O A OP cb nb db pm nm d c' n' P':=by
 obtain⟨A',OP',hA,hO,hpv,hp⟩:=h.rest
 exact⟨h.turn,⟨A',OP',hA,hO,hpv,hP _ hp⟩,h.sh⟩
theorem CR.below {W0 w w1 w2:World}{O A OP:Nat→Prop}{cb nb db pm nm:Nat}{d:Dk}{c':Cl}{n':Nt}{P:(Nat→Prop)→Prop}(h:CR W0 w w1 O A OP cb nb db pm nm d c' n' P)(hW:W0.heap.size≤w.heap.size)(hb:Below w1.heap.size w1 w2):CR W0 w w2 O A OP cb nb db pm nm d c' n' P :=
 h.past (G:=fun _=>False) (T:=[]) (T':=[]) (.of_below hb) (fun _ h=>h.elim) (fun _ h=>h.elim) hW (by simp) (by simp) (by simp) (by simp) (by simp) (by simp) (by simp) (by simp) (by simp) (by simp) (.inl (by simp)) (fun _ h=>h)
end
section
set_option maxHeartbeats 2000000
open Go.RowKit
set_option maxRecDepth 100000
def z2z (o:Option (List UInt8))(B:Nat)(e:Value)(w:World):Prop:=(o=none∧e= .nilIface)∨∃ p,o=some p∧zbd true p B e w
theorem z2z.weaken {o:Option (List UInt8)}{B B':Nat}{e:Value}{w:World}(h:z2z o B e w)(hB:B'≤B):z2z o B' e w:=by
 rcases h with h | ⟨p,h1,h2⟩
 ·exact .inl h
 ·exact .inr ⟨p,h1,h2.weaken hB⟩
theorem z06 (d:Dk)(p x:List UInt8):(zab d p x).fs.length≤d.fs.length+1:=by
 have h:=zf9 d.fs p x
 unfold zab
 split
 ·split
  ·split
   ·exact h
   ·rw [yg];omega
  ·show(ye d).fs.length≤_
   rw [yg];omega
 ·split
  ·exact h
  ·rw [yg];omega
theorem zhn:∀(t:Fs) (d:Dk) ,(qa t d).2.fs.length≤d.fs.length+t.length
 | [],d=>by simp [qa]
 | f::r,d=>by
  have h:=z06 d f.1 f.2
  unfold qa
  split
  ·simp;omega
  ·have:=zhn r (zab d f.1 f.2)
   simp;omega
def zn8 (es:List (List UInt8))(l:Int)(j0 c t:Nat):Fs:=(List.range' j0 t).map (jx es l c)
theorem zot (es:List (List UInt8))(l:Int)(j0 c t:Nat):zn8 es l j0 c (t+1)=zn8 es l j0 c t++[jx es l c (j0+t)]:=by
 unfold zn8
 rw [List.range'_1_concat,List.map_append]
 rfl
theorem zmc (es:List (List UInt8))(l:Int)(j0 c t:Nat)(h:t≤(c+3) / 4 - j0):zk7 es l j0 c=zn8 es l j0 c t++(List.range' (j0+t) ((c+3) / 4 - j0 - t)).map (jx es l c):=by
 unfold zk7 zn8
 rw [← List.map_append,List.range'_append_1]
 congr 2
 omega
theorem zoj {a b:Fs}{d d':Dk}{p:List UInt8}(h:qa a d=(some p,d')):qa (a++b) d=(some p,d'):=by rw [zfa,h]
theorem zy8 {a:Fs}{f:List UInt8×List UInt8}{d d':Dk}(h:qa a d=(none,d')):qa (a++[f]) d=if zfv d' f.1 f.2 then (some f.1,zab d' f.1 f.2) else (none,zab d' f.1 f.2):=by
 rw [zfa,h]
 simp only [qa]
theorem z2l (O:Nat→Prop)(db lb:Nat)(l:Lg)(w:World)(he:l.es.length≤1000000)(h20:∀ e∈l.es,e.length≤20)(h:xk w O db lb l)(lev:Int)(hl1:-1≤lev)(hl2:lev≤20)(i n:Nat)(hin:i+n≤zz lev l.es.length)(h1:1≤n)(h4:n≤4):
  Calls Tryz.prog 124 #[.pointer (some ⟨lb,0,none⟩),.int .i64 lev,.int .i64 i,.int .i64 ((i+n:Nat):Int)] w fun r w'=>∃ v,r= .returned v∧Below w.heap.size w w'∧Bq w' v (((List.range' i n).map (ql l.es lev)).flatten):=by
 by_cases e:lev=-1
 ·subst e
  exact zx2 O db lb l w he h20 h i n (by simpa [zz] using hin) h1 h4
 ·obtain⟨L,rfl⟩:=Int.eq_ofNat_of_zero_le (show 0≤lev by omega)
  refine zx7 O db lb l w he h20 h L (by omega) i n ?_ h1 h4
  unfold zz at hin
  rw [Int.toNat_natCast] at hin
  exact(Nat.le_div_iff_mul_le (Nat.pow_pos (by omega))).1 hin
theorem zxp (O:Nat→Prop)(W:World)(hE:Env W)(hOW:∀ k,O k→W.heap.size≤k)(db lb:Nat)(d:Dk)(l:Lg)(w:World)(hn:d.fs.length≤900000000)(he:l.es.length≤1000000)(hput:l.put≤l.es.length)(h20:∀ e∈l.es,e.length≤20)(hlv:l.live=true)(hW:Below W.heap.size W w)(h:zm w O db d)(hL:xk w O db lb l)(lev:Int)(hl1:-1≤lev)(hl2:lev≤20):
  Calls Tryz.prog 82 #[.pointer (some ⟨lb,0,none⟩),.int .i64 lev] w fun r w'=>∃ e,r= .returned e∧z2z (qa (zcy l.es l.put lev) d).1 w.heap.size e w'∧zf O dT w w'∧zm w' (Ext O w w') db (qa (zcy l.es l.put lev) d).2:=by
 have HD:=za h
 have HLG:=za hL
 have H20:=za h20
 have HW:=za hW
 have HO:=za hOW
 have hEE:=za hE
 obtain⟨a,cap,hb,hes,-⟩:=lok hL
 obtain⟨⟨c0,f0⟩,-,⟨c2,f2⟩,⟨c3,f3⟩⟩:=zej hb
 have HB:=za hb
 have hlb:=zb hb
 have hcl:=zc2 lev l.es.length
 have hcm:zz lev l.put≤zz lev l.es.length:=Nat.div_le_div_right hput
 have HTD:Hid (zcy l.es l.put lev=if zz lev l.es.length=zz lev l.put then [] else zk7 l.es lev (zz lev l.put / 4) (zz lev l.es.length)):=rfl
 clear h hL h20 hW hOW hE hb hes f0 f2 f3 c0
 go_enter Tryz.func82,Tryz.ntmps82
 go_wp2_with fail
 go_region_held3 (fun X=>X.cell? ⟨lb,2,none⟩=some (.slice a l.es.length cap)∧X.cell? ⟨lb,3,none⟩=some (.int .i64 (l.put:Int))) (go_keep) (first
  | (go_at_call 81;refine(zkn lev hl1 (by omega) _ _).mono ?_;rintro r w' ⟨rfl,rfl⟩))
 generalize hcc:zz lev l.es.length=c at *
 generalize hbb:zz lev l.put=b at *
 have HCC:=za (And.intro hcc hbb)
 clear hcc hbb c2 c3
 by_cases hcb:c=b
 ·have HPS:Hid (qa (zcy l.es l.put lev) d=(none,d)):=by show _=_;rw [HTD.o,if_pos hcb];rfl
  have q1:((c:Int)==(b:Int))=true:=by rw [beq_iff_eq];omega
  clear hcb
  go_wp2_with fail
  go_ret
  rw [HPS.o]
  exact⟨_,rfl,.inl ⟨rfl,rfl⟩,(zf.refl _ _ _).drew,(HD.o.stay (O1:=fun _=>False) (T:=[]) (zf.refl _ _ w).drew (by simp) (by simp)).mono (fun _ h=> .inl h)⟩
 ·have HTD2:Hid (zcy l.es l.put lev=zk7 l.es lev (b / 4) c):=by show _=_;rw [HTD.o,if_neg hcb]
  have q1:((c:Int)==(b:Int))=false:=by rw [beq_eq_false_iff_ne];omega
  have hbc:b < c:=by omega
  obtain⟨j0,hj0⟩:∃ j0,j0=b / 4:=⟨_,rfl⟩
  have HJ0:=za hj0
  have hj1:4*j0≤b:=by omega
  have hj2:b < 4*j0+4:=by omega
  rw [← hj0] at HTD2
  clear hcb hj0 HTD
  go_wp2_with fail
  go_loopg [7,8,9,10] (c+1) (fun gg s7 _ _ _ wr=>∃(t:Nat) (dt:Dk),s7= .int .i64 ((4*(j0+t):Nat):Int)∧4*(j0+t) < c+4∧c+1 - 4*t≤gg∧qa (zn8 l.es lev j0 c t) d=(none,dt)∧zf O dT w wr∧zm wr (Ext O w wr) db dt)
  case atStart=>exact⟨0,d,by congr 1;have:=HJ0.o;omega,by omega,by omega,rfl,(zf.refl _ _ _).drew,(HD.o.stay (O1:=fun _=>False) (T:=[]) (zf.refl _ _ w).drew (by simp) (by simp)).mono (fun _ h=> .inl h)⟩
  case round =>
   obtain⟨t,dt,rfl,ht4,hgg,hps,hT,hD⟩:=hrel
   have HPS:=za hps
   have HT:=za hT
   have HDT:=za hD
   have htc:t≤(c+3) / 4 - j0:=by omega
   have HLG1:=za (HLG.o.stay hT (by decide) (by decide) (by decide))
   have hBW:=HW.o.trans (hT.below HO.o HW.o.size)
   have HBW:=za hBW
   have hEw:=hEE.out.below hBW
   have hdl:dt.fs.length≤1000000000:=by
    have h1:=zhn (zn8 l.es lev j0 c t) d
    rw [hps] at h1
    have h2:(zn8 l.es lev j0 c t).length=t:=by unfold zn8;simp
    simp only [h2] at h1
    omega
   clear hps hT hD hBW
   obtain⟨J,hJ⟩:∃ J,J=j0+t:=⟨_,rfl⟩
   rw [← hJ] at ht4 ⊢
   have HJ:=za hJ
   obtain⟨F,hF⟩:∃ F,F=4*J:=⟨_,rfl⟩
   rw [← hF] at ht4 ⊢
   have HF:=za hF
   by_cases hlt:F < c
   ·have hltI:(F:Int) < (c:Int):=by omega
    obtain⟨wd,hwd⟩:∃ wd,wd=wid c J:=⟨_,rfl⟩
    have hw1:1≤wd:=by rw [hwd];unfold wid;omega
    have hw4:wd≤4:=by rw [hwd];unfold wid;omega
    have hwc:F+wd≤c:=by rw [hwd];unfold wid;omega
    have hmn:min ((F:Int)+4) (c:Int)=(F:Int)+(wd:Int):=by rw [hwd];unfold wid;omega
    have HWD:=za hwd
    have hJ4:J≤1000000:=by omega
    clear hJ hF hwd
    have HXF:Hid (jx l.es lev c (j0+t)=(yr lev J wd,((List.range' F wd).map (ql l.es lev)).flatten)):=by
     show _=_
     rw [← HJ.o]
     unfold jx zad
     rw [← HWD.o,← HF.o]
    go_wp2_with fail
    rw [show((F:Int) / 4)=(J:Int) by have:=HF.o;omega,show((F:Int)+(wd:Int) - (F:Int))=(wd:Int) by omega]
    refine(zis lev J wd (by omega) wr hEw).mono ?_
    rintro r w2 ⟨rfl,hb2⟩
    have hT2:zf O dT w w2:=HT.o.then_below hb2
    have HT2:=za hT2
    have hTe2:zf O [] wr w2:= .of_below hb2
    have HL2:=za (HLG1.o.stay hTe2 (by decide) (by decide) (by decide))
    have HD2:=za (HDT.o.stay hTe2 (by decide) (by decide))
    have hs2:Hid (wr.heap.size≤w2.heap.size):=hb2.size
    clear hb2 hT2 hTe2 hEw
    go_wp2_with fail
    rw [show((F:Int)+(wd:Int))=((F+wd:Nat):Int) by omega]
    refine(z2l _ db lb l w2 he H20.o HL2.o lev hl1 hl2 F wd (by rw [HCC.o.1];exact hwc) hw1 hw4).mono ?_
    rintro r w3 ⟨v,rfl,hb3,hq⟩
    have HQ:=za hq
    obtain⟨va,vn,vc,rfl⟩:=zrc hq
    have hTe3:zf O [] w2 w3:= .of_below hb3
    have HT3:Hid (zf O dT w w3):=HT2.o.then_below hb3
    have HL3:=za (HL2.o.stay hTe3 (by decide) (by decide) (by decide))
    have HD3:=za (HD2.o.stay hTe3 (by decide) (by decide))
    have hs3:Hid (wr.heap.size≤w3.heap.size):=Nat.le_trans hs2.out hb3.size
    have hst3:w3.cell? ⟨lb,0,none⟩=some (stV db true):=by
     obtain⟨_,_,hb,-⟩:=lok HL3.o
     have:=(zej hb).1.1
     rw [hlv] at this
     exact this
    clear hb3 hq hTe3
    generalize hxx:((List.range' F wd).map (ql l.es lev)).flatten=xx at *
    go_wp2_with fail
    refine(z3n (Ext O w wr) db lb dt (yr lev J wd) xx (.slice va vn vc) w3 hdl HD3.o HQ.o hst3).mono ?_
    rintro r w4 ⟨e,rfl,hge,ht4,hd4⟩
    have HT4:Hid (zf O dT w w4):=HT3.o.trans (ht4.mono (fun k hk=>by rcases hk with h | h;exact .inl h;exact .inr ⟨h.1,Nat.lt_of_lt_of_le h.2 hs3.out⟩) (fun _ h=>h))
    have HD4:Hid (zm w4 (Ext O w w4) db (zab dt (yr lev J wd) xx)):=hd4.mono (fun k hk=>by
     have hwr:=HT.o.size
     have h34:=ht4.size
     have:=hs3.out
     rcases hk with (h | h) | h
     ·exact .inl h
     ·exact .inr (by omega)
     ·exact .inr (by omega))
    have HPN:=za (zy8 (f:=jx l.es lev c (j0+t)) HPS.o)
    have HGE:=za (hge.weaken HT3.o.size)
    clear ht4 hd4 hst3 hxx
    rcases jf hge with ⟨hbd,rfl⟩ | ⟨hbd,g,rfl⟩
    ·have HPK:Hid (qa (zn8 l.es lev j0 c (t+1)) d=(none,zab dt (yr lev J wd) xx)):=by
      show _=_
      rw [zot,HPN.o,HXF.o]
      simp only [hbd,Bool.false_eq_true,if_false]
     clear hge hbd
     go_wp2_with fail
     go_roundg (gk - 1)
     case rel=>exact⟨t+1,zab dt (yr lev J wd) xx,by congr 1;have:=HJ.o;have:=HF.o;omega,by have:=HJ.o;have:=HF.o;omega,by omega,HPK.o,HT4.o,HD4.o⟩
     case measure=>have:=HJ.o;have:=HF.o;omega
    ·have HPK:Hid (qa (zcy l.es l.put lev) d=(some (yr lev J wd),zab dt (yr lev J wd) xx)):=by
      show _=_
      rw [HTD2.o,zmc l.es lev j0 c (t+1) (by have:=HJ.o;have:=HF.o;omega)]
      refine zoj ?_
      rw [zot,HPN.o,HXF.o]
      simp only [hbd,if_true]
     rw [hbd] at HGE
     clear hge hbd
     go_wp2_with fail
     go_ret
     rw [HPK.o]
     exact⟨_,rfl,.inr ⟨_,rfl,HGE.o⟩,HT4.o,HD4.o⟩
   ·have HPK:Hid (qa (zcy l.es l.put lev) d=(none,dt)):=by
     show _=_
     rw [HTD2.o,zmc l.es lev j0 c t htc,show(c+3) / 4 - j0 - t=0 by have:=HJ.o;have:=HF.o;omega]
     simp only [List.range'_zero,List.map_nil,List.append_nil]
     exact HPS.o
    have hltI:¬(F:Int) < (c:Int):=by omega
    go_wp2_with fail
    go_ret
    rw [HPK.o]
    exact⟨_,rfl,.inl ⟨rfl,rfl⟩,HT.o,HDT.o⟩
end
end Go.Proofs.YtinhekmmdlhfkaaGreatDoor
