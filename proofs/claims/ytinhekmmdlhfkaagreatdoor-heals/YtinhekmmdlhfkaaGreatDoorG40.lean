import Derived.Test.YtinhekmmdlhfkaaGreatDoorG39
import Derived.Test.YtinhekmmdlhfkaaGreatDoorG29
import Derived.Test.YtinhekmmdlhfkaaGreatDoorG05
import Derived.Test.YtinhekmmdlhfkaaGreatDoorG01
import Derived.Test.YtinhekmmdlhfkaaGreatDoorG38
import Derived.Test.YtinhekmmdlhfkaaGreatDoorG19
import Derived.Test.YtinhekmmdlhfkaaGreatDoorG15
namespace Go.Proofs.YtinhekmmdlhfkaaGreatDoor
section
open Go.RowKit
set_option maxRecDepth 100000
attribute [local go_sem ↓] loadM_fold storeM_fold loadP_fold storeP_fold buildP_fold buildF_fold loadH_fold storeH_fold loadT_fold storeT_fold
theorem conv_nil (w:World):(convert 76 9 (.slice none 0 0)).run Tryz.prog w= .ok (.string ⟨#[]⟩) w:=by kernel_rfl
end
section
open Go.RowKit
set_option maxRecDepth 100000
theorem conv_mid (w:World)(g o:Nat)(cap n:Nat)(l:List UInt8)(hn:l.length=n)(hg:w.rangeAt g o (hv l).toList):
  (convert 76 9 (.slice (some ⟨g,o,none⟩) n cap)).run Tryz.prog w= .ok (txt l) w:=by
 subst hn
 refine run_convert_bytes_back w _ _ 5 ⟨g,o,none⟩ cap l Tryz.underlying76 Tryz.underlying5 Tryz.underlying9 (fun j hj=>?_)
 rw [Addr.add_mid]
 exact hg j _ (by simp [hv,bv,hj])
def Left (w:World)(g:Nat)(ps:List (List UInt8))(k:Nat):Prop:=w.there g 0 (ps.length*8)∧∀ j (h:j < ps.length),k≤j→w.rangeAt g (j*8) (hv ps[j]).toList
theorem Left.below {w w':World}{g:Nat}{ps:List (List UInt8)}{k H:Nat}(h:Left w g ps k)(hg:g < H)(hb:Below H w w'):Left w' g ps k :=
 ⟨fun j hj=>by rw [hb.cell (p:=⟨g,0+j,none⟩) hg,hb.frozen (p:=⟨g,0+j,none⟩) hg];exact h.1 j hj,fun j hj hk i v hv=>by rw [hb.cell (p:=⟨g,j*8+i,none⟩) hg];exact h.2 j hj hk i v hv⟩
theorem Left.next {w:World}{g:Nat}{ps:List (List UInt8)}{k:Nat}(h:Left w g ps k)(vs:List Value)(hv8:vs.length=8):Left (w.setCells g (k*8) vs) g ps (k+1) :=
 ⟨World.there_setCells h.1 _ _ _,fun j hj hk=>World.rangeAt_setCells_apart (h.2 j hj (by omega)) _ _ _ (.inr (.inr (by rw [hv8];omega)))⟩
theorem owns_setCells {w:World}{B:Nat}{e:TypeId}{s:Nat}{v:Value}{n:Nat}{xs:List Value}(h:w.ownsRow B e s v n xs)(g:Nat)(hg:g < B)(o:Nat)(vs:List Value):(w.setCells g o vs).ownsRow B e s v n xs:=by
 refine⟨h.1,?_⟩
 rcases h.2 with h | ⟨g',cap,cur,e1,e2,e3,r⟩
 ·exact .inl h
 ·exact .inr ⟨g',cap,cur,e1,e2,by rw [setCells_other _ _ _ _ _ (by omega)];exact e3,r⟩
theorem left_of_owns {w:World}{B:Nat}{v:Value}{ps:List (List UInt8)}(h8:∀ p∈ps,p.length=8)(h:w.ownsRow B 91 8 v ps.length (flat ps)):
  (v= .slice none 0 0∧ps.length=0)∨∃ g cap,v= .slice (some ⟨g,0,none⟩) ps.length cap∧B≤g∧g < w.heap.size∧Left w g ps 0:=by
 rcases h.2 with h0 | ⟨g,cap,cur,rfl,hB,hg,hn,hm,hs,ht⟩
 ·exact .inl h0
 ·refine .inr ⟨g,cap,rfl,hB,heap_lt hg,fun j hj=>?_,fun i hi _ j v hv=>?_⟩
  ·rw [Nat.zero_add]
   refine⟨?_,by simp [World.frozen?,hg]⟩
   rw [cell_of_row _ _ _ _ _ _ hg]
   have:j < cur.size:=by rw [hs];omega
   simp [this]
  ·have hj:j < 8:=by
    have:=(List.getElem?_eq_some_iff.1 hv).1
    rw [Array.length_toList,hv_size,h8 _ (List.getElem_mem hi)] at this
    exact this
   rw [cell_of_row _ _ _ _ _ _ hg]
   have e:=flat_at ps h8 i j hi hj
   rw [hv,← ht,List.getElem?_take,if_pos (by omega)] at e
   simpa using e
def mark:Array Value:=#[.int .u8 1,.int .u8 0,.int .u8 0,.int .u8 0,.int .u8 0,.int .u8 0,.int .u8 0,.int .u8 0]
theorem mark_size:(Tryz.prog.info? 91).map (·.size)=some mark.size:=by kernel_rfl
theorem mark_one:mark.all (·.oneCell') =true:=by simp [mark,Value.oneCell']
end
section
set_option maxHeartbeats 400000
open Go.RowKit
set_option maxRecDepth 100000
theorem Turn.cells_old {O:Nat→Prop}{T:List Nat}{a w:World}(h:Turn O T a w){b:Nat}(hO:O b)(hT:Tob T a.heap[b]?)(o:Nat)(vs:List Value):Turn O T a (w.setCells b o vs):=by
 obtain⟨r1,r2,r3,r4⟩:=setCells_rest b vs o w
 refine⟨r1.trans h.os,r2.trans h.tape,r3.trans h.output,by rw [r4];exact h.size,fun k hk=>?_⟩
 by_cases hkb:k=b
 ·subst hkb;exact .inr ⟨hO,hT⟩
 ·rw [setCells_other _ _ _ _ _ hkb];exact h.block k hk
theorem Turn.more {O:Nat→Prop}{T:List Nat}{a b c:World}(h:Turn O T a b)(hb:Below a.heap.size b c):Turn O T a c :=
 ⟨hb.os.trans h.os,hb.tape.trans h.tape,hb.output.trans h.output,Nat.le_trans h.size hb.size,fun k hk=>by rw [hb.block k hk];exact h.block k hk⟩
theorem owns_type {w:World}{B:Nat}{e:TypeId}{s:Nat}{v:Value}{n:Nat}{xs:List Value}(h:w.ownsRow B e s v n xs){k:Nat}(hk:v.ownBlock=some k):∃ c x,w.heap[k]?=some (.cells c e x):=by
 rcases h.2 with ⟨rfl,_⟩ | ⟨g,cap,cur,rfl,-,hh,-⟩
 ·simp [Value.ownBlock] at hk
 ·simp only [Value.ownBlock,Option.some.injEq] at hk
  subst hk
  exact⟨cur,_,hh⟩
theorem texts_turn (B:Nat)(v:Value)(ps:List (List UInt8))(w:World)(hn:ps.length≤1000000)(h8:∀ p∈ps,p.length=8)(h:w.ownsRow B 91 8 v ps.length (flat ps)):
  Calls Tryz.prog 33 #[v] w fun r w'=>∃ x,r= .returned x∧Turn (fun k=>v.ownBlock=some k) [91] w w'∧w'.ownsRow w.heap.size 9 1 x ps.length (ps.map txt):=by
 obtain⟨i,hi,hi'⟩:=Option.map_eq_some_iff.1 infoStr
 obtain⟨hz0,hz1,hz2⟩:i.zero=some (.string ⟨#[]⟩)∧i.size=1∧i.bytes=16:=by simpa using hi'
 clear hi'
 have HI:=hide hi
 have HZ:=hide (And.intro hz0 (And.intro hz1 hz2))
 clear hi hz0 hz1 hz2
 have Hc:=hide (left_of_owns h8 h)
 have H8:=hide h8
 have HOT:Hid (∀ k,v.ownBlock=some k→Tob [91] w.heap[k]?):=fun k hk=>by
  obtain⟨c,x,e⟩:=owns_type h hk
  exact .inl ⟨c,_,x,e,by simp⟩
 obtain⟨a,cap,rfl⟩:∃ a cap,v= .slice a ps.length cap:=by
  rcases Hc.out with ⟨rfl,h0⟩ | ⟨g,cap,rfl,-⟩
  ·exact⟨_,_,by rw [h0]⟩
  ·exact⟨_,_,rfl⟩
 clear h h8
 go_enter Tryz.func33,Tryz.ntmps33
 go_wp2_with fail
 go_loopw [3,7] (fun t i wr=>∃ k:Nat,k≤ps.length∧i= .int .i64 k∧Turn (fun k=>Value.ownBlock (.slice a ps.length cap)=some k) [91] w wr∧wr.ownsRow w.heap.size 9 1 t k ((ps.take k).map txt)∧(∀ g off,a=some ⟨g,off,none⟩→off=0∧B≤g∧g < w.heap.size∧Left wr g ps k)) (fun _ i _=>ps.length - (intOf i).toNat)
 case atStart =>
  refine⟨0,Nat.zero_le _,rfl,Turn.refl _ _ _,⟨rfl,.inl ⟨rfl,rfl⟩⟩,fun g off e=>?_⟩
  rcases Hc.out with ⟨e',h0⟩ | ⟨g',cap',e',r⟩
  ·simp [e] at e'
  ·simp [e] at e'
   obtain⟨⟨rfl,rfl⟩,_⟩:=e'
   exact⟨rfl,r⟩
 case round =>
  obtain⟨k,hk,rfl,hbe,hown,hleft⟩:=hrel
  have HB:=hide hbe
  have HO:=hide hown
  have HL:=hide hleft
  clear hbe hown hleft
  by_cases hlt:k < ps.length
  ·obtain⟨g,rfl⟩:∃ g,a=some ⟨g,0,none⟩:=by
    rcases Hc.out with ⟨_,h0⟩ | ⟨g',cap',e',r⟩
    ·omega
    ·simp at e';exact⟨g',e'.1⟩
   obtain⟨-,gB,gH,hleft⟩:=HL.out g 0 rfl
   have HG:=hide (And.intro gB gH)
   have HL':=hide hleft
   clear hleft gB gH HL
   have hs:(ps.take (k+1)).map txt=(ps.take k).map txt++[txt ps[k]]:=by rw [List.take_succ_eq_append_getElem hlt,List.map_append];rfl
   have Hs:=hide hs
   clear hs
   have hcv:=conv_mid wr g (k*8) 8 8 ps[k] (H8.out _ (List.getElem_mem hlt)) (HL'.out.2 k hlt (Nat.le_refl _))
   generalize ps[k]=p at *
   unfold txt at hcv
   have hsz:Hid (w.heap.size≤wr.heap.size):=HB.out.size
   have HO1:Hid (∀ o,(wr.alloc o).ownsRow w.heap.size 9 1 u3 k ((ps.take k).map txt)):=fun o=>ownsRow_below HO.out (below_alloc wr o)
   go_wp2_with (first
    | (at_builtin;refine wpList_append_lies _ rfl _ _ _ rfl w.heap.size 9 i (.string ⟨#[]⟩) 1 16 Tryz.underlying22 HI.out HZ.out.1 HZ.out.2.1 HZ.out.2.2 rfl (by omega) u3 k _ rfl (HO1.out _) ⟨wr.heap.size,0,none⟩ 1 1 [.string ⟨p.toArray⟩] rfl rfl (World.news_of_block (heap_alloc_last _ _)) (by simp [Value.oneCell']) (by omega) (by unfold maxLen;omega) (by omega) (by have:=hsz.out;simp;omega) (wr.heap.size+1) (by simp) ?_;intro g' cap' w2 hown hgrow hat hltg;have HB1:Hid (Below w.heap.size wr w2):=((below_alloc wr _).mono hsz.out).grown hgrow (by have:=hsz.out;simp;omega) (own_base HO.out);have HO2:=hide hown;have HL2:Hid (Left w2 g ps k):=HL'.out.below HG.out.2 HB1.out;clear hgrow hat hltg hown)
    | (show wpList _ _ _ ({ dst:=none,op:=Op.store _ _ _,type:=_,pos:=_,after:=_,guard:=_ }::_) _ _;refine wpList_store_mid rfl 91 _ _ rfl g (k*8) mark rfl rfl (by intro j hj;have hj':j < 8:=hj;have:=HL2.out.1 (k*8+j) (by omega);rw [Nat.zero_add] at this;exact this) mark_size mark_one ?_))
   have HB2:=hide (HB.out.more HB1.out)
   go_roundw
   case rel =>
    refine⟨k+1,by omega,by go_num,HB2.out.cells_old rfl (HOT.out g rfl) _ _,by rw [Hs.out];exact owns_setCells HO2.out g HG.out.2 _ _,fun g' off e=>?_⟩
    simp only [Option.some.injEq,Addr.mk.injEq] at e
    obtain⟨rfl,rfl,-⟩:=e
    exact⟨rfl,HG.out.1,HG.out.2,HL2.out.next _ rfl⟩
   case measure=>simp [intOf];omega
  ·go_wp2_with fail
   go_ret
   refine⟨_,rfl,HB.out,?_⟩
   have:=HO.out
   rw [List.take_of_length_le (by omega)] at this
   rw [show ps.length=k by omega]
   exact this
end
section
open Go.RowKit
set_option maxRecDepth 100000
def OnlyC (G:Nat→Prop)(T:List Nat)(w:World):Prop:=∀ k,G k→∃ c t x,w.heap[k]?=some (.cells c t x)∧t∈T
theorem Turn.same {G:Nat→Prop}{T T':List Nat}{w w':World}(ht:Turn G T w w')(hG:OnlyC G T' w){k:Nat}{o:Obj}(h:w.heap[k]?=some o)(ho:∀ c t x,o= .cells c t x→t∉T'):w'.heap[k]?=some o:=by
 rcases ht.block k (heap_some_lt h) with e | ⟨hk,-⟩
 ·rw [e];exact h
 ·obtain⟨c,t,x,e,hT⟩:=hG k hk
  rw [h] at e
  simp only [Option.some.injEq] at e
  exact absurd hT (ho c t x e)
theorem cells_not {T:List Nat}{cs:Array Value}{e:TypeId}{y:Nat×Nat}(h:e∉T):∀ c t x,Obj.cells cs e y= .cells c t x→t∉T:=by
 intro c t x he
 simp only [Obj.cells.injEq] at he
 rw [← he.2.1];exact h
theorem MapIs.past {G:Nat→Prop}{T T':List Nat}{w w':World}{hb:Nat}{l:Ks}(h:MapIs w hb l)(ht:Turn G T w w')(hG:OnlyC G T' w):MapIs w' hb l:=by
 obtain⟨es,c,e⟩:=h.isMap
 exact h.same ((ht.same hG e (fun c t x e'=>by simp at e')).trans e.symm)
theorem MemN.past {G O:Nat→Prop}{T T':List Nat}{w w':World}{mb:Nat}{room:Int}{L:LsN}(h:MemN w O mb room L)(ht:Turn G T w w')(hG:OnlyC G T' w)(h1:MeN∉T')(h2:LkN∉T'):MemN w' O mb room L:=by
 obtain⟨hb,eb,nx,pv,h⟩:=h
 exact⟨hb,eb,nx,pv,h.own,ht.same hG h.mem (cells_not h1),⟨ht.same hG h.ring.ends (cells_not h2),fun x hx=>ht.same hG (h.ring.link x hx) (cells_not h2),h.ring.circ⟩,h.map.past ht hG,h.ok⟩
theorem MemP.past {G O:Nat→Prop}{T T':List Nat}{w w':World}{mb:Nat}{room:Int}{L:LsP}(h:MemP w O mb room L)(ht:Turn G T w w')(hG:OnlyC G T' w)(h1:MeP∉T')(h2:LkP∉T'):MemP w' O mb room L:=by
 obtain⟨hb,eb,nx,pv,h⟩:=h
 exact⟨hb,eb,nx,pv,h.own,ht.same hG h.mem (cells_not h1),⟨ht.same hG h.ring.ends (cells_not h2),fun x hx=>ht.same hG (h.ring.link x hx) (cells_not h2),h.ring.circ,h.ring.len⟩,h.map.past ht hG,h.ok⟩
theorem PrIs.past {G OP:Nat→Prop}{T T':List Nat}{w w':World}{pm:Nat}{room:Int}{pr:Mm}(h:PrIs w OP pm room pr)(ht:Turn G T w w')(hG:OnlyC G T' w)(h1:MeP∉T')(h2:LkP∉T')(h3:5∉T):PrIs w' OP pm room pr:=by
 obtain⟨LP,g1,g2⟩:=h
 exact⟨LP,g1.past ht hG h1 h2,g2.mono fun a _ b hr=>hr.turn ht h3⟩
theorem Pv.past {W0 w w':World}{O A OP G:Nat→Prop}{T T':List Nat}{cb nb pm nm:Nat}{c:Cl}(h:Pv W0 w O A OP cb nb pm nm c)(ht:Turn G T w w')(hG:OnlyC G T' w)(h1:MeN∉T')(h2:LkN∉T')(h3:TCli∉T')(hp:PrIs w' OP pm c.room c.proved):Pv W0 w' O A OP cb nb pm nm c:=by
 obtain⟨C,hC,hB⟩:=h.cli
 exact⟨fun b hb=>⟨(h.own b hb).1,Nat.lt_of_lt_of_le (h.own b hb).2.1 ht.size,(h.own b hb).2.2⟩,h.sep,h.cbA,h.cbP,⟨C,ht.same hG hC (cells_not h3),hB⟩,hp,h.nee.past ht hG h1 h2⟩
theorem Pv.other {W0 w w':World}{O A OP N:Nat→Prop}{T:List Nat}{cb nb pm nm:Nat}{c:Cl}(h:Pv W0 w O A OP cb nb pm nm c)(ht:Turn N T w w')(hd:∀ b,A b∨OP b∨b=cb→¬ N b)(hu:5∉T):Pv W0 w' O A OP cb nb pm nm c:=by
 obtain⟨C,hC,hB⟩:=h.cli
 exact⟨fun b hb=>⟨(h.own b hb).1,Nat.lt_of_lt_of_le (h.own b hb).2.1 ht.size,(h.own b hb).2.2⟩,h.sep,h.cbA,h.cbP,⟨C,ht.stay hC (hd cb (.inr (.inr rfl))),hB⟩,h.prv.stay ht (fun b hb=>hd b (.inr (.inl hb))) hu (fun _ h=>h),h.nee.stay ht (fun b hb=>hd b (.inl hb)) (fun _ h=>h)⟩
theorem Pv.grow {W0 w:World}{O O' A OP:Nat→Prop}{cb nb pm nm:Nat}{c:Cl}(h:Pv W0 w O A OP cb nb pm nm c)(hO:∀ b,A b∨OP b∨b=cb→¬ O' b):Pv W0 w O' A OP cb nb pm nm c :=
 ⟨fun b hb=>⟨(h.own b hb).1,(h.own b hb).2.1,hO b hb⟩,h.sep,h.cbA,h.cbP,h.cli,h.prv,h.nee⟩
theorem Sh.past {W0 w w':World}{O G:Nat→Prop}{T:List Nat}{nb db:Nat}{d:Dk}{n:Nt}(h:Sh W0 w O nb db d n)(ht:Turn G T w w')(hB:∀ k,G k→W0.heap.size≤k)(h1:41∉T)(h2:63∉T)(h3:85∉T)(h4:65∉T)(h5:3∉T):Sh W0 w' O nb db d n :=
 ⟨h.base.trans (ht.below hB h.base.size),fun b hb=>⟨(h.own b hb).1,Nat.lt_of_lt_of_le (h.own b hb).2 ht.size⟩,h.disk.stay ht h1 h2,h.net.turn ht h3 h4 h5,h.st⟩
theorem owns_only {w:World}{B:Nat}{e:TypeId}{s:Nat}{v:Value}{n:Nat}{xs:List Value}(h:w.ownsRow B e s v n xs):OnlyC (fun k=>v.ownBlock=some k) [e] w:=by
 intro k hk
 obtain⟨c,x,e⟩:=owns_type h hk
 exact⟨c,_,x,e,by simp⟩
theorem owns_above {w:World}{B:Nat}{e:TypeId}{s:Nat}{v:Value}{n:Nat}{xs:List Value}(h:w.ownsRow B e s v n xs):∀ k,v.ownBlock=some k→B≤k:=by
 intro k hk
 rcases h.2 with ⟨rfl,_⟩ | ⟨g,cap,cur,rfl,hB,-⟩
 ·simp [Value.ownBlock] at hk
 ·simp only [Value.ownBlock,Option.some.injEq] at hk
  omega
theorem AInc.more {A A':Nat→Prop}{w w1 w2:World}(h:AInc A A' w w1)(hs:w1.heap.size≤w2.heap.size):AInc A A' w w2:=⟨h.1,fun b hb=>(h.2 b hb).imp id (fun h=>⟨h.1,by omega⟩)⟩
theorem CR.past {W0 w w1 w2:World}{O A OP G:Nat→Prop}{T T':List Nat}{cb nb db pm nm:Nat}{d:Dk}{c':Cl}{n':Nt}{P:(Nat→Prop)→Prop}(h:CR W0 w w1 O A OP cb nb db pm nm d c' n' P)(ht:Turn G T w1 w2)(hG:OnlyC G T' w1)(hg:∀ k,G k→w.heap.size≤k)(hW:W0.heap.size≤w.heap.size)(h1:MeN∉T')(h2:LkN∉T')(h3:TCli∉T')(h4:MeP∉T')(h5:LkP∉T')
  (q1:41∉T) (q2:63∉T) (q3:85∉T) (q4:65∉T) (q5:3∉T) (hu:5∉T∨∀ OP',P OP'→PrIs w2 OP' pm c'.room c'.proved) {P':(Nat→Prop)→Prop} (hP:∀ OP',P OP'→P' OP'):CR W0 w w2 O A OP cb nb db pm nm d c' n' P':=by
 obtain⟨A',OP',hA,hO,hpv,hp⟩:=h.rest
 refine⟨h.turn.apart ht hg,⟨A',OP',hA.more ht.size,hO.more ht.size,hpv.past ht hG h1 h2 h3 ?_,hP _ hp⟩,h.sh.past ht (fun k hk=>by have:=hg k hk;omega) q1 q2 q3 q4 q5⟩
 rcases hu with hu | hu
 ·exact hpv.prv.past ht hG h4 h5 hu
 ·exact hu OP' hp
theorem CR.weak {W0 w w1:World}{O A OP:Nat→Prop}{cb nb db pm nm:Nat}{d:Dk}{c':Cl}{n':Nt}{P P':(Nat→Prop)→Prop}(h:CR W0 w w1 O A OP cb nb db pm nm d c' n' P)(hP:∀ OP',P OP'→P' OP'):CR W0 w w1 O A OP cb nb db pm nm d c' n' P':=by
 obtain⟨A',OP',hA,hO,hpv,hp⟩:=h.rest
 exact⟨h.turn,⟨A',OP',hA,hO,hpv,hP _ hp⟩,h.sh⟩
theorem CR.below {W0 w w1 w2:World}{O A OP:Nat→Prop}{cb nb db pm nm:Nat}{d:Dk}{c':Cl}{n':Nt}{P:(Nat→Prop)→Prop}(h:CR W0 w w1 O A OP cb nb db pm nm d c' n' P)(hW:W0.heap.size≤w.heap.size)(hb:Below w1.heap.size w1 w2):CR W0 w w2 O A OP cb nb db pm nm d c' n' P :=
 h.past (G:=fun _=>False) (T:=[]) (T':=[]) (.of_below hb) (fun _ h=>h.elim) (fun _ h=>h.elim) hW (by simp) (by simp) (by simp) (by simp) (by simp) (by simp) (by simp) (by simp) (by simp) (by simp) (.inl (by simp)) (fun _ h=>h)
end
section
set_option maxHeartbeats 2000000
open Go.RowKit
set_option maxRecDepth 100000
def GotP (o:Option (List UInt8))(B:Nat)(e:Value)(w:World):Prop:=(o=none∧e= .nilIface)∨∃ p,o=some p∧GotErr true p B e w
theorem GotP.weaken {o:Option (List UInt8)}{B B':Nat}{e:Value}{w:World}(h:GotP o B e w)(hB:B'≤B):GotP o B' e w:=by
 rcases h with h | ⟨p,h1,h2⟩
 ·exact .inl h
 ·exact .inr ⟨p,h1,h2.weaken hB⟩
theorem putD_len (d:Dk)(p x:List UInt8):(putD d p x).fs.length≤d.fs.length+1:=by
 have h:=setF_length d.fs p x
 unfold putD
 split
 ·split
  ·split
   ·exact h
   ·rw [enterD_fs];omega
  ·show(enterD d).fs.length≤_
   rw [enterD_fs];omega
 ·split
  ·exact h
  ·rw [enterD_fs];omega
theorem putsD_len:∀(t:Fs) (d:Dk) ,(putsD t d).2.fs.length≤d.fs.length+t.length
 | [],d=>by simp [putsD]
 | f::r,d=>by
  have h:=putD_len d f.1 f.2
  unfold putsD
  split
  ·simp;omega
  ·have:=putsD_len r (putD d f.1 f.2)
   simp;omega
def levK (es:List (List UInt8))(l:Int)(j0 c t:Nat):Fs:=(List.range' j0 t).map (fileF es l c)
theorem levK_succ (es:List (List UInt8))(l:Int)(j0 c t:Nat):levK es l j0 c (t+1)=levK es l j0 c t++[fileF es l c (j0+t)]:=by
 unfold levK
 rw [List.range'_1_concat,List.map_append]
 rfl
theorem levF_split (es:List (List UInt8))(l:Int)(j0 c t:Nat)(h:t≤(c+3) / 4 - j0):levF es l j0 c=levK es l j0 c t++(List.range' (j0+t) ((c+3) / 4 - j0 - t)).map (fileF es l c):=by
 unfold levF levK
 rw [← List.map_append,List.range'_append_1]
 congr 2
 omega
theorem puts_stop {a b:Fs}{d d':Dk}{p:List UInt8}(h:putsD a d=(some p,d')):putsD (a++b) d=(some p,d'):=by rw [putsD_append,h]
theorem puts_snoc {a:Fs}{f:List UInt8×List UInt8}{d d':Dk}(h:putsD a d=(none,d')):putsD (a++[f]) d=if putE d' f.1 f.2 then (some f.1,putD d' f.1 f.2) else (none,putD d' f.1 f.2):=by
 rw [putsD_append,h]
 simp only [putsD]
theorem file_any (O:Nat→Prop)(db lb:Nat)(l:Lg)(w:World)(he:l.es.length≤1000000)(h20:∀ e∈l.es,e.length≤20)(h:LogAt w O db lb l)(lev:Int)(hl1:-1≤lev)(hl2:lev≤20)(i n:Nat)(hin:i+n≤cntL lev l.es.length)(h1:1≤n)(h4:n≤4):
  Calls Tryz.prog 124 #[.pointer (some ⟨lb,0,none⟩),.int .i64 lev,.int .i64 i,.int .i64 ((i+n:Nat):Int)] w fun r w'=>∃ v,r= .returned v∧Below w.heap.size w w'∧Bq w' v (((List.range' i n).map (dataF l.es lev)).flatten):=by
 by_cases e:lev=-1
 ·subst e
  exact fileB_any O db lb l w he h20 h i n (by simpa [cntL] using hin) h1 h4
 ·obtain⟨L,rfl⟩:=Int.eq_ofNat_of_zero_le (show 0≤lev by omega)
  refine fileT_any O db lb l w he h20 h L (by omega) i n ?_ h1 h4
  unfold cntL at hin
  rw [Int.toNat_natCast] at hin
  exact(Nat.le_div_iff_mul_le (Nat.pow_pos (by omega))).1 hin
theorem level_any (O:Nat→Prop)(W:World)(hE:Env W)(hOW:∀ k,O k→W.heap.size≤k)(db lb:Nat)(d:Dk)(l:Lg)(w:World)(hn:d.fs.length≤900000000)(he:l.es.length≤1000000)(hput:l.put≤l.es.length)(h20:∀ e∈l.es,e.length≤20)(hlv:l.live=true)(hW:Below W.heap.size W w)(h:DiskAt w O db d)(hL:LogAt w O db lb l)(lev:Int)(hl1:-1≤lev)(hl2:lev≤20):
  Calls Tryz.prog 82 #[.pointer (some ⟨lb,0,none⟩),.int .i64 lev] w fun r w'=>∃ e,r= .returned e∧GotP (putsD (levT l.es l.put lev) d).1 w.heap.size e w'∧Turn O dT w w'∧DiskAt w' (Ext O w w') db (putsD (levT l.es l.put lev) d).2:=by
 have HD:=hide h
 have HLG:=hide hL
 have H20:=hide h20
 have HW:=hide hW
 have HO:=hide hOW
 have hEE:=hide hE
 obtain⟨a,cap,hb,hes,-⟩:=lok hL
 obtain⟨⟨c0,f0⟩,-,⟨c2,f2⟩,⟨c3,f3⟩⟩:=lall hb
 have HB:=hide hb
 have hlb:=heap_some_lt hb
 have hcl:=cntL_le lev l.es.length
 have hcm:cntL lev l.put≤cntL lev l.es.length:=Nat.div_le_div_right hput
 have HTD:Hid (levT l.es l.put lev=if cntL lev l.es.length=cntL lev l.put then [] else levF l.es lev (cntL lev l.put / 4) (cntL lev l.es.length)):=rfl
 clear h hL h20 hW hOW hE hb hes f0 f2 f3 c0
 go_enter Tryz.func82,Tryz.ntmps82
 go_wp2_with fail
 go_region_held3 (fun X=>X.cell? ⟨lb,2,none⟩=some (.slice a l.es.length cap)∧X.cell? ⟨lb,3,none⟩=some (.int .i64 (l.put:Int))) (go_keep) (first
  | (go_at_call 81;refine(countAt_any lev hl1 (by omega) _ _).mono ?_;rintro r w' ⟨rfl,rfl⟩))
 generalize hcc:cntL lev l.es.length=c at *
 generalize hbb:cntL lev l.put=b at *
 have HCC:=hide (And.intro hcc hbb)
 clear hcc hbb c2 c3
 by_cases hcb:c=b
 ·have HPS:Hid (putsD (levT l.es l.put lev) d=(none,d)):=by show _=_;rw [HTD.out,if_pos hcb];rfl
  have q1:((c:Int)==(b:Int))=true:=by rw [beq_iff_eq];omega
  clear hcb
  go_wp2_with fail
  go_ret
  rw [HPS.out]
  exact⟨_,rfl,.inl ⟨rfl,rfl⟩,(Turn.refl _ _ _).drew,(HD.out.stay (O1:=fun _=>False) (T:=[]) (Turn.refl _ _ w).drew (by simp) (by simp)).mono (fun _ h=> .inl h)⟩
 ·have HTD2:Hid (levT l.es l.put lev=levF l.es lev (b / 4) c):=by show _=_;rw [HTD.out,if_neg hcb]
  have q1:((c:Int)==(b:Int))=false:=by rw [beq_eq_false_iff_ne];omega
  have hbc:b < c:=by omega
  obtain⟨j0,hj0⟩:∃ j0,j0=b / 4:=⟨_,rfl⟩
  have HJ0:=hide hj0
  have hj1:4*j0≤b:=by omega
  have hj2:b < 4*j0+4:=by omega
  rw [← hj0] at HTD2
  clear hcb hj0 HTD
  go_wp2_with fail
  go_loopg [7,8,9,10] (c+1) (fun gg s7 _ _ _ wr=>∃(t:Nat) (dt:Dk),s7= .int .i64 ((4*(j0+t):Nat):Int)∧4*(j0+t) < c+4∧c+1 - 4*t≤gg∧putsD (levK l.es lev j0 c t) d=(none,dt)∧Turn O dT w wr∧DiskAt wr (Ext O w wr) db dt)
  case atStart=>exact⟨0,d,by congr 1;have:=HJ0.out;omega,by omega,by omega,rfl,(Turn.refl _ _ _).drew,(HD.out.stay (O1:=fun _=>False) (T:=[]) (Turn.refl _ _ w).drew (by simp) (by simp)).mono (fun _ h=> .inl h)⟩
  case round =>
   obtain⟨t,dt,rfl,ht4,hgg,hps,hT,hD⟩:=hrel
   have HPS:=hide hps
   have HT:=hide hT
   have HDT:=hide hD
   have htc:t≤(c+3) / 4 - j0:=by omega
   have HLG1:=hide (HLG.out.stay hT (by decide) (by decide) (by decide))
   have hBW:=HW.out.trans (hT.below HO.out HW.out.size)
   have HBW:=hide hBW
   have hEw:=hEE.out.below hBW
   have hdl:dt.fs.length≤1000000000:=by
    have h1:=putsD_len (levK l.es lev j0 c t) d
    rw [hps] at h1
    have h2:(levK l.es lev j0 c t).length=t:=by unfold levK;simp
    simp only [h2] at h1
    omega
   clear hps hT hD hBW
   obtain⟨J,hJ⟩:∃ J,J=j0+t:=⟨_,rfl⟩
   rw [← hJ] at ht4 ⊢
   have HJ:=hide hJ
   obtain⟨F,hF⟩:∃ F,F=4*J:=⟨_,rfl⟩
   rw [← hF] at ht4 ⊢
   have HF:=hide hF
   by_cases hlt:F < c
   ·have hltI:(F:Int) < (c:Int):=by omega
    obtain⟨wd,hwd⟩:∃ wd,wd=wid c J:=⟨_,rfl⟩
    have hw1:1≤wd:=by rw [hwd];unfold wid;omega
    have hw4:wd≤4:=by rw [hwd];unfold wid;omega
    have hwc:F+wd≤c:=by rw [hwd];unfold wid;omega
    have hmn:min ((F:Int)+4) (c:Int)=(F:Int)+(wd:Int):=by rw [hwd];unfold wid;omega
    have HWD:=hide hwd
    have hJ4:J≤1000000:=by omega
    clear hJ hF hwd
    have HXF:Hid (fileF l.es lev c (j0+t)=(nameF lev J wd,((List.range' F wd).map (dataF l.es lev)).flatten)):=by
     show _=_
     rw [← HJ.out]
     unfold fileF fileD
     rw [← HWD.out,← HF.out]
    go_wp2_with fail
    rw [show((F:Int) / 4)=(J:Int) by have:=HF.out;omega,show((F:Int)+(wd:Int) - (F:Int))=(wd:Int) by omega]
    refine(name_any lev J wd (by omega) wr hEw).mono ?_
    rintro r w2 ⟨rfl,hb2⟩
    have hT2:Turn O dT w w2:=HT.out.then_below hb2
    have HT2:=hide hT2
    have hTe2:Turn O [] wr w2:= .of_below hb2
    have HL2:=hide (HLG1.out.stay hTe2 (by decide) (by decide) (by decide))
    have HD2:=hide (HDT.out.stay hTe2 (by decide) (by decide))
    have hs2:Hid (wr.heap.size≤w2.heap.size):=hb2.size
    clear hb2 hT2 hTe2 hEw
    go_wp2_with fail
    rw [show((F:Int)+(wd:Int))=((F+wd:Nat):Int) by omega]
    refine(file_any _ db lb l w2 he H20.out HL2.out lev hl1 hl2 F wd (by rw [HCC.out.1];exact hwc) hw1 hw4).mono ?_
    rintro r w3 ⟨v,rfl,hb3,hq⟩
    have HQ:=hide hq
    obtain⟨va,vn,vc,rfl⟩:=bq_shape hq
    have hTe3:Turn O [] w2 w3:= .of_below hb3
    have HT3:Hid (Turn O dT w w3):=HT2.out.then_below hb3
    have HL3:=hide (HL2.out.stay hTe3 (by decide) (by decide) (by decide))
    have HD3:=hide (HD2.out.stay hTe3 (by decide) (by decide))
    have hs3:Hid (wr.heap.size≤w3.heap.size):=Nat.le_trans hs2.out hb3.size
    have hst3:w3.cell? ⟨lb,0,none⟩=some (stV db true):=by
     obtain⟨_,_,hb,-⟩:=lok HL3.out
     have:=(lall hb).1.1
     rw [hlv] at this
     exact this
    clear hb3 hq hTe3
    generalize hxx:((List.range' F wd).map (dataF l.es lev)).flatten=xx at *
    go_wp2_with fail
    refine(lput_any (Ext O w wr) db lb dt (nameF lev J wd) xx (.slice va vn vc) w3 hdl HD3.out HQ.out hst3).mono ?_
    rintro r w4 ⟨e,rfl,hge,ht4,hd4⟩
    have HT4:Hid (Turn O dT w w4):=HT3.out.trans (ht4.mono (fun k hk=>by rcases hk with h | h;exact .inl h;exact .inr ⟨h.1,Nat.lt_of_lt_of_le h.2 hs3.out⟩) (fun _ h=>h))
    have HD4:Hid (DiskAt w4 (Ext O w w4) db (putD dt (nameF lev J wd) xx)):=hd4.mono (fun k hk=>by
     have hwr:=HT.out.size
     have h34:=ht4.size
     have:=hs3.out
     rcases hk with (h | h) | h
     ·exact .inl h
     ·exact .inr (by omega)
     ·exact .inr (by omega))
    have HPN:=hide (puts_snoc (f:=fileF l.es lev c (j0+t)) HPS.out)
    have HGE:=hide (hge.weaken HT3.out.size)
    clear ht4 hd4 hst3 hxx
    rcases gotErr_cases hge with ⟨hbd,rfl⟩ | ⟨hbd,g,rfl⟩
    ·have HPK:Hid (putsD (levK l.es lev j0 c (t+1)) d=(none,putD dt (nameF lev J wd) xx)):=by
      show _=_
      rw [levK_succ,HPN.out,HXF.out]
      simp only [hbd,Bool.false_eq_true,if_false]
     clear hge hbd
     go_wp2_with fail
     go_roundg (gk - 1)
     case rel=>exact⟨t+1,putD dt (nameF lev J wd) xx,by congr 1;have:=HJ.out;have:=HF.out;omega,by have:=HJ.out;have:=HF.out;omega,by omega,HPK.out,HT4.out,HD4.out⟩
     case measure=>have:=HJ.out;have:=HF.out;omega
    ·have HPK:Hid (putsD (levT l.es l.put lev) d=(some (nameF lev J wd),putD dt (nameF lev J wd) xx)):=by
      show _=_
      rw [HTD2.out,levF_split l.es lev j0 c (t+1) (by have:=HJ.out;have:=HF.out;omega)]
      refine puts_stop ?_
      rw [levK_succ,HPN.out,HXF.out]
      simp only [hbd,if_true]
     rw [hbd] at HGE
     clear hge hbd
     go_wp2_with fail
     go_ret
     rw [HPK.out]
     exact⟨_,rfl,.inr ⟨_,rfl,HGE.out⟩,HT4.out,HD4.out⟩
   ·have HPK:Hid (putsD (levT l.es l.put lev) d=(none,dt)):=by
     show _=_
     rw [HTD2.out,levF_split l.es lev j0 c t htc,show(c+3) / 4 - j0 - t=0 by have:=HJ.out;have:=HF.out;omega]
     simp only [List.range'_zero,List.map_nil,List.append_nil]
     exact HPS.out
    have hltI:¬(F:Int) < (c:Int):=by omega
    go_wp2_with fail
    go_ret
    rw [HPK.out]
    exact⟨_,rfl,.inl ⟨rfl,rfl⟩,HT.out,HDT.out⟩
end
end Go.Proofs.YtinhekmmdlhfkaaGreatDoor
