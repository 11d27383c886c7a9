import Derived.Test.YtinhekmmdlhfkaaGreatDoorG48
import Derived.Test.YtinhekmmdlhfkaaGreatDoorG49
import Derived.Test.YtinhekmmdlhfkaaGreatDoorG46
namespace Go.Proofs.YtinhekmmdlhfkaaGreatDoor
section
open Go.RowKit
set_option maxRecDepth 100000
theorem j5.mono {w:World}{O O':Nat→Prop}{nb db:Nat}{n:Nt}(h:j5 w O nb db n)(hO:∀ k,O k→O' k):j5 w O' nb db n:=by
 obtain⟨lv,tv,h1,h2,h3,⟨a,cap,e,h4⟩,h5⟩:=h
 refine⟨lv,tv,hO _ h1,h2,h3,⟨a,cap,e,?_⟩,h5⟩
 rcases h4 with h4 | ⟨g,ea,hg,hh⟩
 ·exact .inl h4
 ·exact .inr ⟨g,ea,hO _ hg,hh⟩
theorem zm.bound {w:World}{O:Nat→Prop}{db:Nat}{d:Dk}(h:zm w O db d):zm w (fun k=>O k∧k < w.heap.size) db d:=by
 obtain⟨fv,h1,h2,h3,h4⟩:=h
 exact⟨fv,⟨h1,zb h2⟩,h2,h3,fun g hg=>⟨h4 g hg,(h3.lt g hg).2⟩⟩
theorem z71 {W w0 w3 w4:World}{db pb lb n:Nat}{key:List UInt8}{d:Dk}{s:List Nat}{es:List (List UInt8)}{put:Nat}(hW:Below W.heap.size W w0)(h:zf5 w0.heap.size w0 w3 db pb lb n key d s es put)(hn:n≤4200)(hb:Below w3.heap.size w3 w4)(hN:j5 w4 (fun k=>k=w3.heap.size) w3.heap.size db ⟨[],[],0⟩):Sh W w4 (fun k=>W.heap.size≤k∧k < w4.heap.size) w3.heap.size db d ⟨[],[],0⟩:=by
 have h03:=h.bel.size
 have h34:=hb.size
 have hW0:=hW.size
 have hlt:w3.heap.size < w4.heap.size:=by
  obtain⟨lv,tv,-,h2,-⟩:=hN
  exact zb h2
 refine⟨(hW.trans (h.bel.mono hW0)).trans (hb.mono (by omega)),fun _ h=>h,?_,hN.mono (fun k hk=>by subst hk;exact⟨by omega,hlt⟩),⟨?_,fun f hf=>?_,by simp,by simp,by simp,by simp⟩⟩
 ·exact((h.below hb).disk.bound).mono (fun k hk=>⟨by omega,hk.2⟩)
 ·have:=h.ks.count hn;omega
 ·have:=h.ks.num.data f hf;omega
theorem KC.apart {W0 w w':World}{O M N:Nat→Prop}{pb nb:Nat}{c:Cl}(h:KC W0 w O pb nb c N)(ht:zf (fun k=>O k∨M k) kcT w w')(hd:∀ k,N k→¬ M k):KC W0 w' O pb nb c N :=
 h.other ht (fun k hk e=>by
  rcases e with e | e
  ·exact(h.own k hk).2.2 e
  ·exact hd k hk e) (by decide)
theorem zu1 {W w w1:World}{O N:Nat→Prop}{pb nb db:Nat}{d:Dk}{c:Cl}{n:Nt}(hs:Sh W w O nb db d n)(h:KC W w O pb nb c N)(ht:zf N [qw] w w1):Sh W w1 O nb db d n :=
 hs.past ht (fun k hk=>(h.own k hk).1) (by decide) (by decide) (by decide) (by decide) (by decide)
end
section
open Go.RowKit
set_option maxRecDepth 100000
structure KL (B:Nat)(w0 w:World)(db pb lb n:Nat)(key:List UInt8)(d:Dk)(s:List Nat)(es:List (List UInt8)):Prop where
 le:B≤w0.heap.size
 bel:Below B w0 w
 disk:zm w (fun k=>B≤k) db d
 pl:zhs w pb lb
 log:xk w (fun k=>B≤k) db lb { key:=key,es:=es,put:=0,live:=true }
 num:Num n ⟨key,0,false,false⟩ d s
 short:∀ e∈es,e.length≤20
 ins:∀ j,4*j < es.length→j∈s
theorem KL.ent {B:Nat}{w0 w:World}{db pb lb n:Nat}{key:List UInt8}{d:Dk}{s:List Nat}{es:List (List UInt8)}(h:KL B w0 w db pb lb n key d s es)(hc:zau d):Ent ⟨key,0,false,false⟩ d s es 0 :=
 ⟨h.short,h.ins,Nat.zero_le _,fun _=>⟨hc,fun f hf=>absurd hf (by rw [List.take_zero];exact zga)⟩⟩
theorem KL.few {B:Nat}{w0 w:World}{db pb lb n:Nat}{key:List UInt8}{d:Dk}{s:List Nat}{es:List (List UInt8)}(h:KL B w0 w db pb lb n key d s es)(hn:n≤4200):es.length≤40000:=by
 have:=zc4 ((es.length+3) / 4) s (fun j hj=>h.ins j (by omega))
 have:=h.num.small
 omega
theorem KL.below {B:Nat}{w0 w w':World}{db pb lb n:Nat}{key:List UInt8}{d:Dk}{s:List Nat}{es:List (List UInt8)}(h:KL B w0 w db pb lb n key d s es)(hb:Below w.heap.size w w'):KL B w0 w' db pb lb n key d s es:=by
 have ht:zf (fun _=>False) [] w w':= .of_below hb
 exact⟨h.le,h.bel.trans (hb.mono (Nat.le_trans h.le h.bel.size)),h.disk.stay ht (by simp) (by simp),ht.keep h.pl (by simp),h.log.stay ht (by simp) (by simp) (by simp),h.num,h.short,h.ins⟩
theorem zie {B:Nat}{w w':World}(h:B≤w.heap.size):∀ k,Ext (fun k=>B≤k) w w' k→B≤k:=fun k hk=>by
 rcases hk with hk | hk
 ·exact hk
 ·exact Nat.le_trans h hk.1
theorem zw2 (W:World)(at_:Nat→Addr)(hE:Env W)(hSN:qm W at_)(hET:ETy W){B:Nat}{w0 w:World}{db n:Nat}{key:List UInt8}{d:Dk}{s:List Nat}{F:List (List UInt8)}{n0 m:Nat}(hle:B≤w0.heap.size)(hbel:Below B w0 w)(hdisk:zm w (fun k=>B≤k) db d)(hnum:Num n ⟨key,0,false,false⟩ d s)(hst:jj d)(hsf:SF d.fs key F n0 m)(h20:∀ e∈F,e.length≤20)(hl:F.length≤1000000)(hWB:W.heap.size≤B)(hW:Below W.heap.size W w0)(hn:n≤4200):
  Calls Tryz.prog 8 #[.pointer (some ⟨db,0,none⟩),.string ⟨key.toArray⟩] w fun r w'=>∃ d' pb lb,r= .returned (.tuple #[.pointer (some ⟨pb,0,none⟩),.agg #[.int .i64 0,.string ⟨#[]⟩]])∧zf (fun k=>B≤k) rT w w'∧d'.fs=d.fs∧jj d'∧KL B w0 w' db pb lb n key d' s (F.take m):=by
 have hB:=Nat.le_trans hle hbel.size
 have hk:key.length≤9223372036854775807:=hnum.key
 refine(zzy (fun k=>B≤k) W at_ hE hSN hET (fun k hk=>Nat.le_trans hWB hk) db d key w (by have:=hnum.count;omega) hnum.data (by omega) ⟨hst.2.1,hst.2.2⟩ (hW.trans (hbel.mono hWB)) hdisk s hnum.among (by have:=hnum.small;omega)).mono ?_
 rintro r w' ⟨d',hT,hd,hfs,htk,hres⟩
 have hst':jj d':=jj.tk hst htk
 rcases hres with ⟨hh,-⟩ | ⟨-,err,p,es,m',ho,hres⟩
 ·rw [hst'.2.2] at hh;simp at hh
 ·obtain⟨rfl,rfl,rfl,rfl⟩:=zf7.unique ho (hsf.opens h20 hl)
  rcases hres with ⟨-,pb,lb,rfl,h1,h2,h3,h4⟩ | ⟨h1,-⟩
  ·refine⟨d',pb,lb,rfl,hT,hfs,hst',hle,hbel.trans (hT.below (fun _ h=>h) hB),hd.mono (zie hB),h3,h4.mono (zie hB),zmw hnum rfl hfs (zo3 htk),fun e he=>h20 e (List.mem_of_mem_take he),fun j hj=>?_⟩
   have hj':4*j < m:=by
    have:(F.take m).length≤m:=by simp;omega
    omega
   exact hnum.among j (wid m j) (by unfold wid;omega) (by unfold wid;omega) (by rw [hsf.bun j hj'];rfl)
  ·exact absurd rfl h1
theorem zpb (W:World)(at_:Nat→Addr)(hSN:qm W at_){B:Nat}{w0 w:World}{db pb lb n:Nat}{key:List UInt8}{d:Dk}{s:List Nat}{es:List (List UInt8)}(h:KL B w0 w db pb lb n key d s es)(hWB:W.heap.size≤B)(hW:Below W.heap.size W w0)(hn:n≤4200)(t:List UInt8)(ht:t.length≤20):
  Calls Tryz.prog 10 #[.pointer (some ⟨pb,0,none⟩),.string ⟨t.toArray⟩] w fun r w'=>r= .returned (.tuple #[.int .i64 (es.length:Int),told 0])∧zf (fun k=>B≤k) lT w w'∧KL B w0 w' db pb lb (n+1) key d (es.length / 4::s) (es++[t]):=by
 have hf:=h.few hn
 have hB:=Nat.le_trans h.le h.bel.size
 refine(zky (fun k=>B≤k) W at_ hSN (fun k hk=>Nat.le_trans hWB hk) db pb lb _ t w (hW.trans (h.bel.mono hWB)) (by show es.length≤_;omega) (by omega) h.pl h.log).mono ?_
 rintro r w' ⟨hT,hres⟩
 rcases hres with ⟨h20,-⟩ | ⟨-,hl,-⟩ | ⟨-,-,rfl,hlog⟩
 ·omega
 ·simp at hl
 ·refine⟨rfl,hT,h.le,h.bel.trans (hT.below (fun _ hk=>hk) hB),h.disk.stay hT (by decide) (by decide),hT.keep h.pl (by decide),hlog.mono (zie hB),⟨h.num.apart,h.num.data,Nat.le_trans h.num.count (Nat.add_le_add_left (Nat.mul_le_mul_right _ (Nat.le_succ n)) _),fun j w' h1 h4 hh=>List.mem_cons_of_mem _ (h.num.among j w' h1 h4 hh),by have:=h.num.small;simp only [List.length_cons];omega,h.num.key,h.num.turned⟩,fun e he=>?_,fun j hj=>?_⟩
  ·rcases List.mem_append.1 he with he | he
   ·exact h.short e he
   ·obtain rfl:e=t:=by simpa using he
    exact ht
  ·rw [List.length_append] at hj
   simp only [List.length_cons,List.length_nil] at hj
   by_cases h4:4*j < es.length
   ·exact List.mem_cons_of_mem _ (h.ins j h4)
   ·obtain rfl:j=es.length / 4:=by omega
    exact List.mem_cons_self
theorem zt2 (W:World)(at_:Nat→Addr)(hE:Env W)(hSN:qm W at_)(hET:ETy W){B:Nat}{w0 w:World}{db pb lb n:Nat}{key:List UInt8}{d:Dk}{s:List Nat}{es:List (List UInt8)}(h:KL B w0 w db pb lb n key d s es)(hWB:W.heap.size≤B)(hW:Below W.heap.size W w0)(hn:n≤4100)(hc:zau d)(hnc:ve d.fs (xj es)):
  Calls Tryz.prog 13 #[.pointer (some ⟨pb,0,none⟩)] w fun r w'=>∃(nv err:Int) (p:List UInt8),r= .returned (.tuple #[.int .i64 nv,.agg #[.int .i64 err,.string ⟨p.toArray⟩]])∧zf (fun k=>B≤k) pT w w'∧Below B w0 w'∧zm w' (fun k=>B≤k) db (qt (yj es 0) (xn es.length (yb es) key) d).2∧Num (n+1) ⟨key,0,false,false⟩ (qt (yj es 0) (xn es.length (yb es) key) d).2 s ∧
   (((qt (yj es 0) (xn es.length (yb es) key) d).2.hit=false∧err=0)∨((qt (yj es 0) (xn es.length (yb es) key) d).2.hit=true∧err=8∧nv=0)):=by
 have hf:=h.few (by omega)
 have hB:=Nat.le_trans h.le h.bel.size
 have hk:key.length≤9223372036854775807:=h.num.key
 obtain⟨g1,-,-,g4⟩:=zqt (x':=⟨key,0,false,false⟩) hn h.num (h.ent hc) rfl (List.Perm.refl d.fs) (zju hnc) rfl
 refine(zqv (fun k=>B≤k) W at_ hE hSN hET (fun k hk=>Nat.le_trans hWB hk) db pb lb d _ w (by have:=h.num.count;have:=zje es 0;show d.fs.length+(yj es 0).length≤_;omega) (by show es.length≤_;omega) (Nat.zero_le _) h.short (by show key.length≤_;omega) (hW.trans (h.bel.mono hWB)) h.pl h.disk h.log).mono ?_
 rintro r w' ⟨hT,hres⟩
 have hbel:=h.bel.trans (hT.below (fun _ hk=>hk) hB)
 rcases hres with ⟨hl,-⟩ | ⟨-,e,rfl,hd,-⟩ | ⟨-,p,e,rfl,hd,-⟩
 ·simp at hl
 ·refine⟨_,0,[],rfl,hT,hbel,hd.mono (zie hB),g1,.inl ⟨?_,rfl⟩⟩
  rcases g4 with ⟨-,hcm,-⟩ | ⟨⟨p,hp,-⟩,-⟩
  ·exact hcm.2
  ·have e':(qt (yj es 0) (cpT ⟨key,0,false,false⟩ es) d).1=none:=e
   rw [e'] at hp;simp at hp
 ·refine⟨0,8,p,rfl,hT,hbel,hd.mono (zie hB),g1,.inr ⟨?_,rfl,rfl⟩⟩
  rcases g4 with ⟨hp,-⟩ | ⟨-,hh⟩
  ·have e':(qt (yj es 0) (cpT ⟨key,0,false,false⟩ es) d).1=some p:=e
   rw [e'] at hp;simp at hp
  ·exact hh
theorem z5o (W:World)(at_:Nat→Addr)(hE:Env W)(hSN:qm W at_){B:Nat}{w0 w:World}{db pb lb n:Nat}{key:List UInt8}{d:Dk}{s:List Nat}{es:List (List UInt8)}(h:KL B w0 w db pb lb n key d s es)(hWB:W.heap.size≤B)(hW:Below W.heap.size W w0)(hn:n≤4100)(hst:jj d)(hfrom:vw d.fs es):
  Calls Tryz.prog 13 #[.pointer (some ⟨pb,0,none⟩)] w fun r w'=>r= .returned (.tuple #[.int .i64 (es.length:Int),told 0])∧zf (fun k=>B≤k) pT w w'∧∃ d',zf5 B w0 w' db pb lb (n+1) key d' s es es.length:=by
 have hf:=h.few (by omega)
 have hB:=Nat.le_trans h.le h.bel.size
 have hk:key.length≤9223372036854775807:=h.num.key
 have hc:zau d:=⟨hst.2.1,hst.2.2⟩
 have hnc:=hfrom.noClash (by omega)
 have h0:=zpl (c:=xn es.length (yb es) key) (put:=0) hst h.num.apart h.num.turned (by omega) hnc
 obtain⟨g1,g2,g3,g4⟩:=zqt (x':=⟨key,0,false,false⟩) hn h.num (h.ent hc) rfl (List.Perm.refl d.fs) (zju hnc) rfl
 have hks:KS (n+1) key (qt (yj es 0) (xn es.length (yb es) key) d).2 s es es.length:=by
  rcases g4 with ⟨-,c1,c2,c3⟩ | ⟨⟨p,hp,-⟩,-⟩
  ·exact⟨g1,⟨h.short,h.ins,Nat.le_refl _,fun _=>⟨c1,fun f hf=>c3 f (by rw [List.take_length] at hf;exact hf)⟩⟩,hst.pub _ _,hfrom.went g2,Nat.le_refl _,.inr ⟨by rw [List.take_length];exact c2,fun f hf=>c3 f (by rw [List.take_length] at hf;exact hf)⟩⟩
  ·have e:(qt (yj es 0) (cpT ⟨key,0,false,false⟩ es) d).1=none:=h0
   rw [e] at hp
   simp at hp
 refine(zou (fun k=>B≤k) W at_ hE hSN (fun k hk=>Nat.le_trans hWB hk) db pb lb d _ w (by have:=h.num.count;have:=zje es 0;show d.fs.length+(yj es 0).length≤_;omega) (by show es.length≤_;omega) (Nat.zero_le _) h.short (by show key.length≤_;omega) (hW.trans (h.bel.mono hWB)) h.pl h.disk h.log rfl h0).mono ?_
 rintro r w' ⟨hT,hres⟩
 rcases hres with ⟨hl,-⟩ | ⟨-,-,rfl,hd,hlog⟩ | ⟨-,p,hp,-⟩
 ·simp at hl
 ·exact⟨rfl,hT,_,h.le,h.bel.trans (hT.below (fun _ hk=>hk) hB),hd.mono (zie hB),hT.keep h.pl (by decide),hlog.mono (zie hB),hks⟩
 ·have e:(qt (yj es 0) (xn es.length (yb es) key) d).1=some p:=hp
  rw [h0] at e
  simp at e
end
section
set_option maxHeartbeats 4000000
open Go.RowKit
set_option maxRecDepth 100000
theorem SF.more {fs:Fs}{key:List UInt8}{es:List (List UInt8)}(h:SF fs key es es.length es.length)(more:List (List UInt8)):SF fs key (es++more) es.length es.length:=by
 have ht:(es++more).take es.length=es:=List.take_left' rfl
 have hc:zz (-1) es.length=es.length:=by unfold zz;simp
 refine⟨Nat.le_refl _,by simp,?_,?_,?_,fun j hj=>?_⟩
 ·rw [ht]
  have:=h.cp
  rw [List.take_length] at this
  exact this
 ·exact h.all.more (Nat.le_refl _) more
 ·rw [ht]
  have:=h.since
  rw [List.take_length] at this
  exact this
 ·rw [h.bun j hj,← zat (es++more) es.length (-1) j (wid es.length j) (by rw [hc];unfold wid;omega) (by simp),ht]
theorem KL.disk' {B:Nat}{w0 w w':World}{db pb lb n:Nat}{key:List UInt8}{d d':Dk}{s:List Nat}{es:List (List UInt8)}(h:KL B w0 w db pb lb n key d s es)(ht:zf (fun k=>B≤k) dT1 w w')(hd:zm w' (fun k=>B≤k) db d')(hf:d'.fs=d.fs)(hu:d'.turned=d.turned):KL B w0 w' db pb lb n key d' s es :=
 ⟨h.le,h.bel.trans (ht.below (fun _ hk=>hk) (Nat.le_trans h.le h.bel.size)),hd,ht.keep h.pl (by decide),h.log.stay ht (by decide) (by decide) (by decide),zmw h.num rfl hf hu,h.short,h.ins⟩
theorem KL.other {B:Nat}{w0 w w':World}{db pb lb n tb:Nat}{key:List UInt8}{d:Dk}{s:List Nat}{es:List (List UInt8)}(h:KL B w0 w db pb lb n key d s es)(ht:zf (fun k=>k=tb) [29] w w')(hb:B≤tb):KL B w0 w' db pb lb n key d s es :=
 ⟨h.le,h.bel.trans (ht.below (fun _ hk=>by rw [hk];exact hb) (Nat.le_trans h.le h.bel.size)),h.disk.stay ht (by decide) (by decide),ht.keep h.pl (by decide),h.log.stay ht (by decide) (by decide) (by decide),h.num,h.short,h.ins⟩
theorem zf5.other {B:Nat}{w0 w w':World}{db pb lb n tb:Nat}{key:List UInt8}{d:Dk}{s:List Nat}{es:List (List UInt8)}{put:Nat}(h:zf5 B w0 w db pb lb n key d s es put)(ht:zf (fun k=>k=tb) [29] w w')(hb:B≤tb):zf5 B w0 w' db pb lb n key d s es put :=
 ⟨h.le,h.bel.trans (ht.below (fun _ hk=>by rw [hk];exact hb) (Nat.le_trans h.le h.bel.size)),h.disk.stay ht (by decide) (by decide),ht.keep h.pl (by decide),h.log.stay ht (by decide) (by decide) (by decide),h.ks⟩
theorem zjg {w:World}{tb:Nat}{cs:Array Value}(h:w.heap[tb]?=some (.cells cs 29 (0,0)))(hs:cs.size=2)(u v:Value):zf (fun k=>k=tb) [29] w ((w.setCell ⟨tb,0,none⟩ u).setCell ⟨tb,1,none⟩ v)∧((w.setCell ⟨tb,0,none⟩ u).setCell ⟨tb,1,none⟩ v).heap[tb]?=some (.cells #[u,v] 29 (0,0)):=by
 refine⟨((zf.refl (fun k=>k=tb) [29] w).set (.inl rfl) h (by simp) _).set (.inl rfl) (qj h 0 _) (by simp) _,?_⟩
 have:=qj (qj h 0 u) 1 v
 rw [this]
 match cs,hs with
 | ⟨[a,b]⟩,_=>rfl
def zge:List UInt8:=[109,111,114,101]
def zgi:List UInt8:=[108,97,115,116]
theorem zp9 (W:World)(at_:Nat→Addr)(hE:Env W)(hS:qm W at_)(hTb:zdn W)(hET:ETy W)(lv av:Value)(ls:List (List UInt8))(az:List Int)(key:List UInt8)(fault:Int)(half:Bool)(hfb:-9223372036854775808≤fault∧fault≤9223372036854775807)(hl:∀ l∈ls,l.length≤9223372036854775807)(hk:key.length≤9223372036854775807)(hal:az.length≤9223372036854775807)(hab:∀ a∈az,-9223372036854775808≤a∧a≤9223372036854775807)(hT:Tss W lv ls)(hI:Iss W av az):
  Calls Tryz.prog 3 #[lv,av,.string ⟨key.toArray⟩,.int .i64 fault,.bool half] W fun r w'=>r= .returned (.bool true)∧Below W.heap.size W w':=by
 obtain⟨la,lc,rfl,hlc,hT'⟩:=id hT
 have HT:=za hT
 have HI:=za hI
 have HEE:=za hE
 have HSN:=za hS
 have HTB:=za hTb
 have HET:=za hET
 have HL:=za hl
 have HK:=za hk
 have HAB:=za (And.intro hal hab)
 clear hT' hT hI hE hS hTb hET hl hk hal hab hlc
 by_cases h60:60 < ls.length
 ·go_enter Tryz.func3,Tryz.ntmps3
  go_wp2_with fail
  go_ret
  exact⟨by first | rfl | simp,Below.refl _ _⟩
 have HSH:=za (zzj (.slice la ls.length lc) ls W (by omega) HL.o HT.o)
 go_enter Tryz.func3,Tryz.ntmps3
 go_wp2_with fail
 refine HSH.o.mono ?_
 rintro r w2 ⟨x,rfl,hb2,hx⟩
 have HB2:=za hb2
 have HOW2:=za hx
 have HTS2:=za (zre hx)
 obtain⟨va,vc,rfl⟩:=zj1 hx
 clear hb2 hx HSH
 have hel:(ls.map zb4).length≤60:=by simp;omega
 have HPB:=za (znw W at_ HEE.o HSN.o (.slice va (ls.map zb4).length vc) av (ls.map zb4) az key w2 HB2.o (by omega) (fun l hl=>by
  obtain⟨y,-,rfl⟩:=List.mem_map.1 hl
  exact zzn y) HK.o (by have:=HAB.o.1;omega) HAB.o.2 HTS2.o (HI.o.below HB2.o))
 generalize ls.map zb4=es at *
 go_wp2_with fail
 refine HPB.o.mono ?_
 rintro r w3 ⟨db,pbl,lb,n0,d,sx,rfl,hdb,hn0,hkp⟩
 have HKP:=za hkp
 have HOW3:=za (yd HOW2.o hkp.bel)
 have hWB:W.heap.size≤w2.heap.size:=HB2.o.size
 have HSF:Hid (SF d.fs key es es.length es.length):=z5c hkp.ks.chk hkp.ks.since
 have HOP:=za (zw2 W at_ HEE.o HSN.o HET.o hkp.le hkp.bel hkp.disk hkp.ks.num hkp.ks.still HSF.o hkp.ks.ent.short (by omega) hWB HB2.o (by omega))
 clear hkp HPB HTS2 HOW2
 unfold vv
 go_wp2_with fail
 refine HOP.o.mono ?_
 rintro r w4 ⟨d4,pb4,lb4,rfl,ht4,hfs4,hst4,hkl4⟩
 have HKL4:=za hkl4
 have HOW4:=za (zo HOW3.o ht4 (by decide))
 have HSF4:Hid (SF d4.fs key es es.length es.length):=by rw [hfs4];exact HSF.o
 have HST4:=za hst4
 rw [List.take_length] at HKL4
 have HB45:Hid (∀ o,Below w4.heap.size w4 (w4.alloc o)):=fun o=>ze _ _
 have HKL5:=za (HKL4.o.below (HB45.o (.cells #[.int .i64 0,.string ⟨#[]⟩] 29)))
 have HOW5:=za (yd HOW4.o (HB45.o (.cells #[.int .i64 0,.string ⟨#[]⟩] 29)))
 have HT5:Hid ((w4.alloc (.cells #[.int .i64 0,.string ⟨#[]⟩] 29)).heap[w4.heap.size]?=some (.cells #[.int .i64 0,.string ⟨#[]⟩] 29 (0,0))):=heap_alloc_last _ _
 have HS4:Hid (w2.heap.size≤w4.heap.size):=hkl4.bel.size
 have HSZ:=za (zod (fun k=>w2.heap.size≤k) db pb4 lb4 _ (w4.alloc (.cells #[.int .i64 0,.string ⟨#[]⟩] 29)) HKL5.o.pl HKL5.o.log)
 have HLE:Hid (es.length≤60):=hel
 clear ht4 hkl4 hfs4 hst4 HOP HKP HSF HKL4 HOW3 HOW4 HB45
 go_wp2_with fail
 refine HSZ.o.mono ?_
 rintro r w5 ⟨rfl,rfl⟩
 generalize w4.alloc (.cells #[.int .i64 0,.string ⟨#[]⟩] 29)=w5 at *
 generalize w4.heap.size=tb at *
 clear HSZ
 go_wp2_with fail
 go_loopw [14] (fun i wr=>∃(k n:Nat) (s:List Nat),k≤5∧i= .int .i64 k∧n≤n0+k∧KL w2.heap.size w2 wr db pb4 lb4 n key d4 s (es++List.replicate k zge)∧wr.ownsRow W.heap.size 9 1 (.slice va es.length vc) es.length (es.map txv)∧wr.heap[tb]?=some (.cells #[.int .i64 0,.string ⟨#[]⟩] 29 (0,0))) (fun i _=>5 - (intOf i).toNat)
 case atStart=>exact⟨0,n0,sx,Nat.zero_le _,rfl,Nat.le_refl _,by simpa using HKL5.o,HOW5.o,HT5.o⟩
 case round =>
  clear HKL5 HOW5 HT5
  obtain⟨k,n,s,hk,rfl,hn,hkl,how,htt⟩:=hrel
  have HKL:=za hkl
  have HOW:=za how
  have HTT:=za htt
  clear hkl how htt
  by_cases hlt:k < 5
  ·have HAP:=za (zpb W at_ HSN.o HKL.o hWB HB2.o (by omega) zge (by decide))
   have hmo:(Value.string ⟨zge.toArray⟩)= .string ⟨#[109,111,114,101]⟩:=rfl
   rw [hmo] at HAP
   go_wp2_with fail
   refine HAP.o.mono ?_
   rintro r w6 ⟨rfl,ht6,hkl6⟩
   have HKL6:=za hkl6
   have HOW6:=za (zo HOW.o ht6 (by decide))
   have HT6:=za (ht6.keep HTT.o (by decide))
   clear ht6 hkl6 HAP
   go_wp2_with fail
   go_roundw
   case rel=>exact⟨k+1,n+1,_,by omega,by go_num,by omega,by rw [List.replicate_succ',← List.append_assoc];exact HKL6.o,HOW6.o,HT6.o⟩
   case measure=>simp [intOf];omega
  ·obtain rfl:k=5:=by omega
   have HSFF:=za (HSF4.o.more (List.replicate 5 zge))
   have HF20:=za HKL.o.short
   have hFl:(es++List.replicate 5 zge).length=es.length+5:=by simp
   have HFG:Hid (∀ i (h:i < es.length),(es++List.replicate 5 zge).getD i []=es[i]):=fun i h=>by
    rw [List.getD_eq_getElem?_getD,List.getElem?_append_left h,List.getElem?_eq_getElem h];rfl
   have HFM:Hid (∀ i,es.length≤i→i < es.length+5→(es++List.replicate 5 zge).getD i []=zge):=fun i h1 h2=>by
    rw [List.getD_eq_getElem?_getD,List.getElem?_append_right h1,List.getElem?_replicate,if_pos (by omega)];rfl
   clear HSF4
   generalize es++List.replicate 5 zge=F at *
   have HPK:=za (fun X=>zpe fault 12 X hfb.1 hfb.2 (by omega) (by omega))
   go_wp2_with fail
   refine(HPK.o _).mono ?_
   rintro r w6 ⟨⟨mm,hmm,rfl⟩,rfl⟩
   have HFA:=za (fun b=>zxc (fun k=>w2.heap.size≤k) db d4 w6 HKL.o.disk (1+(mm:Int)) half b)
   unfold vv at HFA
   go_wp2_with fail
   generalize (bits BinOp.and IntKind.i64 fault 1==1)=fb at *
   refine(HFA.o fb).mono ?_
   rintro r w7 ⟨rfl,ht7,hd7⟩
   have HKL7:=za (HKL.o.disk' ht7 hd7 rfl rfl)
   have HOW7:=za (zo HOW.o ht7 (by decide))
   have HT7:=za (ht7.keep HTT.o (by decide))
   have HNC:Hid (ve d4.fs (xj F)):=by
    have:=HSFF.o.since.more (F.drop es.length)
    rw [List.take_append_drop] at this
    exact this.noClash (by omega)
   clear ht7 hd7 HFA HPK HKL HOW HTT
   generalize hd5:({ d4 with failAt:=wrap64 (d4.calls+(1+(mm:Int))),half:=half,once:=fb,dead:=false,hit:=false }:Dk)=d5 at *
   have HSF5:Hid (SF d5.fs key F es.length es.length):=by rw [← hd5];exact HSFF.o
   have hcalm:zau d5:=by rw [← hd5];exact⟨rfl,rfl⟩
   have HNC5:Hid (ve d5.fs (xj F)):=by rw [← hd5];exact HNC.o
   have HPU:=za (zt2 W at_ HEE.o HSN.o HET.o HKL7.o hWB HB2.o (by omega) hcalm HNC5.o)
   have HSP:=za (zvj HSF5.o (by omega) hcalm HKL7.o.num.apart HKL7.o.num.turned HNC5.o)
   clear HNC HNC5 HSF5 hcalm hd5 HSFF
   generalize qt (yj F 0) (xn F.length (yb F) key) d5=P at *
   go_wp2_with fail
   refine HPU.o.mono ?_
   rintro r w8 ⟨nv,err,p8,rfl,ht8,hb8,hd8,hnum8,hcase⟩
   have hT8:=ht8.keep HT7.o (by decide)
   obtain⟨ts8,tn8⟩:=zjg hT8 rfl (.int .i64 err) (.string ⟨p8.toArray⟩)
   have HOW8:=za (zo (zo HOW7.o ht8 (by decide)) ts8 (by decide))
   have HD8:=za (hd8.stay ts8 (by decide) (by decide))
   have HBL8:Hid (Below w2.heap.size w2 ((w8.setCell ⟨tb,0,none⟩ (.int .i64 err)).setCell ⟨tb,1,none⟩ (.string ⟨p8.toArray⟩))):=hb8.trans (ts8.below (fun k hk=>by rw [hk];exact HS4.o) hb8.size)
   have HT8:=za tn8
   have HNUM8:=za hnum8
   have HCASE:=za hcase
   obtain⟨q0,z0⟩:=zg hT8 0 _ rfl
   obtain⟨q1,z1⟩:=zg hT8 1 _ rfl
   obtain⟨y0,-⟩:=zg tn8 0 _ rfl
   have HHI:=za (z5h (fun k=>w2.heap.size≤k) db P.2 _ HD8.o)
   clear ht8 hb8 hd8 hnum8 hcase hT8 ts8 tn8 HPU HKL7 HOW7 HT7
   unfold vv at HHI
   go_wp2_with fail
   refine HHI.o.mono ?_
   rintro r w9 ⟨rfl,rfl⟩
   have HME:=za (z4n (fun k=>w2.heap.size≤k) db P.2 _ HD8.o)
   unfold vv at HME
   obtain⟨n9,m9,hm9,hsf9⟩:=HSP.o
   have HSF9:=za hsf9
   have hmF:m9≤F.length:=hsf9.mF
   clear HHI HSP hsf9
   have hch:(P.2.hit==(err==0))=false:=by
    rcases HCASE.o with ⟨c1,c2⟩ | ⟨c1,c2,-⟩
    ·rw [c1,c2];rfl
    ·rw [c1,c2];rfl
   have HCN:Hid (P.2.hit=true→nv=0):=fun h=>by
    rcases HCASE.o with ⟨c1,-⟩ | ⟨-,-,c3⟩
    ·rw [c1] at h;simp at h
    ·exact c3
   clear HCASE
   generalize hhit:P.2.hit=hit at *
   have hnz:hit=true→nv=0:=HCN.o
   cases hit
   all_goals (try (obtain rfl:=hnz rfl))
   all_goals clear hnz HCN hhit
   all_goals go_wp2_with fail
   all_goals (
    refine HME.o.mono ?_
    rintro r w10 ⟨rfl,ht10,hd10⟩
    have HOW10:=za (zo HOW8.o ht10 (by decide))
    have HT10:=za (ht10.keep HT8.o (by decide))
    have HBL10:Hid (Below w2.heap.size w2 w10):=HBL8.o.trans (ht10.below (fun _ h=>h) HBL8.o.size)
    have HOP:=za (zw2 W at_ HEE.o HSN.o HET.o (n:=n+1) (Nat.le_refl _) HBL10.o hd10 (zmw HNUM8.o rfl rfl rfl) ⟨rfl,rfl,rfl⟩ HSF9.o HF20.o (by omega) hWB HB2.o (by omega))
    have HSFE:Hid (∀ d':Dk,d'.fs=P.2.fs→vw d'.fs (F.take m9++[zgi])):=fun d' e=>by rw [e];exact HSF9.o.since.more [zgi]
    clear ht10 hd10 HME HSF9 HNUM8 HBL8 HOW8 HT8 HD8 q0 z0 q1 z1 y0 hch
    go_wp2_with fail
    refine HOP.o.mono ?_
    rintro r w11 ⟨d11,pb11,lb11,rfl,ht11,hfs11,hst11,hkl11⟩
    have hT11:=ht11.keep HT10.o (by decide)
    obtain⟨ts11,tn11⟩:=zjg hT11 rfl (.int .i64 0) (.string ⟨#[]⟩)
    have HOW11:=za (zo (zo HOW10.o ht11 (by decide)) ts11 (by decide))
    have HKL11:Hid (KL w2.heap.size w2 ((w11.setCell ⟨tb,0,none⟩ (.int .i64 0)).setCell ⟨tb,1,none⟩ (.string ⟨#[]⟩)) db pb11 lb11 (n+1) key d11 s (F.take m9)):=hkl11.other ts11 HS4.o
    have HT11:=za tn11
    obtain⟨q0,z0⟩:=zg hT11 0 _ rfl
    obtain⟨q1,z1⟩:=zg hT11 1 _ rfl
    obtain⟨y0,-⟩:=zg tn11 0 _ rfl
    have hml:(F.take m9).length=m9:=by simp;omega
    have HFR11:=za (HSFE.o d11 hfs11)
    have HST11:=za hst11
    clear ht11 hfs11 hst11 hkl11 hT11 ts11 tn11 HOP HSFE HOW10 HT10 HBL10
    have HSZ:=za (zod (fun k=>w2.heap.size≤k) db pb11 lb11 _ _ HKL11.o.pl HKL11.o.log)
    simp only [hml] at HSZ
    go_wp2_with fail
    refine HSZ.o.mono ?_
    rintro r w12 ⟨rfl,rfl⟩
    go_wp2_with fail
    refine HSZ.o.mono ?_
    rintro r w12 ⟨rfl,rfl⟩
    have HAP:=za (zpb W at_ HSN.o HKL11.o hWB HB2.o (by omega) zgi (by decide))
    rw [hml] at HAP
    have hmo:(Value.string ⟨zgi.toArray⟩)= .string ⟨#[108,97,115,116]⟩:=rfl
    rw [hmo] at HAP
    clear HSZ HKL11
    generalize (w11.setCell ⟨tb,0,none⟩ (.int .i64 0)).setCell ⟨tb,1,none⟩ (.string ⟨#[]⟩)=w12 at *
    go_wp2_with fail
    refine HAP.o.mono ?_
    rintro r w13 ⟨rfl,ht13,hkl13⟩
    have hT13:=ht13.keep HT11.o (by decide)
    obtain⟨ts13,tn13⟩:=zjg hT13 rfl (.int .i64 0) (.string ⟨#[]⟩)
    have HOW13:=za (zo (zo HOW11.o ht13 (by decide)) ts13 (by decide))
    have HKL13:=za (hkl13.other ts13 HS4.o)
    have HT13:=za tn13
    obtain⟨q0',z0'⟩:=zg hT13 0 _ rfl
    obtain⟨q1',z1'⟩:=zg hT13 1 _ rfl
    have HCA:=za (z5o W at_ HEE.o HSN.o HKL13.o hWB HB2.o (by omega) HST11.o HFR11.o)
    have hgl:(F.take m9++[zgi]).length=m9+1:=by rw [List.length_append,hml];rfl
    rw [hgl] at HCA
    clear ht13 hkl13 hT13 ts13 tn13 HAP HOW11 HT11 q0 z0 q1 z1 y0
    unfold told
    go_wp2_with fail
    generalize (w13.setCell ⟨tb,0,none⟩ (.int .i64 0)).setCell ⟨tb,1,none⟩ (.string ⟨#[]⟩)=w14 at *
    refine HCA.o.mono ?_
    rintro r w15 ⟨rfl,ht15,d15,hkp15⟩
    have hT15:=ht15.keep HT13.o (by decide)
    have HOW15:=za (zo HOW13.o ht15 (by decide))
    have HFIN:Hid (∀ o,zf5 w2.heap.size w2 (w15.alloc o) db pb11 lb11 (n+1+1+1) key d15 (m9 / 4::s) (F.take m9++[zgi]) (m9+1)∧(w15.alloc o).ownsRow W.heap.size 9 1 (.slice va es.length vc) es.length (es.map txv)∧(w15.alloc o).heap[tb]?=some (.cells #[.int .i64 0,.string ⟨#[]⟩] 29 (0,0))∧(w15.alloc o).heap[w15.heap.size]?=some o):=fun o=>⟨hkp15.below (ze _ _),yd HOW15.o (ze _ _),zc hT15,heap_alloc_last _ _⟩
    have HF16:=za (HFIN.o (.cells #[.int .i64 0,.string ⟨#[]⟩] 29))
    obtain⟨y0,-⟩:=zg HF16.o.2.2.1 0 _ rfl
    obtain⟨y1,-⟩:=zg HF16.o.2.2.2 0 _ rfl
    obtain⟨fv,-,hdb',-⟩:=id HF16.o.1.disk
    obtain⟨-,-,-,-,-,-,-,⟨t7,-⟩⟩:=zd1 hdb'
    rw [HF16.o.1.ks.num.turned] at t7
    have HGG:Hid (∀ i,i < m9→(F.take m9++[zgi]).getD i []=F.getD i []):=fun i h=>by
     rw [List.getD_eq_getElem?_getD,List.getD_eq_getElem?_getD,List.getElem?_append_left (by omega),List.getElem?_take,if_pos h]
    have HGL:Hid ((F.take m9++[zgi]).getD m9 []=zgi):=by
     show _=_
     rw [List.getD_eq_getElem?_getD,List.getElem?_append_right (by omega),hml];simp
    clear ht15 hkp15 hT15 HOW15 HFIN hdb' HCA HKL13 HOW13 HT13 HST11 HFR11 q0' z0' q1' z1'
    generalize F.take m9++[zgi]=G at *
    have hci9:((m9+1:Nat):Int)=(m9:Int)+1:=by omega
    unfold told
    go_wp2_with fail
    have HNN:=za (zsz db (w15.alloc (.cells #[.int .i64 0,.string ⟨#[]⟩] 29)))
    unfold vv zt at HNN
    refine HNN.o.mono ?_
    generalize w15.alloc (.cells #[.int .i64 0,.string ⟨#[]⟩] 29)=w16 at *
    rintro r w17 ⟨rfl,hb17,hN17⟩
    have HSHn:=za (z71 HB2.o HF16.o.1 (by omega) hb17 hN17)
    have HOW17:=za (yd HF16.o.2.1 hb17)
    have HT17:Hid (w17.heap[tb]?=some (.cells #[.int .i64 0,.string ⟨#[]⟩] 29 (0,0))):=(zf.of_below (O:=fun _=>False) (T:=[]) hb17).keep HF16.o.2.2.1 (by simp)
    have HS17:Hid (W.heap.size≤w17.heap.size):=HSHn.o.base.size
    have htb17:tb < w17.heap.size:=zb HT17.o
    have HFD:=za HF16.o.1.ks.num.data
    have HCHK:=za HF16.o.1.ks.chk
    have H20:=za HF16.o.1.ks.ent.short
    clear hb17 hN17 HNN HF16 y0 y1 t7
    generalize w16.heap.size=nb at *
    have HNC:=za (z8o W (fun k=>W.heap.size≤k∧k < w17.heap.size) nb key 8 w17 HS17.o (fun _ h=>h.2))
    unfold zt txv at HNC
    go_wp2_with fail
    refine HNC.o.mono ?_
    rintro r w18 ⟨pc,rfl,hb18,hk18⟩
    have HKC:=za hk18
    have HSH18:=za (HSHn.o.below hb18)
    have HOW18:=za (yd HOW17.o hb18)
    have HT18:Hid (w18.heap[tb]?=some (.cells #[.int .i64 0,.string ⟨#[]⟩] 29 (0,0))):=(zf.of_below (O:=fun _=>False) (T:=[]) hb18).keep HT17.o (by simp)
    have HU:=za (zxi at_ HEE.o HSN.o HTB.o HKC.o HSH18.o (z88 key 8) (by omega) (by show(0:Int)+_ < _;omega) HK.o HFD.o (by simp))
    clear hb18 hk18 HNC HSHn HOW17 HT17
    unfold zt at HU
    go_wp2_with fail
    refine HU.o.mono ?_
    rintro r w19 ⟨q,o,c9,n9',x9,hq,hup,hki9,-,⟨hl9,hf9,hf9'⟩,-,-,rfl,hx9,-,-,g1,g2,g3⟩
    obtain⟨c',n',hup',hsz9,hci9'⟩:=zrw HCHK.o rfl H20.o (Nat.lt_of_le_of_lt (show G.length≤66 by omega) (by decide)) (by omega) (z8n G key 8) (Nat.zero_le _) rfl hq
    rw [hup] at hup'
    simp only [Prod.mk.injEq] at hup'
    obtain⟨rfl,rfl,rfl⟩:=hup'
    have htt:∀ ps:List (List UInt8),zh1 (za6 (Sum.inr ps:Sum Er (List (List UInt8)))).2= .agg #[.int .i64 0,.string ⟨#[]⟩]:=fun _=>rfl
    rw [htt]
    have hT19:=g1.keep HT18.o (by decide)
    obtain⟨ts19,tn19⟩:=zjg hT19 rfl (.int .i64 0) (.string ⟨#[]⟩)
    obtain⟨q0,z0⟩:=zg hT19 0 _ rfl
    obtain⟨q1,z1⟩:=zg hT19 1 _ rfl
    obtain⟨y0,-⟩:=zg tn19 0 _ rfl
    have hx9':=hx9
    obtain⟨xa9,xc9,rfl⟩:=zj1 hx9
    generalize (za6 (Sum.inr (if 0 < (⟨key,0,yb [],8,[]⟩:Cl).size∧(⟨key,0,yb [],8,[]⟩:Cl).size < m9+1 then zi3 G (⟨key,0,yb [],8,[]⟩:Cl).size (m9+1) else []):Sum Er (List (List UInt8)))).1.length=pl9 at *
    have HTS:=za ts19
    have HSH19:=za (g2.past ts19 (fun k hk=>by rw [hk];exact Nat.le_trans hWB HS4.o) (by decide) (by decide) (by decide) (by decide) (by decide))
    have HKC19:=za (g3.other ts19 (fun k hk e=>by
     rcases hk with h | h
     ·omega
     ·have:=HSH18.o.base.size
      have h18:=zb HT18.o
      omega) (by decide))
    have HOW19:=za (zo (zo HOW18.o g1 (by decide)) ts19 (by decide))
    have HK9:Hid (KI c9 1∧CI G c9 1∧c9.size=m9+1∧n9'.lies=[]):=⟨hki9,hci9',hsz9,hl9⟩
    have HTR:=za (zu5 HKC19.o)
    unfold zt txv at HTR
    rw [hsz9] at HTR
    have hT20:=tn19
    have HT20:=za hT20
    have hnf:n9'.fetches≤20000:=by have:n9'.fetches≤0+20000:=hf9';omega
    clear HU hq hup hki9 hl9 hf9 hf9' hx9 hx9' g1 g2 g3 hci9' hsz9 htt hT19 ts19 tn19 hT20 HKC HSH18 HOW18 HT18 HTS
    go_wp2_with fail
    refine HTR.o.mono ?_
    rintro r w20 ⟨rfl,ht20,hk20⟩
    have HSH20:=za (zu1 HSH19.o HKC19.o ht20)
    have HKC20:=za hk20
    have HOW20:=za (zo HOW19.o ht20 (by decide))
    obtain⟨y2,-⟩:=zg (ht20.keep HT20.o (by decide)) 0 _ rfl
    clear ht20 hk20 HTR HSH19 HKC19 HOW19 HT20 y0
    generalize (fun k=>W.heap.size≤k∧k < w17.heap.size)=O at *
    go_wp2_with fail
    go_loopw [22] (fun i wr=>∃(j:Nat) (N:Nat→Prop) (c:Cl) (n4:Nt),j≤m9+1∧i= .int .i64 j∧Sh W wr O nb db d15 n4∧KC W wr O pc nb c N∧KI c (1+j)∧CI G c (1+j)∧c.size=m9+1∧n4.lies=[]∧n4.fetches≤20000*((j:Int)+1)∧wr.ownsRow W.heap.size 9 1 (.slice va es.length vc) es.length (es.map txv)) (fun i _=>m9+1 - (intOf i).toNat)
    case atStart=>exact⟨0,_,c9,n9',Nat.zero_le _,rfl,HSH20.o,HKC20.o,HK9.o.1,HK9.o.2.1,HK9.o.2.2.1,HK9.o.2.2.2,by omega,HOW20.o⟩
    case round =>
     clear HSH20 HKC20 HOW20 HK9 y2
     obtain⟨j,N4,c4,n4,hj,rfl,hsh,hkc,hki,hci,hsz4,hly,hfe4,how⟩:=hrel
     have HSH:=za hsh
     have HKC:=za hkc
     have HKI:=za hki
     have HCI:=za hci
     have HLY:=za hly
     have HOW:=za how
     clear hsh hkc hki hci hly how
     by_cases hlt4:j < m9+1
     ·have HRD:=za (z6x at_ HEE.o HSN.o HTB.o HKC.o HSH.o HKI.o (by omega) (by omega) j (by omega))
      unfold zt txv at HRD
      have hji:(j:Int) < ((m9+1:Nat):Int):=by omega
      go_wp2_with fail
      refine HRD.o.mono ?_
      rintro r w21 ⟨o,c5,n5,nn,x5,hrd,hki5,⟨e1,e2,e3,e4⟩,⟨f1,f2,f3⟩,-,-,rfl,-,-,hx5,-,-,g1,g2,g3⟩
      obtain⟨c'',n'',hrd',hci5⟩:=zzs (i:=j) (by rw [hsz4];exact HCHK.o.all) HLY.o H20.o (Nat.lt_of_le_of_lt (show G.length≤66 by omega) (by decide)) HCI.o (by omega)
      rw [hrd] at hrd'
      simp only [Prod.mk.injEq] at hrd'
      obtain⟨rfl,rfl,rfl⟩:=hrd'
      have HOW21:=za (zo HOW.o g1 (by decide))
      have HFIN:Hid (∀ o,Sh W (w21.alloc o) O nb db d15 n5∧KC W (w21.alloc o) O pc nb c5 (Ext N4 wr w21)∧(w21.alloc o).ownsRow W.heap.size 9 1 (.slice va es.length vc) es.length (es.map txv)):=fun o=>⟨g2.below (ze _ _),g3.below (ze _ _),yd HOW21.o (ze _ _)⟩
      have HK5:Hid (KI c5 (1+(j+1))∧CI G c5 (1+(j+1))∧c5.size=m9+1∧n5.lies=[]):=⟨hki5,hci5,e2.trans hsz4,f1.trans HLY.o⟩
      have hff:n5.fetches≤20000*(((j+1:Nat):Int)+1):=by omega
      obtain⟨xa5,xc5,rfl⟩:=zj1 hx5
      have htt:∀ y:List UInt8×List (List UInt8),zh1 (zd2 (Sum.inr y:Sum Er (List UInt8×List (List UInt8)))).2.2= .agg #[.int .i64 0,.string ⟨#[]⟩]:=fun _=>rfl
      have hv1:∀ y:List UInt8×List (List UInt8),(zd2 (Sum.inr y:Sum Er (List UInt8×List (List UInt8)))).1=y.1:=fun _=>rfl
      rw [htt,hv1]
      simp only
      clear HRD hrd hki5 hci5 e1 e2 e3 e4 f1 f2 f3 g1 g2 g3 hx5 HOW21 HSH HKC HKI HCI HLY HOW htt hv1
      by_cases hA:j < es.length
      ·have hval:G.getD j []=es[j]:=by rw [HGG.o j (by omega),HFG.o j hA]
       rw [hval]
       obtain⟨-,-,hat⟩:=Tss.at (zre (HFIN.o (.cells #[.int .i64 0,.string ⟨#[]⟩] 29)).2.2)
       obtain⟨vb,vo,hva,hcl⟩:=hat (by omega)
       subst hva
       have hc:=hcl j hA
       unfold txv at hc
       have i1:(j:Int) < (es.length:Int):=by omega
       have i2:¬(es.length:Int)≤(j:Int):=by omega
       have i3:((j:Int)==(m9:Int))=false:=beq_eq_false_iff_ne.2 (by omega)
       clear hval hcl
       generalize es[j]=ek at *
       go_wp2_with fail
       go_roundw
       case rel=>exact⟨j+1,_,c5,n5,by omega,by go_num,(HFIN.o _).1,(HFIN.o _).2.1,HK5.o.1,HK5.o.2.1,HK5.o.2.2.1,HK5.o.2.2.2,hff,(HFIN.o _).2.2⟩
       case measure=>simp [intOf];omega
      ·have i1:¬(j:Int) < (es.length:Int):=by omega
       have i2:(es.length:Int)≤(j:Int):=by omega
       by_cases hB:j < m9
       ·have hval:G.getD j []=zge:=by rw [HGG.o j hB,HFM.o j (by omega) (by omega)]
        rw [hval]
        have i3:((j:Int)==(m9:Int))=false:=beq_eq_false_iff_ne.2 (by omega)
        have i4:(j:Int) < (m9:Int):=by omega
        have hmo:(Value.string ⟨zge.toArray⟩)= .string ⟨#[109,111,114,101]⟩:=rfl
        rw [hmo]
        clear hval
        go_wp2_with fail
        go_roundw
        case rel=>exact⟨j+1,_,c5,n5,by omega,by go_num,(HFIN.o _).1,(HFIN.o _).2.1,HK5.o.1,HK5.o.2.1,HK5.o.2.2.1,HK5.o.2.2.2,hff,(HFIN.o _).2.2⟩
        case measure=>simp [intOf];omega
       ·obtain rfl:j=m9:=by omega
        rw [HGL.o]
        have i4:¬(j:Int) < (j:Int):=by omega
        have hmo:(Value.string ⟨zgi.toArray⟩)= .string ⟨#[108,97,115,116]⟩:=rfl
        rw [hmo]
        go_wp2_with fail
        go_roundw
        case rel=>exact⟨j+1,_,c5,n5,by omega,by go_num,(HFIN.o _).1,(HFIN.o _).2.1,HK5.o.1,HK5.o.2.1,HK5.o.2.2.1,HK5.o.2.2.2,hff,(HFIN.o _).2.2⟩
        case measure=>simp [intOf]
     ·have hji:¬(j:Int) < ((m9+1:Nat):Int):=by omega
      go_wp2_with fail
      go_ret
      exact⟨by first | rfl | simp,HSH.o.base⟩)
end
end Go.Proofs.YtinhekmmdlhfkaaGreatDoor
