import Derived.Test.YtlcllcgngjhoaaaGreatDoorG14
import Derived.Deep.RegionHeld3
import Derived.Laws.AppendOwnNone
set_option maxHeartbeats 8000000
set_option maxRecDepth 100000
set_option linter.all false
namespace Go.Proofs.YtlcllcgngjhoaaaGreatDoor
open Go.RowKit Go.Proofs.Tryz
def zdy:=@List.eq_nil_of_length_eq_zero
theorem z93 (s:zc)(j:Nat)(h:j+1 < s.length):(⟨s.toArray⟩:ByteArray)[j+1]'(by show j+1 < s.toArray.size;simpa using h)=(s.drop 1).getD j 0:=by
 show s.toArray[j+1]=_;rw [zl,zeu,show 1+j=j+1 by omega,zt h];simp
theorem z3f (a rest:zc)(j:Nat)(h:j < 2*a.length):zij (((10::(zbn a++rest)).drop 1).getD j 0):=by
 have b:=zdc a;rw [znt,zvc,zl,qd (by omega),zt (by omega)];exact zrp a _ (yd _)
theorem zte (l:zc):∀ k,(zo9 l k).length=k
 | 0=>rfl
 | k+1=>by rw [zo9,zy,zte l k];rfl
theorem z1h (t d:zc)(ht:t.length≤1048576)(hk:d.length≤2097152)(w:World):
  Calls prog 55 #[.string ⟨t.toArray⟩,.string ⟨d.toArray⟩] w fun r w'=>Below w.heap.size w w' ∧
   ((∃ n c,zba t d n c∧r= .returned (.tuple #[.int .i64 n,.string ⟨c.toArray⟩,.bool true]))∨((∀ n c,¬ zba t d n c)∧r= .returned (.tuple #[.int .i64 0,.string ⟨#[]⟩,.bool false]))):=by
 go_enter func55,ntmps55;go_wp2_with fail;refine(z6o t zer w).mono ?_;rintro r w1 ⟨rfl,H⟩;have q:=zf H;clear H;have x:Hid (∀ n c,zba t d n c→zrg t zer=(dec n++(10::(zbn c++(10::(zny n c d++[10])))),true)):=fun n c h=>by
  rw [h.2.2,zmq,yfr]
 have T:=yfs t zer;generalize zrg t zer=bt at *;obtain⟨s,bo⟩:=bt;simp only [] at x T ⊢;cases bo with
 | false =>
  have j:Hid (∀ n c,¬ zba t d n c):=fun n c h=>by
   have:=x.o n c h;simp at this
  go_wp2_with fail
  go_ret3
  exact⟨q.o,.inr ⟨j.o,rfl⟩⟩
 | true =>
  go_wp2_with fail;refine(zyc s (by omega) w1).mono ?_;rintro r w2 ⟨rfl,I⟩;have v:Hid (Below w.heap.size w w2):=q.o.trans (I.mono q.o.size);clear I;have l:Hid (∀ n c,zba t d n c→zp7 s=(n,(10::(zbn c++(10::(zny n c d++[10])))),true)):=fun n c h=>by
   have e:=x.o n c h;simp only [ye,zl9] at e;rw [e,zwo n h.1 _ (z07 _)]
  have V:=z7x s;generalize zp7 s=ns at *;obtain⟨n,f,no⟩:=ns;simp only [] at l V ⊢;cases no with
  | false =>
   have j:Hid (∀ n c,¬ zba t d n c):=fun n c h=>by
    have:=l.o n c h;simp at this
   go_wp2_with fail
   go_ret3
   exact⟨v.o,.inr ⟨j.o,rfl⟩⟩
  | true =>
   by_cases aa:f.length < 17
   ·have X:(f.length:Int) < 17:=by omega
    have j:Hid (∀ n c,¬ zba t d n c):=fun n c h=>by
     have:=l.o n c h;simp only [ye,zl9] at this;have e:=congrArg List.length this.2;simp only [y9,zy,zdc,h.2.1] at e;omega
    go_wp2_with fail
    go_ret3
    exact⟨v.o,.inr ⟨j.o,rfl⟩⟩
   ·have X:¬(f.length:Int) < 17:=by omega
    have E:Hid (∀ m c,zba t d m c→m=n∧∃ rest,f=10::(zbn c++rest)):=fun m c h=>by
     have:=l.o m c h;simp only [ye,zl9] at this;exact⟨this.1.symm,_,this.2⟩
    go_wp2_with fail;go_loopw [10,11] (fun u i wr=>∃ k:Nat,k≤8∧i= .int .i64 (2*(k:Int)+1)∧Below w.heap.size w wr∧u= .string ⟨(zo9 (f.drop 1) k).toArray⟩) (fun _ i _=>17 - (intOf i).toNat)
    case atStart=>exact⟨0,yv _,rfl,v.o,rfl⟩
    case round =>
     obtain⟨k,ae,rfl,K,rfl⟩:=hrel;have A:=zf K;clear K
     by_cases af:k < 8
     ·have ab:∀(h:(2*(k:Int)+1).toNat < (⟨f.toArray⟩:ByteArray).size),(⟨f.toArray⟩:ByteArray)[(2*(k:Int)+1).toNat]=(f.drop 1).getD (2*k) 0:=fun h=>by
       have e:(2*(k:Int)+1).toNat=2*k+1:=by omega
       simp only [e];exact z93 f (2*k) (by omega)
      have ad:∀(h:(2*(k:Int)+1+1).toNat < (⟨f.toArray⟩:ByteArray).size),(⟨f.toArray⟩:ByteArray)[(2*(k:Int)+1+1).toNat]=(f.drop 1).getD (2*k+1) 0:=fun h=>by
       have e:(2*(k:Int)+1+1).toNat=2*k+1+1:=by omega
       simp only [e];exact z93 f (2*k+1) (by omega)
      have HP:Hid (zo9 (f.drop 1) (k+1)=zo9 (f.drop 1) k++[UInt8.ofNat (16*nv ((f.drop 1).getD (2*k) 0)+nv ((f.drop 1).getD (2*k+1) 0))]):=rfl;have Z:Hid (∀ m c,zba t d m c→zij ((f.drop 1).getD (2*k) 0)∧zij ((f.drop 1).getD (2*k+1) 0)):=fun m c h=>by
       obtain⟨_,rest,e⟩:=E.o m c h;rw [e];exact⟨z3f c rest (2*k) (by rw [h.2.1];omega),z3f c rest (2*k+1) (by rw [h.2.1];omega)⟩
      have y:=zte (f.drop 1) k;generalize (f.drop 1).getD (2*k) 0=P at *;generalize (f.drop 1).getD (2*k+1) 0=Q at *;generalize zo9 (f.drop 1) k=m at *;have g1:(2*(k:Int)+1) < (f.length:Int):=by omega
      have g2:(2*(k:Int)+1+1) < (f.length:Int):=by omega
      have g3:(2*(k:Int)+1) < 17:=by omega
      go_wp2_with fail;refine(z0f P wr).mono ?_;rintro r w3 ⟨v1,rfl,rfl,L⟩;have p:=zf L;clear L;go_wp2_with fail;refine(z0f Q w3).mono ?_;rintro r Y ⟨v2,rfl,rfl,M⟩;rcases p.o with ⟨z,B⟩ | ⟨z,B⟩
      ·rcases M with ⟨C,G⟩ | ⟨C,G⟩
       ·have y1:=yic P z;have y2:=yic Q C;generalize nv P=a at *;generalize nv Q=b at *;subst B G;have p1:¬(a:Int) < 0:=by omega
        have p2:¬(b:Int) < 0:=by omega
        have ag:IntKind.u8.wrap (16*(a:Int)+(b:Int))=16*(a:Int)+(b:Int):=by rw [zfc];omega
        have U:=zon (Y.alloc (.cells #[.int .u8 (16*(a:Int)+(b:Int))] 5)) Y.heap.size 1 1 [UInt8.ofNat (16*a+b)] 5 (0,0) rfl (by rw [zg];simp [hv,bv];omega);unfold txt at U;have bb:¬ 9223372036854775807 < m.length+1:=by omega
        have HX:=zf (And.intro z C);clear z C p;go_wp2_with fail;refine⟨⟨k+1,by omega,(by first | rfl | (congr 1;done) | (congr 1;omega)),A.o.trans ((zk Y _).mono A.o.size),?_⟩,by simp [intOf];omega⟩;rw [HP.o];congr 1;apply vd;simp
       ·have j:Hid (∀ n c,¬ zba t d n c):=fun n c h=>C (Z.o n c h).2;subst G;have y1:¬ v1 < 0:=by omega
        clear z C p B;go_wp2_with fail
        go_ret3
        exact⟨A.o,.inr ⟨j.o,rfl⟩⟩
      ·have j:Hid (∀ n c,¬ zba t d n c):=fun n c h=>z (Z.o n c h).1;subst B;clear z p M;go_wp2_with fail
       go_ret3
       exact⟨A.o,.inr ⟨j.o,rfl⟩⟩
     ·obtain rfl:k=8:=by omega
      have y:=zte (f.drop 1) 8;have O:Hid (∀ m c,zba t d m c→m=n∧zo9 (f.drop 1) 8=c):=fun m c h=>by
       obtain⟨B,rest,G⟩:=E.o m c h;refine⟨B,?_⟩;rw [G,znt,zvc,yde c rest 8 (by rw [h.2.1];exact zm _),ja (by rw [h.2.1];exact zm _)]
      generalize zo9 (f.drop 1) 8=R at *;go_wp2_with fail;refine(zua n (by omega) (by omega) R d y hk wr).mono ?_;rintro r w5 ⟨rfl,J⟩;have D:Hid (Below w.heap.size w w5):=A.o.trans (J.mono A.o.size);clear J;rw [yj];generalize hS:zbp n R d=S at *;have F:=zf hS;clear hS
      by_cases g:S=t
      ·have W:(S==t)=true:=by rw [zfu];exact g
       have N:Hid (zba t d n R):=⟨by omega,y,by rw [← g,← F.o]⟩;clear g;go_wp2_with fail
       go_ret3
       exact⟨D.o,.inl ⟨n,R,N.o,rfl⟩⟩
      ·have W:(S==t)=false:=by rw [yk];exact g
       have j:Hid (∀ n c,¬ zba t d n c):=fun m c h=>by
        obtain⟨rfl,rfl⟩:=O.o m c h;exact g (by rw [← F.o];exact h.2.2.symm)
       clear g;go_wp2_with fail
       go_ret3
       exact⟨D.o,.inr ⟨j.o,rfl⟩⟩
variable {B b k:Nat}{a w:World}{a0 a1 a2 a3 a4 a5 a6 a7 a8:Value}{t:TypeId}
theorem yh8 (a c d e f g i j k:Value)(h:w.heap[b]?=some (.cells #[a0,a1,a2,a3,a4,a5,a6,a7,a8] t (0,0))):(((((((((w.setCell ⟨b,0,none⟩ a).setCell ⟨b,1,none⟩ c).setCell ⟨b,2,none⟩ d).setCell ⟨b,3,none⟩ e).setCell ⟨b,4,none⟩ f).setCell ⟨b,5,none⟩ g).setCell ⟨b,6,none⟩ i).setCell ⟨b,7,none⟩ j).setCell ⟨b,8,none⟩ k).heap[b]?=some (.cells #[a,c,d,e,f,g,i,j,k] t (0,0)):=by
 have l:(w.setCell ⟨b,0,none⟩ a).heap[b]?=some (.cells #[a,a1,a2,a3,a4,a5,a6,a7,a8] t (0,0)):=zav h 0 a;have m:((w.setCell ⟨b,0,none⟩ a).setCell ⟨b,1,none⟩ c).heap[b]?=some (.cells #[a,c,a2,a3,a4,a5,a6,a7,a8] t (0,0)):=zav l 1 c;have n:(((w.setCell ⟨b,0,none⟩ a).setCell ⟨b,1,none⟩ c).setCell ⟨b,2,none⟩ d).heap[b]?=some (.cells #[a,c,d,a3,a4,a5,a6,a7,a8] t (0,0)):=zav m 2 d;have o:((((w.setCell ⟨b,0,none⟩ a).setCell ⟨b,1,none⟩ c).setCell ⟨b,2,none⟩ d).setCell ⟨b,3,none⟩ e).heap[b]?=some (.cells #[a,c,d,e,a4,a5,a6,a7,a8] t (0,0)):=zav n 3 e;have p:(((((w.setCell ⟨b,0,none⟩ a).setCell ⟨b,1,none⟩ c).setCell ⟨b,2,none⟩ d).setCell ⟨b,3,none⟩ e).setCell ⟨b,4,none⟩ f).heap[b]?=some (.cells #[a,c,d,e,f,a5,a6,a7,a8] t (0,0)):=zav o 4 f;have q:((((((w.setCell ⟨b,0,none⟩ a).setCell ⟨b,1,none⟩ c).setCell ⟨b,2,none⟩ d).setCell ⟨b,3,none⟩ e).setCell ⟨b,4,none⟩ f).setCell ⟨b,5,none⟩ g).heap[b]?=some (.cells #[a,c,d,e,f,g,a6,a7,a8] t (0,0)):=zav p 5 g;have r:(((((((w.setCell ⟨b,0,none⟩ a).setCell ⟨b,1,none⟩ c).setCell ⟨b,2,none⟩ d).setCell ⟨b,3,none⟩ e).setCell ⟨b,4,none⟩ f).setCell ⟨b,5,none⟩ g).setCell ⟨b,6,none⟩ i).heap[b]?=some (.cells #[a,c,d,e,f,g,i,a7,a8] t (0,0)):=zav q 6 i;have s:((((((((w.setCell ⟨b,0,none⟩ a).setCell ⟨b,1,none⟩ c).setCell ⟨b,2,none⟩ d).setCell ⟨b,3,none⟩ e).setCell ⟨b,4,none⟩ f).setCell ⟨b,5,none⟩ g).setCell ⟨b,6,none⟩ i).setCell ⟨b,7,none⟩ j).heap[b]?=some (.cells #[a,c,d,e,f,g,i,j,a8] t (0,0)):=zav r 7 j;have e8:(((((((((w.setCell ⟨b,0,none⟩ a).setCell ⟨b,1,none⟩ c).setCell ⟨b,2,none⟩ d).setCell ⟨b,3,none⟩ e).setCell ⟨b,4,none⟩ f).setCell ⟨b,5,none⟩ g).setCell ⟨b,6,none⟩ i).setCell ⟨b,7,none⟩ j).setCell ⟨b,8,none⟩ k).heap[b]?=some (.cells #[a,c,d,e,f,g,i,j,k] t (0,0)):=zav s 8 k;exact e8
theorem z7s (h:Below B a w)(c:B≤b)(d e f g i j k l m:Value):Below B a (((((((((w.setCell ⟨b,0,none⟩ d).setCell ⟨b,1,none⟩ e).setCell ⟨b,2,none⟩ f).setCell ⟨b,3,none⟩ g).setCell ⟨b,4,none⟩ i).setCell ⟨b,5,none⟩ j).setCell ⟨b,6,none⟩ k).setCell ⟨b,7,none⟩ l).setCell ⟨b,8,none⟩ m) :=
 h|>.setCell (p:=⟨b,0,none⟩) c d|>.setCell (p:=⟨b,1,none⟩) c e|>.setCell (p:=⟨b,2,none⟩) c f|>.setCell (p:=⟨b,3,none⟩) c g|>.setCell (p:=⟨b,4,none⟩) c i|>.setCell (p:=⟨b,5,none⟩) c j|>.setCell (p:=⟨b,6,none⟩) c k|>.setCell (p:=⟨b,7,none⟩) c l|>.setCell (p:=⟨b,8,none⟩) c m
theorem z7t (a c d e f g i j l:Value)(h:k≠b):(((((((((w.setCell ⟨b,0,none⟩ a).setCell ⟨b,1,none⟩ c).setCell ⟨b,2,none⟩ d).setCell ⟨b,3,none⟩ e).setCell ⟨b,4,none⟩ f).setCell ⟨b,5,none⟩ g).setCell ⟨b,6,none⟩ i).setCell ⟨b,7,none⟩ j).setCell ⟨b,8,none⟩ l).heap[k]?=w.heap[k]?:=by
 repeat rw [yh _ _ _ _ h]
theorem ycx (O OL:Nat→Prop)(db c:Nat)(d:Dk)(l:Lg)(w:World)(E:Env w)(hn:d.fs.length≤1000000000)(he:l.es.length≤1000000)(ap:∀ e∈l.es,e.length≤20)(hk:l.key.length≤9223372036854775807)(ag:l.live=true)(h:yw w O db d)(hL:za9 w OL db c l):
  Calls prog 141 #[.pointer (some ⟨c,0,none⟩)] w fun r g=>∃ e,r= .returned e∧zil (bad d) cpF w.heap.size e g∧zq O dT w g∧yw g (jz O w g) db (zj4 d cpF (zbp l.es.length (qm l.es) l.key)):=by
 have ar:∀(fn:Fn) (first i:Array Value) (w:World),(Instr.makeFunc fn first i).run prog w= .ok (.func fn first i) w:=fun _ _ _ _=>rfl;have eg:∀ X w,(callFunc 191 X).run prog w= .ok (.enter 191 X) w:=zrk func191 (by kernel_rfl) rfl;obtain⟨ev,hO,hb,af,hg⟩:=hL;obtain⟨⟨c0,f0⟩,⟨c1,f1⟩,⟨c2,f2⟩,-⟩:=zwa hb;rw [ag] at c0;have au:=zf c0;have U:=zi hb;have HD:=zf h;have HE:=zf E;have HS:=zf af;obtain⟨a,i,ay⟩:∃ a i,ev= .slice a l.es.length i:=by
  obtain⟨a,i,e,-⟩:=af.bss';exact⟨a,i,e⟩
 subst ay;clear h hb af hg E;go_enter func141,ntmps141;go_wp2_with fail;obtain⟨H,I,J,K,L,M,N,P,hR⟩:=hv8 (zaf l.es.length l.es) (zbv _ _);have aq:hv (zaf l.es.length l.es)=#[.int .u8 H.toNat,.int .u8 I.toNat,.int .u8 J.toNat,.int .u8 K.toNat,.int .u8 L.toNat,.int .u8 M.toNat,.int .u8 N.toNat,.int .u8 P.toNat]:=by rw [hR];rfl
 have HR:=zf hR;have am:=zf aq;have ai:=zf ap;have aj:Hid (∀ g,Below w.heap.size w g→Bss g (.slice a l.es.length i) l.es):=fun g hb=>HS.o.bss'.below hb;have z:Hid (Below w.heap.size w (w.alloc (.cells #[.pointer (some ⟨c,0,none⟩)] 133)).drew):=(zk _ _).drew;have Q:Hid (∀ o,Below w.heap.size w ((w.alloc (.cells #[.pointer (some ⟨c,0,none⟩)] 133)).alloc o).drew):=fun o=>((zk w _).alloc (by simp) o).drew;have ak:Hid (∀ W g,Below w.heap.size w W→Below W.heap.size W g→g.cell? ⟨c,2,none⟩=some (.slice a l.es.length i)):=fun W g h1 h2=>by rw [h2.cell (p:=⟨c,2,none⟩) (zx U h1.size),h1.cell (p:=⟨c,2,none⟩) U];exact c2
 have av:Hid (∀ g,Below (w.alloc (.cells #[.pointer (some ⟨c,0,none⟩)] 133)).drew.heap.size (w.alloc (.cells #[.pointer (some ⟨c,0,none⟩)] 133)).drew g→g.heap[w.heap.size]?=some (.cells #[.pointer (some ⟨c,0,none⟩)] 133 (0,0))):=fun g h=>by rw [h.block _ (by show w.heap.size < (w.heap.push _).size;simp)];exact zg w _
 have aw:Hid (∀ o g,Below ((w.alloc (.cells #[.pointer (some ⟨c,0,none⟩)] 133)).alloc o).drew.heap.size ((w.alloc (.cells #[.pointer (some ⟨c,0,none⟩)] 133)).alloc o).drew g→g.heap[w.heap.size]?=some (.cells #[.pointer (some ⟨c,0,none⟩)] 133 (0,0))):=fun o g h=>by rw [h.block _ (by show w.heap.size < ((w.heap.push _).push _).size;simp;omega)];exact zj (zg w _)
 clear hR aq ap;go_cut [3] from 5 to 15 (fun s3 wx=>∃ B,s3= .pointer (some ⟨B,0,none⟩)∧wx.heap[B]?=some (.cells (tv l.es.length H I J K L M N P) 112 (0,0))∧Below w.heap.size w wx∧wx.heap[w.heap.size]?=some (.cells #[.pointer (some ⟨c,0,none⟩)] 133 (0,0)))
 case first =>
  clear ar eg c0 f0 c1 f1 f2 hn hk ag hO HD HE;have aI:¬ c=w.heap.size+1:=by omega
  have aJ:¬ w.heap.size+1=c:=by omega
  go_region_held3 (fun W=>W.cell? ⟨w.heap.size,0,none⟩=some (.pointer (some ⟨c,0,none⟩))∧W.cell? ⟨c,2,none⟩=some (.slice a l.es.length i)) (go_keep) (first
   | (go_at_call 75;refine(zsb l.es.length _ l.es (w.alloc (.cells #[.pointer (some ⟨c,0,none⟩)] 133)).drew (zm _) he (by intro e q;have:=ai.o e q;unfold maxLen;omega) (by exact aj.o _ z.o)).mono ?_;rintro r Y ⟨rfl,j⟩;rw [am.o];have u:=zf j;have m2:=ak.o _ _ z.o j;have k:=av.o _ j;have V:=(zw k 0 _ rfl).1;have aG:∀ o,(Y.alloc o).cell? ⟨c,2,none⟩=some (.slice a l.es.length i):=(fun o=>by rw [yp _ _ ⟨_,2,none⟩ (yg m2)];exact m2);have aF:∀ o,(Y.alloc o).cell? ⟨w.heap.size,0,none⟩=some (.pointer (some ⟨c,0,none⟩)):=(fun o=>by rw [yp _ _ ⟨_,0,none⟩ (yg V)];exact V);have ad:=zf k;clear j k)
   | (go_at_call 75;refine(zsb l.es.length _ l.es ((w.alloc (.cells #[.pointer (some ⟨c,0,none⟩)] 133)).alloc (.cells #[.int .i64 0,.int .u8 0,.int .u8 0,.int .u8 0,.int .u8 0,.int .u8 0,.int .u8 0,.int .u8 0,.int .u8 0] 112)).drew (zm _) he (by intro e q;have:=ai.o e q;unfold maxLen;omega) (by exact aj.o _ (Q.o _))).mono ?_;rintro r Y ⟨rfl,j⟩;rw [am.o];have u:=zf j;have s:=ynj w _ _ j;obtain⟨n0,n1,n2,n3,n4,n5,n6,n7,n8⟩:=zvn s;have nz:=yaf s;have aa:=zf s;have m2:=ak.o _ _ (Q.o _) j;have k:=aw.o _ _ j;have V:=(zw k 0 _ rfl).1;have aG:∀ o,(Y.alloc o).cell? ⟨c,2,none⟩=some (.slice a l.es.length i):=(fun o=>by rw [yp _ _ ⟨_,2,none⟩ (yg m2)];exact m2);have aF:∀ o,(Y.alloc o).cell? ⟨w.heap.size,0,none⟩=some (.pointer (some ⟨c,0,none⟩)):=(fun o=>by rw [yp _ _ ⟨_,0,none⟩ (yg V)];exact V);have ad:=zf k;clear j s k))
  ·go_wp2_with fail;go_meet;refine⟨Y.heap.size,rfl,zg _ _,?_,zj ad.o⟩;exact((z.o.trans (u.o.mono z.o.size)).alloc (zu z.o.size u.o.size) _)
  ·go_wp2_with fail;go_meet;have f:Below w.heap.size w Y:=(Q.o _).trans (u.o.mono (Q.o _).size);have az:w.heap.size≠w.heap.size+1:=by omega
   have e8:=yh8 (.int .i64 (l.es.length:Int)) (.int .u8 (H.toNat:Int)) (.int .u8 (I.toNat:Int)) (.int .u8 (J.toNat:Int)) (.int .u8 (K.toNat:Int)) (.int .u8 (L.toNat:Int)) (.int .u8 (M.toNat:Int)) (.int .u8 (N.toNat:Int)) (.int .u8 (P.toNat:Int)) aa.o;have e9:=z7s f (show w.heap.size≤w.heap.size+1 by omega) (.int .i64 (l.es.length:Int)) (.int .u8 (H.toNat:Int)) (.int .u8 (I.toNat:Int)) (.int .u8 (J.toNat:Int)) (.int .u8 (K.toNat:Int)) (.int .u8 (L.toNat:Int)) (.int .u8 (M.toNat:Int)) (.int .u8 (N.toNat:Int)) (.int .u8 (P.toNat:Int));have ao:=z7t (w:=Y) (b:=w.heap.size+1) (.int .i64 (l.es.length:Int)) (.int .u8 (H.toNat:Int)) (.int .u8 (I.toNat:Int)) (.int .u8 (J.toNat:Int)) (.int .u8 (K.toNat:Int)) (.int .u8 (L.toNat:Int)) (.int .u8 (M.toNat:Int)) (.int .u8 (N.toNat:Int)) (.int .u8 (P.toNat:Int)) az;rw [ad.o] at ao;exact⟨w.heap.size+1,rfl,e8,e9,ao⟩
 case rest =>
  obtain⟨B,rfl,hB,f,y⟩:=hcut;have m:=zf f;have A:=zf y;have u:=zf hB;have V:=(zw y 0 _ rfl).1;have m1:wc.cell? ⟨c,1,none⟩=some (.string ⟨l.key.toArray⟩):=by rw [f.cell (p:=⟨c,1,none⟩) U];exact c1
  obtain⟨n0,n1,n2,n3,n4,n5,n6,n7,n8⟩:=zvn hB;have Z:=zf (HE.o.below f);have ae:=zi hB;clear f y hB c0 c1 c2 f0 f1 f2;have R:Hid (∀ o,Below wc.heap.size wc (wc.alloc o).drew):=fun o=>(zk _ _).drew;have k:¬ w.heap.size=wc.heap.size:=by have:=yg V;simp only at this;omega
  have aA:¬ c=wc.heap.size:=by have:=yg m1;simp only at this;omega
  have aB:¬ B=wc.heap.size:=by omega
  have aC:¬ wc.heap.size=w.heap.size:=by omega
  have aD:¬ wc.heap.size=c:=by omega
  have aE:¬ wc.heap.size=B:=by omega
  have ab:Hid (∀ W',Below wc.heap.size wc W'→((fun W=>W.cell? ⟨w.heap.size,0,none⟩=some (.pointer (some ⟨c,0,none⟩))∧W.cell? ⟨c,1,none⟩=some (.string ⟨l.key.toArray⟩)∧W.cell? ⟨B,0,none⟩=some (.int .i64 (l.es.length:Int))∧W.cell? ⟨B,1,none⟩=some (.int .u8 (H.toNat:Int))∧W.cell? ⟨B,2,none⟩=some (.int .u8 (I.toNat:Int))∧W.cell? ⟨B,3,none⟩=some (.int .u8 (J.toNat:Int))∧W.cell? ⟨B,4,none⟩=some (.int .u8 (K.toNat:Int))∧W.cell? ⟨B,5,none⟩=some (.int .u8 (L.toNat:Int))∧W.cell? ⟨B,6,none⟩=some (.int .u8 (M.toNat:Int))∧W.cell? ⟨B,7,none⟩=some (.int .u8 (N.toNat:Int))∧W.cell? ⟨B,8,none⟩=some (.int .u8 (P.toNat:Int)))) W'):=fun W' hb=>by
   have C:∀ {p:Addr} {v:Value},wc.cell? p=some v→W'.cell? p=some v:=fun {p v} h=>by rw [hb.cell (yg h)];exact h
   exact⟨C V,C m1,C n0,C n1,C n2,C n3,C n4,C n5,C n6,C n7,C n8⟩
  have S:Hid (Below wc.heap.size wc wc.drew):=(yf _ _).drew;have an:Hid (zbp (l.es.length:Int).toNat [H,I,J,K,L,M,N,P] l.key=zbp l.es.length (qm l.es) l.key):=by show _=_;unfold qm;rw [HR.o,yj]
  go_wp2_with fail;go_cut [4] from 16 to 21 (fun s4 wx=>∃ B4,s4= .pointer (some ⟨B4,0,none⟩)∧wx.heap[B4]?=some (.cells #[qo (zbp l.es.length (qm l.es) l.key)] 9 (0,0))∧Below w.heap.size w wx∧wx.heap[w.heap.size]?=some (.cells #[.pointer (some ⟨c,0,none⟩)] 133 (0,0)))
  case first =>
   clear ar eg hn ag HD
   go_region_held3 (fun W=>W.cell? ⟨w.heap.size,0,none⟩=some (.pointer (some ⟨c,0,none⟩))∧W.cell? ⟨c,1,none⟩=some (.string ⟨l.key.toArray⟩)∧W.cell? ⟨B,0,none⟩=some (.int .i64 (l.es.length:Int))∧W.cell? ⟨B,1,none⟩=some (.int .u8 (H.toNat:Int))∧W.cell? ⟨B,2,none⟩=some (.int .u8 (I.toNat:Int))∧W.cell? ⟨B,3,none⟩=some (.int .u8 (J.toNat:Int))∧W.cell? ⟨B,4,none⟩=some (.int .u8 (K.toNat:Int))∧W.cell? ⟨B,5,none⟩=some (.int .u8 (L.toNat:Int))∧W.cell? ⟨B,6,none⟩=some (.int .u8 (M.toNat:Int))∧W.cell? ⟨B,7,none⟩=some (.int .u8 (N.toNat:Int))∧W.cell? ⟨B,8,none⟩=some (.int .u8 (P.toNat:Int))) (go_keep) (first
    | (go_at_call 116;refine(zxm (l.es.length:Int) (by omega) (by omega) H I J K L M N P l.key hk wc.drew (by exact Z.o.below S.out)).mono ?_;rintro r w2 ⟨rfl,x⟩;have n:Below wc.heap.size wc w2:=(S.out).trans (x.mono (S.out).size);obtain⟨q0,q1,q2,q3,q4,q5,q6,q7,q8,q9,aH⟩:=ab.o w2 n;have t:=zf n;clear x n)
    | (go_at_call 116;refine(zxm (l.es.length:Int) (by omega) (by omega) H I J K L M N P l.key hk (wc.alloc (.cells #[.string ⟨#[]⟩] 9)).drew (by exact Z.o.below (R.out _))).mono ?_;rintro r w2 ⟨rfl,x⟩;have n:Below wc.heap.size wc w2:=((R.out _)).trans (x.mono ((R.out _)).size);obtain⟨q0,q1,q2,q3,q4,q5,q6,q7,q8,q9,aH⟩:=ab.o w2 n;have t:=zf n;have ah:w2.heap[wc.heap.size]?=some (.cells #[.string ⟨#[]⟩] 9 (0,0)):=(by rw [x.block _ (by show wc.heap.size < (wc.heap.push _).size;simp)];exact zg wc _);obtain⟨x0,x1⟩:=zw ah 0 _ rfl;have aa:=zf ah;clear ah;clear x n))
   ·go_wp2_with fail;go_meet;have F:=an.o;rw [yj] at F;rw [F];exact⟨w2.heap.size,rfl,zg _ _,(m.o.trans (t.o.mono m.o.size)).alloc (zu m.o.size t.o.size) _,zj (by rw [t.o.block _ (zi A.o)];exact A.o)⟩
   ·go_wp2_with fail;go_meet;have F:=an.o;rw [yj] at F;rw [F];refine⟨wc.heap.size,rfl,zav aa.o 0 _,(m.o.trans (t.o.mono m.o.size)).setCell (by show w.heap.size≤wc.heap.size;exact m.o.size) _,?_⟩;rw [yh _ _ _ _ k,t.o.block _ (zi A.o)];exact A.o
  case rest =>
   clear k aA aB aC aD aE V m1 n0 n1 n2 n3 n4 n5 n6 n7 n8 ae ab R S Z m A u;obtain⟨B4,rfl,h4,f,y⟩:=hcut;go_wp2_with fail;have G:wc.cell? ⟨c,0,none⟩=some (stV db true):=by rw [f.cell (p:=⟨c,0,none⟩) U];exact au.o
   have D:=yeq O db c w.heap.size B4 d (zbp l.es.length (qm l.es) l.key) (wc.alloc (.cells #[.nilIface] 102)) hn
    (HD.o.stay (O1:=fun _=>False) (T:=[]) ((zq.of_below f).alloc _) (by simp) (by simp))
    (zw (zj y) 0 _ rfl).1 (zw (zj h4) 0 _ rfl).1 (by rw [yp _ _ ⟨_,0,none⟩ (yg G)];exact G)
   have H0:Hid ((wc.alloc (.cells #[.nilIface] 102)).heap[wc.heap.size]?=some (.cells #[.nilIface] 102 (0,0))):=zg _ _;have ae:Hid (Below w.heap.size w (wc.alloc (.cells #[.nilIface] 102))):=f.alloc f.size _;refine(z0n cpF 191 _ wc (fun e g=>zio (bad d) (wc.alloc (.cells #[.nilIface] 102)).heap.size e g∧zq O dT (wc.alloc (.cells #[.nilIface] 102)) g∧yw g (jz O (wc.alloc (.cells #[.nilIface] 102)) g) db (zj4 d cpF (zbp l.es.length (qm l.es) l.key))) eg D ?_).mono ?_
   ·rintro e g ⟨ho,ht,-⟩;exact⟨ztc ho,ht.keep H0.o (by decide)⟩
   have ax:w.heap.size≤wc.heap.size:=f.size;clear D h4 f y G;generalize wc.alloc (.cells #[.nilIface] 102)=W4 at *;rintro r w5 ⟨e,g,⟨ho,ht,hd⟩,h⟩;have al:=zf (z92 ae.out ax H0.o ho ht hd h);clear ho ht hd h;obtain⟨e',q⟩:=al.o;obtain rfl:=q.1;have HX:=zf q.2;clear q al;go_wp2_with fail;go_ret;exact⟨_,rfl,HX.o⟩
theorem zj8:(prog.info? 364).map (·.comparable)=some true:=by kernel_rfl
theorem zkf:(prog.info? 366).map (·.size)=some 1:=by kernel_rfl
theorem zbl {a b:Addr}(h:a≠b)(e:∃ c t,w.heap[a.block]?=some (.cells c t (0,0)))(f:∃ c t,w.heap[b.block]?=some (.cells c t (0,0))):
  (binOp .eql 102 (.iface 364 (.pointer (some a))) (.iface 364 (.pointer (some b)))).run prog w= .ok (.bool false) w:=by
 obtain⟨i,k,d⟩:=zz.1 zj8;obtain⟨j,l,g⟩:=zz.1 zkf;obtain⟨m,o,e⟩:=e;obtain⟨n,tb,f⟩:=f;exact run_eql_iface_ptr_other w underlying102 underlying364 k d l (by rw [g];decide) h e f
structure zbz (w:World)(at_:Nat→Addr):Prop where
 entry:w.cell? ⟨1,0,none⟩=some (.iface 364 (.pointer (some (at_ 0))))
 range:w.cell? ⟨2,0,none⟩=some (.iface 364 (.pointer (some (at_ 1))))
 check:w.cell? ⟨0,0,none⟩=some (.iface 364 (.pointer (some (at_ 2))))
 old:w.cell? ⟨3,0,none⟩=some (.iface 364 (.pointer (some (at_ 3))))
 proof:w.cell? ⟨4,0,none⟩=some (.iface 364 (.pointer (some (at_ 4))))
 tile:w.cell? ⟨6,0,none⟩=some (.iface 364 (.pointer (some (at_ 5))))
 failed:w.cell? ⟨5,0,none⟩=some (.iface 364 (.pointer (some (at_ 6))))
 apart:∀ i j,i < 7→j < 7→i≠j→at_ i≠at_ j
 block:∀ i,i < 7→∃ c t,w.heap[(at_ i).block]?=some (.cells c t (0,0))
theorem zzp (a:zc)(i:Nat)(h:i < a.length)(w:World):(part 5 (hv a) (i*prog.cellsOf 5)).run prog w= .ok (bv a[i]) w:=by
 have b:prog.cellsOf 5=1:=by kernel_rfl
 rw [b,zfj];exact run_part_plain w (by kernel_rfl) (by simp [hv,h])
theorem yk0 (d:Nat)(x y:UInt8)(w:World):(Op.equalIn (d+1) 5 (bv x) (bv y)).run prog w= .ok (decide (x=y)) w:=by
 have e:((x.toNat:Int)==(y.toNat:Int))=decide (x=y):=by
  rw [zfb,zfu,vj];constructor
  ·intro h;exact UInt8.toNat_inj.1 (by omega)
  ·rintro rfl;rfl
 rw [← e];unfold bv;simp [Op.equalIn,zcu jt]
theorem zqi (d:Nat)(a b:zc)(w:World):∀ l:List Nat,(∀ i∈l,i < a.length∧i < b.length) →
  (Op.eqItems (d+1) 5 (prog.cellsOf 5) (hv a) (hv b) l).run prog w= .ok (l.all fun i=>decide (a[i]?=b[i]?)) w
 | [],_=>by simp [Op.eqItems]
 | i::l,h=>by
  obtain⟨c,f⟩:=h i (by simp);have k:=zqi d a b w l (fun j g=>h j (by simp [g]));simp only [Op.eqItems,Sem.run_bind,zzp a i c,zzp b i f,yk0,zqf];have e:decide (a[i]?=b[i]?)=decide (a[i]=b[i]):=by
   rw [zt c,zt f];simp
  rw [List.all_cons,e];cases m:decide (a[i]=b[i])
  ·simp
  ·simp [k]
theorem ymz (a b:zc)(d:a.length=8)(e:b.length=8):((List.range 8).all fun i=>decide (a[i]?=b[i]?))=decide (a=b):=by
 rw [zfb];simp only [zcd,zew,vj];constructor
 ·intro h;apply List.ext_getElem?;intro i
  by_cases c:i < 8
  ·exact h i c
  ·rw [zaz (by omega),zaz (by omega)]
 ·rintro rfl i _;rfl
def eqH (a b:zc):Bool:=decide (a=b)
theorem zoo (a b:zc)(e:a.length=8)(f:b.length=8)(w:World):
  (binOp .eql 110 (.agg (hv a)) (.agg (hv b))).run prog w= .ok (.bool (eqH a b)) w:=by
 unfold eqH;have h:∃ i,prog.info? 5=some i:=by
  have:(prog.info? 5).map (·.size)=some 1:=by kernel_rfl
  obtain⟨i,c,_⟩:=zz.1 this;exact⟨i,c⟩
 obtain⟨i,c⟩:=h;simp only [binOp];have d:=run_equalIn_array (P:=prog) w 9999 (hv a) (hv b) underlying110 c;rw [zqi 9998 a b w _ (fun j g=>by simp at g;omega),ymz a b e f] at d;simp [Op.equal,Op.maxDepth,d]
variable {O:Nat→Prop}{db lb:Nat}{w':World}
def zd2 (a:Nat→Addr)(i:Nat):Value:= .iface 364 (.pointer (some (a i)))
theorem lok {l:Lg}(h:za9 w O db lb l):∃ a b,(w.heap[lb]?=some (.cells (zk3 db (.slice a l.es.length b) l) 196 (0,0)))∧OBs w 0 (.slice a l.es.length b) l.es∧(∀ g,(Value.slice a l.es.length b).ownBlock=some g→O g)∧O lb:=by
 obtain⟨i,d,e,c,f⟩:=h;obtain⟨a,b,rfl⟩:=zs9 c;exact⟨a,b,e,c,f,d⟩
theorem zdt {b:Nat→Addr}(h:zbz w b)(d:Below w.heap.size w w'):zbz w' b:=by
 have c:∀ {a:Addr} {v:Value},w.cell? a=some v→w'.cell? a=some v:=fun {a v} e=>by rw [d.cell (p:=a) (yg e)];exact e
 refine⟨c h.entry,c h.range,c h.check,c h.old,c h.proof,c h.tile,c h.failed,h.apart,fun i g=>?_⟩;obtain⟨f,t,e⟩:=h.block i g;refine⟨f,t,?_⟩;rw [d.block _ (zi e)];exact e
theorem z35 (a b:zc)(c:a.length=8)(d:b.length=8)(w:World):
  (binOp .neq 110 (.agg (hv a)) (.agg (hv b))).run prog w= .ok (.bool !eqH a b) w:=by
 have h:=zoo a b c d w;simp only [binOp] at h ⊢;cases e:(Op.equal 110 (.agg (hv a)) (.agg (hv b))).run prog w with
 | ok x f =>
  simp [e] at h ⊢;exact⟨by rw [← h.1],h.2⟩
 | halt x f=>simp [e] at h
variable {e:TypeId}{ls:za}{s:Nat}{v:Value}{xs:List Value}
theorem zha (h:w.ownsRow B 9 1 v ls.length (ls.map qo)):Tss w v ls:=by
 rcases h.2 with ⟨rfl,h0⟩ | ⟨g,b,c,rfl,-,d,a,-,j,k⟩
 ·exact⟨none,0,by rw [h0],by omega,.inl (zdy h0)⟩
 ·refine⟨_,b,rfl,a,.inr ⟨g,0,rfl,fun i f=>?_⟩⟩;rw [xk,yq _ _ _ _ _ _ d];have e:(ls.map qo)[i]?=some (qo ls[i]):=by simp [f]
  rw [← k,qj,if_pos (by omega)] at e;simpa using e
theorem qr {n:Nat}(h:w.ownsRow B e s v n xs):∃ a b,v= .slice a n b:=by
 rcases h.2 with ⟨rfl,rfl⟩ | ⟨g,b,c,rfl,-⟩
 ·exact⟨_,_,rfl⟩
 ·exact⟨_,_,rfl⟩
theorem zg7 (v:Value)(a:za)(w:World)(d:a.length≤1000000)(c:∀ l∈a,l.length≤20)(h:Tss w v a):
  Calls prog 20 #[v] w fun r f=>r= .returned (.string ⟨(qm a).toArray⟩)∧Below w.heap.size w f:=by
 have:=zpb a.length v (a.map tb) w (by simp) (by simpa using d) (fun s e=>by
  obtain⟨l,b,rfl⟩:=yl.1 e;have:=c l b;show l.toArray.size < _;unfold maxLen;simp;omega) h.to
 rw [zom] at this;exact this
theorem yd9 (a:za):(qm a).length=8:=zbv _ _
theorem ybc (w:World){ops:Array Oper}{rest:List Oper}{o:Oper}{a:Act}{Q:Exit→Act→World→Prop}
 (p:o.guard=none) (s x:Operand) (r:o.op=Op.call { callee:=Callee.builtin Builtin.append,args:=#[s,x],argTypes:=#[22,22] })
 (B:Nat) (T:B≤w.heap.size) (v:Value) (m:za) (R:a.eval s=v) (c:w.ownsRow B 9 1 v m.length (m.map qo))
 (y:Value) (d:za) (J:a.eval x=y) (X:Tss w y d) (Z:m.length+d.length≤1000000000)
 (h:∀ F C,C.ownsRow B 9 1 F (m++d).length ((m++d).map qo)→w.grownBy C v.ownBlock→wpList prog ops Q rest (a.put o.dst F) C):wpList prog ops Q (o::rest) a w:=by
 obtain⟨i,G,H⟩:=zz.1 zps;obtain⟨L,M,N⟩:i.zero=some (.string ⟨#[]⟩)∧i.size=1∧i.bytes=16:=by simpa using H
 obtain⟨D,n,rfl,P,E⟩:=X;cases D with
 | none =>
  have h0:d=[]:=by
   rcases E with h | ⟨b,A,e,-⟩
   ·exact h
   ·simp at e
  subst h0;have z:(Builtin.append_ #[22,22] o.type #[v,.slice none 0 n]).run prog w= .ok v w:=by
   rcases c.2 with ⟨rfl,h0⟩ | ⟨g,O,S,rfl,-,Y,f,-,V,ht⟩
   ·simp [Builtin.append_,zcu underlying22,sizeOf,typeInfo,G,Builtin.lenOf,Builtin.firstCells]
   ·simp [Builtin.append_,zcu underlying22,sizeOf,typeInfo,G,Builtin.lenOf,Builtin.firstCells,storeCells,f]
  refine wpList_plain p fun K U=>?_;unfold Oper.wp;simp only [jc] at J;simp [execOp,r,resolve,invoke,builtin,R,J,z,Result.andThen];exact U _ _ (h v w (by simpa using c) ⟨rfl,rfl,rfl,zm _,fun _ _ _=>rfl⟩)
 | some D =>
  refine zqo _ p s x 22 r B 9 i (.string ⟨#[]⟩) 1 16 underlying22 G L M N rfl (by omega) v m.length (m.map qo) R c D d.length n (d.map qo) J (by simp) ?_ ?_ (by unfold maxLen;omega) (by omega) T ?_
  ·intro j u I;rcases E with h | ⟨b,A,e,E⟩
   ·subst h;simp at I
   ·have q:j < d.length:=by simpa using (xy.1 I).1
    obtain rfl:D=⟨b,A,none⟩:=by simpa using e
    rw [zcc,E j q];simpa [q] using I
  ·intro u W;obtain⟨t,_,rfl⟩:=yl.1 W
   rfl
  ·intro F C l k _;refine h F C ?_ k;rw [zy,yy];exact l
end Go.Proofs.YtlcllcgngjhoaaaGreatDoor
