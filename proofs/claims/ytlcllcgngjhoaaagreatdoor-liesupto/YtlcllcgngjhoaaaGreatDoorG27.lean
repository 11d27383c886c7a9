import Derived.Test.YtlcllcgngjhoaaaGreatDoorG26
import Derived.Shelf.Spec.TrailingZeros
set_option maxHeartbeats 8000000
set_option maxRecDepth 100000
set_option linter.all false
namespace Go.Proofs.YtlcllcgngjhoaaaGreatDoor
open Go.RowKit Go.Proofs.Tryz
def zqr:=@Nat.lt_irrefl
theorem ybf (l:Int)(d:-1≤l)(e:l≤100)(w:World):
  Calls prog 188 #[.int .i64 l] w fun r c=>r= .returned (.int .i64 ((2*l.toNat:Nat):Int))∧c=w:=by
 by_cases a:l=-1
 ·subst a;go_enter func188,ntmps188;go_wp2_with fail;go_ret;exact⟨rfl,rfl⟩
 ·obtain⟨k,rfl⟩:=qv (show 0≤l by omega);have b:max (k:Int) 0=(k:Int):=by omega
  go_enter func188,ntmps188;go_wp2_with fail;go_ret;exact⟨congrArg (fun x=>Ending.returned (.int .i64 x)) (by simp),rfl⟩
theorem zj9 (l:Int)(f:-1≤l)(g:l≤100)(n:Nat)(m:n < 9223372036854775808)(w:World):
  Calls prog 139 #[.int .i64 l,.int .i64 n] w fun r k=>r= .returned (.int .i64 ((qg l n:Nat):Int))∧k=w:=by
 go_enter func139,ntmps139;go_wp2_with fail;refine(ybf l f g w).mono ?_;rintro r p ⟨rfl,rfl⟩;have c:=zf (znb l);generalize i:2*l.toNat=b at *;have a:b≤200:=by omega
 clear i;go_wp2_with fail;go_ret;refine⟨congrArg (fun x=>Ending.returned (.int .i64 x)) ?_,rfl⟩;have j:(n:Int) / 2 ^ min b 64=(n:Int) / 2 ^ b:=by
  rcases Nat.le_total b 64 with h | h
  ·rw [zjv h]
  ·rw [Nat.min_eq_right h];have d:n / 2 ^ 64=0:=zet (by omega);have e:n / 2 ^ b=0:=zet (zx (show n < 2 ^ 64 by omega) (js (by omega) h));have f1:(n:Int) / 2 ^ 64=((n / 2 ^ 64:Nat):Int):=by simp
   have f2:(n:Int) / 2 ^ b=((n / 2 ^ b:Nat):Int):=by simp
   rw [f1,f2,d,e]
 refine j.trans ?_;show((n:Int) / 2 ^ b)=((qg l n:Nat):Int);unfold qg;rw [← c.o];simp
theorem ye0 (x k a:Nat)(w:World)(d:((x:Int)==0)=false)
 (c:IntKind.u64.wrap (bits BinOp.and IntKind.u64 (x:Int) (IntKind.u64.wrap (-(x:Int)))*285870213051353865) / 288230376151711744=(a:Int))
 (g:a < 64) (h:k < 64) (b:w.cell? ⟨11,a,none⟩=some (.int .u8 k)) :
  Calls prog 218 #[.int .u64 x] w fun e f=>e= .returned (.int .i64 k)∧f=w:=by
 go_enter func218,ntmps218;go_wp2_with (simp only [c]);go_ret;exact⟨rfl,rfl⟩
def zjx (w:World):Prop:=TabAt 11 Lib.deBruijn64tab w
theorem yj1 (x:Nat)(h:x < 18446744073709551616)(d:x≠0)(w:World)(i:zjx w):
  Calls prog 218 #[.int .u64 x] w fun e j=>e= .returned (.int .i64 (Lib.ctz 64 x))∧j=w:=by
 obtain⟨b,g⟩:=Lib.lowest_bit 64 x d h;obtain⟨f,c⟩:=Lib.deBruijn64_at _ g;have a:=i _ f;rw [c] at a;exact ye0 x _ _ w (by simp;omega) (tz64_key x _ h d b) f g a
theorem z9n (x:Nat)(d:x < 18446744073709551616)(a:x≠0)(w:World)(b:zjx w):
  Calls prog 171 #[.int .u64 x] w fun e f=>e= .returned (.int .i64 (Lib.ctz 64 x))∧f=w:=by
 have c:=zf b;clear b;go_enter func171,ntmps171;go_wp2_with (go_at_call 218;refine(yj1 x d a _ c.o).mono ?_;rintro r g ⟨rfl,rfl⟩);go_ret;exact⟨rfl,rfl⟩
theorem z44 {P:Program}{fn:Func}{p:Tmp}{ty:TypeId}(h:fn.results=#[.cell p ty])(tmps:Array Value)(w:World)(g:Nat)(t:TypeId)(cs:Array Value)(fr:Nat×Nat)(d:TypeDesc)
  (hp:tmps.getD p undef= .pointer (some ⟨g,0,none⟩)) (hg:w.heap[g]?=some (.cells cs t fr))
  (hu:P.underlying ty=some d) (hd:(match d with | .struct _ | .array _ _=>true | _=>false)=true) (hi:(P.info? ty).map (·.size)=some cs.size) :
  (results fn tmps).run P w= .ok (.agg cs) w:=by
 have a:=zdi (P:=P) w g t ty cs fr d hg hu hd hi;simp only [zau] at hp;simp [results,h,hp,asAddr,a]
theorem ynb:(prog.info? 150).map (·.size)=some 3:=by kernel_rfl
theorem zhu (n:Nat)(h:n < 9223372036854775808)(l:Int)(f:-1≤l)(g:l≤100)(j:Nat)(t:j < 9223372036854775808)(w:World):
  Calls prog 173 #[.int .i64 n,.int .i64 l,.int .i64 j] w fun r p=>r= .returned (plV (zv n l j))∧Below w.heap.size w p:=by
 have i:((j:Int).tdiv 4)=((j / 4:Nat):Int):=by rw [Int.tdiv_eq_ediv_of_nonneg (by omega)];omega
 have q:=zf i;have s:qg l n≤n:=zec _ _;have e:Hid (zv n l j=(l,((j / 4:Nat):Int),min ((qg l n:Int) - ((j / 4:Nat):Int)*4) 4)):=rfl;generalize b:j / 4=m at *;have k:m*4 < 9223372036854775808:=by omega
 clear b;generalize a:qg l n=c at *;have d:=zf a;clear a;go_enter func173,ntmps173;go_wp2_with (first | (go_at_call 139;refine(zj9 l f g n h _).mono ?_;rintro r u ⟨rfl,rfl⟩;rw [d.o]));exact z8 (v:=plV (zv n l j)) (by rw [e.o];exact z44 results173 _ _ w.heap.size 150 _ (0,0) _ rfl (zg _ _) underlying150 rfl ynb) rfl ⟨rfl,zk _ _⟩
variable {B b cap g:Nat}{a w:World}{a0 a1 a2 a3 a4 a5 a6 a7 x:Value}{l:zc}{t:TypeId}
def z9y (w:World)(v:Value)(d:za):Prop:=∃ a e,v= .slice a d.length e∧∀ j (h:j < d.length),∃ b f,a=some ⟨b,f,none⟩∧d.length≤e∧∃ g c,w.cell? ⟨b,f+j,none⟩=some (.slice (some ⟨g,0,none⟩) d[j].length c)∧∀ i (k:i < d[j].length),w.cell? ⟨g,i,none⟩=some (bv d[j][i])
theorem zx3 (v:Value)(d:za)(w:World)(hn:d.length≤1000000)(Y:∀ l∈d,l.length≤maxLen)(h:z9y w v d):
  Calls prog 226 #[v] w fun r w'=>∃ x,r= .returned x∧Below w.heap.size w w'∧(okB d=true→OB w' w.heap.size x (zf6 d))∧(okB d=false→x= .slice none 0 0):=by
 obtain⟨i,hi,N⟩:=zz.1 zv6;obtain⟨U,V,W⟩:i.zero=some (.int .u8 0)∧i.size=1∧i.bytes=1:=by simpa using N
 clear N;have HI:=zf hi;have E:=zf (And.intro U (And.intro V W));clear hi U V W;obtain⟨a,al,rfl,hc⟩:=h;have Hc:=zf hc;have Hl:=zf Y;clear hc Y
 by_cases L:4 < d.length
 ·have HR:=zf (yar L);go_enter func226,ntmps226
  go_wp2
  go_ret;exact⟨_,rfl,yf _ _,fun h=>by rw [HR.o] at h;simp at h,fun _=>rfl⟩
 ·go_enter func226,ntmps226;go_wp2_with fail;go_loopw [3,11] (fun t i wr=>∃ k:Nat,k≤d.length∧i= .int .i64 k∧Below w.heap.size w wr∧wr.ownsRow w.heap.size 5 1 t (zf6 (d.take k)).length ((zf6 (d.take k)).map bv)∧(k=0→t= .slice none 0 0)∧(0 < k→t≠ .slice none 0 0)∧∀ j (z:j < d.length),j < k→d[j].length≤20) (fun _ i _=>d.length - (intOf i).toNat)
  case atStart=>exact⟨0,yv _,rfl,yf _ _,⟨rfl,.inl ⟨rfl,rfl⟩⟩,fun _=>rfl,fun h=>absurd h (zqr _),fun j _ z=>absurd z (zed _)⟩
  case round =>
   obtain⟨k,hk,rfl,K,f,q,R,B⟩:=hrel;have F:=zf K;have HO:=zf f;have HN:=zf (And.intro q R);have X:=zf B;clear K f q R B
   by_cases A:k < d.length
   ·obtain⟨b,aj,rfl,am,g,c,hx,C⟩:=Hc.o k A;have M:0 < d[k].length→g < w.heap.size:=fun h0=>yg (p:=⟨g,0,none⟩) (C 0 h0);rw [← F.o.cell (yg (p:=⟨b,aj+k,none⟩) hx)] at hx;have HS:=zf C;have HG:=zf M;have hm:=Hl.o d[k] (yd A);unfold maxLen at hm;clear C M
    by_cases af:20 < d[k].length
    ·have HR:=zf (z4e k A af);generalize d[k]=l at *
     go_wp2
     go_ret;exact⟨_,rfl,F.o,fun h=>by rw [HR.o] at h;simp at h,fun _=>rfl⟩
    ·have T:=yf0 d k A (by omega);have I:=zf T;have G:=zf (z2p (d.take k) (fun l Y=>by
      obtain⟨j,z,rfl⟩:=vo Y;have ah:j < k:=by simp at z;omega
      rw [vv];exact X.o j (by omega) ah))
     have O:(d.take k).length=k:=by rw [vi];omega
     have Z:Hid (∀ j (z:j < d.length),j < k+1→d[j].length≤20):=fun j ai an=>by
      rcases qu j k with h | h
      ·exact X.o j ai h
      ·obtain rfl:j=k:=by omega
       omega
     clear T X;have ap:IntKind.u8.wrap (d[k].length:Int)=(d[k].length:Int):=by
      rw [zfc];omega
     generalize d[k]=l at *;generalize zf6 (d.take k)=m at *;have Q:m.length≤84:=by have:=G.o;rw [O] at this;omega
     have y:=zf Q;have ak:l.length≤20:=by omega
     clear O G Q hm;have D:Hid (w.heap.size≤wr.heap.size):=F.o.size;have ad:Hid (∀ o,(wr.alloc o).ownsRow w.heap.size 5 1 u3 m.length (m.map bv)):=fun o=>ym HO.o (zk wr o);go_wp2_with (first
      | (at_builtin;refine zaa _ rfl _ _ _ rfl w.heap.size 5 i (.int .u8 0) 1 1 underlying114 HI.o E.o.1 E.o.2.1 E.o.2.2 rfl (by omega) u3 m.length _ rfl (ad.o _) ⟨wr.heap.size,0,none⟩ 1 1 [.int .u8 (l.length:Int)] rfl rfl (xj (zg _ _)) (by simp [Value.oneCell']) (by omega) (by have:=y.o;unfold maxLen;omega) (by have:=y.o;omega) (by have:=D.out;simp;omega) (wr.heap.size+1) (by simp) ?_;intro g' J w2 f n ag P;have s:Hid (Below w.heap.size w w2):=(F.o.trans ((zk wr _).mono D.out)).grown n (by have:=D.out;simp;omega) (vq HO.o);have H:=zf f;clear n ag P f)
      | (at_builtin;(refine zqo _ rfl _ _ _ rfl w.heap.size 5 i (.int .u8 0) 1 1 underlying114 HI.o E.o.1 E.o.2.1 E.o.2.2 rfl (by omega) (.slice (some ⟨g',0,none⟩) (m.length+1) J) (m.length+1) (m.map bv++[.int .u8 (l.length:Int)]) rfl H.o ⟨g,0,none⟩ l.length c (l.map bv) rfl (by simp) (fun j u z=>yen HS.o HG.o s.o j u z) (yf1 l) (by have:=y.o;unfold maxLen;omega) (by have:=y.o;omega) s.o.size ?_;intro v3 w3 f n q;have aa:Hid (Below w.heap.size w w3):=s.o.grown n (by have:=s.o.size;omega) (vq H.o);have ae:=zf f;have ab:Hid (v3≠ .slice none 0 0):=(fun e=>absurd (q.1 e).1 (by simp));clear n q f)))
     go_roundw
     case rel=>exact⟨k+1,by omega,by go_num,aa.o,by rw [I.o.1,I.o.2];exact ae.o,fun h=>by omega,fun _=>ab.o,Z.o⟩
     case measure=>simp [intOf];omega
   ·go_wp2_with fail;go_ret;have ao:d.length=k:=by omega
    refine⟨_,rfl,F.o,fun S=>?_,fun S=>?_⟩
    ·have:=HO.o;rw [ja (by omega)] at this;refine⟨this,HN.o.2 ?_⟩;rcases zoc k with h | h
     ·rw [zwq (by omega)] at S;simp at S
     ·exact h
    ·refine HN.o.1 ?_;rcases zoc k with h | h
     ·exact h
     ·rw [z1a (by omega) (by omega) (fun j z=>X.o j z (by omega))] at S;simp at S
theorem z2t {es:za}(h:OBs w B (.slice (some ⟨g,0,none⟩) es.length cap) es)(i n:Nat)(v:i+n≤es.length)(a:Option Addr)(c:Nat)(p:0 < n→a=some ⟨g,i,none⟩)(r:n≤c):z9y w (.slice a n c) ((es.drop i).take n):=by
 obtain⟨y,t,u⟩:=h;have f:((es.drop i).take n).length=n:=by simp;omega
 refine⟨a,c,by rw [f],fun j s=>?_⟩;rw [f] at s;obtain⟨x,e,k⟩:=u (i+j) (by omega);obtain⟨o,m,rfl,-,-,d⟩:=k.form;have b:=t.cells rfl _ _ e;rw [zcc,xk] at b;refine⟨g,i,p (by omega),by rw [f];exact r,o,m,?_,?_⟩
 ·rw [vv,zcn];exact b
 ·intro q l;simp only [vv,zcn] at l ⊢;exact d q l
theorem OB.bq (h:OB w B x l):Bq w x l:=by
 rcases h.1.2 with h0 | ⟨g,a,b,rfl,k,c,f,m,n,j⟩
 ·exact absurd h0.1 h.2
 ·refine⟨g,a,b,(0,0),rfl,f,c,fun i d=>?_⟩;have e:(l.map bv)[i]?=some (bv l[i]):=by simp [d]
  rw [← j,qj,if_pos (by omega)] at e;simpa using e
theorem ygv (es:za)(i n:Nat)(h:i+n≤es.length):((List.range' i n).map (zad es (-1))).flatten=zf6 ((es.drop i).take n):=by
 induction n with
 | zero=>simp [zf6]
 | succ n b =>
  have a:=b (by omega);rw [List.range'_1_concat,yy,zfz,a];have e:(es.drop i).take (n+1)=(es.drop i).take n++[es[i+n]]:=by
   rw [List.take_add_one,zeu,zt (by omega)]
   rfl
  rw [e,zjj,zok];congr 1;simp [zad,zt (show i+n < es.length by omega)]
theorem yc9 (es:za)(i n:Nat)(h:i+n≤es.length)(b:1≤n)(c:n≤4)(a:∀ e∈es,e.length≤20):okB ((es.drop i).take n)=true:=by
 refine z1a (by simp;omega) (by simp;omega) (fun j d=>?_);rw [vv,zcn];exact a _ (yd _)
theorem yb8 (O:Nat→Prop)(D B:Nat)(l:Lg)(w:World)(M:l.es.length≤1000000)(d:∀ e∈l.es,e.length≤20)(h:za9 w O D B l)(i n:Nat)(f:i+n≤l.es.length)(E:1≤n)(F:n≤4):
  Calls prog 190 #[.pointer (some ⟨B,0,none⟩),.int .i64 (-1),.int .i64 i,.int .i64 ((i+n:Nat):Int)] w fun r C=>∃ v,r= .returned v∧Below w.heap.size w C∧Bq C v (((List.range' i n).map (zad l.es (-1))).flatten):=by
 obtain⟨a,c,z,b,-⟩:=lok h;obtain⟨-,-,⟨J,f2⟩,-⟩:=zwa z;obtain⟨g,rfl,-⟩:=zzm b (by omega);have A:=yaq b;have s:=zf b;have p:=zf d;have t:=zf (ygv l.es i n f);have k:=zf (yc9 l.es i n f E F d);clear h z b d f2;have G:¬ c=i:=by omega
 have H:(i:Int)≤((i+n:Nat):Int):=by omega
 have I:((i+n:Nat):Int)≤(c:Int):=by omega
 go_enter func190,ntmps190;go_wp2_with fail;refine(zx3 (.slice (some ⟨g,i,none⟩) n (c - i)) ((l.es.drop i).take n) w (by simp;omega) (fun e y=>zu (p.o e (zb5 (qh y))) (by unfold maxLen;omega)) (z2t s.o i n f _ _ (fun _=>rfl) (by omega))).mono ?_;rintro r P ⟨x,rfl,m,j,-⟩;have q:=zf m;have u:=zf (j k.o);obtain⟨L,K,N,rfl⟩:=zo8 (j k.o);clear m j;go_wp2_with fail;go_ret;exact⟨_,rfl,q.o,by rw [t.o];exact u.o.bq⟩
theorem ym1 {a:Nat×Nat}(h:w.heap[g]?=some (.cells #[a0,a1,a2,a3,a4,a5,a6,a7] t a)):
  w.cell? ⟨g,0,none⟩=some a0∧w.cell? ⟨g,1,none⟩=some a1∧w.cell? ⟨g,2,none⟩=some a2∧w.cell? ⟨g,3,none⟩=some a3∧w.cell? ⟨g,4,none⟩=some a4∧w.cell? ⟨g,5,none⟩=some a5∧w.cell? ⟨g,6,none⟩=some a6∧w.cell? ⟨g,7,none⟩=some a7:=by
 refine⟨?_,?_,?_,?_,?_,?_,?_,?_⟩<;>rw [yq _ _ _ _ _ _ h]<;>rfl
theorem yb2 (a c d e f g i j:Value)(h:w.heap[b]?=some (.cells #[a0,a1,a2,a3,a4,a5,a6,a7] t (0,0))):((((((((w.setCell ⟨b,0,none⟩ a).setCell ⟨b,1,none⟩ c).setCell ⟨b,2,none⟩ d).setCell ⟨b,3,none⟩ e).setCell ⟨b,4,none⟩ f).setCell ⟨b,5,none⟩ g).setCell ⟨b,6,none⟩ i).setCell ⟨b,7,none⟩ j).heap[b]?=some (.cells #[a,c,d,e,f,g,i,j] t (0,0)):=by
 have k:(w.setCell ⟨b,0,none⟩ a).heap[b]?=some (.cells #[a,a1,a2,a3,a4,a5,a6,a7] t (0,0)):=zav h 0 a;have l:((w.setCell ⟨b,0,none⟩ a).setCell ⟨b,1,none⟩ c).heap[b]?=some (.cells #[a,c,a2,a3,a4,a5,a6,a7] t (0,0)):=zav k 1 c;have m:(((w.setCell ⟨b,0,none⟩ a).setCell ⟨b,1,none⟩ c).setCell ⟨b,2,none⟩ d).heap[b]?=some (.cells #[a,c,d,a3,a4,a5,a6,a7] t (0,0)):=zav l 2 d;have n:((((w.setCell ⟨b,0,none⟩ a).setCell ⟨b,1,none⟩ c).setCell ⟨b,2,none⟩ d).setCell ⟨b,3,none⟩ e).heap[b]?=some (.cells #[a,c,d,e,a4,a5,a6,a7] t (0,0)):=zav m 3 e;have o:(((((w.setCell ⟨b,0,none⟩ a).setCell ⟨b,1,none⟩ c).setCell ⟨b,2,none⟩ d).setCell ⟨b,3,none⟩ e).setCell ⟨b,4,none⟩ f).heap[b]?=some (.cells #[a,c,d,e,f,a5,a6,a7] t (0,0)):=zav n 4 f;have p:((((((w.setCell ⟨b,0,none⟩ a).setCell ⟨b,1,none⟩ c).setCell ⟨b,2,none⟩ d).setCell ⟨b,3,none⟩ e).setCell ⟨b,4,none⟩ f).setCell ⟨b,5,none⟩ g).heap[b]?=some (.cells #[a,c,d,e,f,g,a6,a7] t (0,0)):=zav o 5 g;have q:(((((((w.setCell ⟨b,0,none⟩ a).setCell ⟨b,1,none⟩ c).setCell ⟨b,2,none⟩ d).setCell ⟨b,3,none⟩ e).setCell ⟨b,4,none⟩ f).setCell ⟨b,5,none⟩ g).setCell ⟨b,6,none⟩ i).heap[b]?=some (.cells #[a,c,d,e,f,g,i,a7] t (0,0)):=zav p 6 i;have r:((((((((w.setCell ⟨b,0,none⟩ a).setCell ⟨b,1,none⟩ c).setCell ⟨b,2,none⟩ d).setCell ⟨b,3,none⟩ e).setCell ⟨b,4,none⟩ f).setCell ⟨b,5,none⟩ g).setCell ⟨b,6,none⟩ i).setCell ⟨b,7,none⟩ j).heap[b]?=some (.cells #[a,c,d,e,f,g,i,j] t (0,0)):=zav q 7 j;exact r
theorem z23 (h:Below B a w)(c:B≤b)(d e f g i j k l:Value):Below B a ((((((((w.setCell ⟨b,0,none⟩ d).setCell ⟨b,1,none⟩ e).setCell ⟨b,2,none⟩ f).setCell ⟨b,3,none⟩ g).setCell ⟨b,4,none⟩ i).setCell ⟨b,5,none⟩ j).setCell ⟨b,6,none⟩ k).setCell ⟨b,7,none⟩ l) :=
 h|>.setCell (p:=⟨b,0,none⟩) c d|>.setCell (p:=⟨b,1,none⟩) c e|>.setCell (p:=⟨b,2,none⟩) c f|>.setCell (p:=⟨b,3,none⟩) c g|>.setCell (p:=⟨b,4,none⟩) c i|>.setCell (p:=⟨b,5,none⟩) c j|>.setCell (p:=⟨b,6,none⟩) c k|>.setCell (p:=⟨b,7,none⟩) c l
theorem zt0 (l:Int)(a:0≤l)(b:l≤20)(x:Int)(e:0≤x)(P:Nat)(c:P=4 ^ l.toNat)(d:x.toNat*P≤1000000)(w:World):
  Calls prog 227 #[.int .i64 l,.int .i64 x] w fun r f=>r= .returned (.int .i64 ((x.toNat*P:Nat):Int))∧f=w:=by
 subst c;have:=z29 l a b x.toNat d w;rw [Int.toNat_of_nonneg e] at this;exact this
theorem yca (O:Nat→Prop)(db x:Nat)(l:Lg)(w:World)(he:l.es.length≤1000000)(ad:∀ e∈l.es,e.length≤20)(h:za9 w O db x l)(L:Nat)(hL:L≤20)(i n:Nat)(aM:(i+n)*4 ^ L≤l.es.length)(h1:1≤n)(h4:n≤4):
  Calls prog 190 #[.pointer (some ⟨x,0,none⟩),.int .i64 L,.int .i64 i,.int .i64 ((i+n:Nat):Int)] w fun r y=>∃ v,r= .returned v∧Below w.heap.size w y∧Bq y v (((List.range' i n).map (zad l.es L)).flatten):=by
 obtain⟨a,b,hb,B,-⟩:=lok h;obtain⟨-,-,⟨c2,f2⟩,-⟩:=zwa hb;have aN:=zi hb;obtain⟨P,hP⟩:∃ P,P=4 ^ L:=⟨_,rfl⟩;have aH:1≤P:=by rw [hP];exact jp (by omega)
 rw [← hP] at aM;have aY:1*P≤(i+n)*P:=zd1 _ (by omega);obtain⟨g,rfl,-⟩:=zzm B (by omega);have aS:=yaq B;have az:=zf B;have av:=zf ad;have HP:=zf hP;obtain⟨ti,ap,N⟩:=zz.1 zv6;obtain⟨aq,ar,au⟩:ti.zero=some (.int .u8 0)∧ti.size=1∧ti.bytes=1:=by simpa using N
 have HI:=zf ap;have HZ:=zf (And.intro aq (And.intro ar au));clear h hb B ad f2 hP ap N aq ar au;have aV:((L:Int)==-1)=false:=by rw [yk];omega
 go_enter func190,ntmps190;go_wp2_with fail
 go_loopg [9,10,11] (n+1) (fun gg t j _ wr=>∃ k:Nat,k≤n∧n+1 - k≤gg∧j= .int .i64 ((i+k:Nat):Int)∧Below w.heap.size w wr∧wr.ownsRow w.heap.size 5 1 t (((List.range' i k).map (zad l.es L)).flatten).length ((((List.range' i k).map (zad l.es L)).flatten).map bv)∧(((List.range' i k).map (zad l.es L)).flatten).length=8*k∧(0 < k→t≠ .slice none 0 0))
 case atStart=>exact⟨0,yv _,by omega,by simp,yf _ _,⟨rfl,.inl ⟨rfl,rfl⟩⟩,by simp,fun h=>absurd h (zqr _)⟩
 case round =>
  obtain⟨k,hk,a0,rfl,ag,c,M,an⟩:=hrel;have V:=zf ag;have HO:=zf c;have Y:=zf M;have aD:=zf an;clear ag c M an
  by_cases a1:k < n
  ·have aU:((i+k:Nat):Int) < ((i+n:Nat):Int):=by omega
   have am:(i+k+1)*P≤(i+n)*P:=zd1 _ (by omega);have al:(i+k+1)*P=(i+k)*P+P:=by rw [zdg,z91]
   obtain⟨C,D,E,F,G,H,I,K,hR⟩:=hv8 (zaf P ((l.es.drop ((i+k)*P)).take P)) (zbv _ _);have af:hv (zaf P ((l.es.drop ((i+k)*P)).take P))=#[.int .u8 C.toNat,.int .u8 D.toNat,.int .u8 E.toNat,.int .u8 F.toNat,.int .u8 G.toNat,.int .u8 H.toNat,.int .u8 I.toNat,.int .u8 K.toNat]:=by rw [hR];rfl
   have HR:=zf hR;have aG:=zf af;have ay:Hid (zad l.es L (i+k)=[C,D,E,F,G,H,I,K]):=by
    show zad l.es L (i+k)=_;unfold zad;rw [if_neg (by omega),yj,← HP.o];unfold qm;rw [show(List.take P (List.drop ((i+k)*P) l.es)).length=P by simp;omega];exact hR
   have W:wr.cell? ⟨x,2,none⟩=some (.slice (some ⟨g,0,none⟩) l.es.length b):=by rw [V.o.cell (p:=⟨x,2,none⟩) aN];exact c2
   have Z:=zf al;have aZ:¬ b=(i+k)*P:=by omega
   have a3:(i+k)*P≤(i+k+1)*P:=by omega
   have a4:(i+k+1)*P≤b:=by omega
   have aO:(i+k+1)*P≤1000000:=by omega
   have aP:(i+k)*P≤1000000:=by omega
   have a5:(i+k+1)*P≤l.es.length:=by omega
   clear hR af am al;have ah:∀ X,Calls prog 227 #[.int .i64 (L:Int),.int .i64 ((i+k:Nat):Int)] X fun r y=>r= .returned (.int .i64 (((i+k)*P:Nat):Int))∧y=X:=fun X=>by
    have:=zt0 L (by omega) (by omega) ((i+k:Nat):Int) (by omega) P (by rw [HP.o];simp) (by rw [yj];exact aP) X;rw [yj] at this;exact this
   have ai:∀ X,Calls prog 227 #[.int .i64 (L:Int),.int .i64 (((i+k:Nat):Int)+1)] X fun r y=>r= .returned (.int .i64 (((i+k+1)*P:Nat):Int))∧y=X:=fun X=>by
    have:=zt0 L (by omega) (by omega) (((i+k:Nat):Int)+1) (by omega) P (by rw [HP.o];simp) (by rw [show(((i+k:Nat):Int)+1).toNat=i+k+1 by omega];exact aO) X;rw [show(((i+k:Nat):Int)+1).toNat=i+k+1 by omega] at this;exact this
   generalize hA:(i+k)*P=A at *;generalize ae:(i+k+1)*P=A' at *;generalize hJ:i+k=J at *;have HA:=zf (And.intro hA ae);have HJ:=zf hJ;have aA:=zf ah;have aB:=zf ai;clear hA ae hJ ah ai;have aX:J≤2000000:=by
    have:=HJ.o;have hh:(i+n)*1≤(i+n)*P:=Nat.mul_le_mul_left _ aH;omega
   have Q:Hid (Below wr.heap.size wr wr.drew):=(yf _ _).drew;have R:Hid (∀ o,Below wr.heap.size wr (wr.alloc o).drew):=fun o=>(zk _ _).drew;have ab:Hid (∀ X,Below wr.heap.size wr X→Calls prog 75 #[.slice (some ⟨g,A,none⟩) (A' - A) (b - A)] X fun r y=>r= .returned (.agg #[.int .u8 (C.toNat:Int),.int .u8 (D.toNat:Int),.int .u8 (E.toNat:Int),.int .u8 (F.toNat:Int),.int .u8 (G.toNat:Int),.int .u8 (H.toNat:Int),.int .u8 (I.toNat:Int),.int .u8 (K.toNat:Int)])∧Below X.heap.size X y):=fun X hX=>by
    have hp:=zsb P (.slice (some ⟨g,A,none⟩) (A' - A) (b - A)) ((l.es.drop A).take P) X (by simp;omega) (by have:=Z.o;simp;omega) (fun e aK=>zu (av.o e (zb5 (qh aK))) (by unfold maxLen;omega)) (by
     have aJ:=((az.o.bss'.below V.o).below hX).drop A (by omega);have h2:=aJ.take (A' - A) (by rw [zib];omega);rw [show A' - A=P by have:=Z.o;omega] at h2 ⊢;rw [xk] at h2;exact h2)
    rw [aG.o] at hp;exact hp
   go_wp2_with fail;go_cut [11] from 23 to 43 (fun aQ wx=>∃ U,aQ= .pointer (some ⟨U,0,none⟩)∧wx.heap[U]?=some (.cells #[.int .u8 (C.toNat:Int),.int .u8 (D.toNat:Int),.int .u8 (E.toNat:Int),.int .u8 (F.toNat:Int),.int .u8 (G.toNat:Int),.int .u8 (H.toNat:Int),.int .u8 (I.toNat:Int),.int .u8 (K.toNat:Int)] 110 (0,0))∧wr.heap.size≤U∧Below wr.heap.size wr wx)
   case first =>
    have a6:¬ x=wr.heap.size:=by have:=yg W;simp only at this;omega
    have a7:¬ wr.heap.size=x:=by omega
    have c6:IntKind.i64.wrap ((J:Int)+1)=(J:Int)+1:=by rw [zf2];omega
    go_region_held3 (fun X=>X.cell? ⟨x,2,none⟩=some (.slice (some ⟨g,0,none⟩) l.es.length b)) (go_keep) (first
     | (go_at_call_of 227 (Value.int .i64 (J:Int));refine(aA.o _).mono ?_;rintro r y ⟨rfl,rfl⟩)
     | (go_at_call 227;refine(aB.o _).mono ?_;rintro r y ⟨rfl,rfl⟩)
     | (go_at_call 75;refine(ab.o wr.drew Q.out).mono ?_;rintro r T ⟨rfl,f⟩;have d:Below wr.heap.size wr T:=Q.out.trans (f.mono Q.out.size);have q2:T.cell? ⟨x,2,none⟩=some (.slice (some ⟨g,0,none⟩) l.es.length b):=(by rw [d.cell (p:=⟨x,2,none⟩) (yg W)];exact W);have q:=zf d;clear f d)
     | (go_at_call 75;refine(ab.o (wr.alloc (.cells #[.int .u8 0,.int .u8 0,.int .u8 0,.int .u8 0,.int .u8 0,.int .u8 0,.int .u8 0,.int .u8 0] 110)).drew (R.out _)).mono ?_;rintro r T ⟨rfl,f⟩;have d:Below wr.heap.size wr T:=(R.out _).trans (f.mono (R.out _).size);have q2:T.cell? ⟨x,2,none⟩=some (.slice (some ⟨g,0,none⟩) l.es.length b):=(by rw [d.cell (p:=⟨x,2,none⟩) (yg W)];exact W);have m:T.heap[wr.heap.size]?=some (.cells #[.int .u8 0,.int .u8 0,.int .u8 0,.int .u8 0,.int .u8 0,.int .u8 0,.int .u8 0,.int .u8 0] 110 (0,0)):=(by rw [f.block _ (by show wr.heap.size < (wr.heap.push _).size;simp)];exact zg wr _);obtain⟨x0,x1,x2,x3,x4,x5,x6,x7⟩:=ym1 m;have xz:=yaf m;have aE:=zf m;have q:=zf d;clear f d m))
    all_goals go_wp2_with fail
    all_goals go_meet
    all_goals first
     | (have hN:=aE.o;exact⟨wr.heap.size,rfl,yb2 (.int .u8 (C.toNat:Int)) (.int .u8 (D.toNat:Int)) (.int .u8 (E.toNat:Int)) (.int .u8 (F.toNat:Int)) (.int .u8 (G.toNat:Int)) (.int .u8 (H.toNat:Int)) (.int .u8 (I.toNat:Int)) (.int .u8 (K.toNat:Int)) hN,zm _,z23 q.o (zm _) (.int .u8 (C.toNat:Int)) (.int .u8 (D.toNat:Int)) (.int .u8 (E.toNat:Int)) (.int .u8 (F.toNat:Int)) (.int .u8 (G.toNat:Int)) (.int .u8 (H.toNat:Int)) (.int .u8 (I.toNat:Int)) (.int .u8 (K.toNat:Int))⟩)
     | exact⟨T.heap.size,rfl,zg _ _,q.o.size,q.o.alloc q.o.size _⟩
   case rest =>
    obtain⟨U,rfl,hB,aW,z⟩:=hcut;have ax:=zf z;have aw:=zf hB;have aa:Hid (wc.ownsRow w.heap.size 5 1 u9 (((List.range' i k).map (zad l.es L)).flatten).length ((((List.range' i k).map (zad l.es L)).flatten).map bv)):=ym HO.o z;have S:Hid (((List.range' i (k+1)).map (zad l.es L)).flatten=((List.range' i k).map (zad l.es L)).flatten++[C,D,E,F,G,H,I,K]):=by
     show _=_;rw [List.range'_1_concat,yy,zfz,List.map_singleton,HJ.o,ay.o];simp
    have m:Hid (∀ j u,([.int .u8 (C.toNat:Int),.int .u8 (D.toNat:Int),.int .u8 (E.toNat:Int),.int .u8 (F.toNat:Int),.int .u8 (G.toNat:Int),.int .u8 (H.toNat:Int),.int .u8 (I.toNat:Int),.int .u8 (K.toNat:Int)]:List Value)[j]?=some u→wc.cell? ((⟨U,0,none⟩:Addr).add j)=some u):=fun j u hj=>by
     rw [zcc,xk,yq _ _ _ _ _ _ aw.o];simpa using hj
    have a2:(((List.range' i k).map (zad l.es L)).flatten).length≤32:=by have:=Y.o;omega
    have ao:Hid (w.heap.size≤wc.heap.size):=zu V.o.size z.size;clear z hB W;generalize aL:((List.range' i k).map (zad l.es L)).flatten=ff at *;clear aL;go_wp2_with (at_builtin;refine zaa _ rfl _ _ _ rfl w.heap.size 5 ti (.int .u8 0) 1 1 underlying114 HI.o HZ.o.1 HZ.o.2.1 HZ.o.2.2 rfl (by omega) u9 ff.length (ff.map bv) rfl aa.o ⟨U,0,none⟩ 8 8 [.int .u8 (C.toNat:Int),.int .u8 (D.toNat:Int),.int .u8 (E.toNat:Int),.int .u8 (F.toNat:Int),.int .u8 (G.toNat:Int),.int .u8 (H.toNat:Int),.int .u8 (I.toNat:Int),.int .u8 (K.toNat:Int)] rfl rfl m.out (by simp [Value.oneCell']) (by omega) (by unfold maxLen;omega) (by omega) (ao.out) wc.heap.size rfl ?_;intro g5 aR w5 c s aI ak;have aF:=zf c;have aC:=zf s;clear c s aI ak)
    go_roundg (gk - 1)
    case rel =>
     have aj:=S.out;refine⟨k+1,by omega,by omega,by congr 1;have:=HJ.o;omega,((V.o.trans (ax.o.mono V.o.size)).grown aC.o ao.out (vq aa.o)),?_,?_,fun _ h=>by simp at h⟩
     ·rw [aj,zy,yy];exact aF.o
     ·rw [aj,zy,Y.o];simp;omega
    case measure=>omega
  ·obtain rfl:k=n:=by omega
   go_wp2_with fail;go_ret;exact⟨_,rfl,V.o,(show OB wr w.heap.size _ _ from ⟨HO.o,aD.o (by omega)⟩).bq⟩
variable {O:Nat→Prop}{T:List Nat}{k:Nat}{v:Value}{vs:List Value}{w':World}
section
attribute [local go_sem ↓] jy jn j4 jo ji jh j3 jm
def z12 (w:World)(v:Value)(l:zc):Prop:=(v=zkb∧l=[])∨Bq w v l
structure zji (w:World)(x:Px)(p:Pc):Prop where
 there:x.there=p.there
 fits:x.fits=p.fits
 hash:x.hash=p.hash
 ent:z12 w x.ent p.entry
def zdj (w:World)(a:List Px)(f:Fl):Prop:=a.length=4∧f.length=4∧∀ k,k < 4→zji w (a.getD k .no) (f.getD k .no)
theorem z12.turn (h:z12 w v l)(b:zq O T w w')(a:5∉T):z12 w' v l:=by
 rcases h with h | h
 ·exact .inl h
 ·exact .inr (h.turn b a)
theorem zji.turn {x:Px}{p:Pc}(h:zji w x p)(b:zq O T w w')(a:5∉T):zji w' x p:=⟨h.there,h.fits,h.hash,h.ent.turn b a⟩
theorem zdj.turn {a:List Px}{f:Fl}(h:zdj w a f)(d:zq O T w w')(b:5∉T):zdj w' a f:=⟨h.1,h.2.1,fun k c=>(h.2.2 k c).turn d b⟩
theorem zdj.below {a:List Px}{f:Fl}(h:zdj w a f)(b:Below w.heap.size w w'):zdj w' a f:=h.turn (O:=fun _=>False) (T:=[]) (.of_below b) (by simp)
theorem zji.none (w:World):zji w .no .no:=⟨rfl,rfl,rfl,.inl ⟨rfl,rfl⟩⟩
theorem zdj.none (w:World):zdj w Fx.no Fl.no:=⟨rfl,rfl,fun k a=>by
 match k,a with
 | 0,_=>exact zji.none w
 | 1,_=>exact zji.none w
 | 2,_=>exact zji.none w
 | 3,_=>exact zji.none w⟩
theorem zpu {α:Type}(f:Nat→α)(z:α)(a:k < 4):((List.range 4).map f).getD k z=f k:=by
 match k,a with
 | 0,_=>rfl
 | 1,_=>rfl
 | 2,_=>rfl
 | 3,_=>rfl
theorem ymh (w:World)(n:Nat)(d:zc):zdj w (zms n d) (zld n d):=by
 refine⟨by simp [zms],by simp [zld],fun k a=>?_⟩;unfold zms zld;rw [zpu _ _ a,zpu _ _ a]
 by_cases h:k < n
 ·rw [if_pos h,if_pos h];exact⟨rfl,rfl,rfl,.inl ⟨rfl,rfl⟩⟩
 ·rw [if_neg h,if_neg h];exact zji.none w
theorem ykn {es:za}(h:∀ j (c:j < es.length),OB w B (vs.getD j zkb) es[j]):zdj w (zol es.length es vs) (zma es):=by
 refine⟨by simp [zol],by simp [zma],fun k b=>?_⟩;unfold zol zma;rw [zpu _ _ b,zpu _ _ b]
 by_cases a:k < es.length
 ·rw [if_pos a,if_pos a];refine⟨rfl,rfl,rfl,.inr ?_⟩;have:es.getD k []=es[k]:=by rw [zl,zt a];rfl
  show Bq w _ (es.getD k []);rw [this];exact(h k a).bq
 ·rw [if_neg a,if_neg a];exact zji.none w
theorem zyo (x:Option (zc))(n:Nat):zfl (-1) n (x.getD [])=(zn3 x n).map zma:=by
 unfold zfl zn3;rw [if_pos rfl];cases x with
 | none=>rfl
 | some d =>
  simp only [zc2];cases zd6 d with
  | none=>rfl
  | some es =>
   simp only
   by_cases h:es.length=n
   ·rw [if_pos h,if_pos (by rw [h])];rfl
   ·rw [if_neg h,if_neg (by omega)];rfl
theorem zt8 (n:Nat)(l:n≤4)(a:Option Addr)(b d:Nat)(k:b≠8*n)(w:World):
  Calls prog 248 #[.int .i64 n,.slice a b d] w fun r j=>r= .returned (.tuple #[.agg (vf Fx.no).toArray,.bool false])∧Below w.heap.size w j:=by
 have h:((b:Int) != (n:Int)*8)=true:=by simp;omega
 have e:=zsq (w.alloc (.cells za6 xg));have c:Hid (Below w.heap.size w (w.alloc (.cells za6 xg))∧yu (w.alloc (.cells za6 xg)) w.heap.size Fx.no):=⟨zk _ _,zg _ _⟩;rw [z08] at e;go_enter func248,ntmps248;have i:=zax (vp c.o.2 Fx.no_ok) Fx.no_ok.len (zcl Fx.no_ok.2);have g:=zf (zap c.o.2 Fx.no_ok Fx.no_ok);have f:=zf (xn c.o.1 (zm w.heap.size) (vf Fx.no) 0);go_wp2_with fail;exact z8 (v:= .tuple #[.agg (vf Fx.no).toArray,.bool false]) (qa results248 _ _ w.heap.size xg _ (0,0) _ rfl g.o underlying154 rfl (by rw [zcs,xf,Fx.no_ok.len]) _ rfl) rfl ⟨rfl,f.o⟩
def zrb (b:World)(o:Option Fl)(r:Ending):Prop :=
 (∃ a f,o=some f∧FOk a∧zdj b a f∧r= .returned (.tuple #[.agg (vf a).toArray,.bool true]))∨(o=none∧∃ a,FOk a∧r= .returned (.tuple #[.agg (vf a).toArray,.bool false]))
theorem z1f (n:Nat)(f:0 < n)(e:n≤4)(l:Int)(c:l≠-1)(v:Value)(x:Option (zc))(w:World)(h:zn2 w v x):
  Calls prog 248 #[.int .i64 n,v] w fun r b=>Below w.heap.size w b∧zrb b (zfl l n (x.getD [])) r:=by
 rcases h with ⟨d,rfl,j⟩ | ⟨rfl,rfl⟩
 ·by_cases i:d.length=8*n
  ·refine(z1g n e f v d i w j).mono ?_;rintro r b ⟨rfl,a⟩;refine⟨a,.inl ⟨_,zld n d,?_,z1r d (by omega),ymh _ _ _,rfl⟩⟩;unfold zfl;rw [if_neg c,zc2,if_pos (by omega)]
   rfl
  ·obtain⟨g,k,C,m,rfl,-⟩:=j;refine(zt8 n e _ _ _ i w).mono ?_;rintro r b ⟨rfl,a⟩;refine⟨a,.inr ⟨?_,_,Fx.no_ok,rfl⟩⟩;unfold zfl;rw [if_neg c,zc2,if_neg (by omega)]
 ·refine(zt8 n e _ _ _ (by omega) w).mono ?_;rintro r b ⟨rfl,a⟩;refine⟨a,.inr ⟨?_,_,Fx.no_ok,rfl⟩⟩;unfold zfl;rw [if_neg c,Option.getD_none,if_neg (by simp;omega)]
theorem z4u (n:Nat)(v:Value)(x:Option (zc))(w:World)(h:zn2 w v x):
  Calls prog 247 #[.int .i64 n,v] w fun r b=>Below w.heap.size w b∧zrb b (zfl (-1) n (x.getD [])) r:=by
 refine(zw4 n v x w h).mono ?_;rintro r b ⟨d,⟨es,k,a,rfl,f⟩ | ⟨a,rfl⟩⟩
 ·refine⟨d,.inl ⟨_,zma es,by rw [zyo,a];rfl,z95 es k (fun j i=>?_),ykn f,rfl⟩⟩;obtain⟨g,c,e,-⟩:=(f j i).form;exact⟨_,_,_,e⟩
 ·exact⟨d,.inr ⟨by rw [zyo,a];rfl,_,Fx.no_ok,rfl⟩⟩
end
end Go.Proofs.YtlcllcgngjhoaaaGreatDoor
