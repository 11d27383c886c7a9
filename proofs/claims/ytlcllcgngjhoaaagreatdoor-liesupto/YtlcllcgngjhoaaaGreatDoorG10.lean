import Derived.Test.YtlcllcgngjhoaaaGreatDoorG09
import Derived.Deep.CutRange
set_option maxHeartbeats 8000000
set_option maxRecDepth 100000
set_option linter.all false
namespace Go.Proofs.YtlcllcgngjhoaaaGreatDoor
open Go.RowKit Go.Proofs.Tryz
def zam:=@List.getElem_cons_succ
def za4:=@List.getElem_map
def zc1:=@Nat.add_sub_cancel_left
def zd9:=@List.flatMap_cons
def zjh:=@Option.isSome_iff_exists
def zsk:=@Nat.add_comm
def zvc:=@List.drop_zero
variable {g:Nat}{t:TypeId}{w:World}{x8:Value}
theorem z3y (d h:zc):(⟨#[116,105,108,101,115,10]⟩++⟨d.toArray⟩++⟨#[10]⟩++⟨h.toArray⟩++⟨#[10]⟩:ByteArray)=⟨(zer++d++[10]++h++[10]).toArray⟩:=by
 apply vd;simp [zer]
theorem zua (n:Int)(h0:0≤n)(t:n≤9223372036854775807)(a b:zc)(A:a.length=8)(R:b.length≤2097152)(w:World):
  Calls prog 41 #[.int .i64 n,.string ⟨a.toArray⟩,.string ⟨b.toArray⟩] w fun r C=>r= .returned (.string ⟨(zbp n.toNat a b).toArray⟩)∧Below w.heap.size w C:=by
 have x:Hid (zbp n.toNat a b=(zer++dec n.toNat++[10]++zbn a++[10])++zbn (hash (b++[0]++(zer++dec n.toNat++[10]++zbn a++[10])))++[10]):=rfl;have Q:=zcq n h0 t;have B:=zdc a;rw [A] at B;go_enter func41,ntmps41;go_wp2_with fail;refine(ze6 n h0 t w).mono ?_;rintro r D ⟨rfl,i⟩;have e:=zf i;clear i;generalize dec n.toNat=d at *;go_wp2_with fail;refine(zw7 a (by omega) D).mono ?_;rintro r u ⟨rfl,j⟩;have f:Hid (Below w.heap.size w u):=e.o.trans (j.mono e.o.size);clear j;generalize zbn a=h at *;have F:¬ 9223372036854775807 < 6+d.length:=by omega
 have G:¬ 9223372036854775807 < 6+d.length+1:=by omega
 have I:¬ 9223372036854775807 < 6+d.length+1+h.length:=by omega
 have J:¬ 9223372036854775807 < 6+d.length+1+h.length+1:=by omega
 have K:¬ 9223372036854775807 < b.length+1:=by omega
 have y:=z3y d h;have z:(zer++d++[10]++h++[10]).length≤60:=by simp [zer];omega
 generalize zer++d++[10]++h++[10]=L at *;have N:¬ 9223372036854775807 < b.length+1+L.length:=by omega
 go_wp2_with fail;refine(zjp _ u (by rw [zjs,zjs];show b.toArray.size+1+L.toArray.size≤maxLen;simp [maxLen];omega)).mono ?_;rintro r v ⟨c,k⟩;have g:Hid (Below w.heap.size w v):=f.o.trans (k.mono f.o.size);rw [zh1,zh1] at c;have m:r= .returned (txt (hash (b++[0]++L))):=c;subst m;clear c k;unfold txt;have s:=zjk (b++[0]++L);generalize hash (b++[0]++L)=H at *;go_wp2_with fail;refine(zw7 H (by omega) v).mono ?_;rintro r E ⟨rfl,l⟩;have p:Hid (Below w.heap.size w E):=g.o.trans (l.mono g.o.size);clear l;have q:=zdc H;rw [s] at q;generalize zbn H=M at *;have O:¬ 9223372036854775807 < L.length+M.length:=by omega
 have P:¬ 9223372036854775807 < L.length+M.length+1:=by omega
 go_wp2_with fail;go_ret;refine⟨?_,p.o⟩;rw [x.o];exact zh8 (by apply vd;simp)
def tv (n:Int)(a b c d e f g h:UInt8):Array Value:=#[.int .i64 n,.int .u8 a.toNat,.int .u8 b.toNat,.int .u8 c.toNat,.int .u8 d.toNat,.int .u8 e.toNat,.int .u8 f.toNat,.int .u8 g.toNat,.int .u8 h.toNat]
theorem zvn {a b c d e f i j:Value}{k:Nat×Nat}(h:w.heap[g]?=some (.cells #[a,b,c,d,e,f,i,j,x8] t k)):
  w.cell? ⟨g,0,none⟩=some a∧w.cell? ⟨g,1,none⟩=some b∧w.cell? ⟨g,2,none⟩=some c∧w.cell? ⟨g,3,none⟩=some d∧w.cell? ⟨g,4,none⟩=some e∧w.cell? ⟨g,5,none⟩=some f∧w.cell? ⟨g,6,none⟩=some i∧w.cell? ⟨g,7,none⟩=some j∧w.cell? ⟨g,8,none⟩=some x8:=by
 refine⟨?_,?_,?_,?_,?_,?_,?_,?_,?_⟩<;>rw [yq _ _ _ _ _ _ h]<;>rfl
theorem z97 (w:World)(k:zc)(c:Nat):Bs (w.alloc (.cells (bytesRow ⟨k.toArray⟩ c) 5 ((bytesRow ⟨k.toArray⟩ c).size,(bytesRow ⟨k.toArray⟩ c).size+1))) (.slice (some ⟨w.heap.size,0,none⟩) k.length c) k :=
 ⟨_,_,rfl,.inr ⟨w.heap.size,0,rfl,fun i a=>by
  rw [xk,zqt w ⟨k.toArray⟩ c i a]
  rfl⟩⟩
theorem z9e (w:World)(k l:zc)(b a:Nat):
  Bss ((((w.alloc (.cells (bytesRow ⟨k.toArray⟩ b) 5 ((bytesRow ⟨k.toArray⟩ b).size,(bytesRow ⟨k.toArray⟩ b).size+1))).alloc (.cells #[.int .u8 0] 5)).alloc (.cells (bytesRow ⟨l.toArray⟩ a) 5 ((bytesRow ⟨l.toArray⟩ a).size,(bytesRow ⟨l.toArray⟩ a).size+1))).alloc
   (.cells #[.slice (some ⟨w.heap.size,0,none⟩) k.length b,.slice (some ⟨w.heap.size+1,0,none⟩) 1 1,.slice (some ⟨w.heap.size+1+1,0,none⟩) l.length a] 114)) (.slice (some ⟨w.heap.size+1+1+1,0,none⟩) 3 3) [k,[0],l]:=by
 have c:=z97 w k b;have n:(w.alloc (.cells (bytesRow ⟨k.toArray⟩ b) 5 ((bytesRow ⟨k.toArray⟩ b).size,(bytesRow ⟨k.toArray⟩ b).size+1))).heap.size=w.heap.size+1:=by simp
 generalize w.alloc (.cells (bytesRow ⟨k.toArray⟩ b) 5 ((bytesRow ⟨k.toArray⟩ b).size,(bytesRow ⟨k.toArray⟩ b).size+1))=d at *;have g:Bs (d.alloc (.cells #[.int .u8 0] 5)) (.slice (some ⟨w.heap.size+1,0,none⟩) 1 1) [0]:=Bs.fresh d [0] 5 (w.heap.size+1) n.symm 1;have c:=c.below (zk d (.cells #[.int .u8 0] 5));have o:(d.alloc (.cells #[.int .u8 0] 5)).heap.size=w.heap.size+1+1:=by simp [n]
 generalize d.alloc (.cells #[.int .u8 0] 5)=e at *;have m:=z97 e l a;rw [o] at m;have c:=c.below (zk e (.cells (bytesRow ⟨l.toArray⟩ a) 5 ((bytesRow ⟨l.toArray⟩ a).size,(bytesRow ⟨l.toArray⟩ a).size+1)));have g:=g.below (zk e (.cells (bytesRow ⟨l.toArray⟩ a) 5 ((bytesRow ⟨l.toArray⟩ a).size,(bytesRow ⟨l.toArray⟩ a).size+1)));have j:(e.alloc (.cells (bytesRow ⟨l.toArray⟩ a) 5 ((bytesRow ⟨l.toArray⟩ a).size,(bytesRow ⟨l.toArray⟩ a).size+1))).heap.size=w.heap.size+1+1+1:=by simp [o]
 generalize e.alloc (.cells (bytesRow ⟨l.toArray⟩ a) 5 ((bytesRow ⟨l.toArray⟩ a).size,(bytesRow ⟨l.toArray⟩ a).size+1))=f at *;refine⟨_,3,rfl,zm _,.inr ⟨w.heap.size+1+1+1,0,rfl,fun i p=>?_⟩⟩;have h:=zk f (.cells #[.slice (some ⟨w.heap.size,0,none⟩) k.length b,.slice (some ⟨w.heap.size+1,0,none⟩) 1 1,.slice (some ⟨w.heap.size+1+1,0,none⟩) l.length a] 114);rw [xk]
 match i,p with
 | 0,_=>exact⟨_,zh2 f _ _ 0 _ j.symm,c.below h⟩
 | 1,_=>exact⟨_,zh2 f _ _ 1 _ j.symm,g.below h⟩
 | 2,_=>exact⟨_,zh2 f _ _ 2 _ j.symm,m.below h⟩
theorem zxm (n:Int)(h0:0≤n)(R:n≤9223372036854775807)(b c e f g i j k:UInt8)(a:zc)(hk:a.length≤9223372036854775807)(w:World)(E:Env w):
  Calls prog 116 #[.agg (tv n b c e f g i j k),.string ⟨a.toArray⟩] w fun r w'=>r= .returned (.string ⟨(zbp n.toNat [b,c,e,f,g,i,j,k] a).toArray⟩)∧Below w.heap.size w w':=by
 unfold tv;have U:=zf E;clear E;have W:Hid (zbp n.toNat [b,c,e,f,g,i,j,k] a=(zer++dec n.toNat++[10]++zbn [b,c,e,f,g,i,j,k]++[10])++zbn (hash (a++[0]++(zer++dec n.toNat++[10]++zbn [b,c,e,f,g,i,j,k]++[10])))++[10]):=rfl;have hd:=zcq n h0 R;have I:=zdc [b,c,e,f,g,i,j,k];simp only [y9,jc] at I;have X:=zf (znx [b,c,e,f,g,i,j,k] rfl);have V:=zf (zgl n h0 R);generalize dec n.toNat=d at *;generalize zbn [b,c,e,f,g,i,j,k]=h at *;have a1:¬ 9223372036854775807 < 6+d.length:=by omega
 have a2:¬ 9223372036854775807 < 6+d.length+1:=by omega
 have a3:¬ 9223372036854775807 < 6+d.length+1+h.length:=by omega
 have a4:¬ 9223372036854775807 < 6+d.length+1+h.length+1:=by omega
 have aa:=z3y d h;have ab:(zer++d++[10]++h++[10]).length≤60:=by simp [zer];omega
 generalize zer++d++[10]++h++[10]=L at *;have O:∀(Q:World) (s:ByteArray),(convert 9 114 (.string s)).run prog Q=_:=fun Q s=>zcm (P:=prog) Q 9 114 5 s qw underlying114 jt;go_enter func116,ntmps116;go_wp2_with fail
 go_region_with (first
  | (go_at_call 165;refine(V.o _ (U.o.below (zk w _).drew)).mono ?_;rintro r S ⟨rfl,p⟩;have l:Hid (Below w.heap.size w S):=(zk w _).drew.trans (p.mono (by simp));obtain⟨Y,Z,c2,c3,c4,c5,c6,c7,c8⟩:=zvn ((p.block w.heap.size (by simp)).trans (zg _ _));clear p)
  | (go_at_call 166;refine(X.o _).mono ?_;rintro r J ⟨rfl,u⟩;have q:Hid (Below w.heap.size w J):=l.o.trans (u.mono l.o.size);clear u))
 all_goals clear Y Z c2 c3 c4 c5 c6 c7 c8 l S
 all_goals
  have v:=fun(C D F G:Obj)=>(zca J C D F).trans ((zk _ G).mono (by simp;omega));have m:Hid (∀ C D F G,Below w.heap.size w ((((J.alloc C).alloc D).alloc F).alloc G)):=fun C D F G=>q.o.trans ((v C D F G).mono q.o.size);clear v;go_wp2_with fail;refine(zm6 _ [a,[0],L] _ (by simp [maxLen]) (fun x I=>by simp at I;rcases I with rfl | rfl | rfl<;>(unfold maxLen;simp;try omega)) (by exact(z9e J a L _ _).below ((yf _ _).drew.drew))).mono ?_;rintro r T ⟨B,y⟩;have t:Hid (Below w.heap.size w T):=((m.o _ _ _ _).drew.drew).trans (y.mono (m.o _ _ _ _).size);rw [show hash [a,[0],L].flatten=hash (a++[0]++L) by simp] at B;subst B;clear y m O;have A:=zjk (a++[0]++L);generalize hash (a++[0]++L)=H at *;go_wp2_with fail;refine(znx H A T).mono ?_;rintro r w6 ⟨rfl,z⟩;have K:Hid (Below w.heap.size w w6):=t.o.trans (z.mono t.o.size);clear z;have N:=zdc H;rw [A] at N;generalize zbn H=M at *;have a7:¬ 9223372036854775807 < L.length+M.length:=by omega
  have a8:¬ 9223372036854775807 < L.length+M.length+1:=by omega
  go_wp2_with fail;go_ret;refine⟨?_,K.o⟩;rw [W.o];exact zh8 (by apply vd;simp)
variable {B B' b db:Nat}{ev v:Value}{ls:za}{w1:World}
theorem yin {e:Bool}{r:Value}(h:zio e B r w)(d:B'≤B):zio e B' r w:=by
 rcases h with h | ⟨h,g,a,b,c⟩
 ·exact .inl h
 ·exact .inr ⟨h,g,a,zu d b,c⟩
theorem yeq (O:Nat→Prop)(b c g j:Nat)(d:Dk)(x:zc)(w:World)(C:d.fs.length≤1000000000)(h:yw w O b d)
 (l:w.cell? ⟨g,0,none⟩=some (.pointer (some ⟨c,0,none⟩))) (m:w.cell? ⟨j,0,none⟩=some (qo x)) (a:w.cell? ⟨c,0,none⟩=some (stV b true)) :
  Calls prog 191 #[.pointer (some ⟨g,0,none⟩),.pointer (some ⟨j,0,none⟩)] w fun r f=>∃ e,r= .returned e∧zio (bad d) w.heap.size e f∧zq O dT w f∧yw f (jz O w f) b (zj4 d cpF x):=by
 have D:=yg l;have H:=yg m;have E:=yg a;unfold stV zdp at a;simp only [if_true] at a;unfold qo at m;have y:∀ o,(w.alloc o).cell? ⟨g,0,none⟩=some (.pointer (some ⟨c,0,none⟩)):=fun o=>by rw [yp _ _ ⟨_,0,none⟩ D];exact l
 have z:∀ o,(w.alloc o).cell? ⟨c,0,none⟩=some (.iface 39 (.pointer (some ⟨b,0,none⟩))):=fun o=>by rw [yp _ _ ⟨_,0,none⟩ E];exact a
 have s:=zf h;clear h;have G:=yc3;have A:=fun F=>zcm (P:=prog) F 9 114 5 ⟨x.toArray⟩ qw underlying114 jt;go_enter func191,ntmps191;go_wp2_with fail
 go_region_with (go_at_call 274;refine(yjt O b d cpF x _ _ C (by exact s.o.stay (O1:=fun _=>False) (T:=[]) ((zq.refl _ _ w).alloc _).drew.drew (by simp) (by simp)) (by exact zjb w x _ (zgs _ _ _ _))).mono ?_;rintro r I ⟨e,rfl,p,q,n⟩;have t:=zf p;have u:=zf q;have i:=zf n;clear p q n)
 all_goals go_wp2
 all_goals go_ret
 all_goals refine⟨_,rfl,yin t.o (by show w.heap.size≤(w.heap.push _).size;simp),((zq.refl O dT w).alloc _).drew.drew.trans (u.o.mono (fun _ h=> .inl h) (fun _ h=>h)),i.o.mono (fun k B=>?_)⟩
 all_goals rcases B with h | ⟨h,v⟩
 all_goals first | exact .inl h | exact .inr ⟨zu (by show w.heap.size≤(w.heap.push _).size;simp) h,v⟩
theorem OBs.bss' (h:OBs w B v ls):Bss w v ls:=by
 obtain⟨z,⟨t,p⟩,r⟩:=h;rcases p with ⟨rfl,h0⟩ | ⟨g,c,d,rfl,s,m,o,u,y,q⟩
 ·exact⟨none,0,by rw [h0],by rw [h0];exact zm _,.inl (j5.1 h0)⟩
 ·refine⟨_,_,rfl,o,.inr ⟨g,0,rfl,fun i b=>?_⟩⟩;obtain⟨x,e,k⟩:=r i b;refine⟨x,?_,?_⟩
  ·rw [xk,yq _ _ _ _ _ _ m];rw [← q,zfj] at e;rw [qj,if_pos b] at e;simpa using e
  ·obtain⟨f,a,rfl,-,-,l⟩:=k.form;exact⟨_,_,rfl,.inr ⟨f,0,rfl,fun j n=>by rw [xk];exact l j n⟩⟩
theorem zwa {l:Lg}(h:w.heap[b]?=some (.cells (zk3 db ev l) 196 (0,0))):(w.cell? ⟨b,0,none⟩=some (stV db l.live)∧w.frozen? ⟨b,0,none⟩=false)∧(w.cell? ⟨b,1,none⟩=some (qo l.key)∧w.frozen? ⟨b,1,none⟩=false)∧(w.cell? ⟨b,2,none⟩=some ev∧w.frozen? ⟨b,2,none⟩=false)∧(w.cell? ⟨b,3,none⟩=some (.int .i64 l.put)∧w.frozen? ⟨b,3,none⟩=false) :=
 ⟨zw h 0 _ rfl,zw h 1 _ rfl,zw h 2 _ rfl,zw h 3 _ rfl⟩
theorem yaf {a:Array Value}(h:w.heap[g]?=some (.cells a t (0,0))):∀ i,w.frozen? ⟨g,i,none⟩=false:=fun i=>by simp [World.frozen?,h]
theorem ynj (w:World)(b a:Obj)(c:Below ((w.alloc b).alloc a).drew.heap.size ((w.alloc b).alloc a).drew w1):w1.heap[w.heap.size+1]?=some a:=by
 have e:((w.alloc b).alloc a).drew.heap[w.heap.size+1]?=some a:=by
  show((w.alloc b).alloc a).heap[w.heap.size+1]?=some a;rw [show w.heap.size+1=(w.alloc b).heap.size by simp];exact zg _ _
 rw [c.block _ (zi e)];exact e
variable {O O' O1:Nat→Prop}{T:List Nat}{cap cap' lb:Nat}{w' w0 w4:World}{xs ys:List Value}
abbrev lT:List Nat:=[196,114]
theorem za9.stay {l:Lg}(h:za9 w O db b l)(d:zq O1 T w w')(g:196∉T)(i:114∉T)(k:5∉T):za9 w' O db b l:=by
 obtain⟨f,a,m,⟨r,p,q⟩,n⟩:=h;refine⟨f,a,d.keep m g,⟨r,zo p d i,fun j o=>?_⟩,n⟩;obtain⟨x,e,c⟩:=q j o;exact⟨x,e,zo c.1 d k,c.2⟩
theorem za9.mono {l:Lg}(h:za9 w O db b l)(d:∀ k,O k→O' k):za9 w O' db b l:=by
 obtain⟨f,a,i,c,j⟩:=h;exact⟨f,d _ a,i,c,fun g e=>d g (j g e)⟩
theorem za9.out {l:Lg}(h:za9 w O db b l)(f:zq O1 T w w')(i:∀ k,O k→¬ O1 k)(o:5∉T):za9 w' O db b l:=by
 obtain⟨n,a,p,⟨t,r,s⟩,m⟩:=h;refine⟨n,a,f.stay p (i b a),⟨t,zdq r f (fun g d=>i g (m g d)),fun j q=>?_⟩,m⟩;obtain⟨x,e,c⟩:=s j q;exact⟨x,e,zo c.1 f o,c.2⟩
theorem yie {es:za}(h:OBs w B v es)(b:zq O T w w')(c:114∉T)(d:5∉T):OBs w' B v es:=by
 obtain⟨k,g,i⟩:=h;refine⟨k,zo g b c,fun j f=>?_⟩;obtain⟨x,e,a⟩:=i j f;exact⟨x,e,zo a.1 b d,a.2⟩
theorem zzm {a:Option Addr}{es:za}(h:OBs w B (.slice a es.length cap) es)(h0:0 < es.length):∃ g,a=some ⟨g,0,none⟩∧∃ b:List Value,w.ownsRow B 114 1 (.slice a es.length cap) es.length b:=by
 obtain⟨b,d,j⟩:=h;rcases d.2 with ⟨e,i⟩ | ⟨g,c,f,e,r⟩
 ·omega
 ·simp at e;exact⟨g,e.1,b,d⟩
theorem yaq {a:Option Addr}{es:za}(h:OBs w B (.slice a es.length cap) es):es.length≤cap:=by
 obtain⟨c,b,e,d,-⟩:=h.bss';simp only [zbw,zxw] at e;omega
theorem z7n {l:Lg}{es b:za}{a:Option Addr}{hv:Nat}
 (F:zq O T w0 w) (J:jz O w0 w lb) (G:∀ g,(Value.slice a es.length cap).ownBlock=some g→jz O w0 w g)
 (m:w.ownsRow 0 114 1 (.slice a es.length cap) es.length xs) (u:∀ j (h:j < es.length),∃ x,xs[j]?=some x∧OB w 0 x es[j])
 (v:∀ j (h:j < b.length),∃ x,ys[j]?=some x∧OB w B x b[j]) (L:hv≤b.length) (M:ys.length=b.length)
 (p:w4.ownsRow 0 114 1 (.slice (some ⟨g,0,none⟩) (es.length+(b.length - hv)) cap') (es.length+(b.length - hv)) (xs++ys.drop hv))
 (k:w.drew.grownBy w4 (Value.slice a es.length cap).ownBlock) (t:(Value.slice a es.length cap).ownBlock=some g∨g=w.heap.size)
 (i:w4.heap[lb]?=some (.cells (zk3 db (.slice a es.length cap) { key:=l.key,es:=es,put:=l.put,live:=l.live }) 196 (0,0))) (y:114∈T:=by decide) (z:196∈T:=by decide) :
  zq O T w0 (w4.setCell ⟨lb,2,none⟩ (.slice (some ⟨g,0,none⟩) (es.length+(b.length - hv)) cap'))∧za9 (w4.setCell ⟨lb,2,none⟩ (.slice (some ⟨g,0,none⟩) (es.length+(b.length - hv)) cap')) (jz O w0 (w4.setCell ⟨lb,2,none⟩ (.slice (some ⟨g,0,none⟩) (es.length+(b.length - hv)) cap'))) db lb { l with es:=es++b.drop hv } ∧
   (∀ d,yw w O db d→yw (w4.setCell ⟨lb,2,none⟩ (.slice (some ⟨g,0,none⟩) (es.length+(b.length - hv)) cap')) O db d)∧zq (fun _=>True) [114,196] w (w4.setCell ⟨lb,2,none⟩ (.slice (some ⟨g,0,none⟩) (es.length+(b.length - hv)) cap')):=by
 have c:zq (fun _=>True) [114] w w4:=(zq.refl _ _ w).drew.grown (w:=w.drew) m k (fun _ _=> .inl trivial) (by decide);have n:zq (fun _=>True) [196] w4 (w4.setCell ⟨lb,2,none⟩ (.slice (some ⟨g,0,none⟩) (es.length+(b.length - hv)) cap')):=(zq.refl _ _ w4).set (.inl trivial) i (by decide) _;have t4:zq O T w0 w4:=F.drew.grown (w:=w.drew) m k G y;have s:w.heap.size≤w4.heap.size:=k.size;have f:jz O w0 w4 lb:=jz.more s _ J;have o:(w4.setCell ⟨lb,2,none⟩ (.slice (some ⟨g,0,none⟩) (es.length+(b.length - hv)) cap')).heap.size=w4.heap.size:=by simp [World.setCell]
 have E:xs.length=es.length:=by rw [m.1,zfj]
 have D:g < w4.heap.size:=by
  rcases p.2 with ⟨e,-⟩ | ⟨I,N,H,e,-,C,-⟩
  ·simp at e
  ·simp at e;rw [e.1];exact zi C
 have A:(es++b.drop hv).length=es.length+(b.length - hv):=by simp
 refine⟨t4.set f i z _,⟨.slice (some ⟨g,0,none⟩) (es.length+(b.length - hv)) cap',?_,zav i 2 _,?_,?_⟩,fun d K=>?_,(c.mono (fun _ h=>h) (by simp)).trans (n.mono (fun _ _=> .inl trivial) (by simp))⟩
 ·exact jz.more (by rw [o];exact zm _) _ f
 ·show OBs _ 0 _ (es++b.drop hv);refine yie ⟨xs++ys.drop hv,by rw [A];exact p,fun j P=>?_⟩ n (by decide) (by decide)
  by_cases r:j < es.length
  ·obtain⟨x,e,q⟩:=u j r;refine⟨x,by rw [qd (by omega)];exact e,?_⟩;rw [List.getElem_append_left r];exact⟨zo q.1 c (by decide),q.2⟩
  ·obtain⟨x,e,q⟩:=v (hv+(j - es.length)) (by omega);refine⟨x,by rw [qi (by omega),E,zeu];exact e,?_⟩;rw [List.getElem_append_right (by omega),zcn];exact(show OB w4 B x _ from ⟨zo q.1 c (by decide),q.2⟩).weaken (yv _)
 ·intro I e;simp only [Value.ownBlock,zr] at e;subst e;rcases t with h | h
  ·exact jz.more (by rw [o];exact s) _ (G _ h)
  ·exact .inr ⟨by have:=F.size;omega,by rw [o];exact D⟩
 ·exact(K.stay c (by decide) (by decide)).stay n (by decide) (by decide)
def Tss (w:World)(v:Value)(d:za):Prop :=
 ∃ a c,v= .slice a d.length c∧d.length≤c∧(d=[]∨∃ b e,a=some ⟨b,e,none⟩∧∀ i (h:i < d.length),w.cell? ⟨b,e+i,none⟩=some (qo d[i]))
theorem Tss.of (h:Sss w v (ls.map tb)):Tss w v ls:=by
 obtain⟨a,c,e,g,d⟩:=h;rw [yi] at e g;refine⟨a,c,e,g,?_⟩;rcases d with h | ⟨b,f,j,d⟩
 ·exact .inl (by simpa using h)
 ·refine .inr ⟨b,f,j,fun i k=>?_⟩;have:=d i (by simpa using k);rw [za4] at this;exact this
theorem Tss.to (h:Tss w v ls):Sss w v (ls.map tb):=by
 obtain⟨a,c,e,j,d⟩:=h;refine⟨a,c,by rw [yi];exact e,by rw [yi];exact j,?_⟩;rcases d with h | ⟨b,f,g,d⟩
 ·exact .inl (by simp [h])
 ·refine .inr ⟨b,f,g,fun i k=>?_⟩;rw [za4];exact d i (by simpa using k)
theorem Tss.below (h:Tss w v ls)(l:Below w.heap.size w w'):Tss w' v ls:=by
 obtain⟨a,c,e,f,h | ⟨b,d,k,j⟩⟩:=h
 ·exact⟨a,c,e,f,.inl h⟩
 ·exact⟨a,c,e,f,.inr ⟨b,d,k,fun i g=>by rw [l.cell (p:=⟨b,_,none⟩) (yg (j i g))];exact j i g⟩⟩
theorem Tss.nil (w:World):Tss w (.slice none 0 0) []:=⟨none,0,rfl,zm _,.inl rfl⟩
theorem Tss.at {a:Option Addr}{n:Nat}(h:Tss w (.slice a n cap) ls):n=ls.length∧ls.length≤cap∧(0 < ls.length→∃ b c,a=some ⟨b,c,none⟩∧∀ i (h:i < ls.length),w.cell? ⟨b,c+i,none⟩=some (qo ls[i])):=by
 obtain⟨j,d,e,f,g⟩:=h;simp only [zbw] at e;obtain⟨rfl,rfl,rfl⟩:=e;refine⟨rfl,f,fun h0=>?_⟩;rcases g with h | h
 ·rw [h] at h0;simp at h0
 ·exact h
variable {k:Nat}{wt:Fs}
theorem Fss.at {a:Option Addr}{n:Nat}{fs:Fs}(h:Fss w (.slice a n cap) fs):n=fs.length∧fs.length≤cap∧(0 < fs.length→∃ b c,a=some ⟨b,c,none⟩∧∀ i (h:i < fs.length),w.cell? ⟨b,c+i*2,none⟩=some (qo fs[i].1)∧w.cell? ⟨b,c+i*2+1,none⟩=some (qo fs[i].2)):=by
 obtain⟨j,d,e,f,g⟩:=h;simp only [zbw] at e;obtain⟨rfl,rfl,rfl⟩:=e;refine⟨rfl,f,fun h0=>?_⟩;rcases g with h | h
 ·rw [h] at h0;simp at h0
 ·exact h
def zvr (b:Fs)(f:zc×zc):Bool:=match je b f.1 with
 | some y=>decide (y≠f.2)
 | none=>false
theorem z6z (b a:Fs)(k:Nat)(h:k < a.length):zfv b (a.take (k+1))=(zfv b (a.take k)||zvr b a[k]):=by
 unfold zfv;rw [zmr a k h,List.any_append];congr 1;rw [List.any_cons,List.any_nil,Bool.or_false]
 rfl
theorem ybr {b:Fs}(h:k < wt.length)(a:zvr b wt[k]=true):zfv b wt=true:=by
 unfold zfv;rw [List.any_eq_true];exact⟨wt[k],yd h,a⟩
theorem ybq (W X:Value)(b a:Fs)(w:World)(hb:b.length≤1000000000)(hw:a.length≤1000000000)(P:Fss w W b)(Q:Fss w X a):
  Calls prog 40 #[W,X] w fun r w'=>r= .returned (.bool (zfv b a))∧Below w.heap.size w w':=by
 have N:=zf P;have Y:=zf Q;obtain⟨a1,c1,rfl,L,-⟩:=P;obtain⟨a2,c2,rfl,M,-⟩:=Q;clear L M;go_enter func40,ntmps40;go_wp2_with fail;go_loopw [5] (fun i wr=>∃ k:Nat,k≤a.length∧i= .int .i64 k∧Below w.heap.size w wr∧zfv b (a.take k)=false) (fun i _=>a.length - (intOf i).toNat)
 case atStart=>exact⟨0,yv _,rfl,yf _ _,rfl⟩
 case round =>
  obtain⟨k,hk,rfl,A,C⟩:=hrel;have d:=zf A;have K:=zf C;clear A C
  by_cases s:k < a.length
  ·have n:=zf (z6z b a k s);have v:Hid (zvr b a[k]=true→zfv b a=true):=ybr s;obtain⟨-,-,h⟩:=Y.o.at;obtain⟨J,S,rfl,F⟩:=h (by omega);obtain⟨G,H⟩:=F k s;obtain⟨⟨p,x⟩,D⟩:∃ f,a[k]=f:=⟨_,rfl⟩;rw [D] at G H n v;unfold qo at G H;have T:wr.cell? ⟨J,S+k*2,none⟩=some (.string ⟨p.toArray⟩):=by rw [d.o.cell (p:=⟨J,_,none⟩) (yg G)];exact G
   have U:wr.cell? ⟨J,S+k*2+1,none⟩=some (.string ⟨x.toArray⟩):=by rw [d.o.cell (p:=⟨J,_,none⟩) (yg H)];exact H
   clear G H D F h;go_wp2_with fail;refine(zck _ b p wr hb (N.o.below d.o)).mono ?_;rintro r w1 ⟨rfl,rfl⟩;have t:Hid (zvr b (p,x)=match je b p with | some y=>decide (y≠x) | none=>false):=rfl;cases e:ixF b p with
   | none =>
    have B:ixI b p=-1:=by unfold ixI;rw [e]
    rw [B];have l:Hid (zfv b (a.take (k+1))=false):=by
     show _=_;rw [n.o,K.o,t.o,(zci e).1]
     rfl
    clear e B;go_wp2_with fail
    go_region
    all_goals
     go_wp2_with fail
     go_round
     case rel=>exact⟨k+1,by omega,by go_num,d.o.drew,l.o⟩
     case measure=>simp [intOf];omega
   | some j =>
    have B:ixI b p=j:=by unfold ixI;rw [e]
    rw [B];obtain⟨hj,-,q,-⟩:=zb8 e;obtain⟨-,-,g⟩:=N.o.at;obtain⟨O,o1,rfl,E⟩:=g (by omega);obtain⟨-,I⟩:=E j hj;obtain⟨y,R⟩:∃ y,b[j].2=y:=⟨_,rfl⟩;rw [R] at I q;unfold qo at I;have V:w1.cell? ⟨O,o1+j*2+1,none⟩=some (.string ⟨y.toArray⟩):=by rw [d.o.cell (p:=⟨O,_,none⟩) (yg I)];exact I
    have u:Hid (zvr b (p,x)=decide (y≠x)):=by
     show _=_;rw [t.o,q]
    clear e B E g I R q;go_wp2_with fail
    go_region
    all_goals
     by_cases c:y=x
     ·have l:Hid (zfv b (a.take (k+1))=false):=by
       show _=_;rw [n.o,K.o,u.o,c];simp
      rw [show(y==x)=true by simpa using c];clear c T U V;go_wp2_with fail
      go_round
      case rel=>exact⟨k+1,by omega,by go_num,d.o.drew,l.o⟩
      case measure=>simp [intOf];omega
     ·have Z:Hid (zfv b a=true):=v.o (by rw [u.o];simpa using c);rw [show(y==x)=false by simpa using c];clear c T U V;go_wp2_with fail;go_ret;exact⟨by rw [Z.o];rfl,d.o.drew⟩
  ·obtain rfl:k=a.length:=by omega
   have m:=K.o;rw [jg] at m;have z:=zf m;clear m;go_wp2_with fail;go_ret;exact⟨by rw [z.o];rfl,d.o⟩
variable {M j:Nat}{fs':Fs}
def ya4 (l:zc):Nat:=l.foldl (fun a c=>a*10+(c.toNat - 48)) 0
theorem ye4 (n:Nat):ya4 (dec n)=n:=by
 induction n using Nat.strongRecOn with
 | ind n a =>
  by_cases h:n < 10
  ·rw [zpk h];unfold ya4;simp only [List.foldl_cons,List.foldl_nil,zlr n h];omega
  ·rw [zmc h];have:=a (n / 10) (by omega);unfold ya4 at this ⊢;rw [z14,this];simp only [List.foldl_cons,List.foldl_nil,zlr (n % 10) (by omega)];omega
def zs2 (c:UInt8):Bool:=decide (48≤c.toNat∧c.toNat≤57)
def ixN (p:zc):Nat:=ya4 ((p.drop 8).takeWhile zs2)
theorem zyg (n:Nat)(r:zc)(e:zzj r):(dec n++r).takeWhile zs2=dec n:=by
 rw [List.takeWhile_append_of_pos (fun a b=>by have h:=zqu n a b;unfold zii at h;simpa [zs2] using h)];have:r.takeWhile zs2=[]:=by
  cases r with
  | nil=>rfl
  | cons c t =>
   have d:zs2 c=false:=by
    have:¬ zii c:=e;simpa [zs2,zii] using this
   simp [List.takeWhile,d]
 rw [this,za3]
theorem zv8 (j w:Nat)(a:1≤w)(b:w≤4):ixN (qq (-1) j w)=j:=by
 rw [zix (by unfold zdh;omega),zmf,xt];unfold ixN;rw [List.drop_left' (show zri.length=8 from rfl),zyg _ _ (z5n _),ye4];simp
theorem z2c (fs:Fs):z9w (je fs) (fs.map fun f=>ixN f.1):=by
 intro j w a b h;obtain⟨d,c⟩:=zjh.1 h;exact yl.2 ⟨_,zrx c,zv8 j w a b⟩
theorem ymp {es:za}{w:Nat}{x:zc}(f:1≤w)(i:w≤4)(h:(qq (-1) j w,x)∈j8 es):4*j < es.length:=by
 obtain⟨l,k,b,c,e⟩:=zei.1 h;unfold zgr at e;simp only [ye] at e;have g:=zme b c
 by_cases d:l=-1
 ·subst d;have a:=congrArg ixN e.1;rw [zv8 j w f i,zv8 k _ (by unfold wid;omega) (by unfold wid;omega)] at a;subst a;simpa [qg] using c
 ·have a:=e.1;rw [zix (by unfold zdh;omega),zix g,zmf,zm7 l d] at a;simp [zri,zj5] at a
theorem z6l {es:za}{fs:Fs}{c:zc}{s:List Nat}(f:z9w (je fs) s)(h0:∀ j,4*j < es.length→j∈s)(w:zk0 (j8 es) c fs fs'):z9w (je fs') s:=by
 intro j d a b h;rcases w (qq (-1) j d) with e | ⟨_,x,g,_⟩ | ⟨e,_⟩
 ·rw [e] at h;exact f j d a b h
 ·exact h0 j (ymp a b g)
 ·exact absurd e zwj
theorem ygw (b:za)(B:Nat)(h:∀ l∈b,l.length≤B):b.flatten.length≤b.length*B:=by
 induction b with
 | nil=>simp
 | cons a r d =>
  have e:=h a (by simp);have f:=d (fun l c=>h l (by simp [c]));rw [zfh,zy,y9,zdg];omega
theorem zys {es:za}(a:∀ e∈es,e.length≤20)(l:Int)(k:Nat):(zad es l k).length≤21:=by
 unfold zad;split
 ·unfold zss;rw [zl];cases e:es[k]? with
  | none=>simp
  | some x =>
   have:=a x (List.mem_of_getElem? e);simp;omega
 ·unfold qm;rw [zbv];omega
theorem yj4 {es:za}(a:∀ e∈es,e.length≤20){q x:zc}(h:(q,x)∈j8 es):x.length≤84:=by
 obtain⟨l,j,c,d,e⟩:=zei.1 h;unfold zgr at e;simp only [ye] at e;rw [e.2];unfold zih;refine zu (ygw _ 21 fun y b=>?_) ?_
 ·obtain⟨k,-,rfl⟩:=yl.1 b;exact zys a l k
 ·rw [yi,List.length_range'];unfold wid;omega
theorem yhn {es:za}{fs:Fs}{c:zc}(g:∀ e∈es,e.length≤20)(k:∀ f∈fs,f.2.length≤M)(i:c.length≤M)(m:84≤M)(h:zff fs')(w:zk0 (j8 es) c fs fs'):∀ f∈fs',f.2.length≤M:=by
 intro f j;have e:=zo5 (p:=f.1) (d:=f.2) h j;rcases w f.1 with a | ⟨_,x,l,a⟩ | ⟨_,a⟩
 ·rw [e] at a;exact k (f.1,f.2) (zrx a.symm)
 ·rw [e] at a;obtain b:f.2=x:=by simpa using a
  have:=yj4 g l;rw [b];omega
 ·rw [e] at a;obtain b:f.2=c:=by simpa using a
  rw [b];exact i
theorem yi2 (d:Dk)(p x:zc):(zgg d p x).fs.length≤d.fs.length+1:=by
 have h:=zpg d.fs p x;have e:=congrArg List.length (jf d);unfold zgg;split<;>(try split)<;>(try split)<;>(try simp only)<;>omega
theorem zzr:∀(t:Fs) (d:Dk) ,(zbo t d).2.fs.length≤d.fs.length+t.length
 | [],d=>by simp [zbo]
 | f::r,d=>by
  have h:=yi2 d f.1 f.2;have a:=zzr r (zgg d f.1 f.2);unfold zbo;split
  ·simp only [y9];omega
  ·simp only [y9];omega
theorem yer (d:Dk)(p x:zc):(zj4 d p x).fs.length≤d.fs.length+1:=by
 have h:=zpg d.fs p x;have e:=congrArg List.length (jf d);unfold zj4;split
 ·simp only;omega
 ·omega
theorem z4s (t:Fs)(c:zc)(d:Dk):(zd4 t c d).2.fs.length≤d.fs.length+t.length+1:=by
 have h:=zzr t d;unfold zd4;generalize zbo t d=r at *;obtain⟨o,d1⟩:=r;have a:=yer d1 cpF c;simp only at h ⊢;cases o with
 | some p=>simp only;omega
 | none =>
  simp only;split<;>(simp only;omega)
theorem zot (f:Nat→Fs)(B L:Nat)(h:∀ k,(f k).length≤B):((List.range L).flatMap f).length≤L*B:=by
 induction L with
 | zero=>simp
 | succ L a =>
  rw [zfe,zim,zy,zdg];have:=h L;simp only [zd9,List.flatMap_nil,za3];omega
theorem zoy (es:za)(l:Int)(j c:Nat):(zox es l j c).length≤(c+3) / 4:=by
 unfold zox;rw [yi,List.length_range'];omega
theorem z3v (es:za)(a:Nat)(l:Int):(zli es a l).length≤(es.length+3) / 4:=by
 unfold zli;split
 ·simp
 ·have:=zoy es l (qg l a / 4) (qg l es.length);have:=zlo l es.length;omega
theorem z5t (es:za)(a:Nat):(zah es a).length≤22*((es.length+3) / 4):=by
 unfold zah z1s;rw [zy];have b:=z3v es a (-1);have c:=zot (fun(k:Nat)=>zli es a (k:Int)) ((es.length+3) / 4) 21 (fun k=>z3v es a _);omega
theorem z9r (es:za):(j8 es).length≤22*((es.length+3) / 4):=by
 unfold j8 zd7;rw [zy];have a:=zoy es (-1) 0 es.length;have b:=zot (fun(k:Nat)=>zox es (k:Int) 0 (es.length / 4 ^ k)) ((es.length+3) / 4) 21 (fun k=>by
  have h:=zoy es (k:Int) 0 (es.length / 4 ^ k);have:=zec es.length (4 ^ k);omega)
 omega
theorem z57 {f:zc×zc}:f∉j8 []:=by
 intro h;obtain⟨l,j,-,h,-⟩:=zei.1 h;simp [qg] at h
theorem yad (n:Nat):∀(c:za) (k:Nat) (h:k < c.length),(∀ l∈c,l.length=n)→(c.flatten.drop (n*k)).take n=c[k]
 | [],k,h,_=>by simp at h
 | a::r,0,_,b=>by
  have e:=b a (by simp);rw [Nat.mul_zero,zvc,zfh,vh (by omega),ja (by omega)]
  rfl
 | a::r,k+1,h,b=>by
  have e:=b a (by simp);rw [zfh,show n*(k+1)=a.length+n*k by rw [e,Nat.mul_add,zfj,zsk],List.drop_append];simp only [zam];rw [List.drop_of_length_le (show a.length≤a.length+n*k by omega),zal,zc1];exact yad n r k (by simpa using h) (fun l d=>b l (by simp [d]))
theorem z98 (es:za)(L j:Nat):(zad es (L:Int) j).length=8:=by
 unfold zad;rw [if_neg (by omega)];exact zbv _ _
theorem yew (es:za)(L j w:Nat)(h:j % 4 < w):((zih es (L:Int) (j / 4) w).drop (8*(j % 4))).take 8=zad es (L:Int) j:=by
 unfold zih;rw [yad 8 _ (j % 4) (by simpa using h) (fun l a=>by
  obtain⟨k,-,rfl⟩:=yl.1 a;exact z98 es L k)]
 rw [za4,List.getElem_range'];congr 1;omega
theorem yjw (es:za)(L j w:Nat):(zih es (L:Int) j w).length=8*w:=by
 have d:∀ b:za,(∀ l∈b,l.length=8)→b.flatten.length=8*b.length:=by
  intro b
  induction b with
  | nil=>simp
  | cons a r e =>
   intro h;rw [zfh,zy,h a (by simp),e (fun l c=>h l (by simp [c])),y9];omega
 unfold zih;rw [d _ (fun l c=>by
  obtain⟨k,-,rfl⟩:=yl.1 c;exact z98 es L k)]
 simp
end Go.Proofs.YtlcllcgngjhoaaaGreatDoor
