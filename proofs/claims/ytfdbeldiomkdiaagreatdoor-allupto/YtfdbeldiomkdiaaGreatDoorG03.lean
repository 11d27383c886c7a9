import Derived.Test.YtfdbeldiomkdiaaGreatDoorG02
import Derived.Lib.BufferWrite
import Derived.Lib.SlBuf
import Derived.Deep.RegionHeld3
set_option maxHeartbeats 8000000
set_option maxRecDepth 100000
set_option linter.all false
namespace Go.Proofs.YtfdbeldiomkdiaaGreatDoor
open Go.RowKit Go.Proofs.Tryz
def zq:=@Nat.lt_of_lt_of_le
def zw:=@List.length_append
def yg:=@List.length_map
def yv:=@List.map_append
def qm:=@List.getElem?_eq_some_iff
def jb:=@List.take_length
def jm:=@Nat.pow_lt_pow_iff_right
def jp:=@Nat.pow_pos
def AZ:=@step_append_lies
def Cw:=@IntKind.wrap_i64
def C9:=@Nat.pow_le_pow_iff_right
def CY:=@beq_iff_eq
def DN:=@wpList_load_row
def DP:=@List.flatten_cons
def Ei:=@Array.length_toList
def JZ:=@Nat.min_eq_left
def KV:=@List.take_take
def NU:=@Nat.add_zero
def yy (l:za):zb:=j7 l.length l
def EX (l:za):(yy l).length=8:=j5 _ _
def Dm:∀(f g:Nat) (l:za),l.length<=f->l.length<=g->j7 f l=j7 g l:=by
 intro f
 induction f with
 |zero =>
  intro g l d _;rw[Dd 0 l (by omega),Dd g l (by omega)]
 |succ f b =>
  intro g l d e
  by_cases h0:l.length=0
  ·rw[Dd _ l h0,Dd _ l h0]
  ·obtain⟨g,rfl⟩:∃c,g=c+1:=⟨g-1,by omega⟩
   by_cases a:l.length=1
   ·rw[Gm f l a,Gm g l a]
   ·obtain⟨h,i,j⟩:=Be l.length (by omega);rw[Ct f l (by omega),Ct g l (by omega),b g (l.take (yo l.length)) (by simp;omega) (by simp;omega),b g (l.drop (yo l.length)) (by simp;omega) (by simp;omega)]
def LQ (l:za)(h:2<=l.length):yy l=vf (yy (l.take (yo l.length))) (yy (l.drop (yo l.length))):=by
 obtain⟨b,c,d⟩:=Be l.length h;unfold yy;obtain⟨f,a⟩:∃f,l.length=f+1:=⟨l.length-1,by omega⟩;rw[a,Ct f l h,<- a];rw[Dm f (l.take (yo l.length)).length (l.take (yo l.length)) (by simp;omega) (zk _),Dm f (l.drop (yo l.length)).length (l.drop (yo l.length)) (by simp;omega) (zk _)]
def Nr (p:Nat):yo (2^(p+1))=2^p:=by
 obtain⟨c,d,e⟩:=Be (2^(p+1)) (by rw[xp];have:0<2^p:=jp (by omega);omega);unfold yo at *;generalize (2^(p+1)-1).log2=q at *;have a:=(jm (by omega:1<2)).1 c;have b:p+1<=q+1:=(C9 (by omega:1<2)).1 (by rw[xp 2 q];omega);congr 1;omega
def zdt (e:zb):yy [e]=AH e:=rfl
def CC (a:za)(s:Nat×Nat):za:=(a.drop s.1).take s.2
def EA (b:za)(a n:Nat)(h:a+n<=b.length):(CC b (a,n)).length=n:=by simp[CC];omega
def IC (b:za)(a n k:Nat)(h:k<=n):(CC b (a,n)).take k=CC b (a,k):=by
 simp only[CC,KV];congr 1;omega
def IA (b:za)(a n k:Nat):(CC b (a,n)).drop k=CC b (a+k,n-k):=by
 simp only[CC,List.drop_take,List.drop_drop]
def zab (a:za):CC a (0,a.length)=a:=by simp[CC]
def AD:Nat->Nat->Nat->Nat->List (Nat×Nat)
 |0,_,_,_=>[]
 |f+1,a,n,i =>
  if n<=1 then []
  else if i<a+yo n then AD f a (yo n) i++[(a+yo n,n-yo n)]
  else AD f (a+yo n) (n-yo n) i++[(a,yo n)]
def AB:Nat->Nat->Nat->Nat->Bool->List (Nat×Nat)
 |0,m,a,n,b=>if m=a+n then (if b=true then [] else [(a,n)]) else []
 |f+1,m,a,n,b =>
  if m=a+n then (if b=true then [] else [(a,n)])
  else if m<=a+yo n then AB f m a (yo n) b++[(a+yo n,n-yo n)]
  else AB f m (a+yo n) (n-yo n) false++[(a,yo n)]
def Gk (f a n i:Nat)(h:n<=1):AD f a n i=[]:=by
 cases f with
 |zero=>rfl
 |succ f=>rw[AD,if_pos h]
def Ez (f a n i:Nat)(h:2<=n)(b:i<a+yo n):AD (f+1) a n i=AD f a (yo n) i++[(a+yo n,n-yo n)]:=by
 rw[AD,if_neg (by omega),if_pos b]
def D7 (f a n i:Nat)(h:2<=n)(b:¬i<a+yo n):AD (f+1) a n i=AD f (a+yo n) (n-yo n) i++[(a,yo n)]:=by
 rw[AD,if_neg (by omega),if_neg b]
def Dz (f m a n:Nat)(b:Bool)(h:m=a+n):AB f m a n b=if b=true then [] else [(a,n)]:=by
 cases f with
 |zero=>rw[AB,if_pos h]
 |succ f=>rw[AB,if_pos h]
def Ew (f m a n:Nat)(b:Bool)(h:m≠a+n)(c:m<=a+yo n):AB (f+1) m a n b=AB f m a (yo n) b++[(a+yo n,n-yo n)]:=by
 rw[AB,if_neg h,if_pos c]
def Ex (f m a n:Nat)(b:Bool)(h:m≠a+n)(c:¬m<=a+yo n):AB (f+1) m a n b=AB f m (a+yo n) (n-yo n) false++[(a,yo n)]:=by
 rw[AB,if_neg h,if_neg c]
def C4 (f:Nat):∀a n i,(AD f a n i).length<=f:=by
 induction f with
 |zero=>intro a n i;simp[AD]
 |succ f c =>
  intro a n i
  by_cases h:n<=1
  ·rw[Gk _ _ _ _ h];simp
  by_cases b:i<a+yo n
  ·rw[Ez f a n i (by omega) b];have:=c a (yo n) i;simp;omega
  ·rw[D7 f a n i (by omega) b];have:=c (a+yo n) (n-yo n) i;simp;omega
def Ci (f:Nat):∀m a n b,(AB f m a n b).length<=f+1:=by
 induction f with
 |zero =>
  intro m a n b
  by_cases h:m=a+n
  ·rw[Dz _ _ _ _ _ h];split<;>simp
  ·rw[AB,if_neg h];simp
 |succ f d =>
  intro m a n b
  by_cases h:m=a+n
  ·rw[Dz _ _ _ _ _ h];split<;>simp
  by_cases c:m<=a+yo n
  ·rw[Ew f m a n b h c];have:=d m a (yo n) b;simp;omega
  ·rw[Ex f m a n b h c];have:=d m (a+yo n) (n-yo n) false;simp;omega
def Bo (n f:Nat)(a:2<=n)(h:n<=2^(f+1)):yo n<=2^f/\n-yo n<=2^f/\1<=yo n/\1<=n-yo n/\yo n<n/\n<=2*yo n:=by
 obtain⟨b,d,e⟩:=Be n a;have c:yo n<=2^f:=by
  unfold yo at *;refine j2 (by omega) ?_;have:=(jm (by omega:1<2)).1 (zq b h);omega
 omega
def Pm (b:za):∀(f g a n i:Nat),n<=2^f->n<=g->a+n<=b.length->a<=i->i<a+n->C1 g (CC b (a,n)) (i-a)=(AD f a n i).map (λs=>yy (CC b s)):=by
 intro f
 induction f with
 |zero =>
  intro g a n i h r j k q;have c:=EA b a n j;have d:n<=1:=by simpa using h
  rw[Gj _ _ _ (by omega)];rfl
 |succ f l =>
  intro g a n i h r j k q;have c:=EA b a n j
  by_cases d:n<=1
  ·rw[Gj _ _ _ (by omega),Gk _ _ _ _ d];rfl
  obtain⟨g,rfl⟩:∃p,g=p+1:=⟨g-1,by omega⟩;obtain⟨m,o,t,u,v,w⟩:=Bo n f (by omega) h;have x:=EA b a (yo n) (by omega);have y:=EA b (a+yo n) (n-yo n) (by omega)
  by_cases e:i<a+yo n
  ·rw[Ez f a n i (by omega) e,Gi g _ _ (by omega) (by rw[c];omega),c,IC b a n _ (by omega),IA,l g a (yo n) i m (by omega) (by omega) k e,yv];congr 2;exact Dm _ _ _ (by omega) (zk _)
  ·rw[D7 f a n i (by omega) e,Ft g _ _ (by omega) (by rw[c];omega),c,IC b a n _ (by omega),IA,show i-a-yo n=i-(a+yo n) by omega,l g (a+yo n) (n-yo n) i o (by omega) (by omega) (by omega) (by omega),yv];congr 2;exact Dm _ _ _ (by omega) (zk _)
def Pk (c:za):∀(f g m a n:Nat) (b:Bool),n<=2^f->n<=g->a+n<=c.length->a<m->m<=a+n->EI g (m-a) (CC c (a,n)) b=(AB f m a n b).map (λs=>yy (CC c s)):=by
 intro f
 induction f with
 |zero =>
  intro g m a n b h t j l r;have d:=EA c a n j;have u:n<=1:=by simpa using h
  obtain⟨g,rfl⟩:∃e,g=e+1:=⟨g-1,by omega⟩;rw[Dz 0 m a n b (by omega),show m-a=(CC c (a,n)).length by omega];cases b with
  |true=>rw[Fe];rfl
  |false=>rw[I2];simp[yy];exact Dm _ _ _ (by omega) (zk _)
 |succ f o =>
  intro g m a n b h t j l r;have d:=EA c a n j;obtain⟨g,rfl⟩:∃e,g=e+1:=⟨g-1,by omega⟩
  by_cases k:m=a+n
  ·rw[Dz _ m a n b k,show m-a=(CC c (a,n)).length by omega];cases b with
   |true=>rw[Fe];rfl
   |false=>rw[I2];simp[yy];exact Dm _ _ _ (by omega) (zk _)
  obtain⟨p,q,v,w,x,y⟩:=Bo n f (by omega) h;have z:=EA c a (yo n) (by omega);have A:=EA c (a+yo n) (n-yo n) (by omega)
  by_cases i:m<=a+yo n
  ·rw[Ew f m a n b k i,Ib g _ _ _ (by omega) (by rw[d];omega),d,IC c a n _ (by omega),IA,o g m a (yo n) b p (by omega) (by omega) l i,yv];congr 2;exact Dm _ _ _ (by omega) (zk _)
  ·rw[Ex f m a n b k i,Gl g _ _ _ (by omega) (by rw[d];omega),d,IC c a n _ (by omega),IA,show m-a-yo n=m-(a+yo n) by omega,o g m (a+yo n) (n-yo n) false q (by omega) (by omega) (by omega) (by omega),yv];congr 2;exact Dm _ _ _ (by omega) (zk _)
def e8 (l:zb):zb:=l.take 8++List.replicate (8-l.length) 0
def CB (l:zb):(e8 l).length=8:=by simp[e8];omega
def jh:zb:=[0,0,0,0,0,0,0,0]
def zf3 (l:zb):((#[Value.int IntKind.u8 0,Value.int IntKind.u8 0,Value.int IntKind.u8 0,Value.int IntKind.u8 0,Value.int IntKind.u8 0,Value.int IntKind.u8 0,Value.int IntKind.u8 0,Value.int IntKind.u8 0]:Array Value).toList.take 0++(l.take (Nat.min l.length 8)).map bv++(#[Value.int IntKind.u8 0,Value.int IntKind.u8 0,Value.int IntKind.u8 0,Value.int IntKind.u8 0,Value.int IntKind.u8 0,Value.int IntKind.u8 0,Value.int IntKind.u8 0,Value.int IntKind.u8 0]:Array Value).toList.drop (0+Nat.min l.length 8)).toArray=hv (e8 l):=by
 have c:(#[Value.int IntKind.u8 0,Value.int IntKind.u8 0,Value.int IntKind.u8 0,Value.int IntKind.u8 0,Value.int IntKind.u8 0,Value.int IntKind.u8 0,Value.int IntKind.u8 0,Value.int IntKind.u8 0]:Array Value).toList=List.replicate 8 (bv 0):=rfl;rw[c];have a:l.take (Nat.min l.length 8)=l.take 8:=by
  rcases Nat.le_total l.length 8 with h|h
  ·rw[show Nat.min l.length 8=l.length from JZ h,jb,xn h]
  ·rw[show Nat.min l.length 8=8 from Nat.min_eq_right h]
 have b:8-(0+Nat.min l.length 8)=8-l.length:=by
  have:Nat.min l.length 8=min l.length 8:=rfl;omega
 rw[a,List.drop_replicate,b];simp[hv,e8]
def zmg (w:World)(m:TypeId)(g d:Nat)(s:ByteArray)(t:TypeId)(j:w.heap[g]?=some (.cells #[Value.int IntKind.u8 0,Value.int IntKind.u8 0,Value.int IntKind.u8 0,Value.int IntKind.u8 0,Value.int IntKind.u8 0,Value.int IntKind.u8 0,Value.int IntKind.u8 0,Value.int IntKind.u8 0] t (0,0))):
  ∃v,(Builtin.copy_ #[94,9] m #[.slice (some ⟨g,0,none⟩) 8 d,.string s]).run prog w=.ok v (w.setRow g (hv (e8 s.data.toList))):=by
 have k:(prog.info? 5).map (·.size)=some 1:=by kernel_rfl
 have l:=underlying94;have e:s.size=s.data.toList.length:=by simp
 have c:((s.data.toList.take (Nat.min s.data.toList.length 8)).map bv).length=Nat.min s.data.toList.length 8:=by
  simp
 have a:=run_storeCells_at prog g 0 t ((s.data.toList.take (Nat.min s.data.toList.length 8)).map bv) 0 _ w j (by rw[c];have:Nat.min s.data.toList.length 8<=8:=Nat.min_le_right _ _;simpa using this) (λv hv=>by simp only[yi]at hv;obtain⟨b,_,rfl⟩:=hv;rfl);rw[c]at a;simp only[NU]at a;rw[zf3]at a;have f:List.take (Nat.min s.data.toList.length 8) (List.map (λb:UInt8=>Value.int IntKind.u8 (b.toNat:Int)) s.data.toList)=(s.data.toList.take (Nat.min s.data.toList.length 8)).map bv:=by
  rw[List.map_take];rfl
 cases h:prog.info? 5 with
 |none=>simp[h]at k
 |some i =>
  refine⟨goInt (Nat.min s.size 8),?_⟩;simp only[Builtin.copy_];simp[Cj l,Builtin.lenOf,Builtin.firstCells,sizeOf,typeInfo,h];rw[e,f,a]
  rfl
def FZ (s:ByteArray)(w:World):
  Calls prog 25 #[.string s] w λr c=>r=.returned (AL (e8 s.data.toList))/\zc w c:=by
 have a:∀w,(Instr.makeSlice 94 (.int .i64 8) (.int .i64 8)).run prog w=.ok (.slice (some ⟨w.heap.size,0,none⟩) 8 8) (w.alloc (.cells #[Value.int IntKind.u8 0,Value.int IntKind.u8 0,Value.int IntKind.u8 0,Value.int IntKind.u8 0,Value.int IntKind.u8 0,Value.int IntKind.u8 0,Value.int IntKind.u8 0,Value.int IntKind.u8 0] 5)):=λ_=>by kernel_rfl
 obtain⟨v,b⟩:=zmg (w.alloc (.cells #[Value.int IntKind.u8 0,Value.int IntKind.u8 0,Value.int IntKind.u8 0,Value.int IntKind.u8 0,Value.int IntKind.u8 0,Value.int IntKind.u8 0,Value.int IntKind.u8 0,Value.int IntKind.u8 0] 5)) 3 w.heap.size 8 s 5 (zf _ _);rw[jr]at b;go_enter func25,ntmps25;go_wp2_with fail;rw[G2 (w.alloc (.cells (hv (e8 s.data.toList)) 5)) w.heap.size 8 8 (e8 s.data.toList) _ _ (CB _) (zf _ _)]
 go_wp2
 go_ret;exact⟨rfl,zi _ _⟩
def JF (s:ByteArray)(w:World):
  Calls prog 70 #[.string s] w λr h=>r=.returned (.agg (hv (e8 s.data.toList)))/\zc w h:=by
 obtain⟨v,g⟩:=zmg ((w.alloc (.cells #[Value.int IntKind.u8 0,Value.int IntKind.u8 0,Value.int IntKind.u8 0,Value.int IntKind.u8 0,Value.int IntKind.u8 0,Value.int IntKind.u8 0,Value.int IntKind.u8 0,Value.int IntKind.u8 0] 91)).alloc (.cells #[Value.int IntKind.u8 0,Value.int IntKind.u8 0,Value.int IntKind.u8 0,Value.int IntKind.u8 0,Value.int IntKind.u8 0,Value.int IntKind.u8 0,Value.int IntKind.u8 0,Value.int IntKind.u8 0] 91)) 3 (w.alloc (.cells #[Value.int IntKind.u8 0,Value.int IntKind.u8 0,Value.int IntKind.u8 0,Value.int IntKind.u8 0,Value.int IntKind.u8 0,Value.int IntKind.u8 0,Value.int IntKind.u8 0,Value.int IntKind.u8 0] 91)).heap.size 8 s 91 (zf _ _);rw[jr,Ze]at g;have f:=BU (e8 s.data.toList);rw[CB]at f;have d:=ze f;clear f;have c:((w.alloc (.cells #[Value.int IntKind.u8 0,Value.int IntKind.u8 0,Value.int IntKind.u8 0,Value.int IntKind.u8 0,Value.int IntKind.u8 0,Value.int IntKind.u8 0,Value.int IntKind.u8 0,Value.int IntKind.u8 0] 91)).alloc (.cells (hv (e8 s.data.toList)) 91)).heap[w.heap.size+1]?=some (.cells (hv (e8 s.data.toList)) 91 (0,0)):=by
  rw[show w.heap.size+1=(w.alloc (.cells #[Value.int IntKind.u8 0,Value.int IntKind.u8 0,Value.int IntKind.u8 0,Value.int IntKind.u8 0,Value.int IntKind.u8 0,Value.int IntKind.u8 0,Value.int IntKind.u8 0,Value.int IntKind.u8 0] 91)).heap.size by simp];exact zf _ _
 have b:((w.alloc (.cells #[Value.int IntKind.u8 0,Value.int IntKind.u8 0,Value.int IntKind.u8 0,Value.int IntKind.u8 0,Value.int IntKind.u8 0,Value.int IntKind.u8 0,Value.int IntKind.u8 0,Value.int IntKind.u8 0] 91)).alloc (.cells (hv (e8 s.data.toList)) 91)).heap[w.heap.size]?=some (.cells #[Value.int IntKind.u8 0,Value.int IntKind.u8 0,Value.int IntKind.u8 0,Value.int IntKind.u8 0,Value.int IntKind.u8 0,Value.int IntKind.u8 0,Value.int IntKind.u8 0,Value.int IntKind.u8 0] 91 (0,0)):=zr (zf _ _);have e:=ze c;have a:=ze b;clear b c;go_enter func70,ntmps70;go_wp2_with (first
  |(refine DN rfl 91 _ rfl (w.heap.size+1) rfl 91 _ (0,0) _ e.o underlying91 rfl (by rw[d.o];kernel_rfl) ?_)
  |(refine yw rfl 91 _ _ rfl w.heap.size (hv (e8 s.data.toList)) rfl rfl 91 _ a.o (by rw[d.o];kernel_rfl) (by rw[d.o];rfl) (Cr _) ?_))
 refine zv (v:=.agg (hv (e8 s.data.toList))) (Ca results70 _ _ w.heap.size 91 _ (0,0) _ rfl (Av _ _ _ _ _ _ a.o) underlying91 rfl (by rw[d.o];kernel_rfl)) rfl ⟨rfl,?_⟩;exact Ag (qg _ _ _) (zk _) _
variable {B o:Nat}{ps:za}{ts:List ByteArray}{v:Value}{w w':World}
def c8 (s:ByteArray):ByteArray:=⟨(e8 s.data.toList).toArray⟩
def c8v (s:ByteArray):Value:=.string (c8 s)
def Hf:(prog.info? 9).map (λi=>(i.zero,i.size,i.bytes))=some (some (.string ⟨#[]⟩),1,16):=by kernel_rfl
def Q9:(prog.info? 91).map (λi=>(i.zero,i.size,i.bytes))=some (some (.agg (hv jh)),8,8):=by kernel_rfl
def CT.aI (h:w.ownsRow B 9 1 v ts.length (ts.map Value.string)):CT w v ts:=by
 rcases h.2 with ⟨rfl,h0⟩|⟨g,c,a,rfl,k,d,f,l,m,j⟩
 ·exact⟨none,0,by rw[h0],by rw[h0];exact zk _,.inl (vw.1 h0)⟩
 ·refine⟨_,_,rfl,f,.inr ⟨g,0,rfl,λi b=>?_⟩⟩;rw[xk,xe _ _ _ _ _ _ d];have e:(a.toList.take (ts.length*1))[i]?=some (.string ts[i]):=by rw[j];simp[b]
  rw[Ba,qi,if_pos b]at e;simpa using e
def Qw (v:Value)(c:List ByteArray)(w:World)(hn:c.length<=1000000)(h:CT w v c):
  Calls prog 26 #[v] w λr T=>∃x,r=.returned x/\zc w T/\CT T x (c.map c8):=by
 obtain⟨i,Q,z⟩:=zx.1 Hf;obtain⟨D,E,F⟩:i.zero=some (.string ⟨#[]⟩)/\i.size=1/\i.bytes=16:=by simpa using z
 clear z;have U:=ze Q;have L:=ze (And.intro D (And.intro E F));clear Q D E F;obtain⟨a,Y,rfl,y,P⟩:=h;have V:Hid (c.length=0\/∃b n,a=some ⟨b,n,none⟩/\∀i (h:i<c.length),w.cell? ⟨b,n+i,none⟩=some (.string c[i])):=by
  rcases P with h|h
  ·exact .inl (by simp[h])
  ·exact .inr h
 clear P y;go_enter func26,ntmps26
 go_wp2
 go_loopw [3,4] (λt i wr=>∃k:Nat,k<=c.length/\i=.int .i64 k/\zc w wr/\wr.ownsRow w.heap.size 9 1 t k ((c.take k).map c8v)) (λ_ i _=>c.length-(intOf i).toNat)
 case atStart=>exact⟨0,yk _,rfl,zu _ _,⟨rfl,.inl ⟨rfl,rfl⟩⟩⟩
 case round =>
  obtain⟨k,hk,rfl,u,d⟩:=hrel;have G:=ze u;have I:=ze d;clear u d
  by_cases A:k<c.length
  ·rcases V.o with h0|⟨b,n,rfl,f⟩
   ·omega
   have S:=f k A;rw[<- G.o.cell (yf (p:=⟨b,n+k,none⟩) S)]at S;clear f;have R:(c.take (k+1)).map c8v=(c.take k).map c8v++[c8v c[k]]:=by rw[yz A,yv];rfl
   have W:=ze R;clear R;generalize c[k]=s at *;go_wp2_with fail;refine(FZ s _).mono ?_;rintro r q ⟨rfl,m⟩;have l:=ze (G.o.trans (m.mono G.o.size));have J:Hid (∀o,(q.alloc o).ownsRow w.heap.size 9 1 u3 k ((c.take k).map c8v)):=λo=>yx I.o (m.trans ((zi q o).mono m.size));have N:Hid (w.heap.size<=q.heap.size):=l.o.size;clear m;have X:Hid (AL (e8 s.data.toList)=c8v s):=rfl;rw[X.o];unfold c8v;go_wp2_with (at_builtin;refine jf _ rfl _ _ _ rfl w.heap.size 9 i (.string ⟨#[]⟩) 1 16 underlying22 U.o L.o.1 L.o.2.1 L.o.2.2 rfl (by omega) u3 k _ rfl (J.o _) ⟨q.heap.size,0,none⟩ 1 1 [.string (c8 s)] rfl rfl (xm (zf _ _)) (by simp[Value.oneCell']) (by omega) (by unfold maxLen;omega) (by omega) (by have:=N.out;simp;omega) (q.heap.size+1) (by simp) ?_;intro g O Z d j M C);have H:Hid (zc w Z):=((l.o.trans ((zi q _).mono l.o.size)).grown j (by have:=l.o.size;simp;omega) (vg I.o));have K:=ze d;clear j M C d
   go_wp2
   go_roundw
   case rel=>exact⟨k+1,by omega,by go_num,H.o,by rw[W.o];exact K.o⟩
   case measure=>simp[intOf];omega
  ·go_wp2
   go_ret;refine⟨_,rfl,G.o,?_⟩;have:=I.o;rw[xn (by omega)]at this;refine CT.aI (B:=w.heap.size) ?_;have e:(c.map c8).map Value.string=c.map c8v:=by simp[c8v]
   rw[e,yg,show c.length=k by omega];exact this
def ON (w:World)(v:Value)(c:za):Prop:=
 ∃a d,v=.slice a c.length d/\c.length<=d/\(∀p∈c,p.length=8)/\(c=[]\/∃b e,a=some ⟨b,e,none⟩/\∀i (h:i<c.length),w.rangeAt b (e+i*8) (hv c[i]).toList)
def ES {b:Nat}{a:List Value}(h:w.rangeAt b o a)(c:zc w w'):w'.rangeAt b o a:=λj v hv=>by
 have:=h j v hv;rw[c.cell (yf (p:=⟨b,o+j,none⟩) this)];exact this
def ON.below (h:ON w v ps)(g:zc w w'):ON w' v ps:=by
 obtain⟨a,d,rfl,c,f,h⟩:=h;refine⟨a,d,rfl,c,f,?_⟩;rcases h with h|⟨b,e,rfl,j⟩
 ·exact .inl h
 ·exact .inr ⟨b,e,rfl,λi k=>ES (j i k) g⟩
def IM (a:za):List Value:=(a.map λp=>(hv p).toList).flatten
def ZK (a:za)(h:∀p∈a,p.length=8)(i j:Nat)(d:i<a.length)(k:j<8):(IM a)[i*8+j]?=(hv a[i]).toList[j]?:=by
 induction a generalizing i with
 |nil=>simp at d
 |cons p a g =>
  have e:=h p (by simp);have b:(hv p).toList.length=8:=by rw[Ei,BU,e]
  cases i with
  |zero =>
   simp only[IM,j4,DP];rw[qh (by rw[b];omega)];simp
  |succ i =>
   have c:=g (λq f=>h q (by simp[f])) i (by simpa using d);simp only[IM,j4,DP]at c ⊢;rw[qq (by rw[b];omega),b,show(i+1)*8+j-8=i*8+j by omega,c];simp
def ON.aI (a:∀p∈ps,p.length=8)(h:w.ownsRow B 91 8 v ps.length (IM ps)):ON w v ps:=by
 rcases h.2 with ⟨rfl,h0⟩|⟨g,c,d,rfl,n,f,l,o,q,m⟩
 ·exact⟨none,0,by rw[h0],by rw[h0];exact zk _,a,.inl (vw.1 h0)⟩
 ·refine⟨_,_,rfl,l,a,.inr ⟨g,0,rfl,λi b=>?_⟩⟩;intro j v hv;have k:j<8:=by
   have:=(qm.1 hv).1;rw[Ei,BU,a _ (ye b)]at this;exact this
  rw[xk,xe _ _ _ _ _ _ f];have e:=ZK ps a i j b k;rw[hv,<- m,qi,if_pos (by omega)]at e;simpa using e
def Q6 (v:Value)(d:List ByteArray)(w:World)(hn:d.length<=1000000)(h:CT w v d):
  Calls prog 71 #[v] w λr V=>∃x,r=.returned x/\zc w V/\ON V x (d.map λs=>e8 s.data.toList):=by
 obtain⟨i,R,y⟩:=zx.1 Q9;obtain⟨D,E,F⟩:i.zero=some (.agg (hv jh))/\i.size=8/\i.bytes=8:=by simpa using y
 clear y;have X:=ze R;have L:=ze (And.intro D (And.intro E F));clear R D E F;obtain⟨a,aa,rfl,u,Q⟩:=h;have Y:Hid (d.length=0\/∃b m,a=some ⟨b,m,none⟩/\∀i (h:i<d.length),w.cell? ⟨b,m+i,none⟩=some (.string d[i])):=by
  rcases Q with h|h
  ·exact .inl (by simp[h])
  ·exact .inr h
 clear Q u;go_enter func71,ntmps71
 go_wp2
 go_loopw [3,8] (λt i wr=>∃k:Nat,k<=d.length/\i=.int .i64 k/\zc w wr/\wr.ownsRow w.heap.size 91 8 t k (IM ((d.take k).map λs=>e8 s.data.toList))) (λ_ i _=>d.length-(intOf i).toNat)
 case atStart=>exact⟨0,yk _,rfl,zu _ _,⟨rfl,.inl ⟨rfl,rfl⟩⟩⟩
 case round =>
  obtain⟨k,hk,rfl,q,c⟩:=hrel;have G:=ze q;have I:=ze c;clear q c
  by_cases z:k<d.length
  ·rcases Y.o with h0|⟨b,m,rfl,e⟩
   ·omega
   have U:=e k z;rw[<- G.o.cell (yf (p:=⟨b,m+k,none⟩) U)]at U;clear e;have T:IM ((d.take (k+1)).map λs=>e8 s.data.toList)=IM ((d.take k).map λs=>e8 s.data.toList)++(hv (e8 d[k].data.toList)).toList:=by
    rw[yz z,yv];simp[IM]
   have Z:=ze T;clear T;obtain⟨x0,x1,x2,x3,x4,x5,x6,x7,C⟩:=MB (e8 d[k].data.toList) (CB _);have O:=ze C;clear C;generalize d[k]=s at *;generalize IM ((d.take k).map λs=>e8 s.data.toList)=W at *;go_wp2_with fail;refine(JF s _).mono ?_;rintro r n ⟨S,l⟩;rw[O.o]at S;subst S;have j:=ze (G.o.trans (l.mono G.o.size));have J:Hid (∀o,(n.alloc o).ownsRow w.heap.size 91 8 u3 k W):=λo=>yx I.o (l.trans ((zi n o).mono l.size));have N:Hid (w.heap.size<=n.heap.size):=j.o.size;clear l;go_wp2_with (at_builtin;refine jf _ rfl _ _ _ rfl w.heap.size 91 i (.agg (hv jh)) 8 8 underlying98 X.o L.o.1 L.o.2.1 L.o.2.2 rfl (by omega) u3 k W rfl (J.o _) ⟨n.heap.size,0,none⟩ 1 1 [.int .u8 x0,.int .u8 x1,.int .u8 x2,.int .u8 x3,.int .u8 x4,.int .u8 x5,.int .u8 x6,.int .u8 x7] rfl rfl (xm (zf _ _)) (by simp[Value.oneCell']) (by omega) (by unfold maxLen;omega) (by omega) (by have:=N.out;simp;omega) (n.heap.size+1) (by simp) ?_;intro g P w2 c f M A);have H:Hid (zc w w2):=((j.o.trans ((zi n _).mono j.o.size)).grown f (by have:=j.o.size;simp;omega) (vg I.o));have K:=ze c;clear f M A c
   go_wp2
   go_roundw
   case rel=>exact⟨k+1,by omega,by go_num,H.o,by rw[Z.o,O.o];exact K.o⟩
   case measure=>simp[intOf];omega
  ·go_wp2
   go_ret;refine⟨_,rfl,G.o,?_⟩;have:=I.o;rw[xn (by omega)]at this;refine ON.aI (B:=w.heap.size) (λp hp=>by obtain⟨s,_,rfl⟩:=yi.1 hp;exact CB _) ?_;rw[yg,show d.length=k by omega];exact this
variable {B':Nat}{e t:TypeId}{wc:World}{x:Value}{y:Int}
def NS (a:List (Nat×Nat)):List Value:=a.flatMap λs=>[.int .i64 (s.1:Int),.int .i64 (s.2:Int)]
def zi3 (a:List (Nat×Nat))(s:Nat×Nat):NS (a++[s])=NS a++[.int .i64 (s.1:Int),.int .i64 (s.2:Int)]:=by simp[NS]
def F1 (B:Nat)(w:World)(x:Value)(a:List (Nat×Nat)):Prop:=w.ownsRow B 175 2 x a.length (NS a)
def BY {b:Nat}{c:Array Value}{x:Nat×Nat}(h:w.heap[b]?=some (.cells c t x))(i:Nat)(v:Value)(hv:c[i]?=some v):w.cell? ⟨b,i,none⟩=some v:=by
 simp[World.cell?,h,hv]
def Wb:(prog.info? 175).map (λi=>(i.zero,i.size,i.bytes))=some (some (.agg #[.int .i64 0,.int .i64 0]),2,16):=by kernel_rfl
def Nk (a n:Nat)(w:World)(h:a+n<=9223372036854775807):
  Calls prog 155 #[.agg #[.int .i64 a,.int .i64 n]] w λr b=>r=.returned (.int .i64 ((a:Int)+(n:Int)))/\zc w b:=by
 have c:(0:Int)<=(a:Int):=by omega
 have d:(0:Int)<=(n:Int):=by omega
 have e:(a:Int)+(n:Int)<=9223372036854775807:=by omega
 go_enter func155,ntmps155
 go_wp2
 go_ret;exact⟨rfl,(zu _ _).alloc (zk _) _⟩
def MH (a n:Nat)(w:World)(h:a+n<=9223372036854775807)(f:2<=n):
  Calls prog 156 #[.agg #[.int .i64 a,.int .i64 n]] w λr c=>r=.returned (.tuple #[.agg #[.int .i64 a,.int .i64 (yo n:Int)],.agg #[.int .i64 ((a:Int)+(yo n:Int)),.int .i64 ((n:Int)-(yo n:Int))]])/\zc w c:=by
 obtain⟨t,u,x⟩:=Be n f;have b:=Mi n (((w.alloc (.cells #[.int .i64 a,.int .i64 n] 175)).alloc (.cells #[.int .i64 0,.int .i64 0] 175)).alloc (.cells #[.int .i64 0,.int .i64 0] 175)) f (by omega);have g:=ze b;clear b;generalize yo n=k at *;have l:(0:Int)<=(a:Int):=by omega
 have m:(a:Int)+(k:Int)<=9223372036854775807:=by omega
 have p:(k:Int)<=(n:Int):=by omega
 have q:(n:Int)<=9223372036854775807:=by omega
 have s:(1:Int)<=(k:Int):=by omega
 go_enter func156,ntmps156;go_wp2_with fail;refine g.o.mono ?_;rintro e c ⟨rfl,rfl⟩;have i:IntKind.i64.wrap ((a:Int)+(k:Int))=(a:Int)+(k:Int):=by rw[Cw];omega
 have j:IntKind.i64.wrap ((n:Int)-(k:Int))=(n:Int)-(k:Int):=by rw[Cw];omega
 have d:(((w.alloc (.cells #[.int .i64 a,.int .i64 n] 175)).alloc (.cells #[.int .i64 0,.int .i64 0] 175)).alloc (.cells #[.int .i64 0,.int .i64 0] 175)).heap[w.heap.size]?=some (.cells #[.int .i64 a,.int .i64 n] 175):=zr (zr (zf _ _));have y:=BY d 0 _ rfl;have z:=BY d 1 _ rfl;clear d
 go_wp2
 go_region_held3 (λc=>c.cell? ⟨w.heap.size,0,none⟩=some (.int .i64 a)/\c.cell? ⟨w.heap.size,1,none⟩=some (.int .i64 n)) (go_keep) (fail)
 all_goals
  go_wp2_with fail;exact zv (v:=.tuple #[.agg #[.int .i64 a,.int .i64 (k:Int)],.agg #[.int .i64 ((a:Int)+(k:Int)),.int .i64 ((n:Int)-(k:Int))]]) (by simp[results,results156,go_sem]) rfl ⟨rfl,(((zi w _).alloc (by simp) _).alloc (by simp;omega) _).drew⟩
def E9 {s:Nat}{n:Nat}{c:List Value}(h:w.ownsRow B' e s v n c)(i:B<=B'):w.ownsRow B e s v n c:=by
 refine⟨h.1,?_⟩;rcases h.2 with h|⟨g,a,b,d,f,r⟩
 ·exact .inl h
 ·exact .inr ⟨g,a,b,d,zt i f,r⟩
structure Two (w wc:World)(B C:Nat)(x y u v:Int):Prop where
 below:zc w wc
 h5:wc.heap[B]?=some (.cells #[.int .i64 x,.int .i64 y] 175 (0,0))
 h6:wc.heap[C]?=some (.cells #[.int .i64 u,.int .i64 v] 175 (0,0))
def Two.later {C:Nat}{x u v:Int}(h:Two w wc B C x y u v)(a:zc wc w'):Two w w' B C x y u v:=
 ⟨h.below.trans (a.mono h.below.size),(a.block _ (vk h.h5)).trans h.h5,(a.block _ (vk h.h6)).trans h.h6⟩
def Two.cells {C:Nat}{x u v:Int}(h:Two w wc B C x y u v):wc.cell? ⟨B,0,none⟩=some (.int .i64 x)/\wc.cell? ⟨B,1,none⟩=some (.int .i64 y)/\wc.cell? ⟨C,0,none⟩=some (.int .i64 u)/\wc.cell? ⟨C,1,none⟩=some (.int .i64 v):=
 ⟨BY h.h5 0 _ rfl,BY h.h5 1 _ rfl,BY h.h6 0 _ rfl,BY h.h6 1 _ rfl⟩
def N7 {P R:List (Nat×Nat)}{s:Nat×Nat}{u v:Int}(e:R=P++[s])(a:(s.1:Int)=u)(b:(s.2:Int)=v)(h:w.ownsRow B 175 2 x (P.length+1) (NS P++[.int .i64 u,.int .i64 v])):F1 B w x R:=by
 subst e;unfold F1;rw[zi3,zw,Cu,a,b];exact h
def QZ (B:Nat)(w:World):F1 B w (.slice none 0 0) []:=⟨rfl,.inl ⟨rfl,rfl⟩⟩
def Rh (f:Nat)(ai:f<=1000):∀(a n i:Nat) (w:World),a+n<=9223372036854775807->1<=n->n<=2^f->a<=i->i<a+n->Calls prog 112 #[.agg #[.int .i64 a,.int .i64 n],.int .i64 i] w λr D=>∃x,r=.returned x/\zc w D/\F1 w.heap.size D x (AD f a n i):=by
 have one:∀(f a n i:Nat) (w:World),n=1->Calls prog 112 #[.agg #[.int .i64 a,.int .i64 n],.int .i64 i] w λr D=>∃x,r=.returned x/\zc w D/\F1 w.heap.size D x (AD f a n i):=by
  rintro f a n i w rfl;rw[Gk _ _ _ _ (zk _)];go_enter func112,ntmps112
  go_wp2
  go_ret;exact⟨_,rfl,zi _ _,QZ _ _⟩
 induction f with
 |zero =>
  intro a n i w h h1 h2 _ _;exact one 0 a n i w (by simpa using Nat.le_antisymm h2 h1)
 |succ f V =>
  intro a n i w h h1 h2 ha hi
  by_cases hn:n=1
  ·exact one (f+1) a n i w hn
  clear one
  replace V:=V (by omega)
  obtain⟨t,af,ae⟩:=zx.1 Wb;have HI:=ze af;have hz:t.zero=some (.agg #[.int .i64 0,.int .i64 0])/\t.size=2/\t.bytes=16:=by simpa using ae
  have U:=ze hz;clear af ae hz;obtain⟨k1,k2,k3,k4,k5,k6⟩:=Bo n f (by omega) h2;have HH:=ze (MH a n (w.alloc (.cells #[.int .i64 a,.int .i64 n] 175)) h (by omega));have sl:=λh=>Ez f a n i (by omega) h;have sr:=λh=>D7 f a n i (by omega) h;generalize yo n=k at *;have n2:((n:Int)==1)=false:=yp.2 (by omega);obtain⟨RR,S⟩:∃R,R=AD (f+1) a n i:=⟨_,rfl⟩;rw[<- S];have m:=ze S.symm;clear S;go_enter func112,ntmps112;go_wp2_with fail;refine HH.o.mono ?_;rintro e M ⟨rfl,ab⟩;have F:Hid (zc w M):=(zi w _).trans (ab.mono (by simp));clear ab HH;go_wp2_with fail;refine(Nk a k _ (by omega)).mono ?_;rintro e j ⟨rfl,ad⟩;have p:Hid (Two w j M.heap.size (M.heap.size+1) a k ((a:Int)+(k:Int)) ((n:Int)-(k:Int))):=Two.later ⟨((F.o.alloc F.o.size _).alloc (by have:=F.o.size;simp;omega) _),zr (zf _ _),by have:=zf (M.alloc (.cells #[.int .i64 (a:Int),.int .i64 (k:Int)] 175)) (.cells #[.int .i64 ((a:Int)+(k:Int)),.int .i64 ((n:Int)-(k:Int))] 175);simpa using this⟩ ad;clear ad F
  by_cases hk:i<a+k
  case' pos =>
   have s:=sl hk;have c:=C4 f a k i;have Z:=ze (λw=>V a k i w (by omega) (by omega) k1 ha hk);have c4:(i:Int)<(a:Int)+(k:Int):=by omega
   rw[s]at m;generalize AD f a k i=P at *;have K:Hid (∀T x,T.ownsRow w.heap.size 175 2 x (P.length+1) (NS P++[.int .i64 ((a:Int)+(k:Int)),.int .i64 ((n:Int)-(k:Int))])->F1 w.heap.size T x RR):=λT x h=>N7 m.o.symm (by simp) (by show((n-k:Nat):Int)=_;omega) h;have W:=ze c;clear s m c V;unfold F1 at Z;generalize (a:Int)+(k:Int)=u at *;generalize (n:Int)-(k:Int)=v at *;generalize M.heap.size+1=C at *;generalize M.heap.size=B at *;generalize (a:Int)=x at *;generalize (k:Int)=z at *
  case' neg =>
   have s:=sr hk;have c:=C4 f (a+k) (n-k) i;have Z:=ze (λw=>V (a+k) (n-k) i w (by omega) (by omega) k2 (by omega) (by omega));rw[show(((a+k:Nat)):Int)=(a:Int)+(k:Int) by omega,show(((n-k:Nat)):Int)=(n:Int)-(k:Int) by omega]at Z;have c4:¬(i:Int)<(a:Int)+(k:Int):=by omega
   rw[s]at m;generalize AD f (a+k) (n-k) i=P at *;have K:Hid (∀T x,T.ownsRow w.heap.size 175 2 x (P.length+1) (NS P++[.int .i64 (a:Int),.int .i64 (k:Int)])->F1 w.heap.size T x RR):=λT x h=>N7 m.o.symm rfl rfl h;have W:=ze c;clear s m c V;unfold F1 at Z
   replace p:=ze (Two.mk p.o.below p.o.h6 p.o.h5)
   generalize (a:Int)+(k:Int)=x at *;generalize (n:Int)-(k:Int)=z at *;generalize M.heap.size+1=B at *;generalize M.heap.size=C at *;generalize (a:Int)=u at *;generalize (k:Int)=v at *
  all_goals
   obtain⟨q0,q1,q2,q3⟩:=p.o.cells;have l5:¬B=j.heap.size:=by have:=vk p.o.h5;omega
   have l6:¬C=j.heap.size:=by have:=vk p.o.h6;omega
   have J:Hid (∀o,zc j (j.alloc o).drew):=λo=>(zi _ _).drew
   go_wp2
   go_region_held3 (λD=>D.cell? ⟨B,0,none⟩=some (.int .i64 x)/\D.cell? ⟨B,1,none⟩=some (.int .i64 z)/\D.cell? ⟨C,0,none⟩=some (.int .i64 u)/\D.cell? ⟨C,1,none⟩=some (.int .i64 v)) (go_keep) (first
    |(go_at_call 112;refine(Z.out _).mono ?_;rintro e E ⟨y,rfl,I,Q⟩;have l:Hid (zc j E):=(by first|exact(show zc j j.drew from (zu _ _).drew).trans I|exact(J.out _).trans (I.mono (J.out _).size));have H:=ze (p.o.later l.o);obtain⟨p0,p1,p2,p3⟩:=H.o.cells;have l5:¬B=E.heap.size:=(by have:=vk H.o.h5;omega);have l6:¬C=E.heap.size:=(by have:=vk H.o.h6;omega);(try have ah:Hid (E.heap[j.heap.size]?=some (.cells #[.int .i64 u,.int .i64 v] 175 (0,0))):=(by show _=_;rw[I.block _ (by show j.heap.size<(j.heap.push _).size;simp)];exact zf j _));have L:Hid (∀q,y.ownBlock=some q->j.heap.size<=q):=(λq hq=>zt (by first|exact zk _|exact(J.out (.cells #[.int .i64 u,.int .i64 v] 175)).size) (vg Q q hq));have Y:Hid (E.ownsRow w.heap.size 175 2 y P.length (NS P)):=(E9 Q (by first|exact p.o.below.size|exact zt p.o.below.size (J.out (.cells #[.int .i64 u,.int .i64 v] 175)).size));have ag:Hid (w.heap.size<=E.heap.size):=H.o.below.size;clear I Q)
    |(refine AZ _ (by rfl) _ _ _ (by rfl) w.heap.size 175 t (.agg #[.int .i64 0,.int .i64 0]) 2 16 underlying172 HI.o U.o.1 U.o.2.1 U.o.2.2 rfl (by omega) y P.length (NS P) (by rfl) (by exact yx Y.o (zi _ _)) ⟨E.heap.size,0,none⟩ 1 1 [.int .i64 u,.int .i64 v] (by rfl) rfl (xm (zf _ _)) (by simp[Value.oneCell']) (by omega) (by have:=W.o;unfold maxLen;omega) (by have:=W.o;omega) (by have:=ag.out;simp;omega) (E.heap.size+1) (by simp) ?_;intro g aa w4 d b O A;have N:=ze ((l.o.trans ((zi E _).mono l.o.size)).grown b (by have:=l.o.size;simp;omega) L.o);have G:=ze (p.o.later N.o);obtain⟨p0,p1,p2,p3⟩:=G.o.cells;have X:=ze d;clear b O A d)
    |(refine AZ _ (by rfl) _ _ _ (by rfl) w.heap.size 175 t (.agg #[.int .i64 0,.int .i64 0]) 2 16 underlying172 HI.o U.o.1 U.o.2.1 U.o.2.2 rfl (by omega) y P.length (NS P) (by rfl) (by exact Y.o) ⟨j.heap.size,0,none⟩ 1 1 [.int .i64 u,.int .i64 v] (by rfl) rfl (xm ah.o) (by simp[Value.oneCell']) (by omega) (by have:=W.o;unfold maxLen;omega) (by have:=W.o;omega) (by have:=ag.out;omega) E.heap.size (by rfl) ?_;intro g aa w4 d b O A;have N:=ze (l.o.grown b l.o.size L.o);have G:=ze (p.o.later N.o);obtain⟨p0,p1,p2,p3⟩:=G.o.cells;have X:=ze d;clear b O A d))
   all_goals
    go_wp2
    go_ret;exact⟨_,rfl,G.o.below,K.o _ _ X.o⟩
def WB (f:Nat)(al:f<=1000):∀(m a n:Nat) (b:Bool) (w:World),a+n<=9223372036854775807->1<=n->n<=2^f->a<m->m<=a+n->Calls prog 115 #[.int .i64 m,.agg #[.int .i64 a,.int .i64 n],.bool b] w λr H=>∃x,r=.returned x/\zc w H/\F1 w.heap.size H x (AB f m a n b):=by
 have one:∀(f m a n:Nat) (b:Bool) (w:World),a+n<=9223372036854775807->m=a+n->Calls prog 115 #[.int .i64 m,.agg #[.int .i64 a,.int .i64 n],.bool b] w λr H=>∃x,r=.returned x/\zc w H/\F1 w.heap.size H x (AB f m a n b):=by
  intro f m a n b w h Z;rw[Dz f m a n b Z];have EE:=ze (λw:World=>Nk a n w h);have n2:((m:Int)==(a:Int)+(n:Int))=true:=CY.2 (by omega);clear Z;go_enter func115,ntmps115;go_wp2_with fail;refine(EE.out _).mono ?_;rintro e w0 ⟨rfl,l⟩;have j:Hid (zc w w0):=(zi w _).trans (l.mono (by simp));have p:=(l.block w.heap.size (by simp)).trans (zf w _);have s0:=BY p 0 _ rfl;have s1:=BY p 1 _ rfl;clear l EE p;cases b
  all_goals
   go_wp2
   go_ret
  ·refine⟨_,rfl,j.o.alloc j.o.size _,⟨by simp[NS],.inr ⟨w0.heap.size,1,#[.int .i64 (a:Int),.int .i64 (n:Int)],rfl,j.o.size,zf _ _,by simp,by unfold maxLen;simp,by simp,?_⟩⟩⟩;simp[NS]
  ·exact⟨_,rfl,j.o,QZ _ _⟩
 induction f with
 |zero =>
  intro m a n b w h h1 h2 am ak;have:n<=1:=by simpa using h2
  exact one 0 m a n b w h (by omega)
 |succ f ih =>
  intro m a n b w h h1 h2 ha ak
  by_cases Z:m=a+n
  ·exact one (f+1) m a n b w h Z
  clear one
  replace ih:=ih (by omega)
  obtain⟨t,ah,ag⟩:=zx.1 Wb;have HI:=ze ah;have hz:t.zero=some (.agg #[.int .i64 0,.int .i64 0])/\t.size=2/\t.bytes=16:=by simpa using ag
  have Y:=ze hz;clear ah ag hz;obtain⟨k1,k2,k3,k4,k5,k6⟩:=Bo n f (by omega) h2;have HH:=ze (λw:World=>MH a n w h (by omega));have EE:=ze (λw:World=>Nk a n w h);have sl:=λh=>Ew f m a n b Z h;have sr:=λh=>Ex f m a n b Z h;generalize yo n=k at *;have n2:((m:Int)==(a:Int)+(n:Int))=false:=yp.2 (by omega);obtain⟨RR,W⟩:∃R,R=AB (f+1) m a n b:=⟨_,rfl⟩;rw[<- W];have D:=ze W.symm;clear W;go_enter func115,ntmps115;go_wp2_with fail;refine(EE.out _).mono ?_;rintro e w0 ⟨rfl,l⟩;have j:Hid (zc w w0):=(zi w _).trans (l.mono (by simp));have p:=(l.block w.heap.size (by simp)).trans (zf w _);have s0:=BY p 0 _ rfl;have s1:=BY p 1 _ rfl;clear l EE p;go_wp2_with fail;refine(HH.o _).mono ?_;rintro e S ⟨rfl,ae⟩;have J:Hid (zc w S):=j.o.trans (ae.mono j.o.size);clear ae HH;go_wp2_with fail;refine(Nk a k _ (by omega)).mono ?_;rintro e s ⟨rfl,af⟩;have E:Hid (Two w s S.heap.size (S.heap.size+1) a k ((a:Int)+(k:Int)) ((n:Int)-(k:Int))):=Two.later ⟨((J.o.alloc J.o.size _).alloc (by have:=J.o.size;simp;omega) _),zr (zf _ _),by have:=zf (S.alloc (.cells #[.int .i64 (a:Int),.int .i64 (k:Int)] 175)) (.cells #[.int .i64 ((a:Int)+(k:Int)),.int .i64 ((n:Int)-(k:Int))] 175);simpa using this⟩ af;clear af J
  by_cases hk:m<=a+k
  case' pos =>
   have F:=sl hk;have d:=Ci f m a k b;have IH:=ze (λw=>ih m a k b w (by omega) (by omega) k1 ha hk);have c4:(m:Int)<=(a:Int)+(k:Int):=by omega
   rw[F]at D;generalize AB f m a k b=P at *;have O:Hid (∀X x,X.ownsRow w.heap.size 175 2 x (P.length+1) (NS P++[.int .i64 ((a:Int)+(k:Int)),.int .i64 ((n:Int)-(k:Int))])->F1 w.heap.size X x RR):=λX x h=>N7 D.o.symm (by simp) (by show((n-k:Nat):Int)=_;omega) h;have HC:=ze d;clear F D d ih;unfold F1 at IH;generalize (a:Int)+(k:Int)=u at *;generalize (n:Int)-(k:Int)=v at *;generalize S.heap.size+1=C at *;generalize S.heap.size=B at *;generalize (a:Int)=x at *;generalize (k:Int)=z at *
  case' neg =>
   have F:=sr hk;have d:=Ci f m (a+k) (n-k) false;have IH:=ze (λw=>ih m (a+k) (n-k) false w (by omega) (by omega) k2 (by omega) (by omega));rw[show(((a+k:Nat)):Int)=(a:Int)+(k:Int) by omega,show(((n-k:Nat)):Int)=(n:Int)-(k:Int) by omega]at IH;have c4:¬(m:Int)<=(a:Int)+(k:Int):=by omega
   rw[F]at D;generalize AB f m (a+k) (n-k) false=P at *;have O:Hid (∀X x,X.ownsRow w.heap.size 175 2 x (P.length+1) (NS P++[.int .i64 (a:Int),.int .i64 (k:Int)])->F1 w.heap.size X x RR):=λX x h=>N7 D.o.symm rfl rfl h;have HC:=ze d;clear F D d ih;unfold F1 at IH
   replace E:=ze (Two.mk E.o.below E.o.h6 E.o.h5)
   generalize (a:Int)+(k:Int)=x at *;generalize (n:Int)-(k:Int)=z at *;generalize S.heap.size+1=B at *;generalize S.heap.size=C at *;generalize (a:Int)=u at *;generalize (k:Int)=v at *
  all_goals
   obtain⟨q0,q1,q2,q3⟩:=E.o.cells;have l5:¬B=s.heap.size:=by have:=vk E.o.h5;omega
   have l6:¬C=s.heap.size:=by have:=vk E.o.h6;omega
   have N:Hid (∀o,zc s (s.alloc o).drew):=λo=>(zi _ _).drew
   go_wp2
   go_region_held3 (λH=>H.cell? ⟨B,0,none⟩=some (.int .i64 x)/\H.cell? ⟨B,1,none⟩=some (.int .i64 z)/\H.cell? ⟨C,0,none⟩=some (.int .i64 u)/\H.cell? ⟨C,1,none⟩=some (.int .i64 v)) (go_keep) (first
    |(go_at_call 115;refine(IH.out _).mono ?_;rintro e I ⟨y,rfl,M,V⟩;have A:Hid (zc s I):=(by first|exact(show zc s s.drew from (zu _ _).drew).trans M|exact(N.out _).trans (M.mono (N.out _).size));have L:=ze (E.o.later A.o);obtain⟨p0,p1,p2,p3⟩:=L.o.cells;have l5:¬B=I.heap.size:=(by have:=vk L.o.h5;omega);have l6:¬C=I.heap.size:=(by have:=vk L.o.h6;omega);(try have aj:Hid (I.heap[s.heap.size]?=some (.cells #[.int .i64 u,.int .i64 v] 175 (0,0))):=(by show _=_;rw[M.block _ (by show s.heap.size<(s.heap.push _).size;simp)];exact zf s _));have Q:Hid (∀q,y.ownBlock=some q->s.heap.size<=q):=(λq hq=>zt (by first|exact zk _|exact(N.out (.cells #[.int .i64 u,.int .i64 v] 175)).size) (vg V q hq));have ab:Hid (I.ownsRow w.heap.size 175 2 y P.length (NS P)):=(E9 V (by first|exact E.o.below.size|exact zt E.o.below.size (N.out (.cells #[.int .i64 u,.int .i64 v] 175)).size));have ai:Hid (w.heap.size<=I.heap.size):=L.o.below.size;clear M V)
    |(refine AZ _ (by rfl) _ _ _ (by rfl) w.heap.size 175 t (.agg #[.int .i64 0,.int .i64 0]) 2 16 underlying172 HI.o Y.o.1 Y.o.2.1 Y.o.2.2 rfl (by omega) y P.length (NS P) (by rfl) (by exact yx ab.o (zi _ _)) ⟨I.heap.size,0,none⟩ 1 1 [.int .i64 u,.int .i64 v] (by rfl) rfl (xm (zf _ _)) (by simp[Value.oneCell']) (by omega) (by have:=HC.o;unfold maxLen;omega) (by have:=HC.o;omega) (by have:=ai.out;simp;omega) (I.heap.size+1) (by simp) ?_;intro g ad w4 i c U G;have T:=ze ((A.o.trans ((zi I _).mono A.o.size)).grown c (by have:=A.o.size;simp;omega) Q.o);have K:=ze (E.o.later T.o);obtain⟨p0,p1,p2,p3⟩:=K.o.cells;have aa:=ze i;clear c U G i)
    |(refine AZ _ (by rfl) _ _ _ (by rfl) w.heap.size 175 t (.agg #[.int .i64 0,.int .i64 0]) 2 16 underlying172 HI.o Y.o.1 Y.o.2.1 Y.o.2.2 rfl (by omega) y P.length (NS P) (by rfl) (by exact ab.o) ⟨s.heap.size,0,none⟩ 1 1 [.int .i64 u,.int .i64 v] (by rfl) rfl (xm aj.o) (by simp[Value.oneCell']) (by omega) (by have:=HC.o;unfold maxLen;omega) (by have:=HC.o;omega) (by have:=ai.out;omega) I.heap.size (by rfl) ?_;intro g ad w4 i c U G;have T:=ze (A.o.grown c A.o.size Q.o);have K:=ze (E.o.later T.o);obtain⟨p0,p1,p2,p3⟩:=K.o.cells;have aa:=ze i;clear c U G i))
   all_goals
    go_wp2
    go_ret;exact⟨_,rfl,K.o.below,O.o _ _ aa.o⟩
end Go.Proofs.YtfdbeldiomkdiaaGreatDoor
