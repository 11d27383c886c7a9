import Derived.Test.YtlcllcgngjhoaaaGreatDoorG14
set_option maxHeartbeats 8000000
set_option maxRecDepth 100000
set_option linter.all false
namespace Go.Proofs.YtlcllcgngjhoaaaGreatDoor
open Go.RowKit Go.Proofs.Tryz
def zcv:=@wpList_load_row
def zdf:=@mem_ready
def zfo:=@setRow_other
def zl6:=@List.length_dropLast
variable {c c':Cl}
section
def zj1 (con:Nat→Nat→zc→zc→za→Bool)(say:Say)(m:Nat)(root:zc)(o:Option (Nat×zc)):Int×za×Nat×zc:=match o with
 | none=>(3,[],0,[])
 | some (n,r)=>if n < m then (4,[],0,[]) else if n=m then (if r=root then (0,[],n,r) else (5,[],0,[]))
  else if zdv say n (qk 64 m 0 n true)=[] then (if con m n root r (zct say n (qk 64 m 0 n true)) then (0,zct say n (qk 64 m 0 n true),n,r) else (5,[],0,[]))
  else (6,zdv say n (qk 64 m 0 n true),0,[])
section
variable {σ : Type} {fe : σ → zc → (zc × Bool) × σ} {I : σ → Prop} {say : Say}
theorem yj3 (l:z19 fe I (qt say)){con:Nat→Nat→zc→zc→za→Bool}{s u:σ}{o:Option (Nat×zc)}{x:Sum Er (za)}(hI:I s)(m:c.proved=[])(h0:0 < c.size)(t:∀ n r,o=some (n,r)→n < 2 ^ 63)(e:zi8 fe con c s o=(x,c',u)):
  (∃ b,x= .inl b∧(zj1 con say c.size c.root o).1=b.n∧b.n≠0∧(b.n=6→b.p∈(zj1 con say c.size c.root o).2.1)∧c'=c)∨∃ ps,x= .inr ps∧zj1 con say c.size c.root o=(0,ps,c'.size,c'.root):=by
 unfold zi8 at e;cases o with
 | none=>cases e;exact .inl ⟨_,rfl,rfl,by decide,fun h=>absurd h (by decide),rfl⟩
 | some y =>
  obtain⟨n,r⟩:=y;simp only [zj1];simp only at e
  by_cases d:n < c.size
  ·rw [if_pos d];unfold vt at e;rw [if_pos d] at e;cases e;exact .inl ⟨_,rfl,rfl,by decide,by decide,rfl⟩
  rw [if_neg d]
  by_cases g:n=c.size
  ·rw [if_pos g];unfold vt at e;rw [if_neg d,if_pos g] at e
   by_cases f:r=c.root
   ·rw [if_pos f] at e ⊢;cases e;exact .inr ⟨_,rfl,rfl⟩
   ·rw [if_neg f] at e ⊢;cases e;exact .inl ⟨_,rfl,rfl,by decide,by decide,rfl⟩
  rw [if_neg g];have k:=z8g l (con:=con) (r:=r) hI m h0 (by omega) (t n r rfl);generalize vt fe con c s n r=q at e k;obtain⟨w,v,z⟩:=q;simp only at k;rcases k with ⟨p,a,rfl⟩ | ⟨f,i⟩
  ·cases e;have j:¬ zdv say n (qk 64 c.size 0 n true)=[]:=fun h=>by rw [h] at a;simp at a
   rw [if_neg j];exact .inl ⟨_,rfl,rfl,by simp [Er.tile],fun _=>a,rfl⟩
  ·rw [if_pos f];split at i
   ·next hc =>
    subst i;cases e;rw [if_pos hc];exact .inr ⟨_,rfl,rfl⟩
   ·next hc =>
    subst i;cases e;rw [if_neg hc];exact .inl ⟨_,rfl,rfl,by decide,by decide,rfl⟩
end
end
variable {b o:Nat}{w:World}{x0 x1 x2 x3 x4 x5 x6 x7:Int}
theorem yi7 (h:w.rangeAt b o [.int .u8 x0,.int .u8 x1,.int .u8 x2,.int .u8 x3,.int .u8 x4,.int .u8 x5,.int .u8 x6,.int .u8 x7]):
  w.cell? ⟨b,o,none⟩=some (.int .u8 x0)∧w.cell? ⟨b,o+1,none⟩=some (.int .u8 x1)∧w.cell? ⟨b,o+2,none⟩=some (.int .u8 x2)∧w.cell? ⟨b,o+3,none⟩=some (.int .u8 x3)∧w.cell? ⟨b,o+4,none⟩=some (.int .u8 x4)∧w.cell? ⟨b,o+5,none⟩=some (.int .u8 x5)∧w.cell? ⟨b,o+6,none⟩=some (.int .u8 x6)∧w.cell? ⟨b,o+7,none⟩=some (.int .u8 x7) :=
 ⟨h 0 _ rfl,h 1 _ rfl,h 2 _ rfl,h 3 _ rfl,h 4 _ rfl,h 5 _ rfl,h 6 _ rfl,h 7 _ rfl⟩
theorem zlq (b c m a:Nat)(l:zc)(w:World)(G:m≤1000000)(g:m+1≤a)(u:l.length=8)(e:w.rangeAt b (c+m*8) (hv l).toList):
  Calls prog 216 #[.slice (some ⟨b,c,none⟩) (m+1) a] w fun r x=>r= .returned (.tuple #[.slice (some ⟨b,c,none⟩) m a,.agg (hv l)])∧Below w.heap.size w x:=by
 obtain⟨h,i,j,k,n,p,q,s,f⟩:=zsp l u;rw [f] at e;have t:=zf f;have d:∀ o,(w.alloc o).rangeAt b (c+m*8) [.int .u8 h,.int .u8 i,.int .u8 j,.int .u8 k,.int .u8 n,.int .u8 p,.int .u8 q,.int .u8 s]:=fun o=>zeo e (zk w o);obtain⟨y,z,A,B,C,D,E,F⟩:=yi7 (d (.cells #[Value.int IntKind.u8 0,Value.int IntKind.u8 0,Value.int IntKind.u8 0,Value.int IntKind.u8 0,Value.int IntKind.u8 0,Value.int IntKind.u8 0,Value.int IntKind.u8 0,Value.int IntKind.u8 0] 110));have H:(m:Int)≤(a:Int):=by omega
 have I:(m:Int) < (m:Int)+1:=by omega
 clear e d f;go_enter func216,ntmps216;go_wp2_with fail
 go_region
 go_wp2
 refine z8 (v:= .tuple #[.slice (some ⟨b,c,none⟩) m a,.agg #[.int .u8 h,.int .u8 i,.int .u8 j,.int .u8 k,.int .u8 n,.int .u8 p,.int .u8 q,.int .u8 s]]) (by simp [results,results216,go_sem]) rfl ⟨by rw [t.o],?_⟩;exact(zk w _).drew
variable {leaf:zc}{wy wz:World}
theorem zhd {P:Program}{fn:Func}{p u:Tmp}{ty:TypeId}(h:fn.results=#[.cell p ty,.tmp u])(tmps:Array Value)(w:World)(g:Nat)(t:TypeId)(cs:Array Value)(fr:Nat×Nat)(d:TypeDesc)
  (hp:tmps.getD p undef= .pointer (some ⟨g,0,none⟩)) (hg:w.heap[g]?=some (.cells cs t fr))
  (hu:P.underlying ty=some d) (hd:(match d with | .struct _ | .array _ _=>true | _=>false)=true) (hi:(P.info? ty).map (·.size)=some cs.size) (x:Value) (hx:tmps.getD u undef=x) :
  (results fn tmps).run P w= .ok (.tuple #[.agg cs,x]) w:=by
 rw [_root_.Go.results_cell_tmp h,hp,hx];simp [asAddr,zdi w g t ty cs fr d hg hu hd hi]
def Fr (w:World)(a:zc)(b:World):Prop :=
 Below w.heap.size w b∧b.heap[w.heap.size]?=some (.cells (hv a) 110 (0,0))∧b.heap[w.heap.size+1]?=some (.cells #[Value.int IntKind.u8 0,Value.int IntKind.u8 0,Value.int IntKind.u8 0,Value.int IntKind.u8 0,Value.int IntKind.u8 0,Value.int IntKind.u8 0,Value.int IntKind.u8 0,Value.int IntKind.u8 0] 110 (0,0))
theorem Fr.start (w:World)(a:zc):Fr w a ((w.alloc (.cells (hv a) 110)).alloc (.cells #[Value.int IntKind.u8 0,Value.int IntKind.u8 0,Value.int IntKind.u8 0,Value.int IntKind.u8 0,Value.int IntKind.u8 0,Value.int IntKind.u8 0,Value.int IntKind.u8 0,Value.int IntKind.u8 0] 110)):=by
 refine⟨xu _ _ _,zj (zg _ _),?_⟩;rw [show w.heap.size+1=(w.alloc (.cells (hv a) 110)).heap.size by simp];exact zg _ _
theorem Fr.next (h:Fr w leaf wz)(a:Below wz.heap.size wz wy):Fr w leaf wy :=
 ⟨h.1.trans (a.mono h.1.size),by rw [a.block _ (ju h.2.1)];exact h.2.1,by rw [a.block _ (ju h.2.2)];exact h.2.2⟩
theorem yl6 (b:zc)(g:b.length=8)(f:Nat)(i:Int)(v:Value)(ps:za)(w:World)(h:Hss w v ps):
  Calls prog 184 #[.agg (hv b),.int .i64 i,.int .i64 1,v] w fun r m=>r= .returned (.tuple #[.agg (hv (zbe ql (f+1) b i.toNat 1 ps).1),.bool (zbe ql (f+1) b i.toNat 1 ps).2])∧Below w.heap.size w m:=by
 rw [zlb];obtain⟨a,l,rfl,-,-,-⟩:=h;have j:(hv b).size=8:=by rw [zay,g]
 have d:=zf j;clear j g;have c:=zf (Fr.start w b);have e:((ps.length:Int)==0)=decide (ps.length=0):=by
  rw [zfb];simp
 have k:=zf e;clear e;go_enter func184,ntmps184;go_wp2_with (first
  | (refine zcv rfl 110 _ rfl w.heap.size rfl 110 _ (0,0) _ c.o.2.1 underlying110 rfl (by rw [d.o];kernel_rfl) ?_)
  | (refine xe rfl 110 _ _ rfl (w.heap.size+1) (hv b) rfl rfl 110 _ c.o.2.2 (by rw [d.o];kernel_rfl) (by rw [d.o];rfl) (zcz _) ?_))
 refine z8 (v:= .tuple #[.agg (hv b),.bool ((ps.length:Int)==0)]) (zhd results184 _ _ (w.heap.size+1) 110 _ (0,0) _ rfl (za0 _ _ _ _ _ _ c.o.2.2) underlying110 rfl (by rw [d.o];kernel_rfl) _ rfl) rfl ⟨by rw [k.o],?_⟩;exact za2 c.o.1 (vk _) _
theorem yjb (b:zc)(e:b.length=8)(f:Nat)(i n:Nat)(d:n≠1)(v:Value)(ps:za)(w:World)(h0:ps.length=0)(h:Hss w v ps):
  Calls prog 184 #[.agg (hv b),.int .i64 i,.int .i64 n,v] w fun r k=>r= .returned (.tuple #[.agg (hv (zbe ql (f+1) b i n ps).1),.bool (zbe ql (f+1) b i n ps).2])∧Below w.heap.size w k:=by
 rw [zkn _ _ _ _ _ _ d h0];obtain⟨a,j,rfl,-,-,-⟩:=h;rw [h0];have g:(hv b).size=8:=by rw [zay,e]
 have l:=zf g;clear g e;have c:=zf (Fr.start w b);have m:((n:Int)==1)=false:=yk.2 (by omega);clear d;go_enter func184,ntmps184;go_wp2_with (first
  | (refine xe rfl 110 _ _ rfl (w.heap.size+1) (hv ql) rfl rfl 110 _ c.o.2.2 (by kernel_rfl) rfl (zcz _) ?_))
 refine z8 (v:= .tuple #[.agg (hv ql),.bool false]) (zhd results184 _ _ (w.heap.size+1) 110 _ (0,0) _ rfl (za0 _ _ _ _ _ _ c.o.2.2) underlying110 rfl (by kernel_rfl) _ rfl) rfl ⟨rfl,?_⟩;exact za2 c.o.1 (vk _) _
theorem yja (a:zc)(N:a.length=8)(f:Nat)(i n:Nat)(X:2≤n)(hn:n≤9223372036854775807)(W:i < n)(M:i < yo n)(b h m g:Nat)(ps:za)(w:World)(G:ps.length=m+1)(E:m≤1000000)(B:m+1≤g)(Y:∀ p∈ps,p.length=8)
 (hr:w.rangeAt b (h+m*8) (hv (ps.getLastD [])).toList) (ht:Hss w (.slice (some ⟨b,h,none⟩) m g) ps.dropLast)
 (ih:∀(i n:Int) (v:Value) (ps:za) (w:World),0≤i→i < n→n≤9223372036854775807→ps.length < f→ps.length≤1000000→Hss w v ps→Calls prog 184 #[.agg (hv a),.int .i64 i,.int .i64 n,v] w fun r Q=>r= .returned (.tuple #[.agg (hv (zbe ql f a i.toNat n.toNat ps).1),.bool (zbe ql f a i.toNat n.toNat ps).2])∧Below w.heap.size w Q)
 (hf:ps.length < f+1) :
  Calls prog 184 #[.agg (hv a),.int .i64 i,.int .i64 n,.slice (some ⟨b,h,none⟩) (m+1) g] w fun r Q=>r= .returned (.tuple #[.agg (hv (zbe ql (f+1) a i n ps).1),.bool (zbe ql (f+1) a i n ps).2])∧Below w.heap.size w Q:=by
 rw [ziz _ _ _ _ _ _ (by omega) (by omega) M];obtain⟨k1,k2,k3⟩:=vz n X;have c:(ps.getLastD []).length=8:=by
  rw [(zdk ps m G []).1];exact Y _ (yd _)
 have C:ps.dropLast.length=m:=by rw [zl6,G];rfl
 have hs:(hv a).size=8:=by rw [zay,N]
 have Hs:=zf hs;have D:(hv (ps.getLastD [])).size=8:=by rw [zay,c]
 have s:=zf D;have d:=zf c;have V:=zf (ih i (yo n) (.slice (some ⟨b,h,none⟩) m g) ps.dropLast);have U:=zf C;have HH:=zf ht;have HR:=zf hr;have Hf:=zf hf;have T:=zf (Fr.start w a);have Hz:Hid (ql.length=8):=rfl;have K:=zf N;have Hm:=zf G;have n1:((n:Int)==1)=false:=yk.2 (by omega);have m1:(((m:Int)+1)==0)=false:=yk.2 (by omega);clear hs D c ih C ht hr hf N G Y;have q:=zf (ztk ql a rfl K.o f (i:Int).toNat ((yo n):Int).toNat ps.dropLast);have S:=zf (And.intro (show(i:Int).toNat=i by omega) (show((yo n):Int).toNat=(yo n) by omega));rw [S.o.1,S.o.2] at V q;generalize Z:zbe ql f a i (yo n) ps.dropLast=R at *;have ab:=zf Z;clear Z;obtain⟨y,R2⟩:=R;generalize ps.getLastD []=L at *;have F:(hv y).size=8:=by rw [zay];exact q.o
 have t:=zf F;clear F;go_enter func184,ntmps184;go_wp2_with fail;refine(zlq b h m g L _ E B d.o (by exact zeo HR.o T.o.1)).mono ?_;rintro e u ⟨rfl,z⟩;have H:=zf (T.o.next z);clear z;go_wp2_with (refine xe rfl 110 _ _ rfl u.heap.size (hv L) rfl rfl 110 _ (zg _ _) (by rw [s.o];kernel_rfl) (by rw [s.o];rfl) (zcz _) ?_);rw [zbh];refine(zkq n _ X hn).mono ?_;rintro e w2 ⟨rfl,P⟩;subst P;have k:=zf (H.o.next (zk u (.cells (hv L) 110)));have aa:(i:Int) < (yo n:Int):=by omega
 go_wp2_with (refine zcv rfl 110 _ rfl w.heap.size rfl 110 _ (0,0) _ k.o.2.1 underlying110 rfl (by rw [Hs.o];kernel_rfl) ?_);refine(V.out _ (by omega) (by omega) (by omega) (by rw [U.o];have:=Hf.o;rw [Hm.o] at this;omega) (by rw [U.o];exact E) (HH.o.below k.o.1)).mono ?_;rintro e x ⟨rfl,j⟩;have J:Hid (x.heap[u.heap.size]?=some (.cells (hv L) 110 (0,0))):=by
  show x.heap[u.heap.size]?=_;rw [j.block _ (by simp)];exact zg _ _
 have I:=zf (k.o.next j);have O:Hid (u.heap.size≠x.heap.size):=by
  have:=j.size;simp only [zxn] at this;show u.heap.size≠x.heap.size;omega
 clear j;go_wp2_with (first
  | (refine xe rfl 110 _ _ rfl x.heap.size (hv y) rfl rfl 110 _ (zg _ _) (by rw [t.o];kernel_rfl) (by rw [t.o];rfl) (zcz _) ?_)
  | (refine zcv rfl 110 _ rfl x.heap.size rfl 110 _ (0,0) _ (za0 _ _ _ _ _ _ (zg _ _)) underlying110 rfl (by rw [t.o];kernel_rfl) ?_)
  | (refine zcv rfl 110 _ rfl u.heap.size rfl 110 _ (0,0) _ (by rw [zfo _ _ _ _ O.out];exact zj J.o) underlying110 rfl (by rw [s.o];kernel_rfl) ?_))
 rw [zbh];refine(zgd y L _ q.o d.o).mono ?_;rintro e w4 ⟨rfl,A⟩;have l:=zf ((I.o.next (zk x _)).next A);clear A;go_wp2_with (refine xe rfl 110 _ _ rfl (w.heap.size+1) (hv (jx y L)) rfl rfl 110 _ l.o.2.2 (by kernel_rfl) rfl (zcz _) ?_);refine z8 (v:= .tuple #[.agg (hv (jx y L)),.bool R2]) (zhd results184 _ _ (w.heap.size+1) 110 _ (0,0) _ rfl (za0 _ _ _ _ _ _ l.o.2.2) underlying110 rfl (by kernel_rfl) _ rfl) rfl ⟨rfl,?_⟩;exact za2 l.o.1 (vk _) _
theorem yd1 (a:zc)(N:a.length=8)(f:Nat)(i n:Nat)(X:2≤n)(hn:n≤9223372036854775807)(W:i < n)(M:¬ i < yo n)(b h m g:Nat)(ps:za)(w:World)(G:ps.length=m+1)(E:m≤1000000)(B:m+1≤g)(Y:∀ p∈ps,p.length=8)
 (hr:w.rangeAt b (h+m*8) (hv (ps.getLastD [])).toList) (ht:Hss w (.slice (some ⟨b,h,none⟩) m g) ps.dropLast)
 (ih:∀(i n:Int) (v:Value) (ps:za) (w:World),0≤i→i < n→n≤9223372036854775807→ps.length < f→ps.length≤1000000→Hss w v ps→Calls prog 184 #[.agg (hv a),.int .i64 i,.int .i64 n,v] w fun r Q=>r= .returned (.tuple #[.agg (hv (zbe ql f a i.toNat n.toNat ps).1),.bool (zbe ql f a i.toNat n.toNat ps).2])∧Below w.heap.size w Q)
 (hf:ps.length < f+1) :
  Calls prog 184 #[.agg (hv a),.int .i64 i,.int .i64 n,.slice (some ⟨b,h,none⟩) (m+1) g] w fun r Q=>r= .returned (.tuple #[.agg (hv (zbe ql (f+1) a i n ps).1),.bool (zbe ql (f+1) a i n ps).2])∧Below w.heap.size w Q:=by
 rw [zhj _ _ _ _ _ _ (by omega) (by omega) M];obtain⟨k1,k2,k3⟩:=vz n X;have c:(ps.getLastD []).length=8:=by
  rw [(zdk ps m G []).1];exact Y _ (yd _)
 have C:ps.dropLast.length=m:=by rw [zl6,G];rfl
 have hs:(hv a).size=8:=by rw [zay,N]
 have Hs:=zf hs;have D:(hv (ps.getLastD [])).size=8:=by rw [zay,c]
 have s:=zf D;have d:=zf c;have V:=zf (ih ((i:Int) - (yo n:Int)) ((n:Int) - (yo n:Int)) (.slice (some ⟨b,h,none⟩) m g) ps.dropLast);have U:=zf C;have HH:=zf ht;have HR:=zf hr;have Hf:=zf hf;have T:=zf (Fr.start w a);have Hz:Hid (ql.length=8):=rfl;have K:=zf N;have Hm:=zf G;have n1:((n:Int)==1)=false:=yk.2 (by omega);have m1:(((m:Int)+1)==0)=false:=yk.2 (by omega);clear hs D c ih C ht hr hf N G Y;have q:=zf (ztk ql a rfl K.o f (((i:Int) - (yo n:Int)):Int).toNat (((n:Int) - (yo n:Int)):Int).toNat ps.dropLast);have S:=zf (And.intro (show((i:Int) - (yo n:Int)).toNat=i - yo n by omega) (show(((n:Int) - (yo n:Int)):Int).toNat=(n - yo n) by omega));rw [S.o.1,S.o.2] at V q;generalize Z:zbe ql f a (i - yo n) (n - yo n) ps.dropLast=R at *;have ab:=zf Z;clear Z;obtain⟨y,R2⟩:=R;generalize ps.getLastD []=L at *;have F:(hv y).size=8:=by rw [zay];exact q.o
 have t:=zf F;clear F;go_enter func184,ntmps184;go_wp2_with fail;refine(zlq b h m g L _ E B d.o (by exact zeo HR.o T.o.1)).mono ?_;rintro e u ⟨rfl,z⟩;have H:=zf (T.o.next z);clear z;go_wp2_with (refine xe rfl 110 _ _ rfl u.heap.size (hv L) rfl rfl 110 _ (zg _ _) (by rw [s.o];kernel_rfl) (by rw [s.o];rfl) (zcz _) ?_);rw [zbh];refine(zkq n _ X hn).mono ?_;rintro e w2 ⟨rfl,P⟩;subst P;have k:=zf (H.o.next (zk u (.cells (hv L) 110)));have aa:¬(i:Int) < (yo n:Int):=by omega
 go_wp2_with (refine zcv rfl 110 _ rfl w.heap.size rfl 110 _ (0,0) _ k.o.2.1 underlying110 rfl (by rw [Hs.o];kernel_rfl) ?_);refine(V.out _ (by omega) (by omega) (by omega) (by rw [U.o];have:=Hf.o;rw [Hm.o] at this;omega) (by rw [U.o];exact E) (HH.o.below k.o.1)).mono ?_;rintro e x ⟨rfl,j⟩;have J:Hid (x.heap[u.heap.size]?=some (.cells (hv L) 110 (0,0))):=by
  show x.heap[u.heap.size]?=_;rw [j.block _ (by simp)];exact zg _ _
 have I:=zf (k.o.next j);have O:Hid (u.heap.size≠x.heap.size):=by
  have:=j.size;simp only [zxn] at this;show u.heap.size≠x.heap.size;omega
 clear j;go_wp2_with (first
  | (refine xe rfl 110 _ _ rfl x.heap.size (hv y) rfl rfl 110 _ (zg _ _) (by rw [t.o];kernel_rfl) (by rw [t.o];rfl) (zcz _) ?_)
  | (refine zcv rfl 110 _ rfl x.heap.size rfl 110 _ (0,0) _ (za0 _ _ _ _ _ _ (zg _ _)) underlying110 rfl (by rw [t.o];kernel_rfl) ?_)
  | (refine zcv rfl 110 _ rfl u.heap.size rfl 110 _ (0,0) _ (by rw [zfo _ _ _ _ O.out];exact zj J.o) underlying110 rfl (by rw [s.o];kernel_rfl) ?_))
 rw [zbh];refine(zgd L y _ d.o q.o).mono ?_;rintro e w4 ⟨rfl,A⟩;have l:=zf ((I.o.next (zk x _)).next A);clear A;go_wp2_with (refine xe rfl 110 _ _ rfl (w.heap.size+1) (hv (jx L y)) rfl rfl 110 _ l.o.2.2 (by kernel_rfl) rfl (zcz _) ?_);refine z8 (v:= .tuple #[.agg (hv (jx L y)),.bool R2]) (zhd results184 _ _ (w.heap.size+1) 110 _ (0,0) _ rfl (za0 _ _ _ _ _ _ l.o.2.2) underlying110 rfl (by kernel_rfl) _ rfl) rfl ⟨rfl,?_⟩;exact za2 l.o.1 (vk _) _
theorem yl5 (c:zc)(o:c.length=8)(f:Nat):∀(i n:Int) (v:Value) (ps:za) (w:World),0≤i→i < n→n≤9223372036854775807→ps.length < f→ps.length≤1000000→Hss w v ps →
  Calls prog 184 #[.agg (hv c),.int .i64 i,.int .i64 n,v] w fun r G=>r= .returned (.tuple #[.agg (hv (zbe ql f c i.toNat n.toNat ps).1),.bool (zbe ql f c i.toNat n.toNat ps).2])∧Below w.heap.size w G:=by
 induction f with
 | zero=>exact fun i n v ps w _ _ _ h=>absurd h (zed _)
 | succ f D =>
  intro i n v ps w h0 E J y z h;obtain⟨I,rfl⟩:=qv h0;obtain⟨N,rfl⟩:=qv (show 0≤n by omega);rw [yj,yj]
  by_cases t:N=1
  ·subst t;have:=yl6 c o f (I:Int) v ps w h
   rwa [yj] at this
  by_cases C:ps.length=0
  ·exact yjb c o f I N t v ps w C h
  obtain⟨m,l⟩:∃ m,ps.length=m+1:=⟨ps.length - 1,by omega⟩;have H:=h;obtain⟨a,e,rfl,x,q,s⟩:=h;rcases s with s | ⟨b,d,rfl,u⟩
  ·exact absurd (by simp [s]) C
  have A:w.rangeAt b (d+m*8) (hv (ps.getLastD [])).toList:=by
   rw [(zdk ps m l []).1];exact u m (by omega)
  have B:Hss w (.slice (some ⟨b,d,none⟩) m e) ps.dropLast:=by
   rw [(zdk ps m l []).2];have g:(ps.take m).length=m:=by simp;omega
   refine⟨_,e,by rw [g],by rw [g];omega,fun p z=>q p (qh z),.inr ⟨b,d,rfl,fun j F=>?_⟩⟩;rw [vv];exact u j (by rw [g] at F;omega)
  rw [l]
  by_cases k:I < yo N
  ·exact yja c o f I N (by omega) (by omega) (by omega) k b d m e ps w l (by omega) (by omega) q A B D y
  ·exact yd1 c o f I N (by omega) (by omega) (by omega) k b d m e ps w l (by omega) (by omega) q A B D y
variable {fuel i:Nat}{v:Value}
section
/- A REGION THAT DRAWS ITS ORDER,WHOSE STORES TURN WHAT ITS LOADS READ: the loads are taken first under a condition S on the world;S is shown anew only behind operations ahead of the stores (those that D names),for these wait for the loads. -/
section
variable {P : Program} {ops : Array Oper} {Q : Exit → Act → World → Prop} {md : Region.Mode} {S : World → Prop} {D : Nat → Bool}
def wpT (P:Program)(md:Region.Mode)(ops:Array Oper)(Q:Exit→Act→World→Prop)(S:World→Prop)(D:Nat→Bool):Nat→Array Bool→Act→World→Prop
 | 0,b,a,w=>Region.ready md ops b=[]∧Q .normal a w
 | c+1,b,a,w =>
  (Region.ready md ops b=[]→Q .normal a w) ∧
  ∀ i∈Region.ready md ops b,wpOp P ops Q i (fun e d=>if D i=true then wpAny P md ops Q c (b.setIfInBounds i true) e d else S d∧wpT P md ops Q S D c (b.setIfInBounds i true) e d) a w
theorem zxy:∀(c:Nat) (b:Array Bool)(a:Act)(w:World) ,wpT P md ops Q S D c b a w→wpAny P md ops Q c b a w
 | 0,_,_,_,h=>h
 | c+1,b,a,w,h=>⟨h.1,fun i g=>wpOp_mono (fun f j d=>by
   by_cases e:D i=true
   ·rw [if_pos e] at d;exact d
   ·rw [if_neg e] at d;exact zxy c _ f j d.2) (h.2 i g)⟩
def zq8 (md:Region.Mode)(ops:Array Oper)(a:Array Bool)(i:Nat)(W:List Nat):Bool :=
 !W.contains i&&W.all fun j=>!a.getD j true&&match ops[j]? with
  | some o=>o.after.any fun e=>Region.binds md e&&(e.on==i||W.contains e.on)
  | none=>false
theorem ye7 {G:Oper}{W:List Nat}(hi:ops[i]?=some G)(B:∀(j:Nat) (o:Oper) J b,ops[j]?=some o→o.op≠ .select J b)
 (hQ:∀ c a w,Q (.panic c) (a.put G.dst v) w→Q (.panic c) a w) (hD:∀ j,D j=true→j∈W) :
  ∀(g:Nat) (d:Array Bool) (a:Act) (w:World),zq8 md ops d i W=true →
   (∀ j I,ops[j]?=some I→j≠i→d.getD j true=false→(∀ e∈I.after,Region.binds md e=true→e.on≠i)→G.apart ops I=true) →
   i∈Region.ready md ops d→YieldsIf P ops S G v a→S w →
   wpT P md ops Q S D g (d.setIfInBounds i true) (a.put G.dst v) w→wpT P md ops Q S D (g+1) d a w:=by
 intro g
 induction g with
 | zero =>
  intro d a w u _ F T L H;refine⟨fun h=>(by rw [h] at F;cases F),fun j s=>?_⟩
  by_cases l:j=i
  ·subst l;have t:¬ D j=true:=fun Y=>by
    have:=hD j Y;simp [zq8,this] at u
   refine T.wpOp hi L ?_;rw [if_neg t];exact⟨L,H⟩
  ·have:=ready_mono s l;rw [H.1] at this;cases this
 | succ g ih =>
  intro d a w u p F T L H;have af:¬ i∈W:=by
   intro h;simp [zq8,h] at u
  have r:∀ j∈W,d.getD j true=false∧∃ o,ops[j]?=some o∧∃ e∈o.after,Region.binds md e=true∧(e.on=i∨e.on∈W):=by
   intro j s;simp only [zq8,zbr,zcd] at u;have m:=u.2 j s;cases R:ops[j]? with
   | none=>simp [R] at m
   | some o =>
    simp only [R,Bool.not_eq_true',Array.any_eq_true',zbr,Bool.or_eq_true,zfu,List.contains_eq_mem,vj] at m;exact⟨m.1,o,rfl,m.2⟩
  have z:d.getD i true=false:=(zdf.1 F).1;have f:∀ k,d.getD k true=false→d.getD k false=true→False:=fun k h0 m=>by
   rcases qu k d.size with U | U
   ·simp [U] at h0 m;rw [h0] at m;cases m
   ·simp [zbg U] at m
  have C:∀ j,j∈Region.ready md ops d→¬ j∈W:=by
   intro j s ab;obtain⟨_,o,R,e,Z,X,q⟩:=r j ab;obtain⟨_,o',O,n⟩:=zdf.1 s;rw [R] at O;obtain rfl:=jd O;have hl:=n e Z X;rcases q with q | q
   ·rw [q] at hl;exact f i z hl
   ·exact f _ (r _ q).1 hl
  refine⟨fun h=>(by rw [h] at F;cases F),fun j s=>?_⟩;have t:¬ D j=true:=fun Y=>C j s (hD j Y)
  by_cases l:j=i
  ·subst l;refine T.wpOp hi L ?_;rw [if_neg t];exact⟨L,H⟩
  ·have m:=H.2 j (ready_mono s l);obtain⟨A,I,E,n⟩:=zdf.1 s;have N:∀ e∈I.after,Region.binds md e=true→e.on≠i:=fun e Z X aa=>by
    have m:=n e Z X;rw [aa] at m;exact f i z m
   have h2:=wpOp_putIf E (p j I E l A N) (fun J b=>B i G J b hi) (fun J b=>B j I J b E) hQ T m
   have x:∀ k ok,ops[k]?=some ok→k≠i→(d.setIfInBounds j true).getD k true=false →
     (∀ e∈ok.after,Region.binds md e=true→e.on≠i)→G.apart ops ok=true:=fun k ok M ad r ae=>by
    refine p k ok M ad ?_ ae
    by_cases y:j=k
    ·subst y;exact A
    ·rw [getD_set_ne true y] at r;exact r
   have V:zq8 md ops (d.setIfInBounds j true) i W=true:=by
    simp only [zq8,zbr,zcd] at u ⊢;refine⟨u.1,fun k M=>⟨?_,(u.2 k M).2⟩⟩;have y:j≠k:=by rintro rfl;exact C j s M
    rw [getD_set_ne true y];exact(u.2 k M).1
   refine wpOp_mono (fun a' w' K=>?_) h2;rw [if_neg t] at K ⊢;refine⟨K.2.1,ih (d.setIfInBounds j true) a' w' V x (ready_mono F (Ne.symm l)) K.1 K.2.1 ?_⟩;rw [Array.setIfInBounds_comm _ _ l];exact K.2.2
theorem zlf {d:Oper}(W:List Nat){b:Array Bool}{a:Act}(e:ops[i]?=some d)
 (o:Region.noSelect ops=true) (m:Region.free md ops b i=true) (n:(Region.ready md ops b).contains i=true) (l:zq8 md ops b i W=true) (f:∀ j,D j=true→j∈W)
 (g:∀ c a w,Q (.panic c) (a.put d.dst v) w→Q (.panic c) a w) (p:YieldsIf P ops S d v a) (k:S w)
 (h:wpT P md ops Q S D fuel (b.setIfInBounds i true) (a.put d.dst v) w):wpT P md ops Q S D (fuel+1) b a w :=
 ye7 e (Region.noSelect_spec o) g f fuel b a w l (Region.free_spec e m) (by simpa using n) p k h
theorem z1y (i:Nat){e:Oper}{b:Array Bool}{a:Act}(o:ops[i]?=some e)(n:e.guard=none)(g:Region.ready md ops b=[i])(m:D i=false)
 (h:∀ K:Act→World→Prop,(∀ d c,S c→wpT P md ops Q S D fuel (b.setIfInBounds i true) d c→K d c)→e.wp P a w K Q):wpT P md ops Q S D (fuel+1) b a w:=by
 refine⟨fun h0=>(by rw [g] at h0;cases h0),fun j f=>?_⟩;rw [g] at f;obtain rfl:j=i:=by simpa using f
 unfold wpOp;simp only [o];rw [if_pos (by simp [Region.wanted,n])];refine .inl (h _ fun d c l k=>?_);rw [if_neg (by rw [m];simp)];exact⟨l,k⟩
theorem z0i (i:Nat){d:Oper}{b:Array Bool}{a:Act}(n:ops[i]?=some d)(m:d.guard=none)(g:Region.ready md ops b=[i])(l:D i=true)
 (h:∀ K:Act→World→Prop,(∀ c e,wpAny P md ops Q fuel (b.setIfInBounds i true) c e→K c e)→d.wp P a w K Q):wpT P md ops Q S D (fuel+1) b a w:=by
 refine⟨fun h0=>(by rw [g] at h0;cases h0),fun j f=>?_⟩;rw [g] at f;obtain rfl:j=i:=by simpa using f
 unfold wpOp;simp only [n];rw [if_pos (by simp [Region.wanted,m])];refine .inl (h _ fun c e k=>?_);rw [if_pos l];exact k
theorem zp3 (i:Nat){d:Oper}{b:Array Bool}{a:Act}(m:ops[i]?=some d)(l:d.guard=none)(g:Region.ready md ops b=[i])
 (h:∀ K:Act→World→Prop,(∀ c e,wpAny P md ops Q fuel (b.setIfInBounds i true) c e→K c e)→d.wp P a w K Q):wpAny P md ops Q (fuel+1) b a w:=by
 refine⟨fun h0=>(by rw [g] at h0;cases h0),fun j f=>?_⟩;rw [g] at f;obtain rfl:j=i:=by simpa using f
 unfold wpOp;simp only [m];rw [if_pos (by simp [Region.wanted,l])];exact .inl (h _ fun c e k=>k)
theorem zsi {id:Nat}{a:Act}(S:World→Prop)(D:Nat→Bool)(i:Nat){b:Oper}(x:Operand)(v:Value)(l:P.follows .mixedOrders=true)(d:ops.size=fuel+1)
 (k:ops[i]?=some b) (n:Region.noSelect ops=true) (e:Region.free .any ops (Array.replicate ops.size false) i=true) (f:(Region.ready .any ops (Array.replicate ops.size false)).contains i=true)
 (g:∀ c a w,Q (.panic c) (a.put b.dst v) w→Q (.panic c) a w) (j:b.guard=none) (m:b.op= .move x) (o:a.eval x=v)
 (h:wpT P .any ops Q S D fuel ((Array.replicate ops.size false).setIfInBounds i true) (a.put b.dst v) w.drew):(Code.region id ops true).wp P Q a w:=by
 refine wp_region_any l ?_;rw [show ops.size=fuel+1 from d] at h e f ⊢;exact wpAny_take k n e f g (.inl ⟨by simp [Region.wanted,j],fun w=>by unfold execOp;simp [m,o]⟩) (zxy _ _ _ _ h)
theorem zhm {op:Oper}{a:Act}(hw:Region.wanted op (yielded ops a.tmps)=true)(ty:TypeId)(x:Operand)(ho:op.op= .load ty x)
  (g:Nat) (hx:a.eval x= .pointer (some ⟨g,0,none⟩)) (t:TypeId) (cs:Array Value) (d:TypeDesc) (hS:∀ w,S w→w.heap[g]?=some (.cells cs t (0,0)))
  (hu:P.underlying ty=some d) (hd:(match d with | .struct _ | .array _ _=>true | _=>false)=true) (hi:(P.info? ty).map (·.size)=some cs.size):YieldsIf P ops S op (.agg cs) a :=
 .inl ⟨hw,fun w b=>by
  unfold execOp;simp only [ho,hx,Instr.loadAt,Instr.sureAddr,Sem.run_bind,Sem.run_pure,zqf,zdi w g t ty cs (0,0) d (hS w b) hu hd hi]⟩
end
end
theorem zej {P:Program}{fn:Func}{p q u:Tmp}{ty:TypeId}(h:fn.results=#[.cell p ty,.cell q ty,.tmp u])(tmps:Array Value)(w:World)(g g':Nat)(t:TypeId)(cs cs':Array Value)(d:TypeDesc)
  (hp:tmps.getD p undef= .pointer (some ⟨g,0,none⟩)) (hg:w.heap[g]?=some (.cells cs t (0,0))) (hq:tmps.getD q undef= .pointer (some ⟨g',0,none⟩)) (hg':w.heap[g']?=some (.cells cs' t (0,0)))
  (hu:P.underlying ty=some d) (hd:(match d with | .struct _ | .array _ _=>true | _=>false)=true) (hi:(P.info? ty).map (·.size)=some cs.size) (hi':(P.info? ty).map (·.size)=some cs'.size) (x:Value) (hx:tmps.getD u undef=x) :
  (results fn tmps).run P w= .ok (.tuple #[.agg cs,.agg cs',x]) w:=by
 have a:tmps[p]?.getD undef= .pointer (some ⟨g,0,none⟩):=by simpa using hp
 have b:tmps[q]?.getD undef= .pointer (some ⟨g',0,none⟩):=by simpa using hq
 have c:tmps[u]?.getD undef=x:=by simpa using hx
 simp [results,h,a,b,c,asAddr,zdi w g t ty cs (0,0) d hg hu hd hi,zdi w g' t ty cs' (0,0) d hg' hu hd hi']
def Fq (w:World)(a:zc)(b:World)(o n:zc):Prop :=
 Below w.heap.size w b∧b.heap[w.heap.size]?=some (.cells (hv a) 110 (0,0))∧b.heap[w.heap.size+1]?=some (.cells (hv o) 110 (0,0))∧b.heap[w.heap.size+1+1]?=some (.cells (hv n) 110 (0,0))
theorem Fq.start (w:World)(a:zc):Fq w a (((w.alloc (.cells (hv a) 110)).alloc (.cells #[Value.int IntKind.u8 0,Value.int IntKind.u8 0,Value.int IntKind.u8 0,Value.int IntKind.u8 0,Value.int IntKind.u8 0,Value.int IntKind.u8 0,Value.int IntKind.u8 0,Value.int IntKind.u8 0] 110)).alloc (.cells #[Value.int IntKind.u8 0,Value.int IntKind.u8 0,Value.int IntKind.u8 0,Value.int IntKind.u8 0,Value.int IntKind.u8 0,Value.int IntKind.u8 0,Value.int IntKind.u8 0,Value.int IntKind.u8 0] 110)) ql ql:=by
 refine⟨zca _ _ _ _,zj (zj (zg _ _)),?_,?_⟩
 ·refine zj ?_;rw [show w.heap.size+1=(w.alloc (.cells (hv a) 110)).heap.size by simp];exact zg _ _
 ·rw [show w.heap.size+1+1=((w.alloc (.cells (hv a) 110)).alloc (.cells #[Value.int IntKind.u8 0,Value.int IntKind.u8 0,Value.int IntKind.u8 0,Value.int IntKind.u8 0,Value.int IntKind.u8 0,Value.int IntKind.u8 0,Value.int IntKind.u8 0,Value.int IntKind.u8 0] 110)).heap.size by simp];exact zg _ _
theorem Fq.next {a o n:zc}(h:Fq w a wz o n)(b:Below wz.heap.size wz wy):Fq w a wy o n :=
 ⟨h.1.trans (b.mono h.1.size),by rw [b.block _ (ju h.2.1)];exact h.2.1,by rw [b.block _ (ju h.2.2.1)];exact h.2.2.1,by rw [b.block _ (ju h.2.2.2)];exact h.2.2.2⟩
theorem Fq.set1 {a o n:zc}(h:Fq w a wz o n)(b:zc):Fq w a (wz.setRow (w.heap.size+1) (hv b)) b n :=
 ⟨za2 h.1 (vk _) _,by rw [zfo _ _ _ _ (by omega)];exact h.2.1,za0 _ _ _ _ _ _ h.2.2.1,by rw [zfo _ _ _ _ (by omega)];exact h.2.2.2⟩
theorem Fq.set2 {a o n:zc}(h:Fq w a wz o n)(b:zc):Fq w a (wz.setRow (w.heap.size+1+1) (hv b)) o b :=
 ⟨za2 h.1 (by omega) _,by rw [zfo _ _ _ _ (by omega)];exact h.2.1,by rw [zfo _ _ _ _ (by omega)];exact h.2.2.1,za0 _ _ _ _ _ _ h.2.2.2⟩
theorem Fq.drew {a o n:zc}(h:Fq w a wz o n):Fq w a wz.drew o n:=⟨h.1.drew,h.2.1,h.2.2.1,h.2.2.2⟩
theorem z87 (a:zc)(c:a.length=8)(v:Value)(ps:za)(w:World)(h:Hss w v ps):
  Calls prog 215 #[.agg (hv a),v,.bool true] w fun r s=>r= .returned (.tuple #[.agg (hv a),.agg (hv a),.bool (decide (ps.length=0))])∧Below w.heap.size w s:=by
 obtain⟨b,q,rfl,-,-,-⟩:=h;obtain⟨f,g,i,j,k,l,m,n,e⟩:=zsp a c;rw [e];have d:((ps.length:Int)==0)=decide (ps.length=0):=by
  rw [zfb];simp
 have p:=zf d;clear d c e;go_enter func215,ntmps215;go_wp2_with fail
 go_region
 all_goals go_wp2
 all_goals refine z8 (v:= .tuple #[.agg #[.int .u8 f,.int .u8 g,.int .u8 i,.int .u8 j,.int .u8 k,.int .u8 l,.int .u8 m,.int .u8 n],.agg #[.int .u8 f,.int .u8 g,.int .u8 i,.int .u8 j,.int .u8 k,.int .u8 l,.int .u8 m,.int .u8 n],.bool ((ps.length:Int)==0)]) (by simp [results,results215,go_sem]) rfl ⟨by rw [p.o],?_⟩
 all_goals exact(zca _ _ _ _).drew
theorem yek (a p:zc)(j:a.length=8)(k:p.length=8)(b g i:Nat)(w:World)(h:w.rangeAt b g (hv p).toList):
  Calls prog 215 #[.agg (hv a),.slice (some ⟨b,g,none⟩) 1 i,.bool false] w fun r A=>r= .returned (.tuple #[.agg (hv p),.agg (hv p),.bool true])∧Below w.heap.size w A:=by
 obtain⟨M,N,O,P,Q,R,S,T,m⟩:=zsp a j;obtain⟨n,o,q,s,t,u,x,y,l⟩:=zsp p k;rw [l] at h ⊢;rw [m];have f:=fun(c d e:Obj)=>yi7 (zeo h (zca w c d e));have B:=fun c d e=>(f c d e).1;have C:=fun c d e=>(f c d e).2.1;have D:=fun c d e=>(f c d e).2.2.1;have E:=fun c d e=>(f c d e).2.2.2.1;have F:=fun c d e=>(f c d e).2.2.2.2.1;have G:=fun c d e=>(f c d e).2.2.2.2.2.1;have H:=fun c d e=>(f c d e).2.2.2.2.2.2.1;have I:=fun c d e=>(f c d e).2.2.2.2.2.2.2;have z:b < w.heap.size:=yg (p:=⟨b,g+0,none⟩) (h 0 _ rfl);have J:b≠w.heap.size:=by omega
 have K:b≠w.heap.size+1:=by omega
 have L:b≠w.heap.size+1+1:=by omega
 clear h l m j k f;go_enter func215,ntmps215;go_wp2_with fail
 go_region
 all_goals go_wp2
 all_goals refine z8 (v:= .tuple #[.agg #[.int .u8 n,.int .u8 o,.int .u8 q,.int .u8 s,.int .u8 t,.int .u8 u,.int .u8 x,.int .u8 y],.agg #[.int .u8 n,.int .u8 o,.int .u8 q,.int .u8 s,.int .u8 t,.int .u8 u,.int .u8 x,.int .u8 y],.bool true]) (by simp [results,results215,go_sem]) rfl ⟨rfl,?_⟩
 all_goals exact(zca _ _ _ _).drew
theorem yjn (a:zc)(d:a.length=8)(v:Value)(ps:za)(w:World)(f:ps.length≠1)(h:Hss w v ps):
  Calls prog 215 #[.agg (hv a),v,.bool false] w fun r g=>r= .returned (.tuple #[.agg (hv ql),.agg (hv ql),.bool false])∧Below w.heap.size w g:=by
 obtain⟨b,e,rfl,-,-,-⟩:=h;have i:(hv a).size=8:=by rw [zay,d]
 have c:=zf (Fq.start w a);have j:((ps.length:Int) != 1)=true:=by rw [bne_iff_ne];omega
 clear f d;go_enter func215,ntmps215;go_wp2_with (first
  | (refine xe rfl 110 _ _ rfl (w.heap.size+1) (hv ql) rfl rfl 110 _ c.o.2.2.1 (by kernel_rfl) rfl (zcz _) ?_)
  | (refine xe rfl 110 _ _ rfl (w.heap.size+1+1) (hv ql) rfl rfl 110 _ (c.o.set1 ql).2.2.2 (by kernel_rfl) rfl (zcz _) ?_))
 refine z8 (v:= .tuple #[.agg (hv ql),.agg (hv ql),.bool false]) (zej results215 _ _ (w.heap.size+1) (w.heap.size+1+1) 110 _ _ _ rfl ((c.o.set1 ql).set2 ql).2.2.1 rfl ((c.o.set1 ql).set2 ql).2.2.2 underlying110 rfl (by kernel_rfl) (by kernel_rfl) _ rfl) rfl ⟨rfl,?_⟩;exact((c.o.set1 ql).set2 ql).1
end Go.Proofs.YtlcllcgngjhoaaaGreatDoor
