import Derived.Test.YtlcllcgngjhoaaaGreatDoorG25
import Derived.Test.YtlcllcgngjhoaaaGreatDoorG15
set_option maxHeartbeats 8000000
set_option maxRecDepth 100000
set_option linter.all false
namespace Go.Proofs.YtlcllcgngjhoaaaGreatDoor
open Go.RowKit Go.Proofs.Tryz
def zuc:=@run_storeAt_mid
variable {b o:Nat}{h:zc}{w:World}
def zi4 (a v:Value):Sem Unit:=Instr.storeAt 154 a v
theorem jn (a v:Value):Instr.storeAt 154 a v=zi4 a v:=rfl
def z3z (a:Value):Sem Value:=Instr.loadAt 152 a
theorem j4 (a:Value):Instr.loadAt 152 a=z3z a:=rfl
def zph (a v:Value):Sem Unit:=Instr.storeAt 152 a v
theorem jo (a v:Value):Instr.storeAt 152 a v=zph a v:=rfl
def z0q (parts:Array (Nat×Value)):Sem Value:=Instr.build 152 parts
theorem ji (parts:Array (Nat×Value)):Instr.build 152 parts=z0q parts:=rfl
def yfu (parts:Array (Nat×Value)):Sem Value:=Instr.build 154 parts
theorem jh (parts:Array (Nat×Value)):Instr.build 154 parts=yfu parts:=rfl
def zez (a:Value):Sem Value:=Instr.loadAt 110 a
theorem j3 (a:Value):Instr.loadAt 110 a=zez a:=rfl
def zj0 (a v:Value):Sem Unit:=Instr.storeAt 110 a v
theorem jm (a v:Value):Instr.storeAt 110 a v=zj0 a v:=rfl
theorem zpr:(prog.info? 152).map (·.size)=some 11:=by kernel_rfl
theorem zm8:(prog.info? 110).map (·.size)=some 8:=by kernel_rfl
theorem zax {a:List Value}(h:w.there b o 44)(c:a.length=44)(d:∀ v∈a,v.oneCell'=true):(zi4 (.pointer (some ⟨b,o,none⟩)) (.agg a.toArray)).run prog w= .ok () (w.setCells b o a):=by
 have:=zuc (P:=prog) w b o 154 a.toArray (by rw [xf,c];exact h) (by rw [zcs,xf,c]) (ziq d);simpa [zi4] using this
theorem zwf {a:List Value}(h:w.rangeAt b o a)(c:a.length=11):(z3z (.pointer (some ⟨b,o,none⟩))).run prog w= .ok (.agg a.toArray) w :=
 zxh w b o _ a _ h underlying152 rfl (by rw [zpr,c])
theorem zhv {a:List Value}(h:w.there b o 11)(c:a.length=11)(d:∀ v∈a,v.oneCell'=true):(zph (.pointer (some ⟨b,o,none⟩)) (.agg a.toArray)).run prog w= .ok () (w.setCells b o a):=by
 have:=zuc (P:=prog) w b o 152 a.toArray (by rw [xf,c];exact h) (by rw [zpr,xf,c]) (ziq d);simpa [zph] using this
theorem za5 (c:w.rangeAt b o (h.map bv))(a:h.length=8):(zez (.pointer (some ⟨b,o,none⟩))).run prog w= .ok (.agg (hv h)) w :=
 zxh w b o _ (h.map bv) _ c underlying110 rfl (by rw [zm8,yi,a])
theorem z96:∀ v∈h.map bv,v.oneCell'=true:=fun v hv=>by
 obtain⟨b,-,rfl⟩:=yl.1 hv;simp [bv,Value.oneCell']
theorem zgp (c:w.there b o 8)(a:h.length=8):(zj0 (.pointer (some ⟨b,o,none⟩)) (.agg (hv h))).run prog w= .ok () (w.setCells b o (h.map bv)):=by
 have:=zuc (P:=prog) w b o 110 (h.map bv).toArray (by rw [xf,yi,a];exact c) (by rw [zm8,xf,yi,a]) (ziq z96);simpa [zj0,hv] using this
theorem z2l (h:zc)(b:h.length=8)(v:Value)(a:v.oneCell'=true)(w:World):(z0q #[(0,.bool true),(2,.agg (hv h)),(3,v)]).run prog w= .ok (.agg (Px.cs ⟨true,false,h,v⟩).toArray) w:=by
 obtain⟨c,d,e,f,g,i,j,k,rfl⟩:=hv8 h b;cases v<;>first | (simp [Value.oneCell'] at a;done) | kernel_rfl
theorem z6u (h:zc)(a:h.length=8)(w:World):(z0q #[(0,.bool true),(1,.bool true),(2,.agg (hv h))]).run prog w= .ok (.agg (Px.cs ⟨true,true,h,.slice none 0 0⟩).toArray) w:=by
 obtain⟨b,c,d,e,f,g,i,j,rfl⟩:=hv8 h a
 kernel_rfl
def Px.no:Px:=⟨false,false,vg,.slice none 0 0⟩
theorem zym (w:World):(z0q #[]).run prog w= .ok (.agg Px.no.cs.toArray) w:=by kernel_rfl
theorem zsq (w:World):(yfu #[]).run prog w= .ok (.agg noV.toArray) w:=by kernel_rfl
def Fx.no:List Px:=[.no,.no,.no,.no]
theorem z08:noV=vf Fx.no:=rfl
theorem Px.no_ok:Px.no.ok:=⟨rfl,_,_,_,rfl⟩
theorem Fx.no_ok:FOk Fx.no:=⟨rfl,fun x a=>by
 simp only [Fx.no,jr,zf3,z4f,or_self] at a;rw [a];exact Px.no_ok⟩
section
attribute [local go_sem ↓] jy jn j4 jo ji jh j3 jm
def zds (b:List Px):Nat→List Px→List Px
 | 0,a=>a
 | k+1,a=>if ((zds b k a).getD k .no).fits then zds b k a else (zds b k a).set k (b.getD k .no)
def zor (c d:List Px):List Px:=List.zipWith (fun a b=>if a.fits then a else b) c d
theorem zhc {a:List Px}(h:FOk a)(k:Nat):(a.getD k .no).ok:=by
 rw [zl]
 by_cases b:k < a.length
 ·rw [zt b];exact h.2 _ (yd b)
 ·rw [zaz (by omega)];exact Px.no_ok
theorem zoq {c d:List Px}(a:FOk c)(b:FOk d):∀ k,FOk (zds d k c)
 | 0=>a
 | k+1=>by
  have:=zoq a b k;unfold zds;split
  ·exact this
  ·exact⟨by simp [this.1],ztn this.2 k (zhc b k)⟩
theorem zmi {α:Type}{e:List α}(h:e.length=4):∃ a b c d,e=[a,b,c,d]:=by
 match e,h with
 | [a,b,c,d],_=>exact⟨a,b,c,d,rfl⟩
theorem zpp {e f:List Px}(k:FOk e)(l:FOk f):zds f 4 e=zor e f:=by
 obtain⟨a,b,c,d,rfl⟩:=zmi k.1;obtain⟨m,n,o,p,rfl⟩:=zmi l.1;simp only [zds,zor,List.zipWith_cons_cons,List.zipWith_nil_right];cases g:a.fits<;>cases h:b.fits<;>cases i:c.fits<;>cases j:d.fits<;>simp [g,h,i,j]
theorem ygs (O:Nat→Prop)(b:Nat)(c a:List Px)(K:FOk c)(L:FOk a)(w:World)(I:O b)(h:yu w b c):
  Calls prog 182 #[yx b,.agg (vf a).toArray] w fun r B=>r= .returned (.tuple #[])∧zq O [xg] w B∧yu B b (zor c a):=by
 have G:=zf K;have p:=zf L;have Q:=zf I;have E:Hid (yu (w.alloc (.cells (vf a).toArray xg)) b c∧yu (w.alloc (.cells (vf a).toArray xg)) w.heap.size a):=⟨zj h,zg _ _⟩;have T:b < w.heap.size:=zi h;unfold yx;clear h K L I;go_enter func182,ntmps182;go_wp2_with fail;go_loopw [5] (fun i wr=>∃ k:Nat,k≤4∧i= .int .i64 k∧zq O [xg] w wr∧yu wr b (zds a k c)∧yu wr w.heap.size a) (fun i _=>4 - (intOf i).toNat)
 case atStart=>exact⟨0,by omega,rfl,(zq.refl O _ w).alloc _,E.o.1,E.o.2⟩
 case round =>
  obtain⟨k,W,rfl,D,q,C⟩:=hrel
  by_cases A:k < 4
  ·have s:=zoq G.o p.o k;have e:k < (zds a k c).length:=by rw [s.1];exact A
   have g:k < a.length:=by rw [p.o.1];exact A
   have J:(zds a k c).getD k .no=(zds a k c)[k]:=by rw [zl,zt e];rfl
   have v:a.getD k .no=a[k]:=by rw [zl,zt g];rfl
   have H:wr.cell? ⟨b,k*11+1,none⟩=some (.bool ((zds a k c)[k]).fits):=(q.cell s.2 e (j:=1) (by omega) rfl).1;have X:(0:Int)≤(k:Int):=by omega
   have Y:(k:Int) < 4:=by omega
   have S:=zf D;have N:=zf q;have M:=zf C;have F:Hid (zds a (k+1) c=if ((zds a k c)[k]).fits then zds a k c else (zds a k c).set k a[k]):=by show _=_;rw [zds,J,v]
   have d:a[k].ok:=p.o.2 _ (yd g);have R:=zf d;have V:=zf s;have P:=zf e;have x:(z3z (.pointer (some ⟨w.heap.size,k*11,none⟩))).run prog wr.drew= .ok (.agg a[k].cs.toArray) wr.drew:=zwf (w:=wr.drew) (C.piece p.o.2 g) (Px.cs_len d);have U:(zph (.pointer (some ⟨b,k*11,none⟩)) (.agg a[k].cs.toArray)).run prog wr.drew= .ok () (wr.drew.setCells b (k*11) a[k].cs):=zhv (w:=wr.drew) (q.there s.2 e (o:=0) (by omega)) (Px.cs_len d) (Px.cs_one d);have f:Hid (zq O [xg] w (wr.drew.setCells b (k*11) a[k].cs)∧yu (wr.drew.setCells b (k*11) a[k].cs) b ((zds a k c).set k a[k])∧yu (wr.drew.setCells b (k*11) a[k].cs) w.heap.size a):=by
    have u:yu wr.drew b (zds a k c):=q;refine⟨D.drew.setCells (.inl Q.o) u (by simp) _ _,u.set s.2 e d,?_⟩;show(wr.drew.setCells _ _ _).heap[w.heap.size]?=_;rw [zar _ _ (by omega)];exact C
   have m:(z3z (.pointer (some ⟨w.heap.size,k*11,none⟩))).run prog (wr.drew.setCells b (k*11) a[k].cs)= .ok (.agg a[k].cs.toArray) (wr.drew.setCells b (k*11) a[k].cs):=zwf (f.o.2.2.piece p.o.2 g) (Px.cs_len d);have t:=zf (And.intro x m);clear D q C J v d s x m;generalize (zds a k c)[k]=z at *;generalize a[k]=y at *;cases l:z.fits with
   | true =>
    rw [l] at H;go_wp2_with fail
    go_roundw
    case rel=>exact⟨k+1,by omega,by go_num,S.o,by rw [F.o,l];exact N.o,M.o⟩
    case measure=>simp [intOf];omega
   | false =>
    rw [l] at H;go_wp2_with fail
    go_region_held3 (fun B=>(z3z (.pointer (some ⟨w.heap.size,k*11,none⟩))).run prog B= .ok (.agg y.cs.toArray) B) (first | exact t.o.1 | exact t.o.2) (fail)
    rename_i n;clear n;go_wp2_with fail
    go_roundw
    case rel=>exact⟨k+1,by omega,by go_num,f.o.1,by rw [F.o,l];exact f.o.2.1,f.o.2.2⟩
    case measure=>simp [intOf];omega
  ·obtain rfl:k=4:=by omega
   go_wp2_with fail
   go_end0
   exact⟨rfl,D,by rw [← zpp G.o p.o];exact q⟩
end
variable {fb:Nat}
section
attribute [local go_sem ↓] jy jn j4 jo ji jh j3 jm
def z3a (a:List Px):List Px:=zor a Fx.no
theorem zqn {P:Program}{fn:Func}{p:Tmp}{ty:TypeId}(h:fn.results=#[.cell p ty])(tmps:Array Value)(w:World)(g:Nat)(t:TypeId)(cs:Array Value)(fr:Nat×Nat)(d:TypeDesc)
  (hp:tmps.getD p undef= .pointer (some ⟨g,0,none⟩)) (hg:w.heap[g]?=some (.cells cs t fr))
  (hu:P.underlying ty=some d) (hd:(match d with | .struct _ | .array _ _=>true | _=>false)=true) (hi:(P.info? ty).map (·.size)=some cs.size) :
  (results fn tmps).run P w= .ok (.agg cs) w:=by
 have a:=zdi (P:=P) w g t ty cs fr d hg hu hd hi;simp only [zau] at hp;simp [results,h,hp,asAddr,a]
theorem vp {xs:List Px}(h:yu w fb xs)(a:FOk xs):w.there fb 0 44:=by
 intro j b;have c:=a.len;have:=zw h (0+j) ((vf xs)[j]'(by omega)) (by rw [xk,jw];exact zt _);exact⟨by rw [this.1];rfl,this.2⟩
theorem zap {d a:List Px}(h:yu w fb d)(b:FOk d)(c:FOk a):yu (w.setCells fb 0 (vf a)) fb a:=by
 unfold yu;rw [zfs (vf a) 0 h (by rw [b.len,c.len];exact zm _),c.len];simp [b.len]
theorem z3b (a:List Px)(C:FOk a)(w:World):
  Calls prog 177 #[.agg (vf a).toArray] w fun r K=>r= .returned (.agg (vf (z3a a)).toArray)∧Below w.heap.size w K:=by
 have q:=zf C;have A:=Fx.no_ok;have p:=zf A;clear C A;go_enter func177,ntmps177;go_wp2_with fail;have s:Hid (Below w.heap.size w ((w.alloc (.cells (vf a).toArray xg)).alloc (.cells za6 xg))∧yu ((w.alloc (.cells (vf a).toArray xg)).alloc (.cells za6 xg)) w.heap.size a∧yu ((w.alloc (.cells (vf a).toArray xg)).alloc (.cells za6 xg)) (w.heap.size+1) Fx.no):=by
  refine⟨xu _ _ _,zj (zg _ _),?_⟩;have:=zg (w.alloc (.cells (vf a).toArray xg)) (.cells za6 xg);rw [show(w.alloc (.cells (vf a).toArray xg)).heap.size=w.heap.size+1 by simp] at this;exact this
 generalize (w.alloc (.cells (vf a).toArray xg)).alloc (.cells za6 xg)=L at *;go_loopw [4] (fun i wr=>∃ k:Nat,k≤4∧i= .int .i64 k∧Below w.heap.size w wr∧yu wr w.heap.size (zds Fx.no k a)∧yu wr (w.heap.size+1) Fx.no) (fun i _=>4 - (intOf i).toNat)
 case atStart=>exact⟨0,by omega,rfl,s.o.1,s.o.2.1,s.o.2.2⟩
 case round =>
  obtain⟨k,M,rfl,m,e,g⟩:=hrel
  by_cases l:k < 4
  ·have n:=zoq q.o p.o k;have c:k < (zds Fx.no k a).length:=by rw [n.1];exact l
   have B:(zds Fx.no k a).getD k .no=(zds Fx.no k a)[k]:=by rw [zl,zt c];rfl
   have h:Fx.no.getD k .no=Px.no:=by
    match k,l with
    | 0,_=>rfl
    | 1,_=>rfl
    | 2,_=>rfl
    | 3,_=>rfl
   have y:wr.cell? ⟨w.heap.size,k*11+1,none⟩=some (.bool ((zds Fx.no k a)[k]).fits):=(e.cell n.2 c (j:=1) (by omega) rfl).1;have N:(0:Int)≤(k:Int):=by omega
   have O:(k:Int) < 4:=by omega
   have G:=zf m;have F:=zf e;have E:=zf g;have x:Hid (zds Fx.no (k+1) a=if ((zds Fx.no k a)[k]).fits then zds Fx.no k a else (zds Fx.no k a).set k .no):=by show _=_;rw [zds,B,h]
   have I:=zym wr;have u:(zph (.pointer (some ⟨w.heap.size,k*11,none⟩)) (.agg Px.no.cs.toArray)).run prog wr= .ok () (wr.setCells w.heap.size (k*11) Px.no.cs):=zhv (e.there n.2 c (o:=0) (by omega)) (Px.cs_len Px.no_ok) (Px.cs_one Px.no_ok);have f:Hid (Below w.heap.size w (wr.setCells w.heap.size (k*11) Px.no.cs)∧yu (wr.setCells w.heap.size (k*11) Px.no.cs) w.heap.size ((zds Fx.no k a).set k .no)∧yu (wr.setCells w.heap.size (k*11) Px.no.cs) (w.heap.size+1) Fx.no):=by
    refine⟨xn m (zm _) _ _,e.set n.2 c Px.no_ok,?_⟩;show(wr.setCells _ _ _).heap[w.heap.size+1]?=_;rw [zar _ _ (by omega)];exact g
   clear m e g B h n;generalize (zds Fx.no k a)[k]=z at *;cases d:z.fits with
   | true =>
    rw [d] at y;go_wp2_with fail
    go_roundw
    case rel=>exact⟨k+1,by omega,by go_num,G.o,by rw [x.o,d];exact F.o,E.o⟩
    case measure=>simp [intOf];omega
   | false =>
    rw [d] at y;go_wp2_with fail
    go_roundw
    case rel=>exact⟨k+1,by omega,by go_num,f.o.1,by rw [x.o,d];exact f.o.2.1,f.o.2.2⟩
    case measure=>simp [intOf];omega
  ·obtain rfl:k=4:=by omega
   rw [zpp q.o p.o] at e;have b:FOk (zor a Fx.no):=by rw [← zpp q.o p.o];exact zoq q.o p.o 4
   have J:=ze0 (j6 e) b.len;have u:=zax (vp g Fx.no_ok) b.len (zcl b.2);have H:=zf (zap g Fx.no_ok b);have D:=zf (xn m (vk w.heap.size) (vf (zor a Fx.no)) 0);have t:Hid (FOk (z3a a)):=b;clear m e g b;go_wp2_with fail;exact z8 (v:= .agg (vf (z3a a)).toArray) (zqn results177 _ _ (w.heap.size+1) xg _ (0,0) _ rfl H.o underlying154 rfl (by rw [zcs,xf,t.o.len])) rfl ⟨rfl,D.o⟩
end
variable {hs:zc}{k:Nat}
section
attribute [local go_sem ↓] jy jn j4 jo ji jh j3 jm
theorem z9g (A B H E a:List Value)(h:a.length=H.length):(A++(B++(H++E))).take (A.length+B.length)++(a++(A++(B++(H++E))).drop (A.length+B.length+a.length))=A++(B++(a++E)):=by
 have b:A++(B++(H++E))=(A++B)++(H++E):=by simp
 have c:A++(B++(H++E))=(A++B++H)++E:=by simp
 have t:(A++(B++(H++E))).take (A.length+B.length)=A++B:=by
  rw [b,show A.length+B.length=(A++B).length by simp,zob]
 have d:(A++(B++(H++E))).drop (A.length+B.length+a.length)=E:=by
  rw [c,h,show A.length+B.length+H.length=(A++B++H).length by simp;omega,zdx]
 rw [t,d];simp
theorem yu.setH {a:List Px}(h:yu w fb a)(f:∀ x∈a,x.ok)(g:k < a.length)(i:hs.length=8):yu (w.setCells fb (k*11+2) (hs.map bv)) fb (a.set k { a[k] with hash:=hs }):=by
 have n:=zpo f;have c:=f _ (yd g);have l:({ a[k] with hash:=hs }:Px).ok:=⟨i,c.2⟩;have b:vf a=(vf a).take (k*11)++(a[k].cs++(vf a).drop (k*11+11)):=by
  have:=zrl f k g a[k] c;rw [List.set_getElem_self] at this;exact this
 have m:((vf a).take (k*11)).length=k*11:=by simp;omega
 unfold yu;rw [zfs (hs.map bv) (k*11+2) h (by simp;omega),zrl f k g _ l];have d:=z9g ((vf a).take (k*11)) [.bool a[k].there,.bool a[k].fits] (a[k].hash.map bv) (a[k].ent::(vf a).drop (k*11+11)) (hs.map bv) (by simp [i,c.1]);have e:(vf a).take (k*11)++([.bool a[k].there,.bool a[k].fits]++(a[k].hash.map bv++(a[k].ent::(vf a).drop (k*11+11))))=vf a:=by
  conv=>rhs;rw [b]
  simp [Px.cs]
 rw [e,m] at d;have j:(k*11+[Value.bool a[k].there,Value.bool a[k].fits].length)=k*11+2:=rfl;rw [j] at d;rw [d];simp [Px.cs]
def zkb:Value:= .slice none 0 0
def zms (k:Nat)(d:zc):List Px:=(List.range 4).map fun j=>if j < k then ⟨true,false,(d.drop (8*j)).take 8,zkb⟩ else .no
theorem yeu (d:zc)(a:k < 4):zms (k+1) d=(zms k d).set k ⟨true,false,(d.drop (8*k)).take 8,zkb⟩:=by
 match k,a with
 | 0,_=>rfl
 | 1,_=>rfl
 | 2,_=>rfl
 | 3,_=>rfl
theorem ymg (d:zc)(a:k < 4):∃ h:k < (zms k d).length,(zms k d)[k]=Px.no:=by
 match k,a with
 | 0,_=>exact⟨by simp [zms],rfl⟩
 | 1,_=>exact⟨by simp [zms],rfl⟩
 | 2,_=>exact⟨by simp [zms],rfl⟩
 | 3,_=>exact⟨by simp [zms],rfl⟩
theorem z1r (d:zc)(b:8*k≤d.length):FOk (zms k d):=by
 refine⟨by simp [zms],fun x a=>?_⟩;obtain⟨j,-,rfl⟩:=yl.1 a;show Px.ok (if j < k then _ else _);split
 ·exact⟨by simp;omega,_,_,_,rfl⟩
 ·exact Px.no_ok
theorem ync:(prog.info? 5).map (·.size)=some 1:=by kernel_rfl
theorem z1g (n:Nat)(hn:n≤4)(ae:0 < n)(v:Value)(d:zc)(K:d.length=8*n)(w:World)(h:Bq w v d):
  Calls prog 248 #[.int .i64 n,v] w fun r w'=>r= .returned (.tuple #[.agg (vf (zms n d)).toArray,.bool true])∧Below w.heap.size w w':=by
 obtain⟨g,R,C,fr,rfl,q,T,Z⟩:=h;have HG:=zf T;have HC:=zf Z;have U:g < w.heap.size:=zi T;have J:=zf K;have t:((d.length:Int)==(n:Int)*8)=true:=by simp;omega
 clear T Z;rw [K] at q t;rw [K];have W:((8*(n:Int)) != (n:Int)*8)=false:=by simp;omega
 clear K t;go_enter func248,ntmps248;go_wp2_with fail;have Y:Hid (Below w.heap.size w (w.alloc (.cells za6 xg))∧yu (w.alloc (.cells za6 xg)) w.heap.size Fx.no):=⟨zk _ _,zg _ _⟩;generalize w.alloc (.cells za6 xg)=W0 at *;go_loopw [1,14] (fun dv i wr=>∃ k L y a:Nat,k≤n∧i= .int .i64 k∧L=8*(n - k)∧L≤y∧(k < n→a=8*k)∧dv= .slice (some ⟨g,a,none⟩) L y∧Below w.heap.size w wr∧yu wr w.heap.size (zms k d)) (fun _ i _=>n - (intOf i).toNat)
 case atStart=>exact⟨0,8*n,R,0,by omega,rfl,by omega,q,fun _=>rfl,rfl,Y.o.1,Y.o.2⟩
 case round =>
  obtain⟨k,L,y,a,hk,rfl,hL,aa,c,rfl,M,s⟩:=hrel
  by_cases X:k < n
  ·replace c:=c X
   have G:k < 4:=by omega
   have I:=z1r d (k:=k) (by rw [J.o];omega);obtain⟨l,p⟩:=ymg d G;have S:8≤L:=by omega
   have i0:(0:Int)≤(k:Int):=by omega
   have i1:(k:Int) < 4:=by omega
   have c0:wr.cell? ⟨w.heap.size,k*11,none⟩=some (.bool false):=(s.cell I.2 l (j:=0) (by omega) (by rw [p];rfl)).1;have f0:wr.frozen? ⟨w.heap.size,k*11,none⟩=false:=(s.cell I.2 l (j:=0) (by omega) (by rw [p];rfl)).2;have f:((d.drop (8*k)).take 8).length=8:=by simp;rw [J.o];omega
   have A:yu (wr.setCell ⟨w.heap.size,k*11,none⟩ (.bool true)) w.heap.size ((zms k d).set k { Px.no with there:=true }):=s.set1 I.2 l (j:=0) (v:= .bool true) (by omega) Px.no_ok (by rw [p];rfl);have D:=ztn I.2 k (x:={ Px.no with there:=true }) Px.no_ok;have m:k < ((zms k d).set k { Px.no with there:=true }).length:=by simpa using l
   have B:=A.setH D m f;rw [List.getElem_set_self,List.set_set] at B;have z:Below w.heap.size w (wr.setCell ⟨w.heap.size,k*11,none⟩ (.bool true)):=M.setCell (zm _) _;have ab:(Builtin.copy_ #[114,114] 3 #[.slice (some ⟨w.heap.size,k*11+2,none⟩) 8 8,.slice (some ⟨g,a,none⟩) L y]).run prog (wr.setCell ⟨w.heap.size,k*11,none⟩ (.bool true))= .ok (.int .i64 8) ((wr.setCell ⟨w.heap.size,k*11,none⟩ (.bool true)).setCells w.heap.size (k*11+2) (((d.drop (8*k)).take 8).map bv)):=by
    have H:=A.there D m (o:=2) (n:=8) (by omega);have:=run_copy_cells (P:=prog) (wr.setCell ⟨w.heap.size,k*11,none⟩ (.bool true)) 114 114 3 5 w.heap.size (k*11+2) 8 8 ⟨g,a,none⟩ L y (((d.drop (8*k)).take 8).map bv) underlying114 ync
     (by rw [yi,f];exact(Nat.min_eq_right S).symm) (fun j u hu=>by
      obtain⟨F,rfl⟩:=xy.1 hu;rw [yi,f] at F;have V:=(z.block g U).trans HG.o;have hi:a+j < d.length:=by rw [J.o];omega
      have:=HC.o (a+j) hi;rw [show(⟨g,a,none⟩:Addr).add j=⟨g,a+j,none⟩ by simp [Addr.add],yq _ _ _ _ _ _ V,this];simp [c]) (fun j F=>(H j (by rwa [yi,f] at F)).1) (fun j F=>(H j (by rwa [yi,f] at F)).2) (fun x hx=>by
       obtain⟨b,-,rfl⟩:=yl.1 hx;rfl)
    rw [yi,f] at this;exact this
   have N:=zf (xn z (zm _) (((d.drop (8*k)).take 8).map bv) (k*11+2));have O:Hid (yu ((wr.setCell ⟨w.heap.size,k*11,none⟩ (.bool true)).setCells w.heap.size (k*11+2) (((d.drop (8*k)).take 8).map bv)) w.heap.size (zms (k+1) d)):=by
    show yu _ _ _;rw [yeu d G];exact B
   have Q:=zf c;have E:=zf hL;clear B A D m z p l I s M f c hL;generalize ((d.drop (8*k)).take 8).map bv=cs at *;go_wp2_with fail
   go_roundw
   case rel=>exact⟨k+1,L - 8,y - 8,if y=8 then a else a+8,by omega,by go_num,by rw [E.o];omega,by omega,fun h=>by have:=E.o;have:=Q.o;rw [if_neg (by omega)];omega,by split<;>rfl,N.o,O.o⟩
   case measure=>simp [intOf];omega
  ·obtain rfl:k=n:=by omega
   have e:=z1r d (k:=k) (by rw [J.o];omega);have ad:=ze0 (j6 s) e.len;have af:=zax (vp s e) e.len (zcl e.2);have HW:=zf (zap s e e);have HB:=zf (xn M (zm w.heap.size) (vf (zms k d)) 0);have HL:=zf e.len;clear e M s;go_wp2_with fail;exact z8 (v:= .tuple #[.agg (vf (zms k d)).toArray,.bool true]) (qa results248 _ _ w.heap.size xg _ (0,0) _ rfl HW.o underlying154 rfl (by rw [zcs,xf,HL.o]) _ rfl) rfl ⟨rfl,HB.o⟩
end
variable {B:Nat}{l:zc}{ls:za}{v x:Value}{w':World}
section
attribute [local go_sem ↓] jy jn j4 jo ji jh j3 jm
theorem OB.kept (h:OB w B x l)(e:∀ k,B≤k→k < w.heap.size→w'.heap[k]?=w.heap[k]?):OB w' B x l:=by
 refine⟨⟨h.1.1,?_⟩,h.2⟩;rcases h.1.2 with h0 | ⟨g,a,b,rfl,c,d,r⟩
 ·exact .inl h0
 ·exact .inr ⟨g,a,b,rfl,c,by rw [e g c (ju d)];exact d,r⟩
theorem OB.bs (h:OB w B x l):Bs w x l:=by
 obtain⟨g,a,rfl,-,-,b⟩:=h.form;exact⟨_,_,rfl,.inr ⟨g,0,rfl,fun j c=>by rw [xk];exact b j c⟩⟩
theorem OB.one (h:OB w B x l):x.oneCell'=true:=by
 obtain⟨g,a,rfl,-⟩:=h.form
 rfl
theorem OBs.cells (h:OBs w B v ls)(c:ls≠[]):
  ∃(b a:Nat) (d:List Value),v= .slice (some ⟨b,0,none⟩) ls.length a∧B≤b∧b < w.heap.size∧d.length=ls.length∧∀ j (t:j < ls.length),w.cell? ⟨b,j,none⟩=some (d.getD j zkb)∧OB w B (d.getD j zkb) ls[j]:=by
 obtain⟨l,⟨u,q⟩,s⟩:=h;rcases q with ⟨rfl,h0⟩ | ⟨g,a,m,rfl,n,f,z,y,A,r⟩
 ·exact absurd (j5.1 h0) c
 ·refine⟨g,a,l,rfl,n,ju f,by omega,fun i k=>?_⟩;obtain⟨x,e,o⟩:=s i k;have p:l.getD i zkb=x:=by rw [zl,e];rfl
  rw [p];refine⟨?_,o⟩;rw [yq _ _ _ _ _ _ f];rw [← r,zfj] at e;rw [qj,if_pos k] at e;simpa using e
def zol (k:Nat)(es:za)(a:List Value):List Px:=(List.range 4).map fun j=>if j < k then ⟨true,false,zae (es.getD j []),a.getD j zkb⟩ else .no
theorem ybl (es:za)(a:List Value)(b:k < 4):zol (k+1) es a=(zol k es a).set k ⟨true,false,zae (es.getD k []),a.getD k zkb⟩:=by
 match k,b with
 | 0,_=>rfl
 | 1,_=>rfl
 | 2,_=>rfl
 | 3,_=>rfl
theorem z2q (k:Nat)(es:za)(a:List Value):(zol k es a).length=4:=by simp [zol]
theorem z95 (es:za)(b:List Value)(h:∀ j,j < k→∃ a n c,b.getD j zkb= .slice a n c):FOk (zol k es b):=by
 refine⟨z2q _ _ _,fun x e=>?_⟩;obtain⟨j,-,rfl⟩:=yl.1 e;show Px.ok (if j < k then _ else _);split
 ·rename_i d;exact⟨zru _,h j d⟩
 ·exact Px.no_ok
theorem ybi {x:Option (zc)}{n:Nat}{es:za}(h:zn3 x n=some es):es.length=n∧1≤es.length∧es.length≤4∧∀ e∈es,e.length≤20:=by
 unfold zn3 zd6 at h;cases x with
 | none=>simp at h
 | some d =>
  simp only at h;cases c:unb d with
  | none=>simp [c] at h
  | some f =>
   simp only [c] at h
   by_cases a:okB f=true
   ·simp only [a,if_true] at h
    by_cases b:f.length=n
    ·simp only [b,if_true,zr] at h;subst h;unfold okB at a;simp at a;exact⟨b,a.1,a.2.1,a.2.2⟩
    ·simp [b] at h
   ·simp [a] at h
theorem zw4 (n:Nat)(v:Value)(x:Option (zc))(w:World)(h:zn2 w v x):
  Calls prog 247 #[.int .i64 n,v] w fun r l=>Below w.heap.size w l∧((∃ es a,zn3 x n=some es∧r= .returned (.tuple #[.agg (vf (zol es.length es a)).toArray,.bool true])∧∀ j (G:j < es.length),OB l w.heap.size (a.getD j zkb) es[j])∨(zn3 x n=none∧r= .returned (.tuple #[.agg (vf Fx.no).toArray,.bool false]))):=by
 have H:=zf h;have HG:Hid (∀ o,zn2 (w.alloc o) v x):=by
  intro o;rcases h with ⟨d,rfl,hq⟩ | ⟨rfl,rfl⟩
  ·exact .inl ⟨d,rfl,hq.below (zk _ _)⟩
  ·exact .inr ⟨rfl,rfl⟩
 clear h;go_enter func247,ntmps247;go_wp2_with fail;have E:Hid (Below w.heap.size w (w.alloc (.cells za6 xg))∧yu (w.alloc (.cells za6 xg)) w.heap.size Fx.no∧(w.alloc (.cells za6 xg)).heap.size=w.heap.size+1):=⟨zk _ _,zg _ _,by simp⟩;have aa:=zf (HG.o (.cells za6 xg));clear HG;generalize w.alloc (.cells za6 xg)=W0 at *;refine(z0e n v x W0 aa.o).mono ?_;rintro r s ⟨t,hr⟩;rw [E.o.2.2] at hr;have m:Hid (Below w.heap.size w s∧yu s w.heap.size Fx.no∧w.heap.size+1≤s.heap.size):=⟨E.o.1.trans (t.mono E.o.1.size),(t.block _ (zi E.o.2.1)).trans E.o.2.1,by have:=t.size;rw [E.o.2.2] at this;exact this⟩;clear t;rcases hr with ⟨es,y,F,rfl,ho⟩ | ⟨F,rfl⟩
 ·obtain⟨-,h1,h4,K⟩:=ybi F;obtain⟨b,am,a,rfl,ag,ah,an,q⟩:=ho.cells (by intro h;rw [h] at h1;simp at h1);have Z:=zf F;have Y:=zf q;have W:=zf K;clear F ho q K;have J:Hid (∀ k,k≤es.length→FOk (zol k es a)):=fun k hk=>z95 es a (fun j G=>by
   obtain⟨g,c,e,-⟩:=((Y.o j (by omega)).2).form;exact⟨_,_,_,e⟩)
  go_wp2_with fail;go_loopw [17] (fun i wr=>∃ k:Nat,k≤es.length∧i= .int .i64 k∧Below w.heap.size w wr∧yu wr w.heap.size (zol k es a)∧(∀ j,w.heap.size+1≤j→j < s.heap.size→wr.heap[j]?=s.heap[j]?)∧s.heap.size≤wr.heap.size) (fun i _=>es.length - (intOf i).toNat)
  case atStart=>exact⟨0,by omega,rfl,m.o.1,m.o.2.1,fun _ _ _=>rfl,zm _⟩
  case round =>
   obtain⟨k,hk,rfl,S,A,p,D⟩:=hrel
   by_cases C:k < es.length
   ·have P:k < 4:=by omega
    have hz:=J.o k hk;have B:k < (zol k es a).length:=by rw [z2q];exact P
    have z:=Y.o k C;have u:OB wr (w.heap.size+1) (a.getD k zkb) es[k]:=z.2.kept p;have hc:wr.cell? ⟨b,k,none⟩=some (a.getD k zkb):=by
     rw [zb7 (w:=s) (p b ag ah)];exact z.1
    have i0:(0:Int)≤(k:Int):=by omega
    have i1:(k:Int) < es.length:=by omega
    have O:es.getD k []=es[k]:=by rw [zl,zt C];rfl
    have ad:Hid (Calls prog 102 #[a.getD k zkb] wr fun r l=>r= .returned (.agg (hv (zae (es.getD k []))))∧Below wr.heap.size wr l):=by
     show Calls _ _ _ _ _;rw [O];exact z3t _ _ wr (zu (W.o _ (yd C)) (by unfold maxLen;omega)) u.bs
    have U:(zae (es.getD k [])).length=8:=zru _;have H8:=zf U;have Q:=u.one;have M:=fun l=>z2l (zae (es.getD k [])) U (a.getD k zkb) Q l;have I:Hid (∀ l,Below wr.heap.size wr l→(zph (.pointer (some ⟨w.heap.size,k*11,none⟩)) (.agg (Px.cs ⟨true,false,zae (es.getD k []),a.getD k zkb⟩).toArray)).run prog l= .ok () (l.setCells w.heap.size (k*11) (Px.cs ⟨true,false,zae (es.getD k []),a.getD k zkb⟩))∧Below w.heap.size w (l.setCells w.heap.size (k*11) (Px.cs ⟨true,false,zae (es.getD k []),a.getD k zkb⟩))∧yu (l.setCells w.heap.size (k*11) (Px.cs ⟨true,false,zae (es.getD k []),a.getD k zkb⟩)) w.heap.size (zol (k+1) es a)∧(∀ j,w.heap.size+1≤j→j < s.heap.size→(l.setCells w.heap.size (k*11) (Px.cs ⟨true,false,zae (es.getD k []),a.getD k zkb⟩)).heap[j]?=s.heap[j]?)∧s.heap.size≤(l.setCells w.heap.size (k*11) (Px.cs ⟨true,false,zae (es.getD k []),a.getD k zkb⟩)).heap.size):=by
     intro l V;have hp:Px.ok ⟨true,false,zae (es.getD k []),a.getD k zkb⟩:=by
      obtain⟨g,c,e,-⟩:=u.form;exact⟨U,_,_,_,e⟩
     have N:yu l w.heap.size (zol k es a):=(V.block _ (zi A)).trans A;refine⟨zhv (N.there hz.2 B (o:=0) (by omega)) (Px.cs_len hp) (Px.cs_one hp),xn (S.trans (V.mono S.size)) (zm _) _ _,?_,fun j G aj=>?_,?_⟩
     ·rw [ybl es a P];exact N.set hz.2 B hp
     ·rw [zar _ _ (by omega),V.block j (by omega)];exact p j G aj
     ·rw [zdu];exact zu D V.size
    clear S A p D hz B z u O U;generalize ae:zae (es.getD k [])=lf at *;generalize af:a.getD k zkb=ev at *;clear ae af;go_wp2_with fail;refine ad.o.mono ?_;rintro r w2 ⟨rfl,L⟩;have hN:=I.o w2 L;have T:=zf hN.2;have R:=hN.1;have al:=M w2;clear hN M L I;go_wp2_with fail
    go_roundw
    case rel=>exact⟨k+1,by omega,by go_num,T.o.1,T.o.2.1,T.o.2.2.1,T.o.2.2.2⟩
    case measure=>simp [intOf];omega
   ·obtain rfl:k=es.length:=by omega
    have f:=J.o _ (zm _);have ak:=ze0 (j6 A) f.len;have R:=zax (vp A f) f.len (zcl f.2);have HW:=zf (zap A f f);have X:=zf (xn S (zm w.heap.size) (vf (zol es.length es a)) 0);have HL:=zf f.len;have ab:Hid (∀ j (G:j < es.length),OB (wr.setCells w.heap.size 0 (vf (zol es.length es a))) w.heap.size (a.getD j zkb) es[j]):=fun j G=>((Y.o j G).2.kept (fun i hi ai=>by rw [zar _ _ (by omega)];exact p i hi ai)).weaken (vk _);clear f S A p D;go_wp2_with fail;exact z8 (v:= .tuple #[.agg (vf (zol es.length es a)).toArray,.bool true]) (qa results247 _ _ w.heap.size xg _ (0,0) _ rfl HW.o underlying154 rfl (by rw [zcs,xf,HL.o]) _ rfl) rfl ⟨X.o,.inl ⟨es,a,Z.o,rfl,ab.o⟩⟩
 ·have Z:=zf F;clear F;have ak:=ze0 (j6 m.o.2.1) Fx.no_ok.len;have R:=zax (vp m.o.2.1 Fx.no_ok) Fx.no_ok.len (zcl Fx.no_ok.2);have HW:=zf (zap m.o.2.1 Fx.no_ok Fx.no_ok);have X:=zf (xn m.o.1 (zm w.heap.size) (vf Fx.no) 0);go_wp2_with fail;go_loopw [17] (fun i wr=>i= .int .i64 0∧wr=s) (fun i _=>0)
  case atStart=>exact⟨rfl,rfl⟩
  case round =>
   obtain⟨rfl,rfl⟩:=hrel;go_wp2_with fail;exact z8 (v:= .tuple #[.agg (vf Fx.no).toArray,.bool false]) (qa results247 _ _ w.heap.size xg _ (0,0) _ rfl HW.o underlying154 rfl (by rw [zcs,xf,Fx.no_ok.len]) _ rfl) rfl ⟨X.o,.inr ⟨Z.o,rfl⟩⟩
end
theorem zm4 (O:Nat→Prop)(g e:Nat)(l:Lg)(w:World)(h:za9 w O g e l):
  Calls prog 98 #[.pointer (some ⟨e,0,none⟩)] w fun r i=>r= .returned (.bool !l.live)∧i=w:=by
 obtain⟨a,f,d,-⟩:=lok h;obtain⟨⟨b,f0⟩,-⟩:=zwa d;clear h d;cases c:l.live with
 | true =>
  rw [c] at b;unfold stV zdp at b;simp only [if_true] at b;clear c;go_enter func98,ntmps98;go_wp2_with fail;go_ret;exact⟨rfl,rfl⟩
 | false =>
  rw [c] at b;unfold stV at b;simp only [zas,zd3] at b;clear c;go_enter func98,ntmps98;go_wp2_with fail;go_ret;exact⟨rfl,rfl⟩
theorem yjr (O:Nat→Prop)(e c:Nat)(l:Lg)(w:World)(h:za9 w O e c l):
  Calls prog 68 #[.pointer (some ⟨c,0,none⟩)] w fun r f=>r= .returned (.int .i64 (l.es.length:Int))∧f=w:=by
 obtain⟨a,d,b,-⟩:=lok h;obtain⟨-,-,⟨g,f2⟩,-⟩:=zwa b;clear h b;go_enter func68,ntmps68;go_wp2_with fail;go_ret;exact⟨rfl,rfl⟩
theorem z2i (l:Int)(d:-1≤l)(e:l≤30)(w:World):
  Calls prog 188 #[.int .i64 l] w fun r c=>r= .returned (.int .i64 ((2*l.toNat:Nat):Int))∧c=w:=by
 by_cases a:l=-1
 ·subst a;go_enter func188,ntmps188;go_wp2_with fail;go_ret;exact⟨rfl,rfl⟩
 ·obtain⟨k,rfl⟩:=qv (show 0≤l by omega);have b:max (k:Int) 0=(k:Int):=by omega
  go_enter func188,ntmps188;go_wp2_with fail;go_ret;exact⟨congrArg (fun x=>Ending.returned (.int .i64 x)) (by simp),rfl⟩
theorem znb (l:Int):2 ^ (2*l.toNat)=4 ^ l.toNat:=by rw [Nat.pow_mul]
theorem ztw (l:Int)(d:-1≤l)(e:l≤30)(n:Nat)(w:World):
  Calls prog 139 #[.int .i64 l,.int .i64 n] w fun r g=>r= .returned (.int .i64 ((qg l n:Nat):Int))∧g=w:=by
 go_enter func139,ntmps139;go_wp2_with fail;refine(z2i l d e w).mono ?_;rintro r h ⟨rfl,rfl⟩;have c:=zf (znb l);generalize f:2*l.toNat=b at *;have a:b≤60:=by omega
 clear f;go_wp2_with fail;go_ret;refine⟨congrArg (fun x=>Ending.returned (.int .i64 x)) ?_,rfl⟩;show((n:Int) / 2 ^ b)=((qg l n:Nat):Int);unfold qg;rw [← c.o];simp
theorem z29 (l:Int)(k:0≤l)(m:l≤20)(n:Nat)(i:n*4 ^ l.toNat≤1000000)(w:World):
  Calls prog 227 #[.int .i64 l,.int .i64 n] w fun r j=>r= .returned (.int .i64 ((n*4 ^ l.toNat:Nat):Int))∧j=w:=by
 rw [← znb l] at i ⊢;go_enter func227,ntmps227;go_wp2_with fail;refine(z2i l (by omega) (by omega) w).mono ?_;rintro r p ⟨rfl,rfl⟩;generalize e:2*l.toNat=b at *;have f:b≤60:=by omega
 have c:=zf e;clear e;have a:((n:Int)*2 ^ b)=((n*2 ^ b:Nat):Int):=by simp
 have g:(0:Int)≤(n:Int)*2 ^ b:=by rw [a];omega
 have h:(n:Int)*2 ^ b≤1000000:=by rw [a];omega
 have d:=zf a;clear a;go_wp2_with fail;go_ret;exact⟨by rw [c.o];exact congrArg (fun x=>Ending.returned (.int .i64 x)) d.o,rfl⟩
end Go.Proofs.YtlcllcgngjhoaaaGreatDoor
