import Derived.Test.YtfdbeldiomkdiaaGreatDoorG29
import Derived.Shelf.Spec.TrailingZeros
set_option maxHeartbeats 8000000
set_option maxRecDepth 100000
set_option linter.all false
namespace Go.Proofs.YtfdbeldiomkdiaaGreatDoor
open Go.RowKit Go.Proofs.Tryz
variable {xs ys:List Px}
section
attribute [local go_sem ↓] j9 jx ve jy ju jt vd jw
def CU (b:List Px):Nat->List Px->List Px
 |0,a=>a
 |k+1,a=>if ((CU b k a).getD k .no).fits then CU b k a else (CU b k a).set k (b.getD k .no)
def Lp (c d:List Px):List Px:=List.zipWith (λa b=>if a.fits then a else b) c d
def EW (h:FR xs)(k:Nat):(xs.getD k .no).ok:=by
 rw[zj]
 by_cases a:k<xs.length
 ·rw[zo a];exact h.2 _ (ye a)
 ·rw[Bc (by omega)];exact Px.aq
def Lo (a:FR xs)(b:FR ys):∀k,FR (CU ys k xs)
 |0=>a
 |k+1=>by
  have:=Lo a b k;unfold CU;split
  ·exact this
  ·exact⟨by simp[this.1],OG this.2 k (EW b k)⟩
def M0 {α:Type}{e:List α}(h:e.length=4):∃a b c d,e=[a,b,c,d]:=by
 match e,h with
 |[a,b,c,d],_=>exact⟨a,b,c,d,rfl⟩
def LZ (i:FR xs)(j:FR ys):CU ys 4 xs=Lp xs ys:=by
 obtain⟨a,b,c,d,rfl⟩:=M0 i.1;obtain⟨k,l,m,n,rfl⟩:=M0 j.1;simp only[CU,Lp,List.zipWith_cons_cons,List.zipWith_nil_right];cases e:a.fits<;>cases f:b.fits<;>cases g:c.fits<;>cases h:d.fits<;>simp[e,f,g,h]
def zgb (O:Nat->Prop)(b:Nat)(c a:List Px)(K:FR c)(L:FR a)(w:World)(I:O b)(h:xy w b c):
  Calls prog 278 #[yu b,.agg (Cc a).toArray] w λr B=>r=.returned (.tuple #[])/\zl O [qo] w B/\xy B b (Lp c a):=by
 have G:=ze K;have p:=ze L;have P:=ze I;have E:Hid (xy (w.alloc (.cells (Cc a).toArray qo)) b c/\xy (w.alloc (.cells (Cc a).toArray qo)) w.heap.size a):=⟨zr h,zf _ _⟩;have R:=zg h;unfold yu;clear h K L I;go_enter func278,ntmps278
 go_wp2
 go_loopw [5] (λi wr=>∃k:Nat,k<=4/\i=.int .i64 k/\zl O [qo] w wr/\xy wr b (CU a k c)/\xy wr w.heap.size a) (λi _=>4-(intOf i).toNat)
 case atStart=>exact⟨0,by omega,rfl,(zl.refl O _ w).alloc _,E.o.1,E.o.2⟩
 case round =>
  obtain⟨k,T,rfl,D,q,C⟩:=hrel
  by_cases x:k<4
  ·have A:=Lo G.o p.o k;have f:k<(CU a k c).length:=by rw[A.1];exact x
   have g:k<a.length:=by rw[p.o.1];exact x
   have J:(CU a k c).getD k .no=(CU a k c)[k]:=by rw[zj,zo f];rfl
   have u:a.getD k .no=a[k]:=by rw[zj,zo g];rfl
   have H:=(q.cell A.2 f (j:=1) (by omega) rfl).1;have U:(0:Int)<=(k:Int):=by omega
   have V:(k:Int)<4:=by omega
   have Q:=ze D;have N:=ze q;have M:=ze C;have F:Hid (CU a (k+1) c=if ((CU a k c)[k]).fits then CU a k c else (CU a k c).set k a[k]):=by show _=_;rw[CU,J,u]
   have d:a[k].ok:=p.o.2 _ (ye g);have v:(Wo (.pointer (some ⟨w.heap.size,k*11,none⟩))).run prog wr.drew=.ok (.agg a[k].cs.toArray) wr.drew:=QG (w:=wr.drew) (C.piece p.o.2 g) (Px.ay d);have S:(MP (.pointer (some ⟨b,k*11,none⟩)) (.agg a[k].cs.toArray)).run prog wr.drew=.ok () (wr.drew.setCells b (k*11) a[k].cs):=Gs (w:=wr.drew) (q.there A.2 f (o:=0) (by omega)) (Px.ay d) (Px.aR d);have e:Hid (zl O [qo] w (wr.drew.setCells b (k*11) a[k].cs)/\xy (wr.drew.setCells b (k*11) a[k].cs) b ((CU a k c).set k a[k])/\xy (wr.drew.setCells b (k*11) a[k].cs) w.heap.size a):=by
    have t:xy wr.drew b (CU a k c):=q;refine⟨D.drew.setCells (.inl P.o) t (by simp) _ _,t.set A.2 f d,?_⟩;show(wr.drew.setCells _ _ _).heap[w.heap.size]?=_;rw[Br _ _ (by omega)];exact C
   have m:(Wo (.pointer (some ⟨w.heap.size,k*11,none⟩))).run prog (wr.drew.setCells b (k*11) a[k].cs)=.ok (.agg a[k].cs.toArray) (wr.drew.setCells b (k*11) a[k].cs):=QG (e.o.2.2.piece p.o.2 g) (Px.ay d);have s:=ze (And.intro v m);clear D q C J u d A v m;generalize (CU a k c)[k]=z at *;generalize a[k]=y at *;cases l:z.fits with
   |true =>
    rw[l]at H
    go_wp2
    go_roundw
    case rel=>exact⟨k+1,by omega,by go_num,Q.o,by rw[F.o,l];exact N.o,M.o⟩
    case measure=>simp[intOf];omega
   |false =>
    rw[l]at H
    go_wp2
    go_region_held3 (λB=>(Wo (.pointer (some ⟨w.heap.size,k*11,none⟩))).run prog B=.ok (.agg y.cs.toArray) B) (first|exact s.o.1|exact s.o.2) (fail)
    rename_i n;clear n
    go_wp2
    go_roundw
    case rel=>exact⟨k+1,by omega,by go_num,e.o.1,by rw[F.o,l];exact e.o.2.1,e.o.2.2⟩
    case measure=>simp[intOf];omega
  ·obtain rfl:k=4:=by omega
   go_wp2
   go_end0
   exact⟨rfl,D,by rw[<- LZ G.o p.o];exact q⟩
end
variable {fb:Nat}{w:World}
section
attribute [local go_sem ↓] j9 jx ve jy ju jt vd jw
def VL (a:List Px):List Px:=Lp a Fx.no
theorem M3 {P:Program}{fn:Func}{p:Tmp}{ty:TypeId}(h:fn.results=#[.cell p ty])(tmps:Array Value)(w:World)(g:Nat)(t:TypeId)(cs:Array Value)(fr:Nat×Nat)(d:TypeDesc)
  (hp:tmps.getD p undef=.pointer (some ⟨g,0,none⟩)) (hg:w.heap[g]?=some (.cells cs t fr))
  (hu:P.underlying ty=some d) (hd:(match d with|.struct _|.array _ _=>true|_=>false)=true) (hi:(P.info? ty).map (·.size)=some cs.size) :
  (results fn tmps).run P w=.ok (.agg cs) w:=by
 have a:=BS (P:=P) w g t ty cs fr d hg hu hd hi;simp only[vh]at hp;simp[results,h,hp,asAddr,a]
def BO (h:xy w fb xs)(a:FR xs):w.there fb 0 44:=by
 intro j b;have c:=a.len;have:=zm h (0+j) ((Cc xs)[j]'(by omega)) (by rw[xk,vy];exact zo _);exact⟨by rw[this.1];rfl,this.2⟩
def BP (h:xy w fb xs)(a:FR xs)(b:FR ys):xy (w.setCells fb 0 (Cc ys)) fb ys:=by
 unfold xy;rw[EP (Cc ys) 0 h (by rw[a.len,b.len];exact zk _),b.len];simp[a.len]
def VM (a:List Px)(C:FR a)(w:World):
  Calls prog 233 #[.agg (Cc a).toArray] w λr K=>r=.returned (.agg (Cc (VL a)).toArray)/\zc w K:=by
 have q:=ze C;have A:=Fx.aq;have p:=ze A;clear C A;go_enter func233,ntmps233;go_wp2_with fail;have s:Hid (zc w ((w.alloc (.cells (Cc a).toArray qo)).alloc (.cells Cz qo))/\xy ((w.alloc (.cells (Cc a).toArray qo)).alloc (.cells Cz qo)) w.heap.size a/\xy ((w.alloc (.cells (Cc a).toArray qo)).alloc (.cells Cz qo)) (w.heap.size+1) Fx.no):=by
  refine⟨qg _ _ _,zr (zf _ _),?_⟩;have:=zf (w.alloc (.cells (Cc a).toArray qo)) (.cells Cz qo);rw[show(w.alloc (.cells (Cc a).toArray qo)).heap.size=w.heap.size+1 by simp]at this;exact this
 generalize (w.alloc (.cells (Cc a).toArray qo)).alloc (.cells Cz qo)=L at *;go_loopw [4] (λi wr=>∃k:Nat,k<=4/\i=.int .i64 k/\zc w wr/\xy wr w.heap.size (CU Fx.no k a)/\xy wr (w.heap.size+1) Fx.no) (λi _=>4-(intOf i).toNat)
 case atStart=>exact⟨0,by omega,rfl,s.o.1,s.o.2.1,s.o.2.2⟩
 case round =>
  obtain⟨k,M,rfl,m,e,g⟩:=hrel
  by_cases l:k<4
  ·have n:=Lo q.o p.o k;have c:k<(CU Fx.no k a).length:=by rw[n.1];exact l
   have B:(CU Fx.no k a).getD k .no=(CU Fx.no k a)[k]:=by rw[zj,zo c];rfl
   have h:Fx.no.getD k .no=Px.no:=by
    match k,l with
    |0,_=>rfl
    |1,_=>rfl
    |2,_=>rfl
    |3,_=>rfl
   have y:=(e.cell n.2 c (j:=1) (by omega) rfl).1;have N:(0:Int)<=(k:Int):=by omega
   have O:(k:Int)<4:=by omega
   have G:=ze m;have F:=ze e;have E:=ze g;have x:Hid (CU Fx.no (k+1) a=if ((CU Fx.no k a)[k]).fits then CU Fx.no k a else (CU Fx.no k a).set k .no):=by show _=_;rw[CU,B,h]
   have I:=za4 wr;have u:(MP (.pointer (some ⟨w.heap.size,k*11,none⟩)) (.agg Px.no.cs.toArray)).run prog wr=.ok () (wr.setCells w.heap.size (k*11) Px.no.cs):=Gs (e.there n.2 c (o:=0) (by omega)) (Px.ay Px.aq) (Px.aR Px.aq);have f:Hid (zc w (wr.setCells w.heap.size (k*11) Px.no.cs)/\xy (wr.setCells w.heap.size (k*11) Px.no.cs) w.heap.size ((CU Fx.no k a).set k .no)/\xy (wr.setCells w.heap.size (k*11) Px.no.cs) (w.heap.size+1) Fx.no):=by
    refine⟨xo m (zk _) _ _,e.set n.2 c Px.aq,?_⟩;show(wr.setCells _ _ _).heap[w.heap.size+1]?=_;rw[Br _ _ (by omega)];exact g
   clear m e g B h n;generalize (CU Fx.no k a)[k]=z at *;cases d:z.fits with
   |true =>
    rw[d]at y
    go_wp2
    go_roundw
    case rel=>exact⟨k+1,by omega,by go_num,G.o,by rw[x.o,d];exact F.o,E.o⟩
    case measure=>simp[intOf];omega
   |false =>
    rw[d]at y
    go_wp2
    go_roundw
    case rel=>exact⟨k+1,by omega,by go_num,f.o.1,by rw[x.o,d];exact f.o.2.1,f.o.2.2⟩
    case measure=>simp[intOf];omega
  ·obtain rfl:k=4:=by omega
   rw[LZ q.o p.o]at e;have b:FR (Lp a Fx.no):=by rw[<- LZ q.o p.o];exact Lo q.o p.o 4
   have J:=Es (vv e) b.len;have u:=Co (BO g Fx.aq) b.len (DE b.2);have H:=ze (BP g Fx.aq b);have D:=ze (xo m (Ar w.heap.size) (Cc (Lp a Fx.no)) 0);have t:Hid (FR (VL a)):=b;clear m e g b;go_wp2_with fail;exact zv (v:=.agg (Cc (VL a)).toArray) (M3 results233 _ _ (w.heap.size+1) qo _ (0,0) _ rfl H.o underlying219 rfl (by rw[Ds,ql,t.o.len])) rfl ⟨rfl,D.o⟩
end
variable {hs:zb}{k:Nat}
section
attribute [local go_sem ↓] j9 jx ve jy ju jt vd jw
def Zf (A B H E a:List Value)(h:a.length=H.length):(A++(B++(H++E))).take (A.length+B.length)++(a++(A++(B++(H++E))).drop (A.length+B.length+a.length))=A++(B++(a++E)):=by
 have b:A++(B++(H++E))=(A++B)++(H++E):=by simp
 have c:A++(B++(H++E))=(A++B++H)++E:=by simp
 have t:(A++(B++(H++E))).take (A.length+B.length)=A++B:=by
  rw[b,show A.length+B.length=(A++B).length by simp,Qf]
 have d:(A++(B++(H++E))).drop (A.length+B.length+a.length)=E:=by
  rw[c,h,show A.length+B.length+H.length=(A++B++H).length by simp;omega,CE]
 rw[t,d];simp
def xy.cn (h:xy w fb xs)(d:∀x∈xs,x.ok)(f:k<xs.length)(g:hs.length=8):xy (w.setCells fb (k*11+2) (hs.map bv)) fb (xs.set k {xs[k]with hash:=hs}):=by
 have m:=PM d;have b:=d _ (ye f);have j:({xs[k]with hash:=hs}:Px).ok:=⟨g,b.2⟩;have a:Cc xs=(Cc xs).take (k*11)++(xs[k].cs++(Cc xs).drop (k*11+11)):=by
  have:=Nn d k f xs[k] b;rw[List.set_getElem_self]at this;exact this
 have l:((Cc xs).take (k*11)).length=k*11:=by simp;omega
 unfold xy;rw[EP (hs.map bv) (k*11+2) h (by simp;omega),Nn d k f _ j];have c:=Zf ((Cc xs).take (k*11)) [.bool xs[k].there,.bool xs[k].fits] (xs[k].hash.map bv) (xs[k].bA::(Cc xs).drop (k*11+11)) (hs.map bv) (by simp[g,b.1]);have e:(Cc xs).take (k*11)++([.bool xs[k].there,.bool xs[k].fits]++(xs[k].hash.map bv++(xs[k].bA::(Cc xs).drop (k*11+11))))=Cc xs:=by
  conv=>rhs;rw[a]
  simp[Px.cs]
 rw[e,l]at c;have i:(k*11+[Value.bool xs[k].there,Value.bool xs[k].fits].length)=k*11+2:=rfl;rw[i]at c;rw[c];simp[Px.cs]
def Iw:Value:=.slice none 0 0
def JS (k:Nat)(d:zb):List Px:=(List.range 4).map λj=>if j<k then ⟨true,false,(d.drop (8*j)).take 8,Iw⟩ else .no
def zea (d:zb)(a:k<4):JS (k+1) d=(JS k d).set k ⟨true,false,(d.drop (8*k)).take 8,Iw⟩:=by
 match k,a with
 |0,_=>rfl
 |1,_=>rfl
 |2,_=>rfl
 |3,_=>rfl
def zlz (d:zb)(a:k<4):∃h:k<(JS k d).length,(JS k d)[k]=Px.no:=by
 match k,a with
 |0,_=>exact⟨by simp[JS],rfl⟩
 |1,_=>exact⟨by simp[JS],rfl⟩
 |2,_=>exact⟨by simp[JS],rfl⟩
 |3,_=>exact⟨by simp[JS],rfl⟩
def UP (d:zb)(b:8*k<=d.length):FR (JS k d):=by
 refine⟨by simp[JS],λx a=>?_⟩;obtain⟨j,-,rfl⟩:=yi.1 a;show Px.ok (if j<k then _ else _);split
 ·exact⟨by simp;omega,_,_,_,rfl⟩
 ·exact Px.aq
def znc:(prog.info? 5).map (·.size)=some 1:=by kernel_rfl
def UD (n:Nat)(hn:n<=4)(ae:0<n)(v:Value)(d:zb)(K:d.length=8*n)(w:World)(h:Bq w v d):
  Calls prog 301 #[.int .i64 n,v] w λr w'=>r=.returned (.tuple #[.agg (Cc (JS n d)).toArray,.bool true])/\zc w w':=by
 obtain⟨g,R,C,fr,rfl,q,T,Z⟩:=h;have HG:=ze T;have HC:=ze Z;have U:=zg T;have J:=ze K;have t:((d.length:Int)==(n:Int)*8)=true:=by simp;omega
 clear T Z;rw[K]at q t;rw[K];have W:((8*(n:Int)) != (n:Int)*8)=false:=by simp;omega
 clear K t;go_enter func301,ntmps301;go_wp2_with fail;have Y:Hid (zc w (w.alloc (.cells Cz qo))/\xy (w.alloc (.cells Cz qo)) w.heap.size Fx.no):=⟨zi _ _,zf _ _⟩;generalize w.alloc (.cells Cz qo)=W0 at *;go_loopw [1,14] (λdv i wr=>∃k L y a:Nat,k<=n/\i=.int .i64 k/\L=8*(n-k)/\L<=y/\(k<n->a=8*k)/\dv=.slice (some ⟨g,a,none⟩) L y/\zc w wr/\xy wr w.heap.size (JS k d)) (λ_ i _=>n-(intOf i).toNat)
 case atStart=>exact⟨0,8*n,R,0,by omega,rfl,by omega,q,λ_=>rfl,rfl,Y.o.1,Y.o.2⟩
 case round =>
  obtain⟨k,L,y,a,hk,rfl,hL,aa,c,rfl,M,s⟩:=hrel
  by_cases X:k<n
  ·replace c:=c X
   have G:k<4:=by omega
   have I:=UP d (k:=k) (by rw[J.o];omega);obtain⟨l,p⟩:=zlz d G;have S:8<=L:=by omega
   have i0:(0:Int)<=(k:Int):=by omega
   have i1:(k:Int)<4:=by omega
   have c0:wr.cell? ⟨w.heap.size,k*11,none⟩=some (.bool false):=(s.cell I.2 l (j:=0) (by omega) (by rw[p];rfl)).1;have f0:wr.frozen? ⟨w.heap.size,k*11,none⟩=false:=(s.cell I.2 l (j:=0) (by omega) (by rw[p];rfl)).2;have f:((d.drop (8*k)).take 8).length=8:=by simp;rw[J.o];omega
   have A:xy (wr.setCell ⟨w.heap.size,k*11,none⟩ (.bool true)) w.heap.size ((JS k d).set k {Px.no with there:=true}):=s.aE I.2 l (j:=0) (v:=.bool true) (by omega) Px.aq (by rw[p];rfl);have D:=OG I.2 k (x:={Px.no with there:=true}) Px.aq;have m:k<((JS k d).set k {Px.no with there:=true}).length:=by simpa using l
   have B:=A.cn D m f;rw[List.getElem_set_self,List.set_set]at B;have z:zc w (wr.setCell ⟨w.heap.size,k*11,none⟩ (.bool true)):=M.setCell (zk _) _;have ab:(Builtin.copy_ #[94,94] 3 #[.slice (some ⟨w.heap.size,k*11+2,none⟩) 8 8,.slice (some ⟨g,a,none⟩) L y]).run prog (wr.setCell ⟨w.heap.size,k*11,none⟩ (.bool true))=.ok (.int .i64 8) ((wr.setCell ⟨w.heap.size,k*11,none⟩ (.bool true)).setCells w.heap.size (k*11+2) (((d.drop (8*k)).take 8).map bv)):=by
    have H:=A.there D m (o:=2) (n:=8) (by omega);have:=run_copy_cells (P:=prog) (wr.setCell ⟨w.heap.size,k*11,none⟩ (.bool true)) 94 94 3 5 w.heap.size (k*11+2) 8 8 ⟨g,a,none⟩ L y (((d.drop (8*k)).take 8).map bv) underlying94 znc
     (by rw[yg,f];exact(Nat.min_eq_right S).symm) (λj u hu=>by
      obtain⟨F,rfl⟩:=qm.1 hu;rw[yg,f]at F;have V:=(z.block g U).trans HG.o;have hi:a+j<d.length:=by rw[J.o];omega
      have:=HC.o (a+j) hi;rw[show(⟨g,a,none⟩:Addr).add j=⟨g,a+j,none⟩ by simp[Addr.add],xe _ _ _ _ _ _ V,this];simp[c]) (λj F=>(H j (by rwa[yg,f]at F)).1) (λj F=>(H j (by rwa[yg,f]at F)).2) (λx hx=>by
       obtain⟨b,-,rfl⟩:=yi.1 hx;rfl)
    rw[yg,f]at this;exact this
   have N:=ze (xo z (zk _) (((d.drop (8*k)).take 8).map bv) (k*11+2));have O:Hid (xy ((wr.setCell ⟨w.heap.size,k*11,none⟩ (.bool true)).setCells w.heap.size (k*11+2) (((d.drop (8*k)).take 8).map bv)) w.heap.size (JS (k+1) d)):=by
    show xy _ _ _;rw[zea d G];exact B
   have Q:=ze c;have E:=ze hL;clear B A D m z p l I s M f c hL;generalize ((d.drop (8*k)).take 8).map bv=cs at *
   go_wp2
   go_roundw
   case rel=>exact⟨k+1,L-8,y-8,if y=8 then a else a+8,by omega,by go_num,by rw[E.o];omega,by omega,λh=>by have:=E.o;have:=Q.o;rw[if_neg (by omega)];omega,by split<;>rfl,N.o,O.o⟩
   case measure=>simp[intOf];omega
  ·obtain rfl:k=n:=by omega
   have e:=UP d (k:=k) (by rw[J.o];omega);have ad:=Es (vv s) e.len;have af:=Co (BO s e) e.len (DE e.2);have HW:=ze (BP s e e);have HB:=ze (xo M (zk w.heap.size) (Cc (JS k d)) 0);have HL:=ze e.len;clear e M s;go_wp2_with fail;exact zv (v:=.tuple #[.agg (Cc (JS k d)).toArray,.bool true]) (vb results301 _ _ w.heap.size qo _ (0,0) _ rfl HW.o underlying219 rfl (by rw[Ds,ql,HL.o]) _ rfl) rfl ⟨rfl,HB.o⟩
end
variable {B:Nat}{l:zb}{ls:za}{v x:Value}{w':World}
section
attribute [local go_sem ↓] j9 jx ve jy ju jt vd jw
def OB.kept (h:OB w B x l)(e:∀k,B<=k->k<w.heap.size->w'.heap[k]?=w.heap[k]?):OB w' B x l:=by
 refine⟨⟨h.1.1,?_⟩,h.2⟩;rcases h.1.2 with h0|⟨g,a,b,rfl,c,d,r⟩
 ·exact .inl h0
 ·exact .inr ⟨g,a,b,rfl,c,by rw[e g c (vk d)];exact d,r⟩
def OB.bs (h:OB w B x l):Bs w x l:=by
 obtain⟨g,a,rfl,-,-,b⟩:=h.form;exact⟨_,_,rfl,.inr ⟨g,0,rfl,λj c=>by rw[xk];exact b j c⟩⟩
def OB.one (h:OB w B x l):x.oneCell'=true:=by
 obtain⟨g,a,rfl,-⟩:=h.form
 rfl
def KB.cells (h:KB w B v ls)(c:ls≠[]):
  ∃(b a:Nat) (d:List Value),v=.slice (some ⟨b,0,none⟩) ls.length a/\B<=b/\b<w.heap.size/\d.length=ls.length/\∀j (t:j<ls.length),w.cell? ⟨b,j,none⟩=some (d.getD j Iw)/\OB w B (d.getD j Iw) ls[j]:=by
 obtain⟨l,⟨u,q⟩,s⟩:=h;rcases q with ⟨rfl,h0⟩|⟨g,a,m,rfl,n,f,z,y,A,r⟩
 ·exact absurd (vw.1 h0) c
 ·refine⟨g,a,l,rfl,n,vk f,by omega,λi k=>?_⟩;obtain⟨x,e,o⟩:=s i k;have p:l.getD i Iw=x:=by rw[zj,e];rfl
  rw[p];refine⟨?_,o⟩;rw[xe _ _ _ _ _ _ f];rw[<- r,Ba]at e;rw[qi,if_pos k]at e;simpa using e
def Li (k:Nat)(a:za)(b:List Value):List Px:=(List.range 4).map λj=>if j<k then ⟨true,false,AH (a.getD j []),b.getD j Iw⟩ else .no
def za7 (a:za)(b:List Value)(c:k<4):Li (k+1) a b=(Li k a b).set k ⟨true,false,AH (a.getD k []),b.getD k Iw⟩:=by
 match k,c with
 |0,_=>rfl
 |1,_=>rfl
 |2,_=>rfl
 |3,_=>rfl
def Vs (k:Nat)(a:za)(b:List Value):(Li k a b).length=4:=by simp[Li]
def Z9 (d:za)(b:List Value)(h:∀j,j<k->∃a n c,b.getD j Iw=.slice a n c):FR (Li k d b):=by
 refine⟨Vs _ _ _,λx f=>?_⟩;obtain⟨j,-,rfl⟩:=yi.1 f;show Px.ok (if j<k then _ else _);split
 ·rename_i e;exact⟨Nx _,h j e⟩
 ·exact Px.aq
def za6 {x:Option (zb)}{n:Nat}{b:za}(h:J7 x n=some b):b.length=n/\1<=b.length/\b.length<=4/\∀e∈b,e.length<=20:=by
 unfold J7 DV at h;cases x with
 |none=>simp at h
 |some d =>
  simp only at h;cases f:Xz d with
  |none=>simp[f]at h
  |some g =>
   simp only[f]at h
   by_cases a:Iz g=true
   ·simp only[a,if_true]at h
    by_cases c:g.length=n
    ·simp only[c,if_true,zn]at h;subst h;unfold Iz at a;simp at a;exact⟨c,a.1,a.2.1,a.2.2⟩
    ·simp[c]at h
   ·simp[a]at h
def Rn (n:Nat)(v:Value)(x:Option (zb))(w:World)(h:JY w v x):
  Calls prog 300 #[.int .i64 n,v] w λr l=>zc w l/\((∃a f,J7 x n=some a/\r=.returned (.tuple #[.agg (Cc (Li a.length a f)).toArray,.bool true])/\∀j (C:j<a.length),OB l w.heap.size (f.getD j Iw) a[j])\/(J7 x n=none/\r=.returned (.tuple #[.agg (Cc Fx.no).toArray,.bool false]))):=by
 have HG:Hid (∀o,JY (w.alloc o) v x):=by
  intro o;rcases h with ⟨d,rfl,hq⟩|⟨rfl,rfl⟩
  ·exact .inl ⟨d,rfl,hq.below (zi _ _)⟩
  ·exact .inr ⟨rfl,rfl⟩
 go_enter func300,ntmps300;go_wp2_with fail;have B:Hid (zc w (w.alloc (.cells Cz qo))/\xy (w.alloc (.cells Cz qo)) w.heap.size Fx.no/\(w.alloc (.cells Cz qo)).heap.size=w.heap.size+1):=⟨zi _ _,zf _ _,by simp⟩;have S:=ze (HG.o (.cells Cz qo));generalize w.alloc (.cells Cz qo)=W0 at *;refine(OJ n v x W0 S.o).mono ?_;rintro r q ⟨t,hr⟩;rw[B.o.2.2]at hr;have p:Hid (zc w q/\xy q w.heap.size Fx.no/\w.heap.size+1<=q.heap.size):=⟨B.o.1.trans (t.mono B.o.1.size),(t.block _ (zg B.o.2.1)).trans B.o.2.1,by have:=t.size;rw[B.o.2.2]at this;exact this⟩;rcases hr with ⟨a,y,N,rfl,ho⟩|⟨N,rfl⟩
 ·obtain⟨-,h1,h4,ax⟩:=za6 N;obtain⟨b,ai,f,rfl,Y,Z,al,u⟩:=ho.cells (by intro h;rw[h]at h1;simp at h1);have R:=ze N;have Q:=ze u;have O:=ze ax;have D:Hid (∀k,k<=a.length->FR (Li k a f)):=λk hk=>Z9 a f (λj C=>by
   obtain⟨g,c,e,-⟩:=((Q.o j (by omega)).2).form;exact⟨_,_,_,e⟩)
  go_wp2
  go_loopw [17] (λi wr=>∃k:Nat,k<=a.length/\i=.int .i64 k/\zc w wr/\xy wr w.heap.size (Li k a f)/\(∀j,w.heap.size+1<=j->j<q.heap.size->wr.heap[j]?=q.heap[j]?)/\q.heap.size<=wr.heap.size) (λi _=>a.length-(intOf i).toNat)
  case atStart=>exact⟨0,by omega,rfl,p.o.1,p.o.2.1,λ_ _ _=>rfl,zk _⟩
  case round =>
   obtain⟨k,hk,rfl,ht,F,s,ag⟩:=hrel
   by_cases z:k<a.length
   ·have H:k<4:=by omega
    have hz:=D.o k hk;have I:k<(Li k a f).length:=by rw[Vs];exact H
    have E:=Q.o k z;have A:=E.2.kept s;have hc:wr.cell? ⟨b,k,none⟩=some (f.getD k Iw):=by
     rw[J5 (w:=q) (s b Y Z)];exact E.1
    have i0:(0:Int)<=(k:Int):=by omega
    have i1:(k:Int)<a.length:=by omega
    have ab:a.getD k []=a[k]:=by rw[zj,zo z];rfl
    have U:Hid (Calls prog 64 #[f.getD k Iw] wr λr l=>r=.returned (.agg (hv (AH (a.getD k []))))/\zc wr l):=by
     show Calls _ _ _ _ _;rw[ab];exact QB _ _ wr (zt (O.o _ (ye z)) (by unfold maxLen;omega)) A.bs
    have h8:(AH (a.getD k [])).length=8:=Nx _;have J:=A.one;have aa:=λl=>Vq (AH (a.getD k [])) h8 (f.getD k Iw) J l;have V:Hid (∀l,zc wr l->(MP (.pointer (some ⟨w.heap.size,k*11,none⟩)) (.agg (Px.cs ⟨true,false,AH (a.getD k []),f.getD k Iw⟩).toArray)).run prog l=.ok () (l.setCells w.heap.size (k*11) (Px.cs ⟨true,false,AH (a.getD k []),f.getD k Iw⟩))/\zc w (l.setCells w.heap.size (k*11) (Px.cs ⟨true,false,AH (a.getD k []),f.getD k Iw⟩))/\xy (l.setCells w.heap.size (k*11) (Px.cs ⟨true,false,AH (a.getD k []),f.getD k Iw⟩)) w.heap.size (Li (k+1) a f)/\(∀j,w.heap.size+1<=j->j<q.heap.size->(l.setCells w.heap.size (k*11) (Px.cs ⟨true,false,AH (a.getD k []),f.getD k Iw⟩)).heap[j]?=q.heap[j]?)/\q.heap.size<=(l.setCells w.heap.size (k*11) (Px.cs ⟨true,false,AH (a.getD k []),f.getD k Iw⟩)).heap.size):=by
     intro l M;have hp:Px.ok ⟨true,false,AH (a.getD k []),f.getD k Iw⟩:=by
      obtain⟨g,c,e,-⟩:=A.form;exact⟨h8,_,_,_,e⟩
     have G:xy l w.heap.size (Li k a f):=(M.block _ (zg F)).trans F;refine⟨Gs (G.there hz.2 I (o:=0) (by omega)) (Px.ay hp) (Px.aR hp),xo (ht.trans (M.mono ht.size)) (zk _) _ _,?_,λj C ae=>?_,?_⟩
     ·rw[za7 a f H];exact G.set hz.2 I hp
     ·rw[Br _ _ (by omega),M.block j (by omega)];exact s j C ae
     ·rw[DY];exact zt ag M.size
    generalize aj:AH (a.getD k [])=lf at *;generalize ak:f.getD k Iw=ev at *;go_wp2_with fail;refine U.o.mono ?_;rintro r w2 ⟨rfl,X⟩;have hN:=V.o w2 X;have L:=ze hN.2;have K:=hN.1;have ah:=aa w2
    go_wp2
    go_roundw
    case rel=>exact⟨k+1,by omega,by go_num,L.o.1,L.o.2.1,L.o.2.2.1,L.o.2.2.2⟩
    case measure=>simp[intOf];omega
   ·obtain rfl:k=a.length:=by omega
    have m:=D.o _ (zk _);have af:=Es (vv F) m.len;have K:=Co (BO F m) m.len (DE m.2);have W:=ze (BP F m m);have P:=ze (xo ht (zk w.heap.size) (Cc (Li a.length a f)) 0);have HL:=ze m.len;have T:Hid (∀j (C:j<a.length),OB (wr.setCells w.heap.size 0 (Cc (Li a.length a f))) w.heap.size (f.getD j Iw) a[j]):=λj C=>((Q.o j C).2.kept (λi hi ad=>by rw[Br _ _ (by omega)];exact s i hi ad)).weaken (Ar _);go_wp2_with fail;exact zv (v:=.tuple #[.agg (Cc (Li a.length a f)).toArray,.bool true]) (vb results300 _ _ w.heap.size qo _ (0,0) _ rfl W.o underlying219 rfl (by rw[Ds,ql,HL.o]) _ rfl) rfl ⟨P.o,.inl ⟨a,f,R.o,rfl,T.o⟩⟩
 ·have R:=ze N;have af:=Es (vv p.o.2.1) Fx.aq.len;have K:=Co (BO p.o.2.1 Fx.aq) Fx.aq.len (DE Fx.aq.2);have W:=ze (BP p.o.2.1 Fx.aq Fx.aq);have P:=ze (xo p.o.1 (zk w.heap.size) (Cc Fx.no) 0)
  go_wp2
  go_loopw [17] (λi wr=>i=.int .i64 0/\wr=q) (λi _=>0)
  case atStart=>exact⟨rfl,rfl⟩
  case round =>
   obtain⟨rfl,rfl⟩:=hrel;go_wp2_with fail;exact zv (v:=.tuple #[.agg (Cc Fx.no).toArray,.bool false]) (vb results300 _ _ w.heap.size qo _ (0,0) _ rfl W.o underlying219 rfl (by rw[Ds,ql,Fx.aq.len]) _ rfl) rfl ⟨P.o,.inr ⟨R.o,rfl⟩⟩
end
def za0 (l:Int)(d:-1<=l)(e:l<=100)(w:World):
  Calls prog 272 #[.int .i64 l] w λr c=>r=.returned (.int .i64 ((2*l.toNat:Nat):Int))/\c=w:=by
 by_cases a:l=-1
 ·subst a;go_enter func272,ntmps272
  go_wp2
  go_ret;exact⟨rfl,rfl⟩
 ·obtain⟨k,rfl⟩:=qc (show 0<=l by omega);have b:max (k:Int) 0=(k:Int):=by omega
  go_enter func272,ntmps272
  go_wp2
  go_ret;exact⟨congrArg (λx=>Ending.returned (.int .i64 x)) (by simp),rfl⟩
def GV (l:Int)(f:-1<=l)(g:l<=100)(n:Nat)(m:n<9223372036854775808)(w:World):
  Calls prog 227 #[.int .i64 l,.int .i64 n] w λr j=>r=.returned (.int .i64 ((qx l n:Nat):Int))/\j=w:=by
 go_enter func227,ntmps227;go_wp2_with fail;refine(za0 l f g w).mono ?_;rintro r p ⟨rfl,rfl⟩;have c:=ze (Kr l);generalize k:2*l.toNat=b at *;have a:b<=200:=by omega
 go_wp2
 go_ret;refine⟨congrArg (λx=>Ending.returned (.int .i64 x)) ?_,rfl⟩;have i:(n:Int)/2^min b 64=(n:Int)/2^b:=by
  rcases Nat.le_total b 64 with h|h
  ·rw[JZ h]
  ·rw[Nat.min_eq_right h];have d:n/2^64=0:=Cy (by omega);have e:n/2^b=0:=Cy (zq (show n<2^64 by omega) (j2 (by omega) h));have f1:(n:Int)/2^64=((n/2^64:Nat):Int):=by simp
   have f2:(n:Int)/2^b=((n/2^b:Nat):Int):=by simp
   rw[f1,f2,d,e]
 refine i.trans ?_;show((n:Int)/2^b)=((qx l n:Nat):Int);unfold qx;rw[<- c.o];simp
def zel (x k a:Nat)(w:World)(d:((x:Int)==0)=false)
 (c:IntKind.u64.wrap (bits BinOp.and IntKind.u64 (x:Int) (IntKind.u64.wrap (-(x:Int)))*285870213051353865)/288230376151711744=(a:Int))
 (g:a<64) (h:k<64) (b:w.cell? ⟨13,a,none⟩=some (.int .u8 k)) :
  Calls prog 271 #[.int .u64 x] w λe f=>e=.returned (.int .i64 k)/\f=w:=by
 go_enter func271,ntmps271;go_wp2_with (simp only[c]);go_ret;exact⟨rfl,rfl⟩
def F0 (w:World):Prop:=TabAt 13 Lib.deBruijn64tab w
def zjb (x:Nat)(h:x<18446744073709551616)(d:x≠0)(w:World)(i:F0 w):
  Calls prog 271 #[.int .u64 x] w λe j=>e=.returned (.int .i64 (Lib.ctz 64 x))/\j=w:=by
 obtain⟨b,g⟩:=Lib.lowest_bit 64 x d h;obtain⟨f,c⟩:=Lib.deBruijn64_at _ g;have a:=i _ f;rw[c]at a;exact zel x _ _ w (by simp;omega) (tz64_key x _ h d b) f g a
def Zr (x:Nat)(d:x<18446744073709551616)(a:x≠0)(w:World)(c:F0 w):
  Calls prog 226 #[.int .u64 x] w λe f=>e=.returned (.int .i64 (Lib.ctz 64 x))/\f=w:=by
 have b:=ze c;go_enter func226,ntmps226;go_wp2_with (go_at_call 271;refine(zjb x d a _ b.o).mono ?_;rintro r g ⟨rfl,rfl⟩);go_ret;exact⟨rfl,rfl⟩
theorem Xb {P:Program}{fn:Func}{p:Tmp}{ty:TypeId}(h:fn.results=#[.cell p ty])(tmps:Array Value)(w:World)(g:Nat)(t:TypeId)(cs:Array Value)(fr:Nat×Nat)(d:TypeDesc)
  (hp:tmps.getD p undef=.pointer (some ⟨g,0,none⟩)) (hg:w.heap[g]?=some (.cells cs t fr))
  (hu:P.underlying ty=some d) (hd:(match d with|.struct _|.array _ _=>true|_=>false)=true) (hi:(P.info? ty).map (·.size)=some cs.size) :
  (results fn tmps).run P w=.ok (.agg cs) w:=by
 have a:=BS (P:=P) w g t ty cs fr d hg hu hd hi;simp only[vh]at hp;simp[results,h,hp,asAddr,a]
def znb:(prog.info? 215).map (·.size)=some 3:=by kernel_rfl
def Fu (n:Nat)(h:n<9223372036854775808)(l:Int)(e:-1<=l)(f:l<=100)(j:Nat)(q:j<9223372036854775808)(w:World):
  Calls prog 229 #[.int .i64 n,.int .i64 l,.int .i64 j] w λr m=>r=.returned (Fc (yd n l j))/\zc w m:=by
 have s:((j:Int).tdiv 4)=((j/4:Nat):Int):=by rw[Int.tdiv_eq_ediv_of_nonneg (by omega)];omega
 have p:qx l n<=n:=DL _ _;have d:Hid (yd n l j=(l,((j/4:Nat):Int),min ((qx l n:Int)-((j/4:Nat):Int)*4) 4)):=rfl;generalize g:j/4=k at *;have i:k*4<9223372036854775808:=by omega
 generalize a:qx l n=c at *;have b:=ze a;go_enter func229,ntmps229;go_wp2_with (first|(go_at_call 227;refine(GV l e f n h _).mono ?_;rintro r t ⟨rfl,rfl⟩;rw[b.o]));exact zv (v:=Fc (yd n l j)) (by rw[d.o];exact Xb results229 _ _ w.heap.size 215 _ (0,0) _ rfl (zf _ _) underlying215 rfl znb) rfl ⟨rfl,zi _ _⟩
variable {O:Nat->Prop}{T:List Nat}{f:Fl}{vs:List Value}
section
attribute [local go_sem ↓] j9 jx ve jy ju jt vd jw
def Va (w:World)(v:Value)(l:zb):Prop:=(v=Iw/\l=[])\/Bq w v l
structure J4 (w:World)(x:Px)(p:Pc):Prop where
 there:x.there=p.there
 fits:x.fits=p.fits
 hash:x.hash=p.hash
 bA:Va w x.bA p.entry
def C8 (w:World)(a:List Px)(f:Fl):Prop:=a.length=4/\f.length=4/\∀k,k<4->J4 w (a.getD k .no) (f.getD k .no)
def Va.aj (h:Va w v l)(b:zl O T w w')(a:5∉T):Va w' v l:=by
 rcases h with h|h
 ·exact .inl h
 ·exact .inr (h.aj b a)
def J4.aj {x:Px}{p:Pc}(h:J4 w x p)(b:zl O T w w')(a:5∉T):J4 w' x p:=⟨h.there,h.fits,h.hash,h.bA.aj b a⟩
def C8.aj (h:C8 w xs f)(c:zl O T w w')(a:5∉T):C8 w' xs f:=⟨h.1,h.2.1,λk b=>(h.2.2 k b).aj c a⟩
def C8.below (h:C8 w xs f)(a:zc w w'):C8 w' xs f:=h.aj (O:=λ_=>False) (T:=[]) (.aa a) (by simp)
def J4.none (w:World):J4 w .no .no:=⟨rfl,rfl,rfl,.inl ⟨rfl,rfl⟩⟩
def C8.none (w:World):C8 w Fx.no Fl.no:=⟨rfl,rfl,λk a=>by
 match k,a with
 |0,_=>exact J4.none w
 |1,_=>exact J4.none w
 |2,_=>exact J4.none w
 |3,_=>exact J4.none w⟩
def Mc {α:Type}(f:Nat->α)(z:α)(a:k<4):((List.range 4).map f).getD k z=f k:=by
 match k,a with
 |0,_=>rfl
 |1,_=>rfl
 |2,_=>rfl
 |3,_=>rfl
def zl0 (w:World)(n:Nat)(d:zb):C8 w (JS n d) (K5 n d):=by
 refine⟨by simp[JS],by simp[K5],λk a=>?_⟩;unfold JS K5;rw[Mc _ _ a,Mc _ _ a]
 by_cases h:k<n
 ·rw[if_pos h,if_pos h];exact⟨rfl,rfl,rfl,.inl ⟨rfl,rfl⟩⟩
 ·rw[if_neg h,if_neg h];exact J4.none w
def zj0 {a:za}(h:∀j (d:j<a.length),OB w B (vs.getD j Iw) a[j]):C8 w (Li a.length a vs) (Mw a):=by
 refine⟨by simp[Li],by simp[Mw],λk c=>?_⟩;unfold Li Mw;rw[Mc _ _ c,Mc _ _ c]
 by_cases b:k<a.length
 ·rw[if_pos b,if_pos b];refine⟨rfl,rfl,rfl,.inr ?_⟩;have:a.getD k []=a[k]:=by rw[zj,zo b];rfl
  show Bq w _ (a.getD k []);rw[this];exact(h k b).bq
 ·rw[if_neg b,if_neg b];exact J4.none w
def SA (x:Option (zb))(n:Nat):FQ (-1) n (x.getD [])=(J7 x n).map Mw:=by
 unfold FQ J7;rw[if_pos rfl];cases x with
 |none=>rfl
 |some d =>
  simp only[AX];cases DV d with
  |none=>rfl
  |some a =>
   simp only
   by_cases h:a.length=n
   ·rw[if_pos h,if_pos (by rw[h])];rfl
   ·rw[if_neg h,if_neg (by omega)];rfl
def Pq (n:Nat)(l:n<=4)(a:Option Addr)(b d:Nat)(k:b≠8*n)(w:World):
  Calls prog 301 #[.int .i64 n,.slice a b d] w λr j=>r=.returned (.tuple #[.agg (Cc Fx.no).toArray,.bool false])/\zc w j:=by
 have h:((b:Int) != (n:Int)*8)=true:=by simp;omega
 have e:=za2 (w.alloc (.cells Cz qo));have c:Hid (zc w (w.alloc (.cells Cz qo))/\xy (w.alloc (.cells Cz qo)) w.heap.size Fx.no):=⟨zi _ _,zf _ _⟩;rw[zk3]at e;go_enter func301,ntmps301;have i:=Co (BO c.o.2 Fx.aq) Fx.aq.len (DE Fx.aq.2);have g:=ze (BP c.o.2 Fx.aq Fx.aq);have f:=ze (xo c.o.1 (zk w.heap.size) (Cc Fx.no) 0);go_wp2_with fail;exact zv (v:=.tuple #[.agg (Cc Fx.no).toArray,.bool false]) (vb results301 _ _ w.heap.size qo _ (0,0) _ rfl g.o underlying219 rfl (by rw[Ds,ql,Fx.aq.len]) _ rfl) rfl ⟨rfl,f.o⟩
def MW (b:World)(o:Option Fl)(r:Ending):Prop:=
 (∃a f,o=some f/\FR a/\C8 b a f/\r=.returned (.tuple #[.agg (Cc a).toArray,.bool true]))\/(o=none/\∃a,FR a/\r=.returned (.tuple #[.agg (Cc a).toArray,.bool false]))
def UC (n:Nat)(f:0<n)(e:n<=4)(l:Int)(c:l≠-1)(v:Value)(x:Option (zb))(w:World)(h:JY w v x):
  Calls prog 301 #[.int .i64 n,v] w λr b=>zc w b/\MW b (FQ l n (x.getD [])) r:=by
 rcases h with ⟨d,rfl,j⟩|⟨rfl,rfl⟩
 ·by_cases i:d.length=8*n
  ·refine(UD n e f v d i w j).mono ?_;rintro r b ⟨rfl,a⟩;refine⟨a,.inl ⟨_,K5 n d,?_,UP d (by omega),zl0 _ _ _,rfl⟩⟩;unfold FQ;rw[if_neg c,AX,if_pos (by omega)]
   rfl
  ·obtain⟨g,k,C,m,rfl,-⟩:=j;refine(Pq n e _ _ _ i w).mono ?_;rintro r b ⟨rfl,a⟩;refine⟨a,.inr ⟨?_,_,Fx.aq,rfl⟩⟩;unfold FQ;rw[if_neg c,AX,if_neg (by omega)]
 ·refine(Pq n e _ _ _ (by omega) w).mono ?_;rintro r b ⟨rfl,a⟩;refine⟨a,.inr ⟨?_,_,Fx.aq,rfl⟩⟩;unfold FQ;rw[if_neg c,Option.getD_none,if_neg (by simp;omega)]
def WR (n:Nat)(v:Value)(x:Option (zb))(w:World)(h:JY w v x):
  Calls prog 300 #[.int .i64 n,v] w λr b=>zc w b/\MW b (FQ (-1) n (x.getD [])) r:=by
 refine(Rn n v x w h).mono ?_;rintro r b ⟨f,⟨d,l,a,rfl,i⟩|⟨a,rfl⟩⟩
 ·refine⟨f,.inl ⟨_,Mw d,by rw[SA,a];rfl,Z9 d l (λj k=>?_),zj0 i,rfl⟩⟩;obtain⟨g,c,e,-⟩:=(i j k).form;exact⟨_,_,_,e⟩
 ·exact⟨f,.inr ⟨by rw[SA,a];rfl,_,Fx.aq,rfl⟩⟩
end
end Go.Proofs.YtfdbeldiomkdiaaGreatDoor
