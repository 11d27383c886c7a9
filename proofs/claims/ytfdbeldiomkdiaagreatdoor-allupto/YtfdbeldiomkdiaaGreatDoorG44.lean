import Derived.Test.YtfdbeldiomkdiaaGreatDoorG41
import Derived.Test.YtfdbeldiomkdiaaGreatDoorG43
set_option maxHeartbeats 8000000
set_option maxRecDepth 100000
set_option linter.all false
namespace Go.Proofs.YtfdbeldiomkdiaaGreatDoor
open Go.RowKit Go.Proofs.Tryz
variable {W w w':World}{args:Array Value}{ss:List ByteArray}{v:Value}
def Oss.below {f:List OpR}(h:Oss w v f)(r:zc w w'):Oss w' v f:=by
 obtain⟨a,d,e,j,h|⟨b,g,q,h⟩⟩:=h
 ·exact⟨a,d,e,j,.inl h⟩
 ·refine⟨a,d,e,j,.inr ⟨b,g,q,λi s=>?_⟩⟩;obtain⟨k,l,m,n⟩:=h i s;have c:∀{o x},w.cell? ⟨b,o,none⟩=some x->w'.cell? ⟨b,o,none⟩=some x:=λh=>(r.cell (p:=⟨b,_,none⟩) (yf h)).trans h;exact⟨c k,c l,c m,c n⟩
def zl3 (h:CT w v ss):CT w v ((ss.map λs=>s.data.toList).map tb):=by
 rw[EG];have e:(tb∘λs:ByteArray=>s.data.toList)=id:=by
  funext s;show tb s.data.toList=s;unfold tb;rw[Array.toArray_toList]
 rw[e,List.map_id];exact h
def up {f:FuncId}{b:Ending}(c:zc W w)(h:Calls prog f args w λr a=>r=b/\zc w a):Calls prog f args w λr a=>r=b/\zc W a:=
 h.mono λ_ _ ⟨e,b⟩=>⟨e,c.trans (b.mono c.size)⟩
def zjt (W:World)(p:Nat->Addr)(G:DW W)(q:vj W p)(B:F0 W)(y:RW W)(v hv T I:Value)(A z:List ByteArray)(S:Fs)(x:List OpR)(i m c:Int)(g d e:ByteArray)
 (R:-9223372036854775808<=i/\i<=9223372036854775807) (K:-9223372036854775808<=m/\m<=9223372036854775807) (H:A.length<=maxLen) (O:∀s∈A,s.size<=maxLen) (D:z.length<=maxLen) (C:∀s∈z,s.size<=maxLen)
 (L:∀f∈S,f.1.length<=9223372036854775807/\f.2.length<=9223372036854775807) (E:∀o∈x,-9223372036854775808<=o.a/\o.a<=9223372036854775807/\o.s.length<=9223372036854775807) (P:g.size<=1000000000)
 (Y:g.size<=maxLen) (U:d.size<=maxLen) (Q:e.size<=maxLen) (N:e.data.toList.length<=1048576) (t:CT W v A) (u:CT W hv z) (M:Mr W T S) (F:Oss W I x) :
  Calls prog 3 #[v,.int .i64 i,.int .i64 m,hv,.string g,.string d,T,.string e,.int .i64 c,I] W λr j=>r=.returned (.bool true)/\zc W j:=by
 have H1:Hid (∀w,zc W w->Calls prog 4 #[v] w λr j=>r=.returned (.bool true)/\zc W j):=λw b=>up b (zee v A w H O (t.below b));have H2:Hid (∀w,zc W w->Calls prog 5 #[v,.int .i64 i,.int .i64 m] w λr j=>r=.returned (.bool true)/\zc W j):=λw b=>up b (zcx p v A i m w (jn q b) H O (t.below b));have H3:Hid (∀w,zc W w->Calls prog 6 #[.string e,.int .i64 i,.int .i64 m,hv,.string d] w λr j=>r=.returned (.bool true)/\zc W j):=λw b=>up b (Uv e d i m K.2 hv z w D C (u.below b));have H4:Hid (∀w,zc W w->Calls prog 7 #[.int .i64 i,.int .i64 m,.string e,.string d,hv] w λr j=>r=.returned (.bool true)/\zc W j):=λw b=>up b (Uk e d i m K.2 hv z w D C (u.below b));have H5:Hid (∀w,zc W w->Calls prog 8 #[.int .i64 i,.int .i64 m,.int .i64 c,.string g] w λr j=>r=.returned (.bool true)/\zc W j):=λw b=>up b (zcj i m c g K.2 P w (G.below b));have H6:Hid (∀w,zc W w->Calls prog 9 #[v,.string d] w λr j=>r=.returned (.bool true)/\zc W j):=λw b=>up b (Vu v A d w H O U (t.below b));have H7:Hid (∀w,zc W w->Calls prog 10 #[.int .i64 i,.string d,.string e,.string g] w λr j=>r=.returned (.bool true)/\zc W j):=λw b=>up b (zd4 i R.1 R.2 d e g U Q Y w (G.below b));have H8:Hid (∀w,zc W w->Calls prog 11 #[T,.string e,I] w λr j=>r=.returned (.bool true)/\zc W j):=λw b=>up b (Sq w p (G.below b) (jn q b) (y.below b) T I S e.data.toList x L Q E (M.below b) (F.below b));have H9:Hid (∀w,zc W w->Calls prog 12 #[.string e,.int .i64 c,I] w λr j=>r=.returned (.bool true)/\zc W j):=λw b=>up b (zdj w p (G.below b) (jn q b) (y.below b) (B.below b) e.data.toList c I x Q E (F.below b));have X:Hid (∀w,zc W w->Calls prog 13 #[v,.int .i64 m,.string e,.slice none 0 0,.int .i64 i] w λr j=>r=.returned (.bool true)/\zc W j):=λw b=>up b (zg5 w p (G.below b) (jn q b) (y.below b) (B.below b) v (A.map λs=>s.data.toList) m i e.data.toList K R N (by rw[yg];exact H) (λl h=>by obtain⟨s,z,rfl⟩:=yi.1 h;exact O s z) (zl3 (t.below b)));clear G q B y H O D C L E P Y U Q N t u M F R K A z S x p;go_enter func3,ntmps3
 go_wp2
 go_loopw [21] (λk wr=>∃n:Nat,n<=2/\k=.int .i64 n/\zc W wr) (λk _=>2-(intOf k).toNat)
 case atStart=>exact⟨0,by omega,rfl,zu _ _⟩
 case round =>
  obtain⟨n,H,rfl,b⟩:=hrel;have Z:=ze b;clear b
  by_cases aa:n<2
  ·go_wp2_with fail;refine(H1.o _ Z.o).mono ?_;rintro r w1 ⟨rfl,b1⟩;have B1:=ze b1;clear b1;go_wp2_with fail;refine(H2.o _ B1.out).mono ?_;rintro r w2 ⟨rfl,b2⟩;have B2:=ze b2;clear b2;go_wp2_with fail;refine(H3.o _ B2.out).mono ?_;rintro r w3 ⟨rfl,b3⟩;have B3:=ze b3;clear b3;go_wp2_with fail;refine(H4.o _ B3.out).mono ?_;rintro r Y ⟨rfl,b4⟩;have B4:=ze b4;clear b4;go_wp2_with fail;refine(H5.o _ B4.out).mono ?_;rintro r U ⟨rfl,b5⟩;have B5:=ze b5;clear b5;go_wp2_with fail;refine(H6.o _ B5.out).mono ?_;rintro r w6 ⟨rfl,b6⟩;have B6:=ze b6;clear b6;go_wp2_with fail;refine(H7.o _ B6.out).mono ?_;rintro r Q ⟨rfl,b7⟩;have B7:=ze b7;clear b7;go_wp2_with fail;refine(H8.o _ B7.out).mono ?_;rintro r w8 ⟨rfl,b8⟩;have B8:=ze b8;clear b8;go_wp2_with fail;refine(H9.o _ B8.out).mono ?_;rintro r w9 ⟨rfl,b9⟩;have B9:=ze b9;clear b9;go_wp2_with fail;refine(X.o _ B9.out).mono ?_;rintro r ab ⟨rfl,J⟩;have V:=ze J;clear J
   go_wp2
   go_roundw
   case rel=>exact⟨n+1,by omega,by go_num,V.out⟩
   case measure=>simp[intOf];omega
  ·go_wp2
   go_ret;exact⟨rfl,Z.o⟩
end Go.Proofs.YtfdbeldiomkdiaaGreatDoor
