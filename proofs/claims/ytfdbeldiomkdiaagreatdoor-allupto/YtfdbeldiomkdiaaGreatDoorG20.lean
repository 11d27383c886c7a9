import Derived.Test.YtfdbeldiomkdiaaGreatDoorG19
set_option maxHeartbeats 8000000
set_option maxRecDepth 100000
set_option linter.all false
namespace Go.Proofs.YtfdbeldiomkdiaaGreatDoor
open Go.RowKit Go.Proofs.Tryz
def zc7 (O:Nat->Prop)(W:World)(z:Nat->Addr)(hE:DW W)(N:vj W z)(ae:RW W)(M:∀k,O k->W.heap.size<=k)(K:Nat)(d:Dk)(B:zb)(w:World)(hn:d.fs.length<=1000000000)(hl:∀f∈d.fs,f.2.length<=1048576)(hk:B.length<=9223372036854775807)(hc:Fz d)(hW:zc W w)(h:ym w O K d)
 (s:List Nat) (hs:IS (xr d.fs) s) (ap:s.length<=100000) :
  Calls prog 97 #[BD K,qy B] w λr Z=>∃(E:Dk),zl O rT w Z/\ym Z (qv O w Z) K E/\E.fs=d.fs/\tk E=tk d /\
   ((E.hit=true/\∃p,r=.returned (.tuple #[.pointer none,M5 8 p]))\/(Fz E/\∃(F:Int) (p:zb) (L:za) (m:Nat),Io (xr d.fs) B F p L m /\
    ((F=0/\∃pb G,r=.returned (.tuple #[.pointer (some ⟨pb,0,none⟩),told 0])/\w.heap.size<=pb/\w.heap.size<=G/\KM Z pb G/\Ak Z (qv O w Z) K G {key:=B,es:=L,put:=0,live:=true}) \/
     (F≠0/\r=.returned (.tuple #[.pointer none,M5 F p]))))):=by
 have P:zc w (w.alloc (.cells #[.int .i64 0,.string ⟨#[]⟩] 39)):=zi _ _;have A:=zhr O W z hE N M K d B (w.alloc (.cells #[.int .i64 0,.string ⟨#[]⟩] 39)) hn hl hk hc (hW.trans (P.mono hW.size)) (h.stay (O1:=λ_=>False) (T:=[]) (.aa P) (by simp) (by simp)) s hs ap;have HW:=ze hW;have HO:=ze M;have HS:=ze N;have HT:=ze ae;have af:zl O rT w (w.alloc (.cells #[.int .i64 0,.string ⟨#[]⟩] 39)):=(zl.refl _ _ _).alloc _;have az:Hid (FH w.heap.size (w.alloc (.cells #[.int .i64 0,.string ⟨#[]⟩] 39))):=zf _ _;have J:=ze af;clear h hl hW M hE N ae hn hk af P hc hs ap;have Y:qy B=.string ⟨B.toArray⟩:=rfl;have Q:BD K=.pointer (some ⟨K,0,none⟩):=rfl;rw[Y,Q]at A;rw[Y,Q];clear Y Q;go_enter func97,ntmps97;go_wp2_with fail;refine A.mono ?_;clear A;generalize w.alloc (.cells #[.int .i64 0,.string ⟨#[]⟩] 39)=w0 at *;rintro r i ⟨E,X,ag,ai,ar,ao⟩;have y:Hid (zl O rT w i):=J.o.trans (X.mono (λ_ h=>.inl h) (λ_ h=>h));have C:Hid (FH w.heap.size i):=az.o.aj X (by decide);have t:Hid (zc W i):=HW.o.trans (y.o.below HO.o HW.o.size);have HX:Hid (∀k,qv O w0 i k->qv O w i k):=λk hk=>by
  rcases hk with h|h
  ·exact .inl h
  ·exact .inr ⟨zt J.o.size h.1,h.2⟩
 have D:=ze (ag.mono HX.o);have j:=ze (And.intro ai ar);have aq:=ze y.o.size;clear X ag ai ar;rcases ao with ⟨hh,p,e,rfl,S⟩|⟨q,F,p,L,m,l,⟨rfl,G,rfl,ak,al⟩|⟨rfl,rfl⟩|⟨rfl,rfl⟩|⟨rfl,g,rfl,an⟩⟩
 ·obtain⟨g,rfl⟩:∃g,e=.iface 178 (.pointer (some ⟨g,0,none⟩)):=by
   rcases Bw S with ⟨h,-⟩|⟨-,h⟩
   ·simp at h
   ·exact h
  have ax:Hid (XF i g p):=by
   rcases S with ⟨h,-⟩|⟨-,g',e',-,h⟩
   ·simp at h
   ·unfold DT at e';simp only[Value.iface.injEq,Value.pointer.injEq,zn,Ce,IJ,EL]at e';rw[e'];exact h
  have HH:=ze hh;clear S hh;go_wp2_with fail;refine(zhq z g p i (jn HS.o t.o) (HT.o.below t.o) ax.o).mono ?_;rintro r w3 ⟨rfl,b⟩;have c:=ze b;have a:=ze (C.o.below b);obtain⟨c0,z0⟩:=zm a.o 0 _ rfl;obtain⟨c1,z1⟩:=zm a.o 1 _ rfl;clear b;unfold M5;go_wp2_with fail;exact zv (v:=.tuple #[.pointer none,.agg #[.int .i64 8,.string ⟨p.toArray⟩]]) (vo results97 _ _ w.heap.size 39 _ (0,0) _ rfl (BH a.o _ _ rfl) underlying39 rfl (by kernel_rfl) _ rfl) rfl ⟨E,CO (y.o.ah c.o),(D.o.later c.o).aQ a.o,j.o.1,j.o.2,.inl ⟨HH.o,p,rfl⟩⟩
 ·have u:=ze q;have x:=ze l;have av:=ze (al.mono HX.o);have I:w.heap.size<=G:=zt J.o.size ak;have au:=ze I;clear q l al ak I;go_wp2_with fail;have H:Hid (zc i (i.alloc (.cells #[.pointer (some ⟨G,0,none⟩)] 209))):=zi _ _;have ad:Hid (KM (i.alloc (.cells #[.pointer (some ⟨G,0,none⟩)] 209)) i.heap.size G):=zf _ _;generalize i.alloc (.cells #[.pointer (some ⟨G,0,none⟩)] 209)=wa at *;have aA:=ze (C.o.below H.o);refine(O0 z wa (jn HS.o (t.o.trans (H.o.mono t.o.size)))).mono ?_;rintro r w3 ⟨rfl,b⟩;have c:Hid (zc i w3):=H.o.trans (b.mono H.o.size);have a:=ze (aA.o.below b);have aw:Hid (KM w3 i.heap.size G):=by
   show KM _ _ _;unfold KM;rw[b.block _ (zg ad.o)];exact ad.o
  obtain⟨c0,z0⟩:=zm a.o 0 _ rfl;obtain⟨c1,z1⟩:=zm a.o 1 _ rfl;have am:w.heap.size≠i.heap.size:=Nat.ne_of_lt (zg C.o);have ab:=ze am;clear b am;unfold told;go_wp2_with fail;refine zv (v:=.tuple #[.pointer (some ⟨i.heap.size,0,none⟩),.agg #[.int .i64 0,.string ⟨([]:zb).toArray⟩]]) (vo results97 _ _ w.heap.size 39 _ (0,0) _ rfl (BH a.o _ _ rfl) underlying39 rfl (by kernel_rfl) _ rfl) rfl ⟨E,CO (y.o.ah c.o),(D.o.later c.o).aQ a.o,j.o.1,j.o.2,.inr ⟨u.o,0,p,L,m,x.o,.inl ⟨rfl,i.heap.size,G,rfl,aq.out,au.o,?_,(av.o.later c.o).aQ a.o⟩⟩⟩;unfold KM;rw[yh _ _ _ _ (by show i.heap.size≠w.heap.size;exact Ne.symm ab.o),yh _ _ _ _ (by show i.heap.size≠w.heap.size;exact Ne.symm ab.o)];exact aw.o
 ·have u:=ze q;have V:p=[]:=by
   rcases l with ⟨-,-,U,-⟩|⟨n,R,-,⟨k,d0,-,-,-,h,-⟩|⟨d0,-,⟨-,-,U,-⟩|⟨-,-,h,-⟩⟩⟩
   ·exact U
   ·omega
   ·exact U
   ·omega
  subst V;have x:=ze l;clear q l;unfold Eg;go_wp2_with fail;refine(Gw z i (jn HS.o t.o) 2 3 (by decide)).mono ?_;rintro r w3 ⟨rfl,b⟩;have c:=ze b;have a:=ze (C.o.below b);obtain⟨c0,z0⟩:=zm a.o 0 _ rfl;obtain⟨c1,z1⟩:=zm a.o 1 _ rfl;clear b;unfold told;go_wp2_with fail;exact zv (v:=.tuple #[.pointer none,.agg #[.int .i64 3,.string ⟨([]:zb).toArray⟩]]) (vo results97 _ _ w.heap.size 39 _ (0,0) _ rfl (BH a.o _ _ rfl) underlying39 rfl (by kernel_rfl) _ rfl) rfl ⟨E,CO (y.o.ah c.o),(D.o.later c.o).aQ a.o,j.o.1,j.o.2,.inr ⟨u.o,3,[],L,m,x.o,.inr ⟨by decide,rfl⟩⟩⟩
 ·have u:=ze q;have V:p=[]:=by
   rcases l with ⟨-,-,U,-⟩|⟨n,R,-,⟨k,d0,-,-,-,h,-⟩|⟨d0,-,⟨-,-,U,-⟩|⟨-,-,h,-⟩⟩⟩
   ·exact U
   ·omega
   ·exact U
   ·omega
  subst V;have x:=ze l;clear q l;unfold Eg;go_wp2_with fail;refine(Gw z i (jn HS.o t.o) 4 5 (by decide)).mono ?_;rintro r w3 ⟨rfl,b⟩;have c:=ze b;have a:=ze (C.o.below b);obtain⟨c0,z0⟩:=zm a.o 0 _ rfl;obtain⟨c1,z1⟩:=zm a.o 1 _ rfl;clear b;unfold told;go_wp2_with fail;exact zv (v:=.tuple #[.pointer none,.agg #[.int .i64 5,.string ⟨([]:zb).toArray⟩]]) (vo results97 _ _ w.heap.size 39 _ (0,0) _ rfl (BH a.o _ _ rfl) underlying39 rfl (by kernel_rfl) _ rfl) rfl ⟨E,CO (y.o.ah c.o),(D.o.later c.o).aQ a.o,j.o.1,j.o.2,.inr ⟨u.o,5,[],L,m,x.o,.inr ⟨by decide,rfl⟩⟩⟩
 ·have u:=ze q;have x:=ze l;have ay:=ze an;clear q l an;unfold DT;go_wp2_with fail;refine(zk5 z g p i (jn HS.o t.o) ay.o).mono ?_;rintro r w3 ⟨rfl,b⟩;have c:=ze b;have a:=ze (C.o.below b);obtain⟨c0,z0⟩:=zm a.o 0 _ rfl;obtain⟨c1,z1⟩:=zm a.o 1 _ rfl;clear b;unfold M5;go_wp2_with fail;exact zv (v:=.tuple #[.pointer none,.agg #[.int .i64 6,.string ⟨p.toArray⟩]]) (vo results97 _ _ w.heap.size 39 _ (0,0) _ rfl (BH a.o _ _ rfl) underlying39 rfl (by kernel_rfl) _ rfl) rfl ⟨E,CO (y.o.ah c.o),(D.o.later c.o).aQ a.o,j.o.1,j.o.2,.inr ⟨u.o,6,p,L,m,x.o,.inr ⟨by decide,rfl⟩⟩⟩
def zc6 (W:World)(d:Nat->Addr)(i:vj W d):
  Calls prog 43 #[] W λr l=>r=.returned (.tuple #[.bool false,told 7])/\zc W l:=by
 have a:Hid (zc W (W.alloc (.cells #[.int .i64 0,.string ⟨#[]⟩] 39))):=zi _ _;have k:=ze i;have g:Hid (FH W.heap.size (W.alloc (.cells #[.int .i64 0,.string ⟨#[]⟩] 39))):=zf _ _;go_enter func43,ntmps43;go_wp2_with fail;generalize W.alloc (.cells #[.int .i64 0,.string ⟨#[]⟩] 39)=m at *;refine(zhs m d (jn k.o a.o) []).mono ?_;rintro r n ⟨rfl,f⟩;have b:=ze (a.o.trans (f.mono a.o.size));have h:=ze (g.o.below f);unfold Eg;go_wp2_with fail;refine(Gw d n (jn k.o b.o) 6 7 (by decide)).mono ?_;rintro r s ⟨rfl,j⟩;have e:=ze j;have c:=ze (h.o.below e.o);obtain⟨p,t⟩:=zm c.o 0 _ rfl;obtain⟨q,u⟩:=zm c.o 1 _ rfl;unfold told
 all_goals go_wp2_with fail
 all_goals exact zv (v:=.tuple #[.bool false,.agg #[.int .i64 7,.string ⟨([]:zb).toArray⟩]]) (vo results43 _ _ W.heap.size 39 _ (0,0) _ rfl (BH c.o _ _ rfl) underlying39 rfl (by kernel_rfl) _ rfl) rfl ⟨rfl,Fm (b.o.trans (e.o.mono b.o.size))⟩
variable {B B' cap db g lb:Nat}{C:Array Value}{O:Nat->Prop}{e:TypeId}{v:Value}{w w' w3:World}{xs':List Value}
def KS (w:World)(c g:Nat):Prop:=∃(a:Value) (n:Nat) (b:List Value),w.cell? ⟨c,2,none⟩=some a/\w.ownsRow 0 94 1 a n b/\∀x∈b,x.ownBlock≠some g
def Th {n r:Nat}{j:List Value}(h:w.ownsRow B e 1 v n j)(f:w.ownsRow B' e 1 v r xs'):j=xs':=by
 obtain⟨s,h⟩:=h;obtain⟨t,f⟩:=f;rcases h with ⟨rfl,rfl⟩|⟨g,k,m,rfl,-,p,-,-,-,q⟩
 ·rcases f with ⟨-,rfl⟩|⟨o,c,d,b,-⟩
  ·rw[CF (l:=j) (by omega),CF (l:=xs') (by omega)]
  ·simp at b
 ·rcases f with ⟨b,-⟩|⟨o,c,d,b,-,a,-,-,-,i⟩
  ·simp at b
  ·simp only[jk,zn,Ce,EL]at b;obtain⟨rfl,rfl,rfl⟩:=b;rw[p]at a;simp only[zn,An,EL]at a;rw[<- q,<- i,a]
def KS.fresh {l:Lg}(h:Ak w O db lb l)(g:Nat)(s:w.heap.size<=g):KS w lb g:=by
 obtain⟨i,-,k,⟨q,d,o⟩,-⟩:=h;refine⟨i,l.es.length,q,(zm k 2 _ rfl).1,d,λx n e=>?_⟩;obtain⟨j,c,rfl⟩:=ji n;have b:j<l.es.length:=by rw[d.1]at c;omega
 obtain⟨y,a,p⟩:=o j b;rw[zo c]at a;simp only[zn]at a;obtain⟨r,f,m,-,t,-⟩:=p.form;rw[a,m]at e;simp only[Value.ownBlock,zn]at e;omega
def KS.below (h:KS w lb g)(a:zc w w'):KS w' lb g:=by
 obtain⟨c,n,f,b,d,e⟩:=h;exact⟨c,n,f,by rw[a.cell (p:=⟨lb,2,none⟩) (yf b)];exact b,yx d a,e⟩
def Ak.clear {l:Lg}{f:Nat×Nat}(h:Ak w O db lb l)(H:KS w lb g)(I:w.heap[g]?=some (.cells C 5 f))(E:∀k,k≠g->w'.heap[k]?=w.heap[k]?):Ak w' O db lb l:=by
 obtain⟨B,a,D,⟨M,y,L⟩,v⟩:=h;obtain⟨G,P,N,i,z,A⟩:=H;rw[(zm D 2 B rfl).1]at i;simp only[zn]at i;subst i;obtain rfl:=Th y z;have n:∀(k:Nat) (c:Array Value) (t:TypeId) (x:Nat×Nat),w.heap[k]?=some (Obj.cells c t x)->t≠5->w'.heap[k]?=some (Obj.cells c t x):=λk c t x e K=>by
  rw[E k (λq=>?_)]
  ·exact e
  ·subst q;rw[I]at e;simp only[zn,An]at e;exact K e.2.1.symm
 refine⟨B,a,n _ _ _ _ D (by decide),⟨M,⟨y.1,?_⟩,λj J=>?_⟩,v⟩
 ·rcases y.2 with h|⟨p,b,d,o,s,u,r⟩
  ·exact .inl h
  ·exact .inr ⟨p,b,d,o,s,n _ _ _ _ u (by decide),r⟩
 ·obtain⟨x,e,m⟩:=L j J;refine⟨x,e,⟨m.1.1,?_⟩,m.2⟩;have F:=A x (List.mem_of_getElem? e);rcases m.1.2 with h|⟨p,b,d,o,s,u,r⟩
  ·exact .inl h
  ·refine .inr ⟨p,b,d,o,s,?_,r⟩;rw[E p (λq=>?_)]
   ·exact u
   ·rw[o,q]at F;exact F rfl
def zg2 {n:Nat}{a:Option Addr}{l:Lg}{j:List Value}(i:w.ownsRow 0 94 1 (.slice a n cap) n j)(b:w.heap[lb]?=some (.cells (Ge db (.slice a n cap) l) 200 (0,0)))(c:w.grownBy w3 (Value.slice a n cap).ownBlock):w3.heap[lb]?=some (.cells (Ge db (.slice a n cap) l) 200 (0,0)):=by
 rw[c.block lb (zg b) (λe=>?_)]
 ·exact b
 ·rcases i.2 with ⟨h,-⟩|⟨g,k,d,h,-,f,-⟩
  ·simp at h;rw[h.1]at e;simp[Value.ownBlock]at e
  ·simp at h;rw[h.1]at e;simp only[Value.ownBlock,zn]at e;subst e;rw[f]at b;simp at b
def XL (O:Nat->Prop)(W:World)(I:Nat->Addr)(Y:vj W I)(V m:Nat)(l:Lg)(v:Value)(x:zb)(w:World)(hW:zc W w)(he:l.es.length<=1000000)(h:Ak w O V m l)(hx:Bq w v x)(aR:x.length<=9223372036854775807):
  Calls prog 179 #[.pointer (some ⟨m,0,none⟩),v] w λr N=>zl O lT w N /\
   ((20<x.length/\r=.returned (.tuple #[.int .i64 0,Eg I 0])/\zc w N)\/(x.length<=20/\l.live=false/\r=.returned (.tuple #[.int .i64 0,Eg I 6])/\zc w N) \/
    (x.length<=20/\l.live=true/\r=.returned (.tuple #[.int .i64 (l.es.length:Int),.nilIface])/\Ak N (qv O w N) V m {l with es:=l.es++[x]}/\∀g,g<w.heap.size->KS w m g->KS N m g)):=by
 have HS:=ze (jn Y hW);have G:=ze h;obtain⟨g,ay,C,fr,rfl,aL,hg,hc⟩:=hx;have Q:=ze (And.intro hg hc);clear Y hW h hg hc
 by_cases ax:20<x.length
 ·have h0:=HS.o.entry;go_enter func179,ntmps179
  go_wp2
  go_region
  all_goals go_wp2_with fail
  all_goals go_ret2
  all_goals exact⟨(zl.refl _ _ _).drew,.inl ⟨ax,rfl,(zu _ _).drew⟩⟩
 ·have aJ:¬(20:Int)<(x.length:Int):=by omega
  cases t:l.live with
  |false =>
   have h6:=HS.o.failed;go_enter func179,ntmps179;go_wp2_with fail;refine(Kj O V m l w G.o).mono ?_;rintro r n ⟨rfl,rfl⟩;rw[t]
   go_wp2
   go_region
   all_goals go_wp2_with fail
   all_goals go_ret2
   all_goals exact⟨(zl.refl _ _ _).drew,.inr (.inl ⟨by omega,by first|rfl|trivial,rfl,(zu _ _).drew⟩)⟩
  |true =>
   obtain⟨a,c,hb,aC,af,hO⟩:=lok G.o;obtain⟨-,-,⟨c2,f2⟩,-⟩:=Jr hb;go_enter func179,ntmps179;go_wp2_with fail;refine(Kj O V m l w G.o).mono ?_;rintro r n ⟨rfl,rfl⟩;rw[t];have au:=ze t;clear t;obtain⟨i,hi,ag⟩:=zx.1 JH;obtain⟨al,am,an⟩:i.zero=some (.slice none 0 0)/\i.size=1/\i.bytes=24:=by simpa using ag
   clear ag;have HI:=ze hi;have HZ:=ze (And.intro al (And.intro am an));clear hi al am an;have HB:=ze hb;have HG:=ze af;have av:=ze hO;have ai:=zg hb;obtain⟨xs,aj,ak⟩:=aC;have S:=ze aj;have aw:=ze ak;have aq:Hid (∀j u,(x.map bv)[j]?=some u->n.drew.cell? ((⟨g,0,none⟩:Addr).add j)=some u):=λj u M=>by
    have ah:j<x.length:=by simpa using (qm.1 M).1
    rw[vp,xk];show n.cell? ⟨g,j,none⟩=_;rw[xe _ _ _ _ _ _ Q.o.1,Q.o.2 j ah];simpa[ah]using M
   clear hb af hO aj ak
   go_wp2
   go_region_law (first
    |(go_simp;go_at_call 122;(refine(J8 ⟨g,0,none⟩ x.length ay x n.drew rfl (by omega) (by exact aq.o)).mono ?_;rintro r q ⟨y,rfl,L,ad⟩;obtain⟨X,U,ny,rfl⟩:=JL L;have k:zc n q:=(zu _ n).drew.trans ad;have m2:q.cell? ⟨m,2,none⟩=some (.slice a l.es.length c):=(by rw[k.cell (p:=⟨m,2,none⟩) ai];exact c2);have aS:∀o,(q.alloc o).cell? ⟨m,2,none⟩=some (.slice a l.es.length c):=(λo=>by rw[xg _ _ ⟨_,2,none⟩ (yf m2)];exact m2);have R:=ze L;have ap:=ze k;have H:Hid (∀o,(q.alloc o).ownsRow 0 94 1 (.slice a l.es.length c) l.es.length xs):=(λo=>yx (yx S.o k) (zi q o));have ar:Hid (∀o P,(q.alloc o).grownBy P (Value.slice a l.es.length c).ownBlock->P.heap[m]?=some (.cells (Ge V (.slice a l.es.length c) l) 200 (0,0))):=(λo P aG=>zg2 (H.o o) (zr (by rw[k.block _ ai];exact HB.o)) aG);clear L ad k))
    |(refine AZ _ (by rfl) _ _ _ (by rfl) 0 94 i (.slice none 0 0) 1 24 underlying88 HI.o HZ.o.1 HZ.o.2.1 HZ.o.2.2 rfl (by omega) (.slice a l.es.length c) l.es.length xs (by rfl) (H.o _) ⟨q.heap.size,0,none⟩ 1 1 [.slice (some ⟨X,0,none⟩) ny U] (by rfl) rfl (xm (zf _ _)) (by simp[Value.oneCell']) (by omega) (by unfold maxLen;omega) (by omega) (by omega) (q.heap.size+1) (by simp) ?_;intro g3 A P E d ab aM;have J:=ar.o _ P d;obtain⟨-,-,⟨k3,z3⟩,-⟩:=Jr J;have T:=ze E;have f:=ze d;have ao:=ze ab;have s:=ze J;clear E d ab J))
   all_goals
    have k6:=(zm (Aw s.o 2 (.slice (some ⟨g3,0,none⟩) (l.es.length+1) A)) 2 _ rfl).1
    go_wp2
    go_ret2
    have ae:=ap.o;have Z:zl O lT n (q.alloc (.cells #[.slice (some ⟨X,0,none⟩) ny U] 94)):=(zl.aa ae).alloc _;have aA:zl O [] n (q.alloc (.cells #[.slice (some ⟨X,0,none⟩) ny U] 94)):=(zl.aa ae).alloc _;have aN:n.heap.size<=(q.alloc (.cells #[.slice (some ⟨X,0,none⟩) ny U] 94)).heap.size:=Z.size;have D:=Km (l:=l) (es:=l.es) (b:=[x]) (ys:=[.slice (some ⟨X,0,none⟩) ny U]) (hv:=0) (B:=n.drew.heap.size) Z (.inl av.o) (λg' aF=>.inl (HG.o g' aF)) (H.o _)
     (λj M=>by
      obtain⟨z,e,F⟩:=aw.o j M;exact⟨z,e,zy F.1 aA (by decide),F.2⟩)
     (λj M=>by
      obtain rfl:j=0:=by simpa using M
      exact⟨_,rfl,R.o.below (zi _ _)⟩)
     (yk _) rfl T.o ⟨f.o.os,f.o.tape,f.o.output,f.o.size,f.o.block⟩ (by have h:=ao.o;simpa using h) s.o
    refine⟨D.1,.inr (.inr ⟨by omega,by first|rfl|trivial,congrArg (λz=>Ending.returned (.tuple #[.int .i64 z,.nilIface])) (by simp),by have h9:=D.2.1;rw[au.o]at h9;exact h9,λgf aQ aE=>?_⟩)⟩;obtain⟨aP,n2,aU,K,aH,aI⟩:=aE;rw[(zm HB.o 2 _ rfl).1]at K;simp only[zn]at K;subst K;obtain rfl:=Th S.o aH;refine⟨_,_,_,(zm (Aw s.o 2 (.slice (some ⟨g3,0,none⟩) (l.es.length+1) A)) 2 _ rfl).1,zy T.o ((zl.refl (λ_=>True) [200] P).set (.inl trivial) s.o (by simp) _) (by decide),λz F=>?_⟩;rcases yj.1 F with F|F
    ·exact aI z F
    ·obtain rfl:z=_:=by simpa using F
     obtain⟨az,aO,aD,aB,-,-⟩:=R.o.form;simp only[jk,zn,Ce,EL]at aD;have aK:n.heap.size<=az:=aB;intro e9;simp only[Value.ownBlock,zn]at e9;omega
variable {T:List Nat}
def OT {a:World}(j:B<=g)(h:Below B a w)(o:Nat)(b:List Value):Below B a (w.setCells g o b):=by
 obtain⟨d,e,f,i⟩:=C7 g b o w;exact⟨d.trans h.os,e.trans h.tape,f.trans h.output,by rw[i];exact h.size,λk c=>by rw[AV _ _ _ _ _ (by omega)];exact h.block k c⟩
def Zn {a:World}(h:zl O T a w)(j:a.heap.size<=g)(o:Nat)(b:List Value):zl O T a (w.setCells g o b):=by
 obtain⟨d,e,f,i⟩:=C7 g b o w;exact⟨d.trans h.os,e.trans h.tape,f.trans h.output,by rw[i];exact h.size,λk c=>by rw[AV _ _ _ _ _ (by omega)];exact h.block k c⟩
def Qb (g n:Nat)(w:World):Prop:=∃C a,w.heap[g]?=some (.cells C 5 a)/\n<=C.size/\n<=a.1
def VZ (b:World)(s:zb)(a:Nat):Qb b.heap.size s.length (b.alloc (.cells (bytesRow ⟨s.toArray⟩ a) 5 ((bytesRow ⟨s.toArray⟩ a).size,(bytesRow ⟨s.toArray⟩ a).size+1))):=⟨_,_,zf _ _,by simp[bytesRow,ByteArray.size],by simp[bytesRow,ByteArray.size]⟩
def Qb.there {n:Nat}(h:Qb g n w):w.there g 0 n:=by
 obtain⟨C,d,a,b,c⟩:=h;exact Hp a b (.inl c)
def Qb.aj {n:Nat}(h:Qb g n w)(f:zl O T w w')(e:5∉T):Qb g n w':=by
 obtain⟨C,a,b,c,d⟩:=h;exact⟨C,a,f.keep b e,c,d⟩
def Wy (O:Nat->Prop)(W:World)(i:Nat->Addr)(L:vj W i)(K:∀k,O k->W.heap.size<=k)(A V m:Nat)(l:Lg)(s:zb)(w:World)(hW:zc W w)(he:l.es.length<=1000000)(ar:s.length<=9223372036854775807)(hp:KM w V m)(hL:Ak w O A m l):
  Calls prog 131 #[.pointer (some ⟨V,0,none⟩),.string ⟨s.toArray⟩] w λr Z=>zl O lT w Z /\
   ((20<s.length/\r=.returned (.tuple #[.int .i64 0,told 1])/\zc w Z)\/(s.length<=20/\l.live=false/\r=.returned (.tuple #[.int .i64 0,told 7])/\zc w Z) \/
    (s.length<=20/\l.live=true/\r=.returned (.tuple #[.int .i64 (l.es.length:Int),told 0])/\Ak Z (qv O w Z) A m {l with es:=l.es++[s]})):=by
 have R:V<w.heap.size:=zg hp;have ak:Hid (w.cell? ⟨V,0,none⟩=some (.pointer (some ⟨m,0,none⟩))):=(zm hp 0 _ rfl).1;have HL:=ze hL;have J:=ze hW;have HO:=ze K;have HS:=ze L;clear hL hW K L hp;have aq:=AI (P:=prog) (w.alloc (.cells #[.int .i64 0,.string ⟨#[]⟩] 39)) 9 94 5 ⟨s.toArray⟩ xt underlying94 jc;have z:(⟨s.toArray⟩:ByteArray).size<=grownCap (w.alloc (.cells #[.int .i64 0,.string ⟨#[]⟩] 39)) (⟨s.toArray⟩:ByteArray).size 0 5:=My _ _ _ _;have U:(⟨s.toArray⟩:ByteArray).size=s.length:=by simp[ByteArray.size]
 rw[U]at z;have HQ:=ze (Nf (w.alloc (.cells #[.int .i64 0,.string ⟨#[]⟩] 39)) s (grownCap (w.alloc (.cells #[.int .i64 0,.string ⟨#[]⟩] 39)) s.length 0 5) z);clear U;have ap:∀q t,((w.alloc q).alloc t).cell? ⟨V,0,none⟩=some (.pointer (some ⟨m,0,none⟩)):=λq t=>by
  rw[xg _ _ ⟨_,0,none⟩ (by simp;omega),xg _ _ ⟨_,0,none⟩ R];exact ak.o
 have M:∀q t,zc w ((w.alloc q).alloc t):=λq t=>(zi w q).trans ((zi _ t).mono (by simp));have B:=ze M;have F:=ze (VZ (w.alloc (.cells #[.int .i64 0,.string ⟨#[]⟩] 39)) s (grownCap (w.alloc (.cells #[.int .i64 0,.string ⟨#[]⟩] 39)) s.length 0 5));have G:Hid (∀o,FH w.heap.size ((w.alloc (.cells #[.int .i64 0,.string ⟨#[]⟩] 39)).alloc o)):=λo=>zr (zf _ _);have H:Hid (∀q t,((w.alloc q).alloc t).heap.size=w.heap.size+2):=λq t=>by simp
 have e1:(w.alloc (.cells #[.int .i64 0,.string ⟨#[]⟩] 39)).heap.size=w.heap.size+1:=by simp
 rw[e1]at HQ F;clear M e1;go_enter func131,ntmps131;go_wp2_with fail;have al:=ze (G.o (.cells (bytesRow ⟨s.toArray⟩ (grownCap (w.alloc (.cells #[.int .i64 0,.string ⟨#[]⟩] 39)) s.length 0 5)) 5 ((bytesRow ⟨s.toArray⟩ (grownCap (w.alloc (.cells #[.int .i64 0,.string ⟨#[]⟩] 39)) s.length 0 5)).size,(bytesRow ⟨s.toArray⟩ (grownCap (w.alloc (.cells #[.int .i64 0,.string ⟨#[]⟩] 39)) s.length 0 5)).size+1)));have e:=ze (B.o (.cells #[.int .i64 0,.string ⟨#[]⟩] 39) (.cells (bytesRow ⟨s.toArray⟩ (grownCap (w.alloc (.cells #[.int .i64 0,.string ⟨#[]⟩] 39)) s.length 0 5)) 5 ((bytesRow ⟨s.toArray⟩ (grownCap (w.alloc (.cells #[.int .i64 0,.string ⟨#[]⟩] 39)) s.length 0 5)).size,(bytesRow ⟨s.toArray⟩ (grownCap (w.alloc (.cells #[.int .i64 0,.string ⟨#[]⟩] 39)) s.length 0 5)).size+1)));have ao:=ze (H.o (.cells #[.int .i64 0,.string ⟨#[]⟩] 39) (.cells (bytesRow ⟨s.toArray⟩ (grownCap (w.alloc (.cells #[.int .i64 0,.string ⟨#[]⟩] 39)) s.length 0 5)) 5 ((bytesRow ⟨s.toArray⟩ (grownCap (w.alloc (.cells #[.int .i64 0,.string ⟨#[]⟩] 39)) s.length 0 5)).size,(bytesRow ⟨s.toArray⟩ (grownCap (w.alloc (.cells #[.int .i64 0,.string ⟨#[]⟩] 39)) s.length 0 5)).size+1)));clear G B H ap aq z;generalize ((w.alloc (.cells #[.int .i64 0,.string ⟨#[]⟩] 39)).alloc (.cells (bytesRow ⟨s.toArray⟩ (grownCap (w.alloc (.cells #[.int .i64 0,.string ⟨#[]⟩] 39)) s.length 0 5)) 5 ((bytesRow ⟨s.toArray⟩ (grownCap (w.alloc (.cells #[.int .i64 0,.string ⟨#[]⟩] 39)) s.length 0 5)).size,(bytesRow ⟨s.toArray⟩ (grownCap (w.alloc (.cells #[.int .i64 0,.string ⟨#[]⟩] 39)) s.length 0 5)).size+1)))=X at *;generalize grownCap (w.alloc (.cells #[.int .i64 0,.string ⟨#[]⟩] 39)) s.length 0 5=cp at *;have HX:Hid (zl O lT w X):=.aa e.o;have ai:Hid (Ak X O A m l):=HL.o.stay (O1:=λ_=>False) (T:=[]) (.aa e.o) (by simp) (by simp) (by simp);have af:Hid (KS X m (w.heap.size+1)):=(KS.fresh HL.o (w.heap.size+1) (by omega)).below e.o;have ad:Hid (zc W X):=J.o.trans (e.o.mono J.o.size);refine(XL O W i HS.o A m l _ s X.drew ad.o.drew he (by exact ai.o) (by exact HQ.o) ar).mono ?_;rintro r c ⟨p,S⟩;have I:Hid (zl O lT w c):=HX.o.trans ((p.aF).mono (λ_ h=>.inl h) (λ_ h=>h));have am:Hid (FH w.heap.size c):=al.o.aj p.aF (by decide);have E:Hid (Qb (w.heap.size+1) s.length c):=F.o.aj p.aF (by decide);have ab:Hid (zc W c):=J.o.trans (I.o.below HO.o J.o.size);have ae:Hid (∀k,qv O X.drew c k->qv O w c k):=λk Q=>by
  rcases Q with h|h
  ·exact .inl h
  ·exact .inr ⟨zt e.o.size h.1,h.2⟩
 clear p;have au:=λty=>Ll (P:=prog) c 94 5 ty (.int .u8 0) underlying94 NR rfl rfl (w.heap.size+1) s.length cp E.o.there;have g:Hid (zl O lT w (c.setCells (w.heap.size+1) 0 (List.replicate s.length (.int .u8 0)))):=Zn I.o (by omega) _ _;have y:Hid (FH w.heap.size (c.setCells (w.heap.size+1) 0 (List.replicate s.length (.int .u8 0)))):=by
  show FH _ _;unfold FH;rw[AV _ _ _ _ _ (by omega)];exact am.o
 have x:Hid (zc W (c.setCells (w.heap.size+1) 0 (List.replicate s.length (.int .u8 0)))):=OT (zt J.o.size (by omega)) ab.o _ _;have an:Hid ((c.setCells (w.heap.size+1) 0 (List.replicate s.length (.int .u8 0))).heap.size=c.heap.size):=(C7 (w.heap.size+1) (List.replicate s.length (.int .u8 0)) 0 c).2.2.2;have D:Hid (zc X c->zc w (c.setCells (w.heap.size+1) 0 (List.replicate s.length (.int .u8 0)))):=λh=>OT (by omega) (e.o.trans (h.mono e.o.size)) _ _;have ag:Hid (∀l',Ak c (qv O X.drew c) A m l'->KS c m (w.heap.size+1)->Ak (c.setCells (w.heap.size+1) 0 (List.replicate s.length (.int .u8 0))) (qv O w (c.setCells (w.heap.size+1) 0 (List.replicate s.length (.int .u8 0)))) A m l'):=λl' h hf=>by
  obtain⟨C,fr,hg,-,-⟩:=E.o;refine(h.clear hf hg (λk Q=>AV _ _ _ _ _ Q)).mono (λk Q=>?_);rcases ae.o k Q with h|h
  ·exact .inl h
  ·exact .inr ⟨h.1,by rw[an.o];exact h.2⟩
 generalize c.setCells (w.heap.size+1) 0 (List.replicate s.length (.int .u8 0))=Y at *;rcases S with ⟨u,rfl,f⟩|⟨u,j,rfl,f⟩|⟨u,j,rfl,hl,N⟩
 ·have n:=ze (And.intro u (D.o ⟨f.os,f.tape,f.output,f.size,f.block⟩));clear u f;unfold Eg;go_wp2_with fail;refine(Gw i Y (jn HS.o x.o) 0 1 (by decide)).mono ?_;rintro r w4 ⟨rfl,b⟩;have d:=ze b;have a:=ze (y.o.below b);obtain⟨c0,z0⟩:=zm a.o 0 _ rfl;obtain⟨c1,z1⟩:=zm a.o 1 _ rfl;clear b;unfold told;go_wp2_with fail;exact zv (v:=.tuple #[.int .i64 0,.agg #[.int .i64 1,.string ⟨([]:zb).toArray⟩]]) (vo results131 _ _ w.heap.size 39 _ (0,0) _ rfl (BH a.o _ _ rfl) underlying39 rfl (by kernel_rfl) _ rfl) rfl ⟨CO (g.o.ah d.o),.inl ⟨n.o.1,rfl,Fm (n.o.2.trans (d.o.mono g.o.size))⟩⟩
 ·have n:=ze (And.intro u (And.intro j (D.o ⟨f.os,f.tape,f.output,f.size,f.block⟩)));clear u f j;unfold Eg;go_wp2_with fail;refine(Gw i Y (jn HS.o x.o) 6 7 (by decide)).mono ?_;rintro r w4 ⟨rfl,b⟩;have d:=ze b;have a:=ze (y.o.below b);obtain⟨c0,z0⟩:=zm a.o 0 _ rfl;obtain⟨c1,z1⟩:=zm a.o 1 _ rfl;clear b;unfold told;go_wp2_with fail;exact zv (v:=.tuple #[.int .i64 0,.agg #[.int .i64 7,.string ⟨([]:zb).toArray⟩]]) (vo results131 _ _ w.heap.size 39 _ (0,0) _ rfl (BH a.o _ _ rfl) underlying39 rfl (by kernel_rfl) _ rfl) rfl ⟨CO (g.o.ah d.o),.inr (.inl ⟨n.o.1,n.o.2.1,rfl,Fm (n.o.2.2.trans (d.o.mono g.o.size))⟩)⟩
 ·have n:=ze (And.intro u (And.intro j (ag.o _ hl (N _ (by have:=ao.o;show _<X.heap.size;omega) af.o))));clear u j hl N;go_wp2_with fail;refine(O0 i Y (jn HS.o x.o)).mono ?_;rintro r w4 ⟨rfl,b⟩;have d:=ze b;have a:=ze (y.o.below b);obtain⟨c0,z0⟩:=zm a.o 0 _ rfl;obtain⟨c1,z1⟩:=zm a.o 1 _ rfl;clear b;unfold told;go_wp2_with fail;exact zv (v:=.tuple #[.int .i64 (l.es.length:Int),.agg #[.int .i64 0,.string ⟨([]:zb).toArray⟩]]) (vo results131 _ _ w.heap.size 39 _ (0,0) _ rfl (BH a.o _ _ rfl) underlying39 rfl (by kernel_rfl) _ rfl) rfl ⟨CO (g.o.ah d.o),.inr (.inr ⟨n.o.1,n.o.2.1,rfl,(n.o.2.2.later d.o).aQ a.o⟩)⟩
variable {k:Nat}{wt:Fs}
def RF (b:Fs)(f:zb×zb):Bool:=match xr b f.1 with
 |some y=>decide (y=f.2)
 |none=>false
def Zk (b a:Fs)(k:Nat)(h:k<a.length):GN b (a.take (k+1))=(GN b (a.take k)&&RF b a[k]):=by
 unfold GN;rw[JR a k h,OO];congr 1;rw[List.all_cons,List.all_nil,Bool.and_true]
 rfl
def Zj {b:Fs}(h:k<wt.length)(a:RF b wt[k]=false):GN b wt=false:=by
 unfold GN;rw[Mt];exact⟨wt[k],ye h,by rw[<- Bool.not_eq_true]at a;exact a⟩
def zd9 (R S:Value)(b a:Fs)(w:World)(U:b.length<=1000000000)(hw:a.length<=1000000000)(O:Mr w R b)(P:Mr w S a):
  Calls prog 136 #[R,S] w λr w'=>r=.returned (.bool (GN b a))/\zc w w':=by
 have L:=ze O;have T:=ze P;obtain⟨a1,c1,rfl,V,-⟩:=O;obtain⟨a2,c2,rfl,W,-⟩:=P;go_enter func136,ntmps136
 go_wp2
 go_loopw [5] (λi wr=>∃k:Nat,k<=a.length/\i=.int .i64 k/\zc w wr/\GN b (a.take k)=true) (λi _=>a.length-(intOf i).toNat)
 case atStart=>exact⟨0,yk _,rfl,zu _ _,rfl⟩
 case round =>
  obtain⟨k,hk,rfl,F,H⟩:=hrel;have d:=ze F;have M:=ze H
  by_cases h:k<a.length
  ·have s:=ze (Zk b a k h);have g:Hid (RF b a[k]=false->GN b a=false):=Zj h;obtain⟨-,-,v⟩:=T.o.at;obtain⟨z,Q,rfl,K⟩:=v (by omega);obtain⟨A,B⟩:=K k h;obtain⟨⟨p,x⟩,I⟩:∃f,a[k]=f:=⟨_,rfl⟩;rw[I]at A B s g;unfold qy at A B;have r0:wr.cell? ⟨z,Q+k*2,none⟩=some (.string ⟨p.toArray⟩):=by rw[d.o.cell (p:=⟨z,_,none⟩) (yf A)];exact A
   have r1:wr.cell? ⟨z,Q+k*2+1,none⟩=some (.string ⟨x.toArray⟩):=by rw[d.o.cell (p:=⟨z,_,none⟩) (yf B)];exact B
   go_wp2_with fail;refine(AF _ b p wr U (L.o.below d.o)).mono ?_;rintro r w1 ⟨rfl,rfl⟩;have l:Hid (RF b (p,x)=match xr b p with|some y=>decide (y=x)|none=>false):=rfl;cases e:GC b p with
   |none =>
    have G:Ed b p=-1:=by unfold Ed;rw[e]
    rw[G];have E:=ze (g.o (by rw[l.o,(Bm e).1]))
    go_wp2
    go_region
    all_goals
     go_wp2
     go_ret;exact⟨by rw[E.o];rfl,d.o.drew⟩
   |some j =>
    have G:Ed b p=j:=by unfold Ed;rw[e]
    rw[G];obtain⟨X,-,t,-⟩:=Bn e;obtain⟨-,-,u⟩:=L.o.at;obtain⟨N,o1,rfl,J⟩:=u (by omega);obtain⟨-,C⟩:=J j X;obtain⟨y,Z⟩:∃y,b[j].2=y:=⟨_,rfl⟩;rw[Z]at C t;unfold qy at C;have r2:w1.cell? ⟨N,o1+j*2+1,none⟩=some (.string ⟨y.toArray⟩):=by rw[d.o.cell (p:=⟨N,_,none⟩) (yf C)];exact C
    have m:Hid (RF b (p,x)=decide (y=x)):=by
     show _=_;rw[l.o,t]
    have Y:decide ((j:Int)<0)=false:=by simp
    go_wp2
    go_region
    all_goals
     by_cases c:y=x
     ·have D:Hid (GN b (a.take (k+1))=true):=by
       show _=_;rw[s.o,M.o,m.o,c];simp
      rw[show(y==x)=true by simpa using c]
      go_wp2
      go_round
      case rel=>exact⟨k+1,by omega,by go_num,d.o.drew,D.o⟩
      case measure=>simp[intOf];omega
     ·have E:Hid (GN b a=false):=g.o (by rw[m.o];simpa using c);rw[show(y==x)=false by simpa using c]
      go_wp2
      go_ret;exact⟨by rw[E.o];rfl,d.o.drew⟩
  ·obtain rfl:k=a.length:=by omega
   have n:=M.o;rw[jb]at n;have q:=ze n
   go_wp2
   go_ret;exact⟨by rw[q.o];rfl,d.o⟩
def Ns (after:Fs)(c:zb)(f:zb×zb):Bool:=match xr after f.1 with
 |some y=>decide (y=f.2)||(decide (f.1=CA)&&decide (y=c))
 |none=>false
def Lt (b wt:Fs)(c:zb)(f:zb×zb):Bool:=match xr b f.1 with
 |some _=>true
 |none=>(match xr wt f.1 with|some y=>decide (f.2=y)|none=>false)||(decide (f.1=CA)&&decide (f.2=c))
def Vi {α:Type}(g:α->Bool)(l:List α)(k:Nat)(h:k<l.length):(l.take (k+1)).all g=((l.take k).all g&&g l[k]):=by
 rw[JR l k h,OO,List.all_cons,List.all_nil,Bool.and_true]
def Vh {α:Type}(g:α->Bool){l:List α}(h:k<l.length)(a:g l[k]=false):l.all g=false:=by
 rw[Mt];exact⟨l[k],ye h,by rw[<- Bool.not_eq_true]at a;exact a⟩
def We (v1 v2 v3:Value)(b d l:Fs)(c:zb)(w:World)(hb:b.length<=1000000000)(ha:d.length<=1000000000)(hw:l.length<=1000000000)(h1:Mr w v1 b)(h2:Mr w v2 d)(h3:Mr w v3 l):
  Calls prog 135 #[v1,v2,v3,.string ⟨c.toArray⟩] w λr w'=>r=.returned (.bool (Nu b d l c))/\zc w w':=by
 have H1:=ze h1;have H2:=ze h2;have H3:=ze h3;have aj:Hid (b.all (Ns d c)=false->Nu b d l c=false):=λh=>by
  show(b.all (Ns d c)&&_)=false;rw[h,Bool.false_and]
 obtain⟨a1,c1,rfl,ak,-⟩:=h1;obtain⟨a2,c2,rfl,al,-⟩:=h2;obtain⟨a3,c3,rfl,am,-⟩:=h3;clear ak al am;go_enter func135,ntmps135
 go_wp2
 go_loopw [9] (λi wr=>∃k:Nat,k<=b.length/\i=.int .i64 k/\zc w wr/\(b.take k).all (Ns d c)=true) (λi _=>b.length-(intOf i).toNat)
 case atStart=>exact⟨0,yk _,rfl,zu _ _,rfl⟩
 case round =>
  obtain⟨k,hk,rfl,N,Q⟩:=hrel;have m:=ze N;have HN:=ze Q;clear N Q
  by_cases E:k<b.length
  ·have C:=ze (Vi (Ns d c) b k E);have s:Hid (Ns d c b[k]=false->Nu b d l c=false):=λh=>aj.o (Vh _ E h);obtain⟨-,-,A⟩:=H1.o.at;obtain⟨X,o2,rfl,T⟩:=A (by omega);obtain⟨U,V⟩:=T k E;obtain⟨⟨p,x⟩,R⟩:∃f,b[k]=f:=⟨_,rfl⟩;rw[R]at U V C s;unfold qy at U V;have J:wr.cell? ⟨X,o2+k*2,none⟩=some (.string ⟨p.toArray⟩):=by rw[m.o.cell (p:=⟨X,_,none⟩) (yf U)];exact U
   have K:wr.cell? ⟨X,o2+k*2+1,none⟩=some (.string ⟨x.toArray⟩):=by rw[m.o.cell (p:=⟨X,_,none⟩) (yf V)];exact V
   clear U V R T A;go_wp2_with fail;refine(AF _ d p wr ha (H2.o.below m.o)).mono ?_;rintro r w1 ⟨rfl,rfl⟩;have u:Hid (Ns d c (p,x)=match xr d p with|some y=>decide (y=x)||(decide (p=CA)&&decide (y=c))|none=>false):=rfl;cases e:GC d p with
   |none =>
    have O:Ed d p=-1:=by unfold Ed;rw[e]
    rw[O];have G:=ze (s.o (by rw[u.o,(Bm e).1]));clear e O
    go_wp2
    go_region
    all_goals
     go_wp2
     go_ret;exact⟨by rw[G.o];rfl,m.o.drew⟩
   |some j =>
    have O:Ed d p=j:=by unfold Ed;rw[e]
    rw[O];obtain⟨hj,-,t,-⟩:=Bn e;obtain⟨-,-,z⟩:=H2.o.at;obtain⟨b1,o1,rfl,S⟩:=z (by omega);obtain⟨-,W⟩:=S j hj;obtain⟨y,hy⟩:∃y,d[j].2=y:=⟨_,rfl⟩;rw[hy]at W t;unfold qy at W;have Z:w1.cell? ⟨b1,o1+j*2+1,none⟩=some (.string ⟨y.toArray⟩):=by rw[m.o.cell (p:=⟨b1,_,none⟩) (yf W)];exact W
    have n:Hid (Ns d c (p,x)=(decide (y=x)||(decide (p=CA)&&decide (y=c)))):=by
     show _=_;rw[u.o,t]
    have D:decide ((j:Int)<0)=false:=by simp
    clear e O S z W hy t;have B:Hid ((decide (y=x)||(decide (p=CA)&&decide (y=c)))=true->(b.take (k+1)).all (Ns d c)=true):=λh=>by
     rw[C.o,HN.o,n.o,h]
     rfl
    have ah:Hid ((decide (y=x)||(decide (p=CA)&&decide (y=c)))=false->Nu b d l c=false):=λh=>s.o (by rw[n.o];exact h);clear u n C s
    by_cases v:y=x
    ·have L:(y==x)=true:=by simpa using v
     have q:=ze (B.o (by simp[v]));clear v
     go_wp2
     go_region
     all_goals
      clear L J K Z
      go_wp2
      go_round
      case rel=>exact⟨k+1,by omega,by go_num,m.o.drew,q.o⟩
      case measure=>simp[intOf];omega
    ·have L:(y==x)=false:=by simpa using v
     by_cases a:p=CA
     ·have F:(p==[99,104,101,99,107,112,111,105,110,116])=true:=by simpa[CA]using a
      by_cases I:y=c
      ·have M:(y==c)=true:=by simpa using I
       have q:=ze (B.o (by simp[a,I]));clear v a I
       go_wp2
       go_region
       all_goals
        clear L F M J K Z
        go_wp2
        go_round
        case rel=>exact⟨k+1,by omega,by go_num,m.o.drew,q.o⟩
        case measure=>simp[intOf];omega
      ·have M:(y==c)=false:=by simpa using I
       have G:=ze (ah.o (by simp[v,I]));clear v a I
       go_wp2
       go_region
       all_goals
        clear L F M J K Z
        go_wp2
        go_ret;exact⟨by rw[G.o];rfl,m.o.drew⟩
     ·have F:(p==[99,104,101,99,107,112,111,105,110,116])=false:=by simpa[CA]using a
      have G:=ze (ah.o (by simp[v,a]));clear v a
      go_wp2
      go_region
      all_goals
       clear L F J K Z
       go_wp2
       go_ret;exact⟨by rw[G.o];rfl,m.o.drew⟩
  ·obtain rfl:k=b.length:=by omega
   have ab:=HN.o;rw[jb]at ab;have ae:Hid (Nu b d l c=d.all (Lt b l c)):=by
    show(b.all (Ns d c)&&d.all (Lt b l c))=_;rw[ab,S0]
   have ai:=ze m.o;clear ab HN m
   go_wp2
   go_loopw [11] (λi wr=>∃k:Nat,k<=d.length/\i=.int .i64 k/\zc w wr/\(d.take k).all (Lt b l c)=true) (λi _=>d.length-(intOf i).toNat)
   case atStart=>exact⟨0,yk _,rfl,ai.o,rfl⟩
   case round =>
    obtain⟨k,hk,rfl,N,Q⟩:=hrel;have m:=ze N;have HN:=ze Q;clear N Q
    by_cases E:k<d.length
    ·have C:=ze (Vi (Lt b l c) d k E);have s:Hid (Lt b l c d[k]=false->Nu b d l c=false):=λh=>by rw[ae.o];exact Vh _ E h
     obtain⟨-,-,A⟩:=H2.o.at;obtain⟨X,o2,rfl,T⟩:=A (by omega);obtain⟨U,V⟩:=T k E;obtain⟨⟨p,x⟩,R⟩:∃f,d[k]=f:=⟨_,rfl⟩;rw[R]at U V C s;unfold qy at U V;have J:wr.cell? ⟨X,o2+k*2,none⟩=some (.string ⟨p.toArray⟩):=by rw[m.o.cell (p:=⟨X,_,none⟩) (yf U)];exact U
     have K:wr.cell? ⟨X,o2+k*2+1,none⟩=some (.string ⟨x.toArray⟩):=by rw[m.o.cell (p:=⟨X,_,none⟩) (yf V)];exact V
     clear U V R T A;have B:Hid (Lt b l c (p,x)=true->(d.take (k+1)).all (Lt b l c)=true):=λh=>by
      rw[C.o,HN.o,h]
      rfl
     have u:Hid (Lt b l c (p,x)=match xr b p with|some _=>true|none=>(match xr l p with|some y=>decide (x=y)|none=>false)||(decide (p=CA)&&decide (x=c))):=rfl;clear C;go_wp2_with fail;refine(AF _ b p wr hb (H1.o.below m.o)).mono ?_;rintro r w1 ⟨rfl,rfl⟩;go_wp2_with fail;refine(AF _ l p w1 hw (H3.o.below m.o)).mono ?_;rintro r w2 ⟨rfl,rfl⟩;cases e:GC b p with
     |some j =>
      have O:Ed b p=j:=by unfold Ed;rw[e]
      rw[O];obtain⟨hj,-,t,-⟩:=Bn e;have q:=ze (B.o (by rw[u.o,t]));have D:decide ((j:Int)<0)=false:=by simp
      generalize Ed l p=jj;clear e O hj t
      go_wp2
      go_region
      all_goals
       clear D J K
       go_wp2
       go_round
       case rel=>exact⟨k+1,by omega,by go_num,m.o.drew,q.o⟩
       case measure=>simp[intOf];omega
     |none =>
      have O:Ed b p=-1:=by unfold Ed;rw[e]
      rw[O];have Y:=(Bm e).1;clear e O;cases e2:GC l p with
      |none =>
       have P:Ed l p=-1:=by unfold Ed;rw[e2]
       rw[P];have n:Hid (Lt b l c (p,x)=(decide (p=CA)&&decide (x=c))):=by
        show _=_;rw[u.o,Y,(Bm e2).1]
        rfl
       clear e2 P Y u
       by_cases a:p=CA
       ·have F:(p==[99,104,101,99,107,112,111,105,110,116])=true:=by simpa[CA]using a
        by_cases g:x=c
        ·have M:(x==c)=true:=by simpa using g
         have q:=ze (B.o (by rw[n.o];simp[a,g]));clear a g
         go_wp2
         go_region
         all_goals
          clear F M J K
          go_wp2
          go_round
          case rel=>exact⟨k+1,by omega,by go_num,m.o.drew,q.o⟩
          case measure=>simp[intOf];omega
        ·have M:(x==c)=false:=by simpa using g
         have G:=ze (s.o (by rw[n.o];simp[g]));clear a g
         go_wp2
         go_region
         all_goals
          clear F M J K
          go_wp2
          go_ret;exact⟨by rw[G.o];rfl,m.o.drew⟩
       ·have F:(p==[99,104,101,99,107,112,111,105,110,116])=false:=by simpa[CA]using a
        have G:=ze (s.o (by rw[n.o];simp[a]));clear a
        go_wp2
        go_region
        all_goals
         clear F J K
         go_wp2
         go_ret;exact⟨by rw[G.o];rfl,m.o.drew⟩
      |some j =>
       have P:Ed l p=j:=by unfold Ed;rw[e2]
       rw[P];obtain⟨hj,-,t,-⟩:=Bn e2;obtain⟨-,-,z⟩:=H3.o.at;obtain⟨b1,o1,rfl,S⟩:=z (by omega);obtain⟨-,W⟩:=S j hj;obtain⟨y,hy⟩:∃y,l[j].2=y:=⟨_,rfl⟩;rw[hy]at W t;unfold qy at W;have Z:w2.cell? ⟨b1,o1+j*2+1,none⟩=some (.string ⟨y.toArray⟩):=by rw[m.o.cell (p:=⟨b1,_,none⟩) (yf W)];exact W
       have n:Hid (Lt b l c (p,x)=(decide (x=y)||(decide (p=CA)&&decide (x=c)))):=by
        show _=_;rw[u.o,Y,t]
       have D:decide ((j:Int)<0)=false:=by simp
       clear e2 P S z W hy t Y u
       by_cases H:x=y
       ·have L:(x==y)=true:=by simpa using H
        have q:=ze (B.o (by rw[n.o];simp[H]));clear H
        go_wp2
        go_region
        all_goals
         clear L D J K Z
         go_wp2
         go_round
         case rel=>exact⟨k+1,by omega,by go_num,m.o.drew,q.o⟩
         case measure=>simp[intOf];omega
       ·have L:(x==y)=false:=by simpa using H
        have aa:Hid (Lt b l c (p,x)=(decide (p=CA)&&decide (x=c))):=by
         show _=_;rw[n.o];simp[H]
        clear H n
        by_cases a:p=CA
        ·have F:(p==[99,104,101,99,107,112,111,105,110,116])=true:=by simpa[CA]using a
         by_cases g:x=c
         ·have M:(x==c)=true:=by simpa using g
          have q:=ze (B.o (by rw[aa.o];simp[a,g]));clear a g
          go_wp2
          go_region
          all_goals
           clear F M L D J K Z
           go_wp2
           go_round
           case rel=>exact⟨k+1,by omega,by go_num,m.o.drew,q.o⟩
           case measure=>simp[intOf];omega
         ·have M:(x==c)=false:=by simpa using g
          have G:=ze (s.o (by rw[aa.o];simp[g]));clear a g
          go_wp2
          go_region
          all_goals
           clear F M L D J K Z
           go_wp2
           go_ret;exact⟨by rw[G.o];rfl,m.o.drew⟩
        ·have F:(p==[99,104,101,99,107,112,111,105,110,116])=false:=by simpa[CA]using a
         have G:=ze (s.o (by rw[aa.o];simp[a]));clear a
         go_wp2
         go_region
         all_goals
          clear F L D J K Z
          go_wp2
          go_ret;exact⟨by rw[G.o];rfl,m.o.drew⟩
    ·obtain rfl:k=d.length:=by omega
     have ad:=HN.o;rw[jb]at ad;have ag:Hid (Nu b d l c=true):=by
      show _=_;rw[ae.o,ad]
     clear ad
     go_wp2
     go_ret;exact⟨by rw[ag.o];rfl,m.o⟩
end Go.Proofs.YtfdbeldiomkdiaaGreatDoor
