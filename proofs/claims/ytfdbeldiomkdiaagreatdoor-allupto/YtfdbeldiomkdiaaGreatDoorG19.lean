import Derived.Test.YtfdbeldiomkdiaaGreatDoorG18
import Derived.Stop.Asserts
set_option maxHeartbeats 8000000
set_option maxRecDepth 100000
set_option linter.all false
namespace Go.Proofs.YtfdbeldiomkdiaaGreatDoor
open Go.RowKit Go.Proofs.Tryz
def AJ:=@run_callFunc_extern
def AQ:=@World.cell?_alloc_lt
def GP:=@World.frozen?_alloc_old
variable {O:Nat->Prop}{cap db i lb:Nat}{u:Value}{w w2:World}
abbrev pT:List Nat:=[144,125,200]
def Jb {p:Addr}:∀k,qv O w w2 k->qv O w (w2.setCell p u) k:=λ_ h=>qv.more (by simp[World.setCell]) _ h
def zg6 {a:Option Addr}{l:Lg}(b:w.heap[lb]?=some (.cells (Ge db (.slice a l.es.length cap) l) 200 (0,0))):(w.setCell ⟨lb,0,none⟩ .nilIface).heap[lb]?=some (.cells (Ge db (.slice a l.es.length cap) {l with live:=false}) 200 (0,0)):=Aw b 0 _
def ZU {a:Option Addr}{l l':Lg}(k:w.heap[lb]?=some (.cells (Ge db (.slice a l.es.length cap) l) 200 (0,0)))(c:KB w 0 (.slice a l.es.length cap) l.es)(n:∀g,(Value.slice a l.es.length cap).ownBlock=some g->O g)(h:O lb)
 (b:(w.setCell ⟨lb,i,none⟩ u).heap[lb]?=some (.cells (Ge db (.slice a l.es.length cap) l') 200 (0,0))) (m:l'.es=l.es):Ak (w.setCell ⟨lb,i,none⟩ u) O db lb l':=by
 have d:zl (λ_=>True) [200] w (w.setCell ⟨lb,i,none⟩ u):=(zl.refl _ _ w).set (.inl trivial) k (by simp) u;refine⟨_,h,b,?_,n⟩;rw[m];obtain⟨r,p,q⟩:=c;exact⟨r,zy p d (by decide),λj o=>by
  obtain⟨z,e,f⟩:=q j o;exact⟨z,e,zy f.1 d (by decide),f.2⟩⟩
def WM (O:Nat->Prop)(W:World)(x:Nat->Addr)(hE:DW W)(P:vj W x)(M:∀k,O k->W.heap.size<=k)(j q:Nat)(d:Dk)(l:Lg)(w:World)(hn:d.fs.length+(A9 l.es l.put).length<=900000000)(he:l.es.length<=1000000)(B:l.put<=l.es.length)(ax:∀e∈l.es,e.length<=20)(hk:l.key.length<=9223372036854775807)(Y:zc W w)(h:ym w O j d)(hL:Ak w O j q l):
  Calls prog 180 #[.pointer (some ⟨q,0,none⟩)] w λr b=>zl O pT w b /\
   ((l.live=false/\r=.returned (.tuple #[.int .i64 0,Eg x 6])/\zc w b) \/
    (l.live=true/\(CZ (A9 l.es l.put) (AR l.es.length (yy l.es) l.key) d).1=none/\r=.returned (.tuple #[.int .i64 (l.es.length:Int),.nilIface])/\ym b (qv O w b) j (CZ (A9 l.es l.put) (AR l.es.length (yy l.es) l.key) d).2/\Ak b (qv O w b) j q {l with put:=l.es.length}) \/
    (l.live=true/\∃p e,(CZ (A9 l.es l.put) (AR l.es.length (yy l.es) l.key) d).1=some p/\r=.returned (.tuple #[.int .i64 0,e])/\EF true p w.heap.size e b/\ym b (qv O w b) j (CZ (A9 l.es l.put) (AR l.es.length (yy l.es) l.key) d).2/\Ak b (qv O w b) j q {l with live:=false})):=by
 have HD:=ze h;have f:=ze hL;have F:=ze ax;have HW:=ze Y;have HO:=ze M;have L:=ze hE;have HS:=ze (jn P Y);generalize V:CZ (A9 l.es l.put) (AR l.es.length (yy l.es) l.key) d=pr;have K:=ze V;cases n:l.live with
 |false =>
  have h6:=HS.o.failed;go_enter func180,ntmps180;go_wp2_with fail;refine(Kj O j q l w f.o).mono ?_;rintro r E ⟨rfl,rfl⟩;rw[n]
  go_wp2
  go_region
  all_goals go_wp2_with fail
  all_goals go_ret2
  all_goals exact⟨(zl.refl _ _ _).drew,.inl ⟨by first|rfl|trivial,rfl,(zu _ _).drew⟩⟩
 |true =>
  go_enter func180,ntmps180;go_wp2_with fail;refine(Kj O j q l w f.o).mono ?_;rintro r E ⟨rfl,rfl⟩;rw[n];go_wp2_with fail;refine(zet O W L.out HO.o j q d l E hn he B F.o hk n HW.o HD.o f.o).mono ?_;rintro r s ⟨e,rfl,A,C,y⟩;rw[K.o]at A y;have v:=ze C;have t:=ze y;have H:=ze ((f.o.stay C (by decide) (by decide) (by decide)).mono (O':=qv O E s) (λ_ h=>.inl h));obtain⟨a,aa,Z,Q,R,N⟩:=lok H.o;obtain⟨⟨c0,f0⟩,-,⟨c2,f2⟩,⟨c3,f3⟩⟩:=Jr Z;have c:=ze Z;have u:=ze Q;have X:=ze R;have i:=ze N;rcases A with ⟨S,rfl⟩|⟨p,hp,z⟩
  ·have J:=ze S;have I:=ze n;have k3:=(zm (Aw c.o 3 (.int .i64 (l.es.length:Int))) 3 _ rfl).1
   go_wp2
   go_ret2
   have m:=ZU (O:=qv O E s) (l':={l with put:=l.es.length}) c.o u.o X.o i.o (Aw c.o 3 (.int .i64 (l.es.length:Int))) rfl;refine⟨v.o.mono (λ_ h=>h) (by decide) |>.set i.o c.o (by decide) _,.inr (.inl ⟨by first|rfl|trivial,J.o,rfl,?_,?_⟩)⟩
   ·exact(t.o.stay ((zl.refl _ _ s).set (O:=λ_=>True) (T:=[200]) (.inl trivial) c.o (by simp) _) (by decide) (by decide)).mono Jb
   ·rw[I.o]at m;exact m.mono Jb
  ·have HP:=ze hp;obtain⟨g,rfl⟩:∃g,e=.iface 178 (.pointer (some ⟨g,0,none⟩)):=by
    rcases Bw z with ⟨h,-⟩|⟨-,h⟩
    ·simp at h
    ·exact h
   have G:=ze z
   go_wp2
   go_ret2
   have m:=ZU (O:=qv O E s) (l':={l with live:=false}) c.o u.o X.o i.o (zg6 c.o) rfl;have D:zl (λ_=>True) [200] s (s.setCell ⟨q,0,none⟩ .nilIface):=(zl.refl _ _ s).set (.inl trivial) c.o (by simp) _;refine⟨v.o.mono (λ_ h=>h) (by decide) |>.set i.o c.o (by decide) _,.inr (.inr ⟨by first|rfl|trivial,p,_,HP.o,rfl,?_,?_,?_⟩)⟩
   ·rcases G.o with ⟨h,-⟩|⟨h,g',e',hB,U⟩
    ·exact .inl ⟨h,by simp at h⟩
    ·exact .inr ⟨h,g',e',hB,U.aj D (by decide) (by decide)⟩
   ·exact(t.o.stay D (by decide) (by decide)).mono Jb
   ·exact m.mono Jb
section
open Go.RowKit Go.Extern.Stop Go.Stop Go.Extern
abbrev Mp (t:Nat):Value:=.pointer (some ⟨16,t,none⟩)
abbrev Zp (t:Nat):Value:=.iface 305 (.agg #[Mp t])
def zek (v:Value)(w:World):(ReflectliteType.typeOf #[.iface 392 v]).run prog w=.ok (Zp 392) w:=by kernel_rfl
def Zq (v:Value)(w:World):(ReflectliteType.typeOf #[.iface 178 v]).run prog w=.ok (Zp 178) w:=by kernel_rfl
def zej (v:Value)(w:World):(ReflectliteType.typeOf #[.iface 177 v]).run prog w=.ok (Zp 177) w:=by kernel_rfl
def PD (n:Nat)(v:Value)(w:World):(Go.method (n+1) 305 v "Comparable").run prog w=.ok (334,v) w:=by kernel_rfl
def zcg (n:Nat)(v:Value)(w:World):(Go.method (n+1+1) 305 (.agg #[v]) "Kind").run prog w=.ok (316,v) w:=by kernel_rfl
def zcf (n:Nat)(v:Value)(w:World):(Go.method (n+1) 305 v "Elem").run prog w=.ok (335,v) w:=by kernel_rfl
def PE (n:Nat)(v:Value)(w:World):(Go.method (n+1) 305 v "Implements").run prog w=.ok (336,v) w:=by kernel_rfl
def PB (n:Nat)(v:Value)(w:World):(Go.method (n+1) 305 v "AssignableTo").run prog w=.ok (333,v) w:=by kernel_rfl
def Ph (n:Nat)(v:Value)(w:World):(Go.method (n+1) 178 v "Unwrap").run prog w=.ok (327,v) w:=by kernel_rfl
def Y9 (v:Value)(a:TypeId)(w:World):(Instr.typeAssert (.iface 178 v) a 307 true).run prog w=.ok (.tuple #[.nilIface,.bool false]) w:=run_typeAssert_lacksB underlying307 (by kernel_rfl) (by kernel_rfl) v a w
def Y8 (v:Value)(a:TypeId)(w:World):(Instr.typeAssert (.iface 178 v) a 315 true).run prog w=.ok (.tuple #[.nilIface,.bool false]) w:=run_typeAssert_lacksB underlying315 (by kernel_rfl) (by kernel_rfl) v a w
def KF (v:Value)(a:TypeId)(w:World):(Instr.typeAssert (.iface 178 v) a 310 true).run prog w=.ok (.tuple #[.iface 178 v,.bool true]) w:=run_typeAssert_hasB underlying310 (by kernel_rfl) v a w
def Zw (t:Addr)(w:World):(ReflectliteValue.unpack (.iface 183 (.pointer (some t)))).run prog w=.ok (.agg #[Mp 183,.pointer (some ⟨w.heap.size,0,none⟩),.int .u64 150]) (w.alloc (.cells #[.pointer (some t)] 183)):=by kernel_rfl
def Zv (t:Addr)(w:World):(ReflectliteValue.unpack (.iface 177 (.pointer (some t)))).run prog w=.ok (.agg #[Mp 177,.pointer (some ⟨w.heap.size,0,none⟩),.int .u64 150]) (w.alloc (.cells #[.pointer (some t)] 177)):=by kernel_rfl
def zja (a:Addr)(w:World):(ReflectliteValue.methodAny (ReflectliteValue.valueError "reflectlite.Value.Type" 0) (λt _ _ _=>ReflectliteType.toType t) #[.agg #[Mp 183,.pointer (some a),.int .u64 150]]).run prog w=.ok (Zp 183) w:=by kernel_rfl
def zgx (w:World):((ReflectliteType.abiMethod λt=>(λa:Nat=>Value.int IntKind.u8 (a:Int)) <$> Rtype.kind t) #[Mp 183]).run prog w=.ok (.int .u8 22) w:=by kernel_rfl
def zgw (w:World):((ReflectliteType.abiMethod λt=>(λa:Nat=>Value.int IntKind.u8 (a:Int)) <$> Rtype.kind t) #[Mp 177]).run prog w=.ok (.int .u8 22) w:=by kernel_rfl
def zf5 (w:World):(ReflectliteType.method ReflectliteType.elem #[.agg #[Mp 183]]).run prog w=.ok (Zp 177) w:=by kernel_rfl
def zgo (w:World):(ReflectliteType.relation "Implements" ReflectliteType.implements_ #[.agg #[Mp 177],Zp 100]).run prog w=.ok (.bool true) w:=by kernel_rfl
def zjv (w:World):(ReflectliteType.relation "AssignableTo" ReflectliteType.assignableTo #[.agg #[Mp 177],Zp 177]).run prog w=.ok (.bool true) w:=by kernel_rfl
def zfe (w:World):(ReflectliteType.relation "AssignableTo" ReflectliteType.assignableTo #[.agg #[Mp 178],Zp 177]).run prog w=.ok (.bool false) w:=by kernel_rfl
def Tm (a:Addr)(w:World):(ReflectliteValue.parts (.agg #[Mp 183,.pointer (some a),.int .u64 150])).run prog w=.ok (some (183,a,150)) w:=by kernel_rfl
def zcv (a:Addr)(w:World):(ReflectliteValue.parts (.agg #[Mp 177,.pointer (some a),.int .u64 150])).run prog w=.ok (some (177,a,150)) w:=by kernel_rfl
def zhy (a:Addr)(w:World):(ReflectliteValue.parts (.agg #[Mp 177,.pointer (some a),.int .u64 406])).run prog w=.ok (some (177,a,406)) w:=by kernel_rfl
def VF (w:World):(Rtype.elem? 183).run prog w=.ok (some 177) w:=by kernel_rfl
def znh (p:Addr)(w:World):(ReflectliteValue.mk 177 p ReflectliteValue.flagAddr).run prog w=.ok (.agg #[Mp 177,.pointer (some p),.int .u64 406]) w:=by kernel_rfl
def Yi (w:World):(Rtype.directlyAssignable 177 177).run prog w=.ok true w:=by kernel_rfl
def zb3 (a p:Addr)(W:World)(b:W.cell? a=some (.pointer (some p))):
  (ReflectliteValue.method (ReflectliteValue.valueError "reflectlite.Value.IsNil" 0) ReflectliteValue.isNil #[.agg #[Mp 183,.pointer (some a),.int .u64 150]]).run prog W=.ok (.bool false) W:=by
 change (Bind.bind (ReflectliteValue.parts (.agg #[Mp 183,.pointer (some a),.int .u64 150])) λx=>_).run prog W=_
 simp only[NW,Tm,Result.andThen];simp[ReflectliteValue.isNil,loadVar,isAgg,underlying,underlying183,b,Result.andThen]
def zbj (a p:Addr)(W:World)(b:W.cell? a=some (.pointer (some p))):
  (ReflectliteValue.method (ReflectliteValue.valueError "reflectlite.Value.Elem" 0) ReflectliteValue.elem #[.agg #[Mp 183,.pointer (some a),.int .u64 150]]).run prog W=.ok (.agg #[Mp 177,.pointer (some p),.int .u64 406]) W:=by
 change (Bind.bind (ReflectliteValue.parts (.agg #[Mp 183,.pointer (some a),.int .u64 150])) λx=>_).run prog W=_
 simp only[NW,Tm,Result.andThen];simp[ReflectliteValue.elem,loadVar,isAgg,underlying,underlying183,b,Result.andThen,VF,znh]
def zlt (a b e:Addr)(c:Value)(W:World)(d:W.cell? b=some (.pointer (some e)))(g:W.cell? a=some c)(f:W.frozen? a=false):
  (ReflectliteValue.set #[.agg #[Mp 177,.pointer (some a),.int .u64 406],.agg #[Mp 177,.pointer (some b),.int .u64 150]]).run prog W=.ok (.tuple #[]) (W.setCell a (.pointer (some e))):=by
 change (Bind.bind (ReflectliteValue.parts (.agg #[Mp 177,.pointer (some a),.int .u64 406])) λx=>Bind.bind (ReflectliteValue.parts (.agg #[Mp 177,.pointer (some b),.int .u64 150])) λy=>_).run prog W=_
 simp only[NW,zhy,zcv,Result.andThen];simp[ReflectliteValue.flagAddr,loadVar,isAgg,underlying,underlying177,d,Result.andThen,Yi,storeVar,Value.cells,storeCells,Addr.add];rw[run_store prog W a _ _ (by rfl)];simp[g,f]
end
section
open Go.RowKit Go.Extern.Stop Go.Stop Go.Extern
def zfm (w:World):(callFunc 334 #[.agg #[Mp 392]]).run prog w=.ok (.value (.bool true)) w:=by kernel_rfl
def zkq (c:Nat)(b:Addr)(w:World)(k:w.cell? ⟨c,1,none⟩=some (.iface 392 (.pointer (some b)))):
  Calls prog 113 #[.iface 178 (.pointer (some ⟨c,0,none⟩)),.iface 392 (.pointer (some b))] w λe h=>e=.returned (.bool true)/\h=w:=by
 obtain⟨i,d,a⟩:=zx.1 PJ;obtain⟨j,f,g⟩:=zx.1 PU;have l:=@AJ prog 157 _ ReflectliteType.typeOf func157 (by kernel_rfl) (by kernel_rfl) (by kernel_rfl) (by kernel_rfl);have m:=zek;have n:=zfm;have o:=PD;have p:=Y9;have q:=KF;have r:=Ph;have s:=IB (P:=prog) w b underlying100 underlying392 d a f;have t:=run_eql_iface_types (P:=prog) 178 392 (.pointer (some ⟨c,0,none⟩)) (.pointer (some b)) underlying100 (by decide) w;go_enter func113,ntmps113
 go_wp2
 refine FB 2 ?_;rw[vu]
 go_wp2
 rw[vu]
 go_wp2
 go_ret;exact⟨rfl,rfl⟩
end
section
open Go.RowKit Go.Extern.Stop Go.Stop Go.Extern
def zju (d:Nat)(e t:Addr)(i:Value)(w:World)(j:w.cell? ⟨d,1,none⟩=some (.iface 177 (.pointer (some e))))(k:w.cell? ⟨7,0,none⟩=some (Zp 100))(b:w.cell? t=some i)(f:w.frozen? t=false):
  Calls prog 114 #[.iface 178 (.pointer (some ⟨d,0,none⟩)),.iface 183 (.pointer (some t))] w λm p=>m=.returned (.bool true)/\∃l,zc w l/\p=l.setCell t (.pointer (some e)):=by
 have u:=@AJ prog 159 _ (λa=>ReflectliteValue.unpack (a.getD 0 (.tuple #[]))) func159 (by kernel_rfl) (by kernel_rfl) (by kernel_rfl) (by kernel_rfl);have v:=@AJ prog 160 _ (ReflectliteValue.methodAny (ReflectliteValue.valueError "reflectlite.Value.Type" 0) (λt _ _ _=>ReflectliteType.toType t)) func160 (by kernel_rfl) (by kernel_rfl) (by kernel_rfl) (by kernel_rfl);have x:=@AJ prog 161 _ (ReflectliteValue.method (ReflectliteValue.valueError "reflectlite.Value.IsNil" 0) ReflectliteValue.isNil) func161 (by kernel_rfl) (by kernel_rfl) (by kernel_rfl) (by kernel_rfl);have y:=@AJ prog 316 _ (ReflectliteType.abiMethod λt=>do pure (.int .u8 (<- Rtype.kind t))) func316 (by kernel_rfl) (by kernel_rfl) (by kernel_rfl) (by kernel_rfl);have z:=@AJ prog 335 _ (ReflectliteType.method ReflectliteType.elem) func335 (by kernel_rfl) (by kernel_rfl) (by kernel_rfl) (by kernel_rfl);have A:=@AJ prog 336 _ (ReflectliteType.relation "Implements" ReflectliteType.implements_) func336 (by kernel_rfl) (by kernel_rfl) (by kernel_rfl) (by kernel_rfl);have B:=@AJ prog 157 _ ReflectliteType.typeOf func157 (by kernel_rfl) (by kernel_rfl) (by kernel_rfl) (by kernel_rfl);have C:=@AJ prog 333 _ (ReflectliteType.relation "AssignableTo" ReflectliteType.assignableTo) func333 (by kernel_rfl) (by kernel_rfl) (by kernel_rfl) (by kernel_rfl);have D:=@AJ prog 197 _ (ReflectliteValue.method (ReflectliteValue.valueError "reflectlite.Value.Elem" 0) ReflectliteValue.elem) func197 (by kernel_rfl) (by kernel_rfl) (by kernel_rfl) (by kernel_rfl);have q:=@AJ prog 198 _ ReflectliteValue.set func198 (by kernel_rfl) (by kernel_rfl) (by kernel_rfl) (by kernel_rfl);have E:=Zq;have F:=zej;have G:=zcg;have H:=zcf;have I:=PE;have J:=PB;have K:=Ph;have L:=Y8;have M:=KF;have N:=Zw;have O:=Zv;have P:=zja;have Q:=zgx;have R:=zgw;have S:=zf5;have T:=zgo;have U:=zjv;have z9:=zfe;have h:d<w.heap.size:=yf j;have g:7<w.heap.size:=yf k;have c:=yf b;have s:=zb3 ⟨w.heap.size,0,none⟩ t ((w.alloc (.cells #[.pointer (some t)] 183)).alloc (.cells #[Mp 183,.pointer (some ⟨w.heap.size,0,none⟩),.int .u64 150] 258)) (by simp);have n:((w.alloc (.cells #[.pointer (some t)] 183)).alloc (.cells #[Mp 183,.pointer (some ⟨w.heap.size,0,none⟩),.int .u64 150] 258)).cell? ⟨7,0,none⟩=some (Zp 100):=by
  rw[AQ _ _ ⟨_,0,none⟩ (by simp;omega),AQ _ _ ⟨_,0,none⟩ g];exact k
 have r:=zbj ⟨w.heap.size,0,none⟩ t (((w.alloc (.cells #[.pointer (some t)] 183)).alloc (.cells #[Mp 183,.pointer (some ⟨w.heap.size,0,none⟩),.int .u64 150] 258)).alloc (.cells #[Mp 183,.pointer (some ⟨w.heap.size,0,none⟩),.int .u64 150] 258)) (by rw[AQ _ _ ⟨w.heap.size,0,none⟩ (by simp;omega)];simp);have o:(((w.alloc (.cells #[.pointer (some t)] 183)).alloc (.cells #[Mp 183,.pointer (some ⟨w.heap.size,0,none⟩),.int .u64 150] 258)).alloc (.cells #[Mp 183,.pointer (some ⟨w.heap.size,0,none⟩),.int .u64 150] 258)).cell? ⟨d,1,none⟩=some (.iface 177 (.pointer (some e))):=by
  rw[AQ _ _ ⟨_,1,none⟩ (by simp;omega),AQ _ _ ⟨_,1,none⟩ (by simp;omega),AQ _ _ ⟨_,1,none⟩ h];exact j
 have st:=zlt t ⟨w.heap.size+1+1+1,0,none⟩ e i ((((w.alloc (.cells #[.pointer (some t)] 183)).alloc (.cells #[Mp 183,.pointer (some ⟨w.heap.size,0,none⟩),.int .u64 150] 258)).alloc (.cells #[Mp 183,.pointer (some ⟨w.heap.size,0,none⟩),.int .u64 150] 258)).alloc (.cells #[.pointer (some e)] 177))
  (by rw[World.cell?_alloc_at _ _ _ _ (by simp)];rfl)
  (by rw[AQ _ _ t (by simp;omega),AQ _ _ t (by simp;omega),AQ _ _ t (by simp;omega),AQ _ _ t c];exact b)
  (by rw[GP _ _ t (by simp;omega),GP _ _ t (by simp;omega),GP _ _ t (by simp;omega),GP _ _ t (Nat.ne_of_lt c)];exact f)
 go_enter func114,ntmps114
 go_wp2
 refine FB 2 ?_;rw[vu]
 go_wp2
 rw[vu]
 go_wp2
 go_ret;exact⟨rfl,_,(((zi _ _).trans ((zi _ _).mono (by simp))).trans ((zi _ _).mono (by simp;omega))).trans ((zi _ _).mono (by simp;omega)),rfl⟩
end
variable {B j:Nat}{C:Array Value}{W:World}{v:Value}
def M5 (n:Int)(p:zb):Value:=.agg #[.int .i64 n,.string ⟨p.toArray⟩]
def zka:(prog.info? 177).map (·.comparable)=some true:=by kernel_rfl
def zlu:(prog.info? 430).map (·.size)=some 1:=by kernel_rfl
def OS (v:Value)(W:World):(Instr.typeAssert (.iface 178 v) 100 178 true).run prog W=.ok (.tuple #[v,.bool true]) W:=by kernel_rfl
def BH (d:W.heap[B]?=some (.cells C 39 (0,0)))(n:Int)(p:zb)(c:C.size=2):((W.setCell ⟨B,0,none⟩ (.int .i64 n)).setCell ⟨B,1,none⟩ (.string ⟨p.toArray⟩)).heap[B]?=some (.cells #[.int .i64 n,.string ⟨p.toArray⟩] 39 (0,0)):=by
 rw[Aw (Aw d 0 _) 1 _];obtain⟨l⟩:=C
 match l,c with
 |[a,b],_=>rfl
def Fm (h:zc w W):zc w ((W.setCell ⟨w.heap.size,i,none⟩ u).setCell ⟨w.heap.size,j,none⟩ v):=(h.setCell (zk _) _).setCell (zk _) _
def zmy (b e:Nat)(p:zb)(w W:World)(n:zc w W)(q:W.heap.size=w.heap.size+3)(k:W.heap[b]?=some (.cells #[qy p,Eh e] 180 (0,0)))(o:b<w.heap.size)(l:W.heap[w.heap.size]?=some (.cells #[.int .i64 0,.string ⟨#[]⟩] 39 (0,0)))(f:W.heap[w.heap.size+1+1]?=some (.cells #[.pointer none] 177 (0,0)))(g:W.cell? ⟨7,0,none⟩=some (Zp 100)):
  Calls prog 114 #[.iface 178 (.pointer (some ⟨b,0,none⟩)),.iface 183 (.pointer (some ⟨w.heap.size+1+1,0,none⟩))] W λr d=>r=.returned (.bool true)/\d.cell? ⟨b,0,none⟩=some (.string ⟨p.toArray⟩)/\d.cell? ⟨b,1,none⟩=some (.iface 177 (.pointer (some ⟨e,0,none⟩)))/\d.cell? ⟨w.heap.size+1+1,0,none⟩=some (.pointer (some ⟨e,0,none⟩))/\d.heap[w.heap.size]?=some (.cells #[.int .i64 0,.string ⟨#[]⟩] 39 (0,0))/\zc w d:=by
 refine(zju b ⟨e,0,none⟩ ⟨w.heap.size+1+1,0,none⟩ (.pointer none) W (zm k 1 (Eh e) rfl).1 g (zm f 0 _ rfl).1 (zm f 0 _ rfl).2).mono ?_;rintro r s ⟨rfl,j,a,rfl⟩;have m:j.heap[w.heap.size+1+1]?=some (.cells #[.pointer none] 177 (0,0)):=by rw[a.block _ (by omega)];exact f
 have h:=Aw m 0 (.pointer (some ⟨e,0,none⟩));have c:(j.setCell ⟨w.heap.size+1+1,0,none⟩ (.pointer (some ⟨e,0,none⟩))).heap[b]?=some (.cells #[qy p,Eh e] 180 (0,0)):=by
  rw[yh _ _ _ _ (by show b≠w.heap.size+1+1;omega),a.block _ (by omega)];exact k
 have i:(j.setCell ⟨w.heap.size+1+1,0,none⟩ (.pointer (some ⟨e,0,none⟩))).heap[w.heap.size]?=some (.cells #[.int .i64 0,.string ⟨#[]⟩] 39 (0,0)):=by
  rw[yh _ _ _ _ (by show w.heap.size≠w.heap.size+1+1;omega),a.block _ (by omega)];exact l
 exact⟨rfl,(zm c 0 (qy p) rfl).1,(zm c 1 (Eh e) rfl).1,(zm h 0 _ rfl).1,i,(n.trans (a.mono (by omega))).setCell (by show w.heap.size<=w.heap.size+1+1;omega) _⟩
def zk5 (a:Nat->Addr)(d:Nat)(p:zb)(w:World)(H:vj w a)(B:w.heap[d]?=some (.cells #[qy p,Eg a 5] 180 (0,0))):
  Calls prog 67 #[DT d] w λe O=>e=.returned (M5 6 p)/\zc w O:=by
 obtain⟨h0,m,n,q,s,A,t,u,x⟩:=H;clear u x;have R:∀o,(w.alloc o).cell? ⟨1,0,none⟩=some (.iface 392 (.pointer (some (a 0)))):=λo=>by rw[xg _ _ ⟨_,0,none⟩ (yf h0)];exact h0
 have S:∀o,(w.alloc o).cell? ⟨0,0,none⟩=some (.iface 392 (.pointer (some (a 1)))):=λo=>by rw[xg _ _ ⟨_,0,none⟩ (yf m)];exact m
 have T:∀o,(w.alloc o).cell? ⟨2,0,none⟩=some (.iface 392 (.pointer (some (a 2)))):=λo=>by rw[xg _ _ ⟨_,0,none⟩ (yf n)];exact n
 have U:∀o,(w.alloc o).cell? ⟨3,0,none⟩=some (.iface 392 (.pointer (some (a 3)))):=λo=>by rw[xg _ _ ⟨_,0,none⟩ (yf q)];exact q
 have V:∀o,(w.alloc o).cell? ⟨4,0,none⟩=some (.iface 392 (.pointer (some (a 4)))):=λo=>by rw[xg _ _ ⟨_,0,none⟩ (yf s)];exact s
 have X:∀o,(w.alloc o).cell? ⟨5,0,none⟩=some (.iface 392 (.pointer (some (a 6)))):=λo=>by rw[xg _ _ ⟨_,0,none⟩ (yf t)];exact t
 have y:=ze A;have z:=ze B;clear h0 m n q s A t B;have J:=OS (.pointer (some ⟨d,0,none⟩));have I:∀W,(binOp .eql 100 (.iface 392 (.pointer (some (a 5)))) (.iface 392 (.pointer (some (a 5))))).run prog W=.ok (.bool true) W:=λW=>by
  obtain⟨i,E,f⟩:=zx.1 PJ;obtain⟨j,F,G⟩:=zx.1 PU;exact IB W (a 5) underlying100 underlying392 E f F
 unfold DT;go_enter func67,ntmps67;go_wp2_with fail;obtain⟨N,h,-,D,b⟩:=TW w (.cells #[.int .i64 0,.string ⟨#[]⟩] 39) (.cells #[.nilIface,.iface 392 (.pointer (some (a 0))),.iface 392 (.pointer (some (a 1))),.iface 392 (.pointer (some (a 2))),.iface 392 (.pointer (some (a 3))),.iface 392 (.pointer (some (a 4))),.nilIface,.iface 392 (.pointer (some (a 6)))] 100) (.cells #[.pointer none] 177);generalize (((w.alloc (.cells #[.int .i64 0,.string ⟨#[]⟩] 39)).alloc (.cells #[.nilIface,.iface 392 (.pointer (some (a 0))),.iface 392 (.pointer (some (a 1))),.iface 392 (.pointer (some (a 2))),.iface 392 (.pointer (some (a 3))),.iface 392 (.pointer (some (a 4))),.nilIface,.iface 392 (.pointer (some (a 6)))] 100)).alloc (.cells #[.pointer none] 177))=g at *;have Z:g.cell? ⟨6,0,none⟩=some (.iface 392 (.pointer (some (a 5)))):=by rw[b.cell (p:=⟨_,0,none⟩) (yf y.o)];exact y.o
 have c:g.heap[d]?=some (.cells #[qy p,Eg a 5] 180 (0,0)):=by rw[b.block _ (zg z.o)];exact z.o
 have Y:g.cell? ⟨d,0,none⟩=some (.string ⟨p.toArray⟩):=(zm c 0 (qy p) rfl).1;have K:g.cell? ⟨d,1,none⟩=some (.iface 392 (.pointer (some (a 5)))):=(zm c 1 (Eg a 5) rfl).1;have L:=zm h 0 _ rfl;have M:=zm h 1 _ rfl;obtain⟨P,z0⟩:=L;obtain⟨Q,z1⟩:=M;have C:=ze K;have k:=ze h;have l:=ze b;clear c h D b N
 go_region_with (go_at_call 113;refine(zkq d (a 5) _ ?_).mono ?_;exact C.out;rintro r w1 ⟨rfl,rfl⟩)
 all_goals go_wp2_with fail
 all_goals exact zv (v:=M5 6 p) (Ca results67 _ _ w.heap.size 39 _ (0,0) _ rfl (BH (by exact k.o) 6 p rfl) underlying39 rfl (by kernel_rfl)) rfl ⟨rfl,Fm l.o.drew⟩
def zhq (a:Nat->Addr)(f:Nat)(p:zb)(w:World)(V:vj w a)(h:w.cell? ⟨7,0,none⟩=some (Zp 100))(I:XF w f p):
  Calls prog 67 #[DT f] w λe w'=>e=.returned (M5 8 p)/\zc w w':=by
 obtain⟨h0,B,C,D,E,M,F,G,H⟩:=V;clear G H;have g0:∀o,(w.alloc o).cell? ⟨1,0,none⟩=some (.iface 392 (.pointer (some (a 0)))):=λo=>by rw[xg _ _ ⟨_,0,none⟩ (yf h0)];exact h0
 have g1:∀o,(w.alloc o).cell? ⟨0,0,none⟩=some (.iface 392 (.pointer (some (a 1)))):=λo=>by rw[xg _ _ ⟨_,0,none⟩ (yf B)];exact B
 have g2:∀o,(w.alloc o).cell? ⟨2,0,none⟩=some (.iface 392 (.pointer (some (a 2)))):=λo=>by rw[xg _ _ ⟨_,0,none⟩ (yf C)];exact C
 have g3:∀o,(w.alloc o).cell? ⟨3,0,none⟩=some (.iface 392 (.pointer (some (a 3)))):=λo=>by rw[xg _ _ ⟨_,0,none⟩ (yf D)];exact D
 have g4:∀o,(w.alloc o).cell? ⟨4,0,none⟩=some (.iface 392 (.pointer (some (a 4)))):=λo=>by rw[xg _ _ ⟨_,0,none⟩ (yf E)];exact E
 have g6:∀o,(w.alloc o).cell? ⟨5,0,none⟩=some (.iface 392 (.pointer (some (a 6)))):=λo=>by rw[xg _ _ ⟨_,0,none⟩ (yf F)];exact F
 obtain⟨e,N,R⟩:=I;have J:=ze M;have g:=ze h;have x:=ze N;clear h0 B C D E M F N;have Z:=OS (.pointer (some ⟨f,0,none⟩));clear R h;have Y:=λW=>run_eql_iface_types (P:=prog) 177 392 (.pointer (some ⟨e,0,none⟩)) (.pointer (some (a 5))) underlying100 (by decide) W;have X:∀W,(binOp .eql 100 (.iface 177 (.pointer (some ⟨e,0,none⟩))) (.iface 177 (.pointer (some ⟨e,0,none⟩)))).run prog W=.ok (.bool true) W:=λW=>by
  obtain⟨i,S,l⟩:=zx.1 zka;obtain⟨j,T,U⟩:=zx.1 zlu;exact IB W ⟨e,0,none⟩ underlying100 underlying177 S l T
 unfold DT;go_enter func67,ntmps67;go_wp2_with fail;obtain⟨O,K,-,L,b⟩:=TW w (.cells #[.int .i64 0,.string ⟨#[]⟩] 39) (.cells #[.nilIface,.iface 392 (.pointer (some (a 0))),.iface 392 (.pointer (some (a 1))),.iface 392 (.pointer (some (a 2))),.iface 392 (.pointer (some (a 3))),.iface 392 (.pointer (some (a 4))),.nilIface,.iface 392 (.pointer (some (a 6)))] 100) (.cells #[.pointer none] 177);generalize (((w.alloc (.cells #[.int .i64 0,.string ⟨#[]⟩] 39)).alloc (.cells #[.nilIface,.iface 392 (.pointer (some (a 0))),.iface 392 (.pointer (some (a 1))),.iface 392 (.pointer (some (a 2))),.iface 392 (.pointer (some (a 3))),.iface 392 (.pointer (some (a 4))),.nilIface,.iface 392 (.pointer (some (a 6)))] 100)).alloc (.cells #[.pointer none] 177))=m at *;have q5:m.cell? ⟨6,0,none⟩=some (.iface 392 (.pointer (some (a 5)))):=by rw[b.cell (p:=⟨_,0,none⟩) (yf J.o)];exact J.o
 have d:m.heap[f]?=some (.cells #[qy p,Eh e] 180 (0,0)):=by rw[b.block _ (zg x.o)];exact x.o
 have q1:m.cell? ⟨f,1,none⟩=some (.iface 177 (.pointer (some ⟨e,0,none⟩))):=(zm d 1 (Eh e) rfl).1;have Q:Hid (m.cell? ⟨7,0,none⟩=some (Zp 100)):=by show _=_;rw[b.cell (p:=⟨_,0,none⟩) (yf g.o)];exact g.o
 have y:=ze d;have n:=ze K;have q:=ze L;have s:=ze b;have u:Hid (f<w.heap.size):=zg x.o;have A:=ze O;clear K L b O d
 go_region
 all_goals go_wp2_with fail
 all_goals clear q1 q5
 all_goals go_region_with (go_at_call 114;refine(zmy f e p w _ ?_ ?_ ?_ ?_ ?_ ?_ ?_).mono ?_;exact s.o.drew.drew;exact A.o;exact y.o;exact u.o;exact n.o;exact q.o;exact Q.out;rintro r w3 ⟨rfl,k0,k1,k2,c,k⟩;obtain⟨c0,z0⟩:=zm c 0 _ rfl;obtain⟨c1,z1⟩:=zm c 1 _ rfl;have z:=ze c;have t:=ze k;clear c k)
 all_goals go_wp2_with fail
 all_goals exact zv (v:=M5 8 p) (Ca results67 _ _ w.heap.size 39 _ (0,0) _ rfl (BH (by exact z.o) 8 p rfl) underlying39 rfl (by kernel_rfl)) rfl ⟨rfl,Fm t.o⟩
variable {T:List Nat}{d:Dk}{w':World}
def KM (w:World)(b a:Nat):Prop:=w.heap[b]?=some (.cells #[.pointer (some ⟨a,0,none⟩)] 209 (0,0))
def RW (w:World):Prop:=w.cell? ⟨7,0,none⟩=some (Zp 100)
def RW.below (h:RW w)(a:zc w w'):RW w':=by
 unfold RW at *;rw[a.cell (p:=⟨_,0,none⟩) (yf h)];exact h
def ym.later {a:World}(h:ym w (qv O a w) db d)(b:zc w w'):ym w' (qv O a w') db d:=(h.stay (O1:=λ_=>False) (T:=[]) (.aa b) (by simp) (by simp)).mono (λ_ h=>qv.more b.size _ h)
def Ak.later {l:Lg}{a:World}(h:Ak w (qv O a w) db lb l)(b:zc w w'):Ak w' (qv O a w') db lb l:=(h.stay (O1:=λ_=>False) (T:=[]) (.aa b) (by simp) (by simp) (by simp)).mono (λ_ h=>qv.more b.size _ h)
def vo {P:Program}{fn:Func}{p u:Tmp}{ty:TypeId}(h:fn.results=#[.tmp u,.cell p ty])(tmps:Array Value)(w:World)(g:Nat)(t:TypeId)(cs:Array Value)(fr:Nat×Nat)(d:TypeDesc)
  (hp:tmps.getD p undef=.pointer (some ⟨g,0,none⟩)) (hg:w.heap[g]?=some (.cells cs t fr))
  (hu:P.underlying ty=some d) (hd:(match d with|.struct _|.array _ _=>true|_=>false)=true) (hi:(P.info? ty).map (·.size)=some cs.size) (x:Value) (hx:tmps.getD u undef=x) :
  (results fn tmps).run P w=.ok (.tuple #[x,.agg cs]) w:=by
 have a:=BS (P:=P) w g t ty cs fr d hg hu hd hi;simp only[vh]at hp hx;simp[results,h,hp,hx,asAddr,a]
def FH (B:Nat)(w:World):Prop:=w.heap[B]?=some (.cells #[.int .i64 0,.string ⟨#[]⟩] 39 (0,0))
def FH.below (h:FH B w)(a:zc w w'):FH B w':=by
 unfold FH at *;rw[a.block _ (zg h)];exact h
def FH.aj (h:FH B w)(b:zl O T w w')(a:39∉T):FH B w':=b.keep h a
def CO (h:zl O T w W):zl O T w ((W.setCell ⟨w.heap.size,i,none⟩ u).setCell ⟨w.heap.size,j,none⟩ v):=(h.aA (zk _) _ _).aA (zk _) _ _
def ym.aQ (h:ym W (qv O w W) db d)(a:FH B W):ym ((W.setCell ⟨B,i,none⟩ u).setCell ⟨B,j,none⟩ v) (qv O w ((W.setCell ⟨B,i,none⟩ u).setCell ⟨B,j,none⟩ v)) db d:=by
 have t1:zl (λ_=>True) [39] W (W.setCell ⟨B,i,none⟩ u):=(zl.refl _ _ _).set (.inl trivial) a (by simp) u;have t2:zl (λ_=>True) [39] (W.setCell ⟨B,i,none⟩ u) ((W.setCell ⟨B,i,none⟩ u).setCell ⟨B,j,none⟩ v):=(zl.refl _ _ _).set (.inl trivial) (Aw a i u) (by simp) v;exact((h.stay t1 (by decide) (by decide)).stay t2 (by decide) (by decide)).mono (λk b=>Jb k (Jb k b))
def Ak.aQ {l:Lg}(h:Ak W (qv O w W) db lb l)(a:FH B W):Ak ((W.setCell ⟨B,i,none⟩ u).setCell ⟨B,j,none⟩ v) (qv O w ((W.setCell ⟨B,i,none⟩ u).setCell ⟨B,j,none⟩ v)) db lb l:=by
 have t1:zl (λ_=>True) [39] W (W.setCell ⟨B,i,none⟩ u):=(zl.refl _ _ _).set (.inl trivial) a (by simp) u;have t2:zl (λ_=>True) [39] (W.setCell ⟨B,i,none⟩ u) ((W.setCell ⟨B,i,none⟩ u).setCell ⟨B,j,none⟩ v):=(zl.refl _ _ _).set (.inl trivial) (Aw a i u) (by simp) v;exact((h.stay t1 (by decide) (by decide) (by decide)).stay t2 (by decide) (by decide) (by decide)).mono (λk b=>Jb k (Jb k b))
def Tq (O:Nat->Prop)(b c a:Nat)(l:Lg)(w:World)(e:KM w c a)(h:Ak w O b a l):
  Calls prog 92 #[.pointer (some ⟨c,0,none⟩)] w λr f=>r=.returned (.int .i64 (l.es.length:Int))/\f=w:=by
 obtain⟨g,f0⟩:=zm e 0 _ rfl;have d:=ze h;go_enter func92,ntmps92;go_wp2_with fail;refine(zi2 O b a l w d.o).mono ?_;rintro r i ⟨rfl,rfl⟩
 go_wp2
 go_ret;exact⟨rfl,rfl⟩
def UA (O:Nat->Prop)(W:World)(j:Nat->Addr)(hE:DW W)(A:vj W j)(H:RW W)(z:∀k,O k->W.heap.size<=k)(y pb D:Nat)(d:Dk)(l:Lg)(w:World)(hn:d.fs.length+(A9 l.es l.put).length<=900000000)(he:l.es.length<=1000000)(u:l.put<=l.es.length)(ax:∀e∈l.es,e.length<=20)(R:l.key.length<=9223372036854775807)(Q:zc W w)(hp:KM w pb D)(h:ym w O y d)(hL:Ak w O y D l):
  Calls prog 132 #[.pointer (some ⟨pb,0,none⟩)] w λr q=>zl O pT w q /\
   ((l.live=false/\r=.returned (.tuple #[.int .i64 0,told 7])/\zc w q) \/
    (l.live=true/\(CZ (A9 l.es l.put) (AR l.es.length (yy l.es) l.key) d).1=none/\r=.returned (.tuple #[.int .i64 (l.es.length:Int),told 0])/\ym q (qv O w q) y (CZ (A9 l.es l.put) (AR l.es.length (yy l.es) l.key) d).2/\Ak q (qv O w q) y D {l with put:=l.es.length}) \/
    (l.live=true/\∃p,(CZ (A9 l.es l.put) (AR l.es.length (yy l.es) l.key) d).1=some p/\r=.returned (.tuple #[.int .i64 0,M5 8 p])/\ym q (qv O w q) y (CZ (A9 l.es l.put) (AR l.es.length (yy l.es) l.key) d).2/\Ak q (qv O w q) y D {l with live:=false})):=by
 have ab:∀o,(w.alloc o).cell? ⟨pb,0,none⟩=some (.pointer (some ⟨D,0,none⟩)):=λo=>by
  rw[xg _ _ ⟨_,0,none⟩ (zg hp)];exact(zm hp 0 _ rfl).1
 have m:zc w (w.alloc (.cells #[.int .i64 0,.string ⟨#[]⟩] 39)):=zi _ _;have n:=WM O W j hE A z y D d l (w.alloc (.cells #[.int .i64 0,.string ⟨#[]⟩] 39)) hn he u ax R (Q.trans (m.mono Q.size)) (h.stay (O1:=λ_=>False) (T:=[]) (.aa m) (by simp) (by simp)) (hL.stay (O1:=λ_=>False) (T:=[]) (.aa m) (by simp) (by simp) (by simp));generalize CZ (A9 l.es l.put) (AR l.es.length (yy l.es) l.key) d=pr at n ⊢;have HW:=ze Q;have HO:=ze z;have Z:=ze A;have HT:=ze H;have I:zl O pT w (w.alloc (.cells #[.int .i64 0,.string ⟨#[]⟩] 39)):=(zl.refl _ _ _).alloc _;have Y:Hid (FH w.heap.size (w.alloc (.cells #[.int .i64 0,.string ⟨#[]⟩] 39))):=zf _ _;have G:=ze I;have E:=ze m;clear h hL ax Q z hE A H hp hn he u R I m;go_enter func132,ntmps132;go_wp2_with fail;refine n.mono ?_;clear n ab;generalize w.alloc (.cells #[.int .i64 0,.string ⟨#[]⟩] 39)=w0 at *;rintro r t ⟨C,M⟩;have i:Hid (zl O pT w t):=G.o.trans (C.mono (λ_ h=>.inl h) (λ_ h=>h));have x:Hid (FH w.heap.size t):=Y.o.aj C (by decide);have s:Hid (zc W t):=HW.o.trans (i.o.below HO.o HW.o.size);have P:Hid (∀k,qv O w0 t k->qv O w t k):=λk R=>by
  rcases R with h|h
  ·exact .inl h
  ·exact .inr ⟨zt G.o.size h.1,h.2⟩
 clear C;rcases M with ⟨f,rfl,hb⟩|⟨f,L,rfl,J,K⟩|⟨f,p,e,N,rfl,B,J,K⟩
 ·have HB:=ze hb;have V:=ze f;unfold Eg;clear hb f;go_wp2_with fail;refine(Gw j t (jn Z.o s.o) 6 7 (by decide)).mono ?_;rintro r w3 ⟨rfl,b⟩;have c:=ze b;have a:=ze (x.o.below b);obtain⟨c0,z0⟩:=zm a.o 0 _ rfl;obtain⟨c1,z1⟩:=zm a.o 1 _ rfl;clear b;unfold told;go_wp2_with fail;exact zv (v:=.tuple #[.int .i64 0,.agg #[.int .i64 7,.string ⟨([]:zb).toArray⟩]]) (vo results132 _ _ w.heap.size 39 _ (0,0) _ rfl (BH a.o _ _ rfl) underlying39 rfl (by kernel_rfl) _ rfl) rfl ⟨CO (i.o.ah c.o),.inl ⟨V.o,rfl,Fm ((E.o.trans (HB.o.mono E.o.size)).trans (c.o.mono i.o.size))⟩⟩
 ·have S:=ze (J.mono P.o);have U:=ze (K.mono P.o);have F:=ze (And.intro f L);clear J K f L;go_wp2_with fail;refine(O0 j t (jn Z.o s.o)).mono ?_;rintro r w3 ⟨rfl,b⟩;have c:=ze b;have a:=ze (x.o.below b);obtain⟨c0,z0⟩:=zm a.o 0 _ rfl;obtain⟨c1,z1⟩:=zm a.o 1 _ rfl;clear b;unfold told;go_wp2_with fail;exact zv (v:=.tuple #[.int .i64 (l.es.length:Int),.agg #[.int .i64 0,.string ⟨([]:zb).toArray⟩]]) (vo results132 _ _ w.heap.size 39 _ (0,0) _ rfl (BH a.o _ _ rfl) underlying39 rfl (by kernel_rfl) _ rfl) rfl ⟨CO (i.o.ah c.o),.inr (.inl ⟨F.o.1,F.o.2,rfl,(S.o.later c.o).aQ a.o,(U.o.later c.o).aQ a.o⟩)⟩
 ·obtain⟨g,rfl⟩:∃g,e=.iface 178 (.pointer (some ⟨g,0,none⟩)):=by
   rcases Bw B with ⟨h,-⟩|⟨-,h⟩
   ·simp at h
   ·exact h
  have X:Hid (XF t g p):=by
   rcases B with ⟨h,-⟩|⟨-,g',e',-,h⟩
   ·simp at h
   ·unfold DT at e';simp only[Value.iface.injEq,Value.pointer.injEq,zn,Ce,IJ,EL]at e';rw[e'];exact h
  have S:=ze (J.mono P.o);have U:=ze (K.mono P.o);have F:=ze (And.intro f N);clear J K f N B;go_wp2_with fail;refine(zhq j g p t (jn Z.o s.o) (HT.o.below s.o) X.o).mono ?_;rintro r w3 ⟨rfl,b⟩;have c:=ze b;have a:=ze (x.o.below b);obtain⟨c0,z0⟩:=zm a.o 0 _ rfl;obtain⟨c1,z1⟩:=zm a.o 1 _ rfl;clear b;unfold M5;go_wp2_with fail;exact zv (v:=.tuple #[.int .i64 0,.agg #[.int .i64 8,.string ⟨p.toArray⟩]]) (vo results132 _ _ w.heap.size 39 _ (0,0) _ rfl (BH a.o _ _ rfl) underlying39 rfl (by kernel_rfl) _ rfl) rfl ⟨CO (i.o.ah c.o),.inr (.inr ⟨F.o.1,p,F.o.2,rfl,(S.o.later c.o).aQ a.o,(U.o.later c.o).aQ a.o⟩)⟩
end Go.Proofs.YtfdbeldiomkdiaaGreatDoor
