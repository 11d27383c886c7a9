import Derived.DeepKeys4
import Derived.Test.YtfdbeldiomkdiaaGreatDoorG26
set_option maxHeartbeats 8000000
set_option maxRecDepth 100000
set_option linter.all false
namespace Go.Proofs.YtfdbeldiomkdiaaGreatDoor
open Go.RowKit Go.Proofs.Tryz
def BA:=@results_none
def FD:=@Below.heap_alloc
def Ik:=@MapKept.run_getObj_map
def Il:=@MapKept.run_setObj_map
def Im:=@Nat.lt_succ_of_lt
def Jn:=@List.filter_cons
def KY:=@Option.isSome_none
variable {e t:TypeId}{hb:Nat}{w w':World}
section
open Go.RowKit Go.Maps Go.MapKept Go.ChangeMaps
def Fc (p:Pl):Value:=.agg #[.int .i64 p.1,.int .i64 p.2.1,.int .i64 p.2.2]
def zgn (x:Int):Prop:=-9223372036854775808<=x/\x<=9223372036854775807
def FV (p:Pl):Prop:=zgn p.1/\zgn p.2.1/\zgn p.2.2
def yu (b:Nat):Value:=.pointer (some ⟨b,0,none⟩)
def zku:laidOutB prog=true:=by kernel_rfl
def WE:(215:TypeId)<prog.types.size:=Ch (by kernel_rfl)
def zc1:prog.keyType 215=true:=by kernel_rfl
theorem zc2:(match prog.underlying 215 with|some (.array _ _)|some (.struct _)=>true|_=>false)=true:=by rw[underlying215]
def I1:Keyed prog 215:=Keyed.of_law (deep_law_laid zku (m:=2) (by omega) WE (by kernel_rfl) zc2)
def Rj:prog.cellsOf 215=3:=by kernel_rfl
def zgs:prog.cellsOf 3=1:=by kernel_rfl
def WD (p:Pl):(Fc p).formed prog 215=true:=by simp[Fc,Value.formed,underlying215,Rj]
def Lu (d:Nat)(n:Int)(h:(Lit.int .i64 n).wf=true):prog.keyLits (d+1) 3 [.int .i64 n]=some [.int .i64 n]:=by
 unfold Program.keyLits;rw[BX];simp[h]
def zc4 (p:Pl)(h:FV p):∃l,keyOf prog 215 (Fc p)=some l:=by
 obtain⟨a,b,c⟩:=h;have e:=WalkArith.wf_i64 a;have f:=WalkArith.wf_i64 b;have g:=WalkArith.wf_i64 c;obtain⟨m,d⟩:∃m,prog.types.size=m+1:=⟨_,(Nat.succ_pred_eq_of_pos (qw (yk _) WE)).symm⟩;unfold keyOf;rw[underlying215];simp only[zc1,WD,Bool.and_self,if_true];rw[d];unfold Program.keyLits;rw[underlying215];simp[Fc,Value.cells,Rj,zgs,Lu m _ e,Lu m _ f,Lu m _ g]
def Lv (P:Program)(p:Pl):Lit:=(keyOf P 215 (Fc p)).getD (.bool false)
def Ox {p:Pl}(h:FV p):keyOf prog 215 (Fc p)=some (Lv prog p):=by
 obtain⟨l,a⟩:=zc4 p h;unfold Lv;rw[a];rfl
def zgy {p q:Pl}(h:FV p)(f:FV q)(e:Lv prog p=Lv prog q):p=q:=by
 have g:=Ox h;have d:=Ox f;rw[<- e]at d;have:=I1.inj g d;obtain⟨a,b,c⟩:=p;obtain⟨i,j,k⟩:=q;simp only[Fc,Value.agg.injEq,Array.mk.injEq,EK,Value.int.injEq,IJ,EL]at this;obtain⟨rfl,rfl,rfl⟩:=this
 rfl
def VU (v:Value):Option (DataW Value×List MemPlace):=some (.held v,[])
abbrev Ks:=List (Pl×Nat)
def Ks.get (l:Ks)(p:Pl):Option Nat:=match l.find? (λx=>decide (x.1=p))with
 |some x=>some x.2
 |none=>none
def Si:Option Nat->Value
 |some b=>yu b
 |none=>.pointer none
def BC (w:World)(a:Nat)(l:Ks):Prop:=
 ∃D:DataW Value,w.ownsMap prog 215 VU a l.length D/\Maps.size D=l.length/\(l.map (·.1)).Nodup /\
  ∀p,FV p->Maps.has D (Lv prog p)=(l.get p).isSome/\D.atKey (Lv prog p) (.held (.pointer none))=.held (Si (l.get p))
def BC.lt {l:Ks}(h:BC w hb l):hb<w.heap.size:=by
 obtain⟨D,h,-⟩:=h;exact h.lt
def BC.isMap {l:Ks}(h:BC w hb l):∃a c,w.heap[hb]?=some (.map a c):=by
 obtain⟨D,⟨a,c,e,-⟩,-⟩:=h;exact⟨a,c,e⟩
def BC.same {l:Ks}(h:BC w hb l)(e:w'.heap[hb]?=w.heap[hb]?):BC w' hb l:=by
 obtain⟨D,⟨b,c,a,d⟩,f⟩:=h;exact⟨D,⟨b,c,e.trans a,d⟩,f⟩
def BC.drew {l:Ks}(h:BC w hb l):BC w.drew hb l:=h.same rfl
def Re {b n:Nat}{D:DataW Value}(h:w.ownsMap prog 215 VU b n D):w.ownsMap prog 215 VU b (Maps.size D) D:=by
 obtain⟨a,c,d,F,e,rfl⟩:=h;refine⟨a,c,d,F,?_,rfl⟩;show a.size<=((a.toList.map _).foldr DataW.insert []).length;rw[length_sorted];simp
def Se {l:Ks}{p q:Pl}{b:Nat}(h:l.get p=none):Ks.get (l++[(p,b)]) q=if q=p then some b else l.get q:=by
 unfold Ks.get at *;rw[List.find?_append]
 by_cases e:q=p
 ·subst e;cases a:l.find? (λx=>decide (x.1=q))with
  |some x=>rw[a]at h;simp at h
  |none=>simp
 ·rw[if_neg e];cases a:l.find? (λx=>decide (x.1=q))with
  |some x=>simp
  |none =>
   have:¬p=q:=λh=>e h.symm;simp[this]
def Ks.drop (l:Ks)(p:Pl):Ks:=l.filter λx=>!decide (x.1=p)
def Wf {l:Ks}{p q:Pl}:Ks.get (l.drop p) q=if q=p then none else l.get q:=by
 unfold Ks.get Ks.drop;rw[List.find?_filter]
 by_cases e:q=p
 ·subst e;rw[if_pos rfl];have:l.find? (λa=>decide ((!decide (a.1=q))=true/\decide (a.1=q)=true))=none:=by
   rw[Bj];intro x _;simp
  rw[this]
 ·rw[if_neg e];have:(λa:Pl×Nat=>decide ((!decide (a.1=p))=true/\decide (a.1=q)=true))=λa=>decide (a.1=q):=by
   funext a
   by_cases h:a.1=q
   ·have:¬a.1=p:=λb=>e (h▸b);simp[h,e]
   ·simp[h]
  rw[this]
def zkt {l:Ks}{p:Pl}(h:l.get p=none):∀x∈l,x.1≠p:=by
 unfold Ks.get at h;cases e:l.find? (λx=>decide (x.1=p))with
 |some x=>rw[e]at h;simp at h
 |none =>
  intro x a;simpa using Bj.1 e x a
def zg1 {l:Ks}{p:Pl}{b:Nat}(j:(l.map (·.1)).Nodup)(h:l.get p=some b):∃a c,l=a++(p,b)::c/\l.drop p=a++c:=by
 unfold Ks.get at h;cases e:l.find? (λx=>decide (x.1=p))with
 |none=>rw[e]at h;simp at h
 |some x =>
  rw[e]at h;simp only[zn]at h;have f:=DI e;simp only[ja]at f;obtain⟨a,c,rfl⟩:=List.append_of_mem (DA e);obtain⟨k,v⟩:=x;simp only at h f;subst h;subst f;refine⟨a,c,rfl,?_⟩;rw[yv,Aj]at j;obtain⟨-,d,g⟩:=j;rw[j4,AK]at d;unfold Ks.drop;rw[GF,Jn];have m:a.filter (λy=>!decide (y.1=k))=a:=by
   rw[Ay];intro y i;simpa using g y.1 (yi.2 ⟨y,i,rfl⟩) k (by simp)
  have n:c.filter (λy=>!decide (y.1=k))=c:=by
   rw[Ay];intro y i;have:y.1≠k:=λo=>d.1 (o▸yi.2 ⟨y,i,rfl⟩);simpa using this
  rw[m,n];simp
def BC.look {l:Ks}(h:BC w hb l)(i:prog.underlying t=some (.map 215 e))(j:∀w,(zeroValue e).run prog w=.ok (.pointer none) w){p:Pl}(d:FV p):
  (Instr.lookup t (.map (some hb)) (Fc p) true).run prog w=.ok (.tuple #[Si (l.get p),.bool (l.get p).isSome]) w:=by
 obtain⟨D,f,-,-,g⟩:=h;obtain⟨a,b⟩:=g p d;obtain⟨v,k,c,hv⟩:=f.look_ok I1 i (j w) (zd:=.held (.pointer none)) (zp:=[]) rfl (Ox d);rw[b]at hv;simp only[VU,zn,xj,DataW.held.injEq]at hv;rw[c,a,hv.1]
def BC.put {l:Ks}(h:BC w hb l)(E:prog.underlying t=some (.map 215 e)){p:Pl}(m:FV p)(B:l.length<maxLen)(d:l.get p=none)(b:Nat):
  ∃j,(Instr.mapUpdate t (.map (some hb)) (Fc p) (yu b)).run prog w=.ok () j/\BC j hb (l++[(p,b)])/\w.grownBy j (some hb):=by
 obtain⟨D,k,v,y,o⟩:=h;obtain⟨j,g,C,A⟩:=k.update I1 E B (Ox m) (show VU (yu b)=some (.held (yu b),[]) from rfl);have s:=I1.key (Ox m);have f:Maps.has D (Lv prog p)=false:=by rw[(o p m).1,d];rfl
 have i:Maps.size (D.put (Lv prog p) (.held (yu b)))=l.length+1:=by
  rw[Maps.size_put (k.tidy I1),f,v];rfl
 refine⟨j,g,⟨D.put (Lv prog p) (.held (yu b)),?_,?_,?_,?_⟩,A⟩
 ·have:=Re C;rw[i]at this;simpa using this
 ·rw[i];simp
 ·rw[yv,Aj];refine⟨y,by simp,?_⟩;intro a z c r;simp only[j4,DQ,yl]at r;subst r;obtain⟨x,F,rfl⟩:=yi.1 z;exact zkt d x F
 ·intro q u;rw[Se d]
  by_cases n:q=p
  ·subst n;rw[if_pos rfl,Maps.has_put_same k.isMap s,Maps.atKey_put_same k.isMap s];exact⟨rfl,rfl⟩
  ·have:Lv prog q≠Lv prog p:=λe=>n (zgy u m e);rw[if_neg n,Maps.has_put_other this,Maps.atKey_put_other this];exact o q u
def BC.del {l:Ks}(h:BC w hb l)(B:prog.underlying t=some (.map 215 e)){p:Pl}(j:FV p){b:Nat}(a:l.get p=some b)(u:TypeId):
  ∃g,(Builtin.delete_ #[t,215] u #[.map (some hb),Fc p]).run prog w=.ok (.tuple #[]) g/\BC g hb (l.drop p)/\w.grownBy g (some hb):=by
 obtain⟨D,m,y,n,o⟩:=h;obtain⟨g,c,A,z⟩:=m.drop I1 B (Ox j) u;have f:Maps.has D (Lv prog p)=true:=by rw[(o p j).1,a];rfl
 have r:(l.drop p).length+1=l.length:=by
  obtain⟨C,E,v,x⟩:=zg1 n a;rw[x,v];simp;omega
 have d:Maps.size (D.del (Lv prog p))=(l.drop p).length:=by
  have:=Maps.size_del (k:=Lv prog p) (m.tidy I1);rw[f,y]at this;simp at this;omega
 refine⟨g,c,⟨D.del (Lv prog p),?_,d,?_,?_⟩,z.grown⟩
 ·have:=Re A;rw[d]at this;exact this
 ·unfold Ks.drop;exact(List.filter_sublist.map _).nodup n
 ·intro q s;rw[Wf]
  by_cases i:q=p
  ·subst i;rw[if_pos rfl,Maps.has_del_same,Maps.atKey_del_same];exact⟨rfl,rfl⟩
  ·have:Lv prog q≠Lv prog p:=λe=>i (zgy s j e);rw[if_neg i,Maps.has_del_other this,Maps.atKey_del_other this];exact o q s
def BC.len {l:Ks}(h:BC w hb l)(d:prog.underlying t=some (.map 215 e))(a:TypeId):
  (Builtin.len_ #[t] a #[.map (some hb)]).run prog w=.ok (.int .i64 (l.length:Int)) w:=by
 obtain⟨D,b,c,-⟩:=h;rw[b.len d a,c]
def L8 {c:Nat}(h:w.heap[hb]?=some (.map #[] c)):BC w hb []:=by
 refine⟨.map [],⟨#[],c,h,⟨by simp,stamped_empty c,by simp⟩,zk _,rfl⟩,rfl,by simp,λp _=>⟨rfl,rfl⟩⟩
def BC.clear {l:Ks}(h:BC w hb l)(f:prog.underlying t=some (.map 215 e))(g:TypeId):
  ∃b,(Builtin.clear_ #[t] g #[.map (some hb)]).run prog w=.ok (.tuple #[]) b/\BC b hb []/\w.grownBy b (some hb):=by
 obtain⟨j,c,a⟩:=h.isMap;refine⟨setBlock w hb (.map #[] c),?_,L8 (c:=c) (heap_setBlock_same a _),⟨rfl,rfl,rfl,by simp[setBlock],λi _ d=>heap_setBlock_other a _ (λe=>d (by rw[e]))⟩⟩;simp[Builtin.clear_,Cj f,Ik a,Il _ a,Result.andThen,setBlock]
end
variable {O:Nat->Prop}{T:List Nat}{u v:Value}{w1:World}
def Vw (p q:Addr)(w:World):
  CallsD prog 189 #[.pointer (some p),.pointer (some q)] .returning w λe b c=>e=.returned (.tuple #[])/\b=.returning/\c=w:=by
 refine callsD_of_wpS func189 rfl λc₀ d a=>?_;apply wpS_seq;apply wpS_region;simp[wpOpsS,go_sem,recoverD,a,ntmps189,Exit.thenS];refine wpS_cond (t:=false) (by simp[Act.eval,Array.replicate]) ?_;simp only[vz,CM];refine wpS_of_wp (wp_skip ?_);cases c₀
 simp_all[bodyPostS,results,results189]
def Y2 (n:Nat)(v:Value)(w:World):(Go.method (n+1) 71 v "Fetch").run prog w=.ok (319,v) w:=by kernel_rfl
def JY.aj {x:Option (zb)}(h:JY w v x)(c:zl O T w w')(a:5∉T):JY w' v x:=by
 rcases h with ⟨d,rfl,b⟩|⟨rfl,rfl⟩
 ·exact .inl ⟨d,rfl,b.aj c a⟩
 ·exact .inr ⟨rfl,rfl⟩
def zei {s:Nat}{b:Bool}(a:w1.heap[s]?=some (.cells #[u] 94 (0,0)))(d:w1.heap[s+1]?=some (.cells #[.bool false] 4 (0,0))):
  ((w1.setCell ⟨s,0,none⟩ v).setCell ⟨s,0,none⟩ v).cell? ⟨s,0,none⟩=some v/\(((w1.setCell ⟨s,0,none⟩ v).setCell ⟨s,0,none⟩ v).setCell ⟨s+1,0,none⟩ (.bool b)).drew.cell? ⟨s+1,0,none⟩=some (.bool b) /\
  zl (λ_=>True) [94,4] w1 (((w1.setCell ⟨s,0,none⟩ v).setCell ⟨s,0,none⟩ v).setCell ⟨s+1,0,none⟩ (.bool b)).drew:=by
 have c:(w1.setCell ⟨s,0,none⟩ v).heap[s]?=some (.cells #[v] 94 (0,0)):=by rw[Aw a];rfl
 have d1:((w1.setCell ⟨s,0,none⟩ v).setCell ⟨s,0,none⟩ v).heap[s]?=some (.cells #[v] 94 (0,0)):=by rw[Aw c];rfl
 have e:(w1.setCell ⟨s,0,none⟩ v).heap[s+1]?=some (.cells #[.bool false] 4 (0,0)):=by rw[yh _ _ _ _ (show s+1≠s by omega)];exact d
 have d2:((w1.setCell ⟨s,0,none⟩ v).setCell ⟨s,0,none⟩ v).heap[s+1]?=some (.cells #[.bool false] 4 (0,0)):=by rw[yh _ _ _ _ (show s+1≠s by omega)];exact e
 have f:(((w1.setCell ⟨s,0,none⟩ v).setCell ⟨s,0,none⟩ v).setCell ⟨s+1,0,none⟩ (.bool b)).heap[s+1]?=some (.cells #[.bool b] 4 (0,0)):=by rw[Aw d2];rfl
 exact⟨(zm d1 0 _ rfl).1,(zm f 0 _ rfl).1,((((zl.refl _ _ w1).set (.inl trivial) a (by simp) _).set (.inl trivial) c (by simp) _).set (.inl trivial) d2 (by simp) _).drew⟩
def QM (a:Nat):Value:=.iface 71 (.pointer (some ⟨a,0,none⟩))
def Qo (O:Nat->Prop)(k m E:Nat)(n:Nt)(d:Dk)(p:zb)(w:World)(hn:d.fs.length<=1000000000)(hl:∀f∈d.fs,f.2.length<=1000000000)
 (hy:∀l∈n.ao,l.data.length<=1000000000/\l.aH=false/\l.times=0) (P:n.ao.length<=1000000000) (hf:0<=n.ai/\n.ai<4611686018427387904) (M:∀t∈n.told,0<=t/\t<4611686018427387904)
 (hD:ym w O m d) (hN:De w O k m n) (V:w.cell? ⟨E,2,none⟩=some (QM k)) :
  Calls prog 145 #[yu E,qy p] w λr Q=>∃v x,r=.returned (.tuple #[v,.bool (qr d.fs n p).1.2])/\zl O nT w Q/\De Q O k m (qr d.fs n p).2/\JY Q v x/\x.getD []=(qr d.fs n p).1.1:=by
 have ad:∀(U:Fn) (first b:Array Value) (w:World),(Instr.makeFunc U first b).run prog w=.ok (.func U first b) w:=λ_ _ _ _=>rfl;have j:=yf V;have hm:=Y2;have eg:=KP func319 (by kernel_rfl) rfl;have J:∀o X,((w.alloc o).alloc X).cell? ⟨E,2,none⟩=some (QM k):=λo X=>by
  rw[xg _ _ ⟨_,2,none⟩ (zq j (by simp)),xg _ _ ⟨_,2,none⟩ j];exact V
 have R:=ze (Y6 O k m n d p ((w.alloc (.cells #[.slice none 0 0] 94)).alloc (.cells #[.bool false] 4)) hn hl hy P hf M (hD.stay (O1:=λ_=>False) (T:=[]) (.aa (qg _ _ _)) (by simp) (by simp)) (hN.below (qg _ _ _)));have y:Hid (((w.alloc (.cells #[.slice none 0 0] 94)).alloc (.cells #[.bool false] 4)).heap[w.heap.size]?=some (.cells #[.slice none 0 0] 94 (0,0))/\((w.alloc (.cells #[.slice none 0 0] 94)).alloc (.cells #[.bool false] 4)).heap[w.heap.size+1]?=some (.cells #[.bool false] 4 (0,0))/\zl O nT w ((w.alloc (.cells #[.slice none 0 0] 94)).alloc (.cells #[.bool false] 4))):=by
  refine⟨zr (zf _ _),?_,.aa (qg _ _ _)⟩;rw[show w.heap.size+1=(w.alloc (.cells #[.slice none 0 0] 94)).heap.size by simp];exact zf _ _
 unfold QM at J;unfold yu qy;unfold qy at R;generalize qr d.fs n p=N at *;obtain⟨⟨ab,ok⟩,n'⟩:=N;simp only at *
 go_enter_defers func145,ntmps145
 go_wp2_with fail;refine R.o.mono ?_;rintro r Z ⟨v,e,x,rfl,L,I,W,hx,he⟩;obtain⟨q,u,s,rfl⟩:∃a l c,v=.slice a l c:=by
  rcases W with ⟨d',-,g,b,C,fr,F,-⟩|⟨-,F⟩
  ·exact⟨_,_,_,F⟩
  ·exact⟨_,_,_,F⟩
 have D:=L.keep y.o.1 (by decide);have S:=L.keep y.o.2.1 (by decide);have c2:(Z.setCell ⟨w.heap.size,0,none⟩ (.slice q u s)).heap[w.heap.size]?=some (.cells #[.slice q u s] 94 (0,0)):=by rw[Aw D];rfl
 have c3:(Z.setCell ⟨w.heap.size,0,none⟩ (.slice q u s)).heap[w.heap.size+1]?=some (.cells #[.bool false] 4 (0,0)):=by rw[yh _ _ _ _ (show w.heap.size+1≠w.heap.size by omega)];exact S
 obtain⟨k0,z0⟩:=zm D 0 _ rfl;obtain⟨k1,z1⟩:=zm c2 0 _ rfl;obtain⟨k2,z2⟩:=zm c3 0 _ rfl;have n1:w.heap.size≠w.heap.size+1:=by omega
 have B:=ze (y.o.2.2.trans (L.mono (λ_ h=>.inl h) (λ_ h=>h)));have A:=ze I;have z:=ze W;have HX:=ze hx;have i:=ze (And.intro D S);have K:e=.nilIface/\ok=true\/ok=false/\∃g,e=Eh g:=by
  rcases he with ⟨G,H⟩|⟨G,H⟩
  ·exact .inl ⟨H,G⟩
  ·exact .inr ⟨G,H⟩
 rcases K with ⟨rfl,rfl⟩|⟨rfl,g',rfl⟩
 case' inr=>unfold Eh
 all_goals
  go_wp2
  go_region
  all_goals go_wp2_with fail
  all_goals refine Dp (f:=189) (args:=#[.pointer (some ⟨w.heap.size,0,none⟩),.pointer (some ⟨w.heap.size+1,0,none⟩)]) (by simp) (by simp[go_sem]) ?_
  all_goals refine(Vw ⟨w.heap.size,0,none⟩ ⟨w.heap.size+1,0,none⟩ _).mono ?_
  all_goals rintro e u' ae ⟨rfl,rfl,rfl⟩
  all_goals simp[Leaves,settle,results,results145,go_sem]
  obtain⟨q1,q2,Y⟩:=zei (v:=.slice q u s) i.o.1 i.o.2;rw[q1];simp only[Vd];rw[q2];exact⟨_,rfl,_,rfl,(((B.o.aA (zk _) _ _).aA (zk _) _ _).aA (Ar _) _ _).drew,A.o.aj Y (by decide) (by decide) (by decide),x,z.o.aj Y (by decide),HX.o⟩
variable {b1 b2:List Nat}{eb nb:Nat}{nx nx' pv pv':Nat->Nat}
def EY (f:Nat->Nat)(a b:Nat):Nat->Nat:=λx=>if x=a then b else f x
def Dh (f:Nat->Nat)(a b:Nat):EY f a b a=b:=if_pos rfl
def Bi (f:Nat->Nat)(a b x:Nat)(h:x≠a):EY f a b x=f x:=if_neg h
def Dx (c d:Nat->Nat):List Nat->Prop
 |a::b::r=>c a=b/\d b=a/\Dx c d (b::r)
 |_=>True
def DC {nx pv:Nat->Nat}:∀(e:List Nat) (a:Nat) (d:List Nat),Dx nx pv (e++a::d)↔Dx nx pv (e++[a])/\Dx nx pv (a::d)
 |[],a,d=>by simp[Dx]
 |[b],a,d=>by
  show(nx b=a/\pv a=b/\Dx nx pv (a::d))↔(nx b=a/\pv a=b/\Dx nx pv [a])/\Dx nx pv (a::d);simp[Dx,and_assoc]
 |b::c::r,a,d=>by
  have f:=DC (nx:=nx) (pv:=pv) (c::r) a d;show(nx b=c/\pv c=b/\Dx nx pv ((c::r)++a::d))↔(nx b=c/\pv c=b/\Dx nx pv ((c::r)++[a]))/\Dx nx pv (a::d);rw[f];simp[and_assoc]
def IX:∀(l:List Nat),Dx nx pv l->(∀a∈l.dropLast,nx' a=nx a)->(∀b∈l.tail,pv' b=pv b)->Dx nx' pv' l
 |[],_,_,_=>trivial
 |[_],_,_,_=>trivial
 |a::b::r,h,d,e=>by
  obtain⟨f,g,i⟩:=h;refine⟨by rw[d a (by simp)];exact f,by rw[e b (by simp)];exact g,IX (b::r) i (λx c=>d x (by simp[c])) (λx c=>e x (by simp at c ⊢;exact .inr c))⟩
def KQ (a:Nat)(b:List Nat)(c d:Nat->Nat):Prop:=(a::b).Nodup/\Dx c d (a::b++[a])
def Oc (a:Nat):KQ a [] (λ_=>a) (λ_=>a):=⟨by simp,rfl,rfl,trivial⟩
def MD:∀(a:Nat) (l:List Nat)(x:Nat) ,Dx nx pv (a::l++[x])->pv x=(a::l).getLast (by simp)/\nx ((a::l).getLast (by simp))=x
 |a,[],x,h=>⟨h.2.1,h.1⟩
 |a,b::r,x,h=>by
  have c:Dx nx pv ((b::r)++[x]):=h.2.2;have:=MD b r x c;simpa using this
def KQ.last {a:List Nat}(h:KQ eb a nx pv):pv eb=(eb::a).getLast (by simp)/\nx ((eb::a).getLast (by simp))=eb:=MD eb a eb h.2
def KQ.first {b:Nat}{a:List Nat}(h:KQ eb (b::a) nx pv):nx eb=b/\pv b=eb:=⟨h.2.1,h.2.2.1⟩
def KQ.empty (h:KQ eb [] nx pv):nx eb=eb/\pv eb=eb:=⟨h.2.1,h.2.2.1⟩
def KQ.aO {a:List Nat}(h:KQ eb a nx pv):pv eb∈eb::a:=by rw[h.last.1];exact List.getLast_mem _
def KQ.add {d:List Nat}(h:KQ eb d nx pv)(i:nb∉eb::d):KQ eb (d++[nb]) (EY (EY nx (pv eb) nb) nb eb) (EY (EY pv eb nb) nb (pv eb)):=by
 obtain⟨k,v⟩:=h.last;have u:=h.aO;have s:pv eb≠nb:=λe=>i (e▸u);have r:eb≠nb:=λe=>i (e▸Dv ..);obtain⟨q,t⟩:=h;refine⟨?_,?_⟩
 ·rw[<- A4,Aj];refine⟨q,by simp,λa f b l=>?_⟩;obtain rfl:b=nb:=by simpa using l
  exact λe=>i (e▸f)
 ·rw[<- A4,qk];show Dx _ _ ((eb::d)++nb::[eb]);rw[DC];refine⟨?_,⟨Dh _ _ _,by rw[Bi _ _ _ _ r,Dh],trivial⟩⟩
  -- eb::d,then nb
  have c:(eb::d)=(eb::d).dropLast++[(eb::d).getLast (by simp)]:=(List.dropLast_concat_getLast (by simp)).symm;rw[c,<- k,qk];show Dx _ _ ((eb::d).dropLast++pv eb::[nb]);rw[DC];refine⟨?_,⟨by rw[Bi _ _ _ _ s,Dh],Dh _ _ _,trivial⟩⟩;have p:Dx nx pv ((eb::d).dropLast++[pv eb]):=by
   rw[k,<- c];have:Dx nx pv ((eb::d).dropLast++(eb::d).getLast (by simp)::[eb]):=by
    have e:(eb::d).dropLast++(eb::d).getLast (by simp)::[eb]=(eb::d)++[eb]:=by
     conv=>rhs;rw[c]
     simp
    rw[e];exact t
   have:=((DC _ _ _).1 this).1
   rwa[<- c]at this
  refine IX _ p ?_ ?_
  ·intro a f;rw[List.dropLast_concat]at f;have o:=J2 _ f;have m:a≠nb:=λe=>i (e▸o);have n:a≠pv eb:=by
    rw[k];intro e;have j:=q;rw[c,Aj]at j;exact j.2.2 a f _ (by simp) e
   rw[Bi _ _ _ _ m,Bi _ _ _ _ n]
  ·intro b l;have g:b∈d:=by
    have:(eb::d).dropLast++[pv eb]=eb::d:=by rw[k];exact c.symm
    rw[this]at l;simpa using l
   have m:b≠nb:=λe=>i (by rw[<- e];simp[g]);have n:b≠eb:=λe=>(AK.1 q).1 (e▸g);rw[Bi _ _ _ _ m,Bi _ _ _ _ n]
def KQ.aU {x:Nat}(h:KQ eb (b1++x::b2) nx pv):
  KQ eb (b1++b2) (EY nx (pv x) (nx x)) (EY pv (nx x) (pv x))/\pv x≠x/\nx x≠x/\(pv x=eb\/pv x∈b1)/\(nx x=eb\/nx x∈b2):=by
 obtain⟨F,J⟩:=h;have o:Dx nx pv ((eb::b1)++x::(b2++[eb])):=by simpa using J
 rw[DC]at o;obtain⟨E,k⟩:=o;obtain⟨G,O⟩:=MD eb b1 x E;have w:x∉eb::(b1++b2):=by
  have L:(eb::(b1++x::b2)).Perm (x::eb::(b1++b2)):=by
   refine((List.perm_middle).cons eb).trans ?_;exact List.Perm.swap ..
  exact(AK.1 ((L.nodup_iff).1 F)).1
 have l:(eb::(b1++b2)).Nodup:=by
  refine List.Nodup.sublist ?_ F;exact(List.Sublist.append (List.Sublist.refl _) (List.sublist_cons_self _ _)).cons_cons _
 have v:pv x∈eb::b1:=by rw[G];exact List.getLast_mem _
 -- what stands behind x
 obtain⟨z,d,K⟩:∃r,b2++[eb]=nx x::r/\pv (nx x)=x:=by
  cases b2 with
  |nil=>exact⟨[],by rw[k.1];rfl,by rw[k.1];exact k.2.1⟩
  |cons y r=>exact⟨r++[eb],by rw[k.1];rfl,by rw[k.1];exact k.2.1⟩
 have m:nx x=eb\/nx x∈b2:=by
  cases b2 with
  |nil=>simp at d;exact .inl d.1.symm
  |cons y r=>simp at d;exact .inr (by rw[<- d.1];simp)
 have D:pv x≠x:=λe=>w (by
  rw[<- e];rcases jl.1 v with h|h
  ·simp[h]
  ·simp[h])
 have u:nx x≠x:=λe=>w (by
  rw[<- e];rcases m with h|h
  ·simp[h]
  ·simp[h])
 have j:pv x=eb\/pv x∈b1:=by simpa using v
 refine⟨⟨l,?_⟩,D,u,j,m⟩;obtain⟨p,g,q⟩:(eb::b1).Nodup/\(b2++[eb]).Nodup/\∀a∈b1,∀b∈b2,a≠b:=by
  rw[<- A4,Aj]at l;obtain⟨M,N,H⟩:=l;refine⟨M,?_,λa f b i=>H a (by simp[f]) b i⟩;rw[Aj]
  exact⟨N,by simp,λa f b i=>by
    obtain rfl:b=eb:=by simpa using i
    exact λe=>H b (by simp) a f e.symm⟩
 have s:=(AK.1 p).1;have c:(eb::b1)=(eb::b1).dropLast++[pv x]:=by
  rw[G];exact(List.dropLast_concat_getLast (by simp)).symm
 have e:eb::(b1++b2)++[eb]=(eb::b1).dropLast++pv x::(nx x::z):=by
  rw[<- d];have:eb::(b1++b2)++[eb]=(eb::b1)++(b2++[eb]):=by simp
  rw[this,c,qk];simp
 rw[e,DC];refine⟨?_,Dh _ _ _,Dh _ _ _,?_⟩
 ·have B:Dx nx pv ((eb::b1).dropLast++[pv x]):=by
   have:Dx nx pv ((eb::b1).dropLast++pv x::[x]):=by
    have I:(eb::b1).dropLast++pv x::[x]=eb::b1++[x]:=by
     conv=>rhs;rw[c]
     simp
    rw[I];exact E
   exact((DC _ _ _).1 this).1
  refine IX _ B ?_ ?_
  ·intro a f;rw[List.dropLast_concat]at f;refine Bi _ _ _ _ ?_;intro e;have t:=p;rw[c,Aj]at t;exact t.2.2 a f _ (by simp) e
  ·intro b i;rw[<- c]at i;have n:b∈b1:=by simpa using i
   refine Bi _ _ _ _ ?_;intro e;rcases m with h|h
   ·exact s (by rw[<- h,<- e];exact n)
   ·exact q b n _ h e
 ·have C:Dx nx pv (nx x::z):=by
   have:Dx nx pv (x::(nx x::z)):=by rw[<- d];exact k
   exact this.2.2
  refine IX _ C ?_ ?_
  ·intro a f;rw[<- d,List.dropLast_concat]at f;refine Bi _ _ _ _ ?_;intro e;rcases j with h|h
   ·rw[Aj]at g;exact g.2.2 a f eb (by simp) (e.trans h)
   ·exact q _ h a f e.symm
  ·intro b i;refine Bi _ _ _ _ ?_;intro e;rw[d]at g;have A:b∈z:=by simpa using i
   exact(AK.1 g).1 (e▸A)
variable {O' O1:Nat->Prop}{k mb o:Nat}
abbrev FC:Nat:=293
abbrev MeN:Nat:=295
def XD (p:Pl)(v:Value)(o n:Nat):Array Value:=#[.int .i64 p.1,.int .i64 p.2.1,.int .i64 p.2.2,v,yu o,yu n]
abbrev Ek:=List (Nat×Pl×Value)
def Ek.ks (L:Ek):Ks:=L.map λx=>(x.2.1,x.1)
def Ek.drop (L:Ek)(p:Pl):Ek:=L.filter λx=>!decide (x.2.1=p)
structure KD (w:World)(eb:Nat)(L:Ek)(nx pv:Nat->Nat):Prop where
 ends:w.heap[eb]?=some (.cells (XD (0,0,0) (.pointer none) (pv eb) (nx eb)) FC (0,0))
 link:∀x∈L,w.heap[x.1]?=some (.cells (XD x.2.1 x.2.2 (pv x.1) (nx x.1)) FC (0,0))
 aD:KQ eb (L.map (·.1)) nx pv
structure M7 (w:World)(O:Nat->Prop)(mb hb eb:Nat)(nx pv:Nat->Nat)(room:Int)(L:Ek):Prop where
 own:O mb/\O hb/\O eb/\∀x∈L,O x.1
 mem:w.heap[mb]?=some (.cells #[.int .i64 room,.map (some hb),yu eb] MeN (0,0))
 ring:KD w eb L nx pv
 map:BC w hb L.ks
 ok:∀x∈L,FV x.2.1/\∃a,x.2.2=.pointer a
def Dj (w:World)(O:Nat->Prop)(d:Nat)(a:Int)(L:Ek):Prop:=∃c b e f,M7 w O d c b e f a L
def Ek.get (L:Ek)(p:Pl):Option (Nat×Value):=match L.find? (λx=>decide (x.2.1=p))with
 |some x=>some (x.1,x.2.2)
 |none=>none
def Nv (L:Ek)(p:Pl):L.ks.get p=(L.get p).map (·.1):=by
 unfold Ek.ks Ks.get Ek.get;rw[List.find?_map];have:((λx:Pl×Nat=>decide (x.1=p))∘λx:Nat×Pl×Value=>(x.2.1,x.1))=λx=>decide (x.2.1=p):=rfl;rw[this];cases L.find? (λx=>decide (x.2.1=p))<;>rfl
def Kn {L:Ek}{p:Pl}{b:Nat}(h:L.get p=some (b,v)):(b,p,v)∈L:=by
 unfold Ek.get at h;cases e:L.find? (λx=>decide (x.2.1=p))with
 |none=>rw[e]at h;simp at h
 |some x =>
  rw[e]at h;simp only[zn,xj]at h;have d:=DI e;have f:=DA e;simp only[ja]at d;obtain⟨a,g,c⟩:=x;simp only at h d;obtain⟨rfl,rfl⟩:=h;subst d;exact f
def PX (w:World):(zeroValue 291).run prog w=.ok (.pointer none) w:=by kernel_rfl
def Q4 (O:Nat->Prop)(e:Nat)(d:Int)(L:Ek)(p:Pl)(k:FV p)(w:World)(h:Dj w O e d L)(b:Nat)(a:Option Addr)(g:L.get p=some (b,.pointer a)):
  Calls prog 228 #[yu e,Fc p] w λr q=>r=.returned (.tuple #[.pointer a,.bool true])/\zc w q:=by
 obtain⟨f,u,v,x,h⟩:=h;have j:L.ks.get p=some b:=by rw[Nv,g];rfl
 have i:=Kn g;obtain⟨m,-⟩:=zm h.mem 1 _ rfl;obtain⟨l,-⟩:=zm (h.ring.link _ i) 3 _ rfl;have c:=λn o=>(h.map.same (w':=(w.alloc o).drewN n) (FD w o f h.map.lt)).look underlying290 PX k;rw[j]at c;simp only[Si,yu,GG]at c;have s:=zg h.mem;have t:=zg (h.ring.link _ i);have y:∀o,(w.alloc o).cell? ⟨e,1,none⟩=some (.map (some f)):=λo=>by rw[xg _ _ ⟨e,1,none⟩ s];exact m
 have z:∀o,(w.alloc o).cell? ⟨b,3,none⟩=some (.pointer a):=λo=>by rw[xg _ _ ⟨b,3,none⟩ t];exact l
 unfold Fc at c ⊢;unfold yu;go_enter func228,ntmps228
 go_wp2
 go_quiet (fail)
 go_wp2
 go_ret2
 exact⟨rfl,DR (zi w _) _⟩
def Us (O:Nat->Prop)(c:Nat)(b:Int)(L:Ek)(p:Pl)(g:FV p)(w:World)(h:Dj w O c b L)(e:L.get p=none):
  Calls prog 228 #[yu c,Fc p] w λr j=>r=.returned (.tuple #[.pointer none,.bool false])/\zc w j:=by
 obtain⟨d,l,m,q,h⟩:=h;have f:L.ks.get p=none:=by rw[Nv,e];rfl
 obtain⟨i,-⟩:=zm h.mem 1 _ rfl;have a:=λn o=>(h.map.same (w':=(w.alloc o).drewN n) (FD w o d h.map.lt)).look underlying290 PX g;rw[f]at a;simp only[Si,KY]at a;have k:=zg h.mem;have s:∀o,(w.alloc o).cell? ⟨c,1,none⟩=some (.map (some d)):=λo=>by rw[xg _ _ ⟨c,1,none⟩ k];exact i
 unfold Fc at a ⊢;unfold yu;go_enter func228,ntmps228
 go_wp2
 go_quiet (fail)
 go_wp2
 go_ret2
 exact⟨rfl,DR (zi w _) _⟩
def Ek.aX {L:Ek}{p:Pl}(h:L.get p=none):L.drop p=L:=by
 unfold Ek.drop;rw[Ay];intro x a;unfold Ek.get at h;cases e:L.find? (λx=>decide (x.2.1=p))with
 |some y=>rw[e]at h;simp at h
 |none=>simpa using Bj.1 e x a
def Ek.aY {L:Ek}{p:Pl}{b:Nat}(f:(L.ks.map (·.1)).Nodup)(h:L.get p=some (b,v)):∃a c,L=a++(b,p,v)::c/\L.drop p=a++c:=by
 obtain⟨a,c,e⟩:=List.append_of_mem (Kn h);refine⟨a,c,e,?_⟩;rw[e]at f ⊢;unfold Ek.ks at f;rw[EG,yv,Aj]at f;obtain⟨-,d,g⟩:=f;rw[j4,AK]at d;unfold Ek.drop;rw[GF,Jn];have j:a.filter (λy=>!decide (y.2.1=p))=a:=by
  rw[Ay];intro y i;simpa using g y.2.1 (yi.2 ⟨y,i,rfl⟩) p (by simp)
 have k:c.filter (λy=>!decide (y.2.1=p))=c:=by
  rw[Ay];intro y i;have:y.2.1≠p:=λl=>d.1 (yi.2 ⟨y,i,l⟩);simpa using this
 rw[j,k];simp
def zgz (L:Ek)(p:Pl):(L.drop p).ks=L.ks.drop p:=by
 unfold Ek.ks Ek.drop Ks.drop;rw[List.filter_map];rfl
def Xj {c d m:Nat}{q:Pl}(h:w.heap[c]?=some (.cells (XD q u o (nx c)) FC (0,0))):(w.setCell ⟨d,5,none⟩ (.pointer (some ⟨m,0,none⟩))).heap[c]?=some (.cells (XD q u o (EY nx d m c)) FC (0,0)):=by
 by_cases e:c=d
 ·subst e;rw[Aw h,Dh];rfl
 ·rw[yh _ _ _ _ e,Bi _ _ _ _ e];exact h
def ziz {c d m:Nat}{q:Pl}{n:Nat}(h:w.heap[c]?=some (.cells (XD q u (pv c) n) FC (0,0))):(w.setCell ⟨d,4,none⟩ (.pointer (some ⟨m,0,none⟩))).heap[c]?=some (.cells (XD q u (EY pv d m c) n) FC (0,0)):=by
 by_cases e:c=d
 ·subst e;rw[Aw h,Dh];rfl
 ·rw[yh _ _ _ _ e,Bi _ _ _ _ e];exact h
def KD.aU {b:Nat}{p:Pl}{c d:Ek}(h:KD w eb (c++(b,p,v)::d) nx pv):
  KD ((w.setCell ⟨pv b,5,none⟩ (.pointer (some ⟨nx b,0,none⟩))).setCell ⟨nx b,4,none⟩ (.pointer (some ⟨pv b,0,none⟩))) eb (c++d) (EY nx (pv b) (nx b)) (EY pv (nx b) (pv b)):=by
 have a:=h.aD;rw[yv,j4]at a;refine⟨ziz (Xj h.ends),λx f=>ziz (Xj (h.link x ?_)),?_⟩
 ·rcases yj.1 f with e|e
  ·simp[e]
  ·simp[e]
 ·rw[yv];exact a.aU.1
def zl.map {a:World}{l:Ks}(h:zl O T a w)(g:qv O a w hb)(j:BC w hb l)(b:w.grownBy w' (some hb)):zl O T a w':=by
 refine h.trans ⟨b.os,b.tape,b.output,b.size,λk i=>?_⟩
 by_cases e:k=hb
 ·subst e;obtain⟨f,c,e⟩:=j.isMap;exact .inr ⟨g,.inr ⟨f,c,e⟩⟩
 ·exact .inl (b.block k i (λd=>e (by simpa using d)))
def BC.not {l:Ks}(h:BC w hb l){c:Array Value}{x:Nat×Nat}(e:w.heap[k]?=some (.cells c t x)):some k≠some hb:=by
 intro a;simp only[zn]at a;subst a;obtain⟨f,d,b⟩:=h.isMap;rw[e]at b;simp at b
def KD.same {L:Ek}(h:KD w eb L nx pv)(e:∀(k:Nat) (c:Array Value),w.heap[k]?=some (Obj.cells c FC (0,0))->w'.heap[k]?=w.heap[k]?):KD w' eb L nx pv:=
 ⟨(e _ _ h.ends).trans h.ends,λx a=>(e _ _ (h.link x a)).trans (h.link x a),h.aD⟩
def zbg (O:Nat->Prop)(I:Nat)(B:Int)(L:Ek)(p:Pl)(hp:FV p)(w:World)(h:Dj w O I B L)(b:Nat)(v:Value)(hg:L.get p=some (b,v)):
  Calls prog 295 #[yu I,Fc p] w λr C=>r=.returned (.tuple #[])/\zl O [FC] w C/\Dj C O I B (L.drop p):=by
 obtain⟨G,eb,f,g,h⟩:=h;have R:L.ks.get p=some b:=by rw[Nv,hg];rfl
 have hl:=Kn hg;obtain⟨D,-,-,ag,-⟩:=h.map;obtain⟨l1,l2,eL,eD⟩:=Ek.aY ag hg;have hc:=h.ring.aD;rw[eL,yv,j4]at hc;obtain⟨ae,np,nn,mp,mn⟩:=hc.aU;simp only at ae np nn mp mn
 -- the links around it
 have hP:∃q u,w.heap[g b]?=some (.cells (XD q u (g (g b)) (f (g b))) FC (0,0)):=by
  rcases mp with e|e
  ·rw[e];exact⟨_,_,h.ring.ends⟩
  ·obtain⟨x,z,M⟩:=yi.1 e;rw[<- M];exact⟨_,_,h.ring.link x (by rw[eL];simp[z])⟩
 have hN:∃q u,w.heap[f b]?=some (.cells (XD q u (g (f b)) (f (f b))) FC (0,0)):=by
  rcases mn with e|e
  ·rw[e];exact⟨_,_,h.ring.ends⟩
  ·obtain⟨x,z,M⟩:=yi.1 e;rw[<- M];exact⟨_,_,h.ring.link x (by rw[eL];simp[z])⟩
 obtain⟨qp,up,hP⟩:=hP;obtain⟨qn,un,hN⟩:=hN;obtain⟨m0,-⟩:=zm h.mem 1 _ rfl;obtain⟨l4,-⟩:=zm (h.ring.link _ hl) 4 _ rfl;obtain⟨l5,-⟩:=zm (h.ring.link _ hl) 5 _ rfl;obtain⟨p5,g5⟩:=zm hP 5 _ rfl;obtain⟨n4,g4⟩:=zm hN 4 _ rfl;have m:=λn o=>(h.map.same (w':=(w.alloc o).drewN n) (FD w o G h.map.lt)).look underlying290 PX hp;rw[R]at m;simp only[Si,yu,GG]at m;have y0:∀o,(w.alloc o).cell? ⟨I,1,none⟩=some (.map (some G)):=λo=>by rw[xg _ _ ⟨I,1,none⟩ (zg h.mem)];exact m0
 have l:=ze h;have HE:=ze (And.intro eL eD);have X:=ze (And.intro hP hN);have HK:=ze R;have HP:=ze hp;have HM:=ze (And.intro mp mn);unfold Fc at m ⊢;unfold yu;have T:=ze l4;have U:=ze l5;have F:=ze (And.intro p5 g5);have E:=ze (And.intro n4 g4);clear m0 l4 l5 p5 g5 n4 g4 R hl hg hp h eL eD ae hP hN hc ag mp mn;go_enter func295,ntmps295
 go_wp2
 go_quiet (fail)
 clear m;have j:Hid (zc w ((w.alloc (.cells #[.int .i64 p.1,.int .i64 p.2.1,.int .i64 p.2.2] 215)).drewN nq)):=DR (zi w _) _;have K:Hid (((w.alloc (.cells #[.int .i64 p.1,.int .i64 p.2.1,.int .i64 p.2.2] 215)).drewN nq).heap[w.heap.size]?=some (.cells #[.int .i64 p.1,.int .i64 p.2.1,.int .i64 p.2.2] 215 (0,0))):=zf _ _;have hz:w.heap.size<((w.alloc (.cells #[.int .i64 p.1,.int .i64 p.2.1,.int .i64 p.2.2] 215)).drewN nq).heap.size:=zg K.o;clear y0;generalize (w.alloc (.cells #[.int .i64 p.1,.int .i64 p.2.1,.int .i64 p.2.2] 215)).drewN nq=t at *;have Z:∀{a:Addr}{x:Value},w.cell? a=some x->t.cell? a=some x:=fun {a x} e=>by rw[j.o.cell (yf e)];exact e
 have q4:t.cell? ⟨b,4,none⟩=some (.pointer (some ⟨g b,0,none⟩)):=Z T.o;have q5:t.cell? ⟨b,5,none⟩=some (.pointer (some ⟨f b,0,none⟩)):=Z U.o;have r5:t.cell? ⟨g b,5,none⟩=some (.pointer (some ⟨f (g b),0,none⟩)):=Z F.o.1;have r4:t.cell? ⟨f b,4,none⟩=some (.pointer (some ⟨g (f b),0,none⟩)):=Z E.o.1;have s5:t.frozen? ⟨g b,5,none⟩=false:=by rw[j.o.frozen (p:=⟨g b,5,none⟩) (yf (p:=⟨g b,5,none⟩) F.o.1)];exact F.o.2
 have s4:t.frozen? ⟨f b,4,none⟩=false:=by rw[j.o.frozen (p:=⟨f b,4,none⟩) (yf (p:=⟨f b,4,none⟩) E.o.1)];exact E.o.2
 clear Z
 go_wp2
 go_region_held3 (λC=>C.cell? ⟨b,4,none⟩=some (.pointer (some ⟨g b,0,none⟩))/\C.cell? ⟨b,5,none⟩=some (.pointer (some ⟨f b,0,none⟩))) (go_keep) (fail)
 rename_i N;clear N
 -- what has come of the ring
 have W:Hid (zl O [FC] w ((t.setCell ⟨g b,5,none⟩ (.pointer (some ⟨f b,0,none⟩))).setCell ⟨f b,4,none⟩ (.pointer (some ⟨g b,0,none⟩))).drew/\KD ((t.setCell ⟨g b,5,none⟩ (.pointer (some ⟨f b,0,none⟩))).setCell ⟨f b,4,none⟩ (.pointer (some ⟨g b,0,none⟩))).drew eb (L.drop p) (EY f (g b) (f b)) (EY g (f b) (g b)) /\
   ∀k,k<w.heap.size+1->(∀c,t.heap[k]?≠some (.cells c FC (0,0)))->((t.setCell ⟨g b,5,none⟩ (.pointer (some ⟨f b,0,none⟩))).setCell ⟨f b,4,none⟩ (.pointer (some ⟨g b,0,none⟩))).drew.heap[k]?=t.heap[k]?):=by
  have ah:=l.o.ring.same λk c e=>j.o.block k (zg e);have ad:=(j.o.block _ (zg X.o.1)).trans X.o.1;have ab:=(j.o.block _ (zg X.o.2)).trans X.o.2;have oP:O (g b):=by
   rcases HM.o.1 with e|e
   ·rw[e];exact l.o.own.2.2.1
   ·obtain⟨x,z,M⟩:=yi.1 e;rw[<- M];exact l.o.own.2.2.2 x (by rw[HE.o.1];simp[z])
  have oN:O (f b):=by
   rcases HM.o.2 with e|e
   ·rw[e];exact l.o.own.2.2.1
   ·obtain⟨x,z,M⟩:=yi.1 e;rw[<- M];exact l.o.own.2.2.2 x (by rw[HE.o.1];simp[z])
  refine⟨?_,?_,?_⟩
  ·have t1:zl O [FC] w (t.setCell ⟨g b,5,none⟩ (.pointer (some ⟨f b,0,none⟩))):=(zl.aa j.o).set (.inl oP) ad (by simp) _;exact(t1.set (.inl oN) (Xj ab) (by simp) _).drew
  ·rw[HE.o.2];rw[HE.o.1]at ah;exact ah.aU.same λk c _=>rfl
  ·intro k _ R;have e1:k≠f b:=λe=>R _ (e▸ab);have e2:k≠g b:=λe=>R _ (e▸ad);show((t.setCell _ _).setCell _ _).heap[k]?=_;rw[yh _ _ _ _ e1,yh _ _ _ _ e2]
 generalize ((t.setCell ⟨g b,5,none⟩ (.pointer (some ⟨f b,0,none⟩))).setCell ⟨f b,4,none⟩ (.pointer (some ⟨g b,0,none⟩))).drew=Y at *;clear q4 q5 r5 r4 s5 s4 F E T U X;have P:=(j.o.block _ (zg l.o.mem)).trans l.o.mem;have s:Y.heap[I]?=some (.cells #[.int .i64 B,.map (some G),yu eb] MeN (0,0)):=by
  rw[W.o.2.2 I (Im (zg l.o.mem)) (λc e=>by rw[P]at e;simp only[zn,An]at e;exact absurd e.2.1 (by decide))];exact P
 have y:Y.heap[w.heap.size]?=some (.cells #[.int .i64 p.1,.int .i64 p.2.1,.int .i64 p.2.2] 215 (0,0)):=by
  rw[W.o.2.2 w.heap.size (Nat.lt_succ_self _) (λc e=>by rw[K.o]at e;simp only[zn,An]at e;exact absurd e.2.1 (by decide))];exact K.o
 have i:BC Y.drew G L.ks:=by
  refine l.o.map.same ?_;show Y.heap[G]?=_;obtain⟨es,c,e⟩:=l.o.map.isMap;rw[W.o.2.2 G (Im l.o.map.lt) (λc' J=>by rw[j.o.block _ l.o.map.lt,e]at J;simp at J),j.o.block _ l.o.map.lt]
 obtain⟨w3,ai,A,d⟩:=i.del underlying290 HP.o HK.o 0;unfold Fc at ai;obtain⟨a1,-⟩:=zm s 1 _ rfl;obtain⟨b0,-⟩:=zm y 0 _ rfl;obtain⟨b1,-⟩:=zm y 1 _ rfl;obtain⟨b2,-⟩:=zm y 2 _ rfl;have Q:=(d.block I (zg s) (λe=>by
  simp only[zn]at e;obtain⟨es,c,J⟩:=i.isMap;rw[<- e]at J;have:=s.symm.trans J;simp at this)).trans s
 have H:=(d.block w.heap.size (zg y) (λe=>by
  simp only[zn]at e;obtain⟨es,c,J⟩:=i.isMap;rw[<- e]at J;have:=y.symm.trans J;simp at this)).trans y
 obtain⟨c1,-⟩:=zm Q 1 _ rfl;obtain⟨d0,-⟩:=zm H 0 _ rfl;obtain⟨d1,-⟩:=zm H 1 _ rfl;obtain⟨d2,-⟩:=zm H 2 _ rfl;have ak:=ze A;have V:=ze Q;have S:Hid (Y.grownBy w3 (some G)):=⟨d.os,d.tape,d.output,d.size,d.block⟩;have aj:=ze i;clear P s y Q H i A d
 go_wp2
 go_region_held3 (λC=>C.cell? ⟨I,1,none⟩=some (.map (some G))/\C.cell? ⟨w.heap.size,0,none⟩=some (.int .i64 p.1)/\C.cell? ⟨w.heap.size,1,none⟩=some (.int .i64 p.2.1)/\C.cell? ⟨w.heap.size,2,none⟩=some (.int .i64 p.2.2)) (go_keep) (fail)
 go_wp2
 go_end0
 have af:∀x∈L.drop p,x∈L:=λx z=>(CX.1 z).1;have s:=aj.o.same rfl;refine⟨rfl,W.o.1.map (.inl l.o.own.2.1) s S.o,G,eb,EY f (g b) (f b),EY g (f b) (g b),⟨l.o.own.1,l.o.own.2.1,l.o.own.2.2.1,λx z=>l.o.own.2.2.2 x (af x z)⟩,V.o,?_,?_,λx z=>l.o.ok x (af x z)⟩
 ·exact W.o.2.1.same λk c e=>S.o.block k (zg e) (s.not e)
 ·rw[zgz];exact ak.o
def zf1 (O:Nat->Prop)(c:Nat)(b:Int)(L:Ek)(p:Pl)(g:FV p)(w:World)(h:Dj w O c b L)(e:L.get p=none):
  Calls prog 295 #[yu c,Fc p] w λr j=>r=.returned (.tuple #[])/\zc w j:=by
 obtain⟨d,l,m,q,h⟩:=h;have f:L.ks.get p=none:=by rw[Nv,e];rfl
 obtain⟨i,-⟩:=zm h.mem 1 _ rfl;have a:=λn o=>(h.map.same (w':=(w.alloc o).drewN n) (FD w o d h.map.lt)).look underlying290 PX g;rw[f]at a;simp only[Si,KY]at a;have k:=zg h.mem;have s:∀o,(w.alloc o).cell? ⟨c,1,none⟩=some (.map (some d)):=λo=>by rw[xg _ _ ⟨c,1,none⟩ k];exact i
 unfold Fc at a ⊢;unfold yu;go_enter func295,ntmps295
 go_wp2
 go_quiet (fail)
 go_wp2_with fail
 first|go_end0|refine zv (BA rfl _ _ _) rfl ?_
 exact⟨rfl,DR (zi w _) _⟩
def Dj.stay {b:Int}{L:Ek}(h:Dj w O mb b L)(m:zl O1 T w w')(i:∀k,O k->¬O1 k)(d:∀k,O k->O' k):Dj w' O' mb b L:=by
 obtain⟨j,g,n,o,h⟩:=h;have a:∀k,O k->k<w.heap.size->w'.heap[k]?=w.heap[k]?:=λk l f=>by
  rcases m.block k f with e|⟨e,-⟩
  ·exact e
  ·exact absurd e (i k l)
 refine⟨j,g,n,o,⟨d _ h.own.1,d _ h.own.2.1,d _ h.own.2.2.1,λx c=>d _ (h.own.2.2.2 x c)⟩,(a _ h.own.1 (zg h.mem)).trans h.mem,?_,h.map.same (a _ h.own.2.1 h.map.lt),h.ok⟩;exact⟨(a _ h.own.2.2.1 (zg h.ring.ends)).trans h.ring.ends,λx c=>(a _ (h.own.2.2.2 x c) (zg (h.ring.link x c))).trans (h.ring.link x c),h.ring.aD⟩
def Dj.below {a:Int}{L:Ek}(h:Dj w O mb a L)(c:zc w w')(b:∀k,O k->O' k):Dj w' O' mb a L:=
 h.stay (O1:=λ_=>False) (T:=[]) (.aa c) (λ_ _ h=>h) b
def SE (O:Nat->Prop)(b:Nat)(a:Int)(L:Ek)(p:Pl)(f:FV p)(w:World)(h:Dj w O b a L):
  Calls prog 295 #[yu b,Fc p] w λr d=>r=.returned (.tuple #[])/\zl O [FC] w d/\Dj d O b a (L.drop p):=by
 cases c:L.get p with
 |some x=>exact zbg O b a L p f w h x.1 x.2 c
 |none =>
  refine(zf1 O b a L p f w h c).mono ?_;rintro r d ⟨rfl,e⟩;rw[Ek.aX c];exact⟨rfl,.aa e,h.below e (λ_ h=>h)⟩
end Go.Proofs.YtfdbeldiomkdiaaGreatDoor
