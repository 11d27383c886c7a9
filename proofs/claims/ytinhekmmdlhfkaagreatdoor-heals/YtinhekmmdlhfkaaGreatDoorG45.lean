import Derived.Test.YtinhekmmdlhfkaaGreatDoorG42
import Derived.Test.YtinhekmmdlhfkaaGreatDoorG44
import Derived.Test.YtinhekmmdlhfkaaGreatDoorG04
import Derived.Test.YtinhekmmdlhfkaaGreatDoorG06
import Derived.Test.YtinhekmmdlhfkaaGreatDoorG16
import Derived.Test.YtinhekmmdlhfkaaGreatDoorG05
import Derived.Test.YtinhekmmdlhfkaaGreatDoorG07
import Derived.Test.YtinhekmmdlhfkaaGreatDoorG17
import Derived.Test.YtinhekmmdlhfkaaGreatDoorG18
import Derived.Laws.AppendOwnNone
import Derived.Test.YtinhekmmdlhfkaaGreatDoorG35
namespace Go.Proofs.YtinhekmmdlhfkaaGreatDoor
section
open Go.RowKit
set_option maxRecDepth 100000
abbrev kcT:List Nat:=TCli::clT
structure KC (W0 w:World)(O:Nat→Prop)(pb nb:Nat)(c:Cl)(N:Nat→Prop):Prop where
 rest:∃ cb pm nm A OP,PcAt w pb cb∧Pv W0 w O A OP cb nb pm nm c∧(∀ k,A k∨OP k∨k=cb∨k=pb→N k)
 own:∀ k,N k→W0.heap.size≤k∧k < w.heap.size∧¬ O k
theorem KC.other {W0 w w':World}{O M N:Nat→Prop}{T:List Nat}{pb nb:Nat}{c:Cl}(h:KC W0 w O pb nb c N)(ht:Turn M T w w')(hd:∀ k,N k→¬ M k)(hu:5∉T):KC W0 w' O pb nb c N:=by
 obtain⟨cb,pm,nm,A,OP,h2,h3,h9⟩:=h.rest
 refine⟨⟨cb,pm,nm,A,OP,ht.stay h2 (hd _ (h9 pb (by simp))),h3.other ht (fun b hb=>hd b (h9 b ?_)) hu,h9⟩,fun k hk=>⟨(h.own k hk).1,Nat.lt_of_lt_of_le (h.own k hk).2.1 ht.size,(h.own k hk).2.2⟩⟩
 rcases hb with hb | hb | hb
 ·exact .inl hb
 ·exact .inr (.inl hb)
 ·exact .inr (.inr (.inl hb))
theorem KC.grow {W0 w:World}{O O' N:Nat→Prop}{pb nb:Nat}{c:Cl}(h:KC W0 w O pb nb c N)(hO:∀ k,N k→¬ O' k):KC W0 w O' pb nb c N:=by
 obtain⟨cb,pm,nm,A,OP,h2,h3,h9⟩:=h.rest
 refine⟨⟨cb,pm,nm,A,OP,h2,h3.grow (fun b hb=>hO b (h9 b ?_)),h9⟩,fun k hk=>⟨(h.own k hk).1,(h.own k hk).2.1,hO k hk⟩⟩
 rcases hb with hb | hb | hb
 ·exact .inl hb
 ·exact .inr (.inl hb)
 ·exact .inr (.inr (.inl hb))
theorem KC.below {W0 w w':World}{O N:Nat→Prop}{pb nb:Nat}{c:Cl}(h:KC W0 w O pb nb c N)(hb:Below w.heap.size w w'):KC W0 w' O pb nb c N :=
 h.other (M:=fun _=>False) (T:=[]) (.of_below hb) (fun _ _ h=>h) (by simp)
theorem kc_after {W w w1:World}{O A OP N:Nat→Prop}{cb nb db pm nm pb:Nat}{d:Dk}{c':Cl}{n':Nt}{P:(Nat→Prop)→Prop}(hcr:CR W w w1 O A OP cb nb db pm nm d c' n' P)(hpc:PcAt w pb cb)(hN:∀ k,A k∨OP k∨k=cb∨k=pb→N k)(hown:∀ k,N k→W.heap.size≤k∧k < w.heap.size∧¬ O k)(hO:∀ k,O k→k < w.heap.size)(hW:W.heap.size≤w.heap.size):
  Turn (fun k=>O k∨N k) kcT w w1∧Sh W w1 O nb db d n'∧KC W w1 O pb nb c' (Ext N w w1):=by
 obtain⟨A',OP',hA,hOP,hpv,-⟩:=hcr.rest
 have s1:=hcr.turn.size
 refine⟨hcr.turn.mono (fun k hk=>?_) (fun _ h=>h),hcr.sh,⟨cb,pm,nm,A',OP',hcr.turn.keep hpc (by decide),hpv,fun k hk'=>?_⟩,fun k hk'=>?_⟩
 ·rcases hk with h | h | h | h
  ·exact .inl h
  ·exact .inr (hN k (.inl h))
  ·exact .inr (hN k (.inr (.inl h)))
  ·exact .inr (hN k (.inr (.inr (.inl h))))
 ·rcases hk' with h | h | h | h
  ·rcases hA.2 k h with h | h
   ·exact .inl (hN k (.inl h))
   ·exact .inr ⟨h.1,by omega⟩
  ·rcases hOP.2 k h with h | h
   ·exact .inl (hN k (.inr (.inl h)))
   ·exact .inr ⟨h.1,by omega⟩
  ·exact .inl (hN k (.inr (.inr (.inl h))))
  ·exact .inl (hN k (.inr (.inr (.inr h))))
 ·rcases hk' with h | h
  ·have:=hown k h
   exact⟨this.1,by omega,this.2.2⟩
  ·exact⟨by omega,h.2,fun e=>by have:=hO k e;omega⟩
theorem kc_new (W0:World)(O:Nat→Prop)(nb:Nat)(key:List UInt8)(room:Int)(w:World)(hb0:W0.heap.size≤w.heap.size)(hO:∀ b,O b→b < w.heap.size):
  Calls Tryz.prog 16 #[ptrV nb,txv key,.int .i64 room] w fun r w'=>∃ pb,r= .returned (ptrV pb)∧Below w.heap.size w w'∧KC W0 w' O pb nb ⟨key,0,rootT [],room,[]⟩ (fun k=>w.heap.size≤k∧k < w'.heap.size):=by
 refine(pnewC_net W0 O nb key room w hb0 hO).mono ?_
 rintro r w' ⟨pb,cb,pm,nm,A,OP,rfl,hb,h1,h2,h3,h4,h5⟩
 refine⟨pb,rfl,hb,⟨cb,pm,nm,A,OP,h4,h5,fun k hk=>?_⟩,fun k hk=>⟨by omega,hk.2,fun e=>by have:=hO k e;omega⟩⟩
 rcases hk with h | h | h | rfl
 ·have:=h3 k (.inl h);omega
 ·have:=h3 k (.inr (.inl h));omega
 ·have:=h3 k (.inr (.inr h));omega
 ·exact⟨h1,h2⟩
theorem kc_trusted {W w:World}{O N:Nat→Prop}{pb nb:Nat}{c:Cl}(h:KC W w O pb nb c N):
  Calls Tryz.prog 19 #[ptrV pb] w fun r w'=>r= .returned (.tuple #[.int .i64 c.size,txv c.root])∧Turn N [TCli] w w'∧KC W w' O pb nb c N:=by
 obtain⟨cb,pm,nm,A,OP,hpc,hpv,hN⟩:=h.rest
 refine(ptrusted_any W O A OP cb nb pm nm c pb w hpv hpc).mono ?_
 rintro r w' ⟨rfl,ht,he⟩
 exact⟨rfl,ht.mono (fun b hb=>hN b (.inr (.inr (.inl hb)))) (fun _ h=>h),⟨cb,pm,nm,A,OP,ht.keep hpc (by decide),hpv.trusted ht he,hN⟩,fun k hk=>⟨(h.own k hk).1,Nat.lt_of_lt_of_le (h.own k hk).2.1 ht.size,(h.own k hk).2.2⟩⟩
theorem net_short {fs:Fs}{net:Nt}(p:List UInt8)(hl:∀ f∈fs,f.2.length≤1048576)(hy:∀ l∈net.lies,l.data.length≤1048576):(netF fs net p).1.1.length≤1048576:=by
 unfold netF
 cases e:lieIx net p with
 | some k =>
  have:=(lieIx_some e).1
  simp only
  have hm:net.lies.getD k .none∈net.lies:=by
   rw [List.getD_eq_getElem?_getD,List.getElem?_eq_getElem this]
   exact List.getElem_mem _
  exact hy _ hm
 | none =>
  simp only
  cases e2:look fs p with
  | none=>simp
  | some x =>
   obtain⟨f,hf,rfl⟩:=look_file e2
   exact hl f hf
theorem netF_lies (fs:Fs)(net:Nt)(p:List UInt8):(netF fs net p).2.lies=net.lies:=by
 unfold netF
 cases lieIx net p with
 | some k=>rfl
 | none =>
  simp only
  cases look fs p<;>rfl
theorem kc_update {W w:World}(at_:Nat→Addr)(hE:Env W)(hS:Sents W at_)(hTb:Tabs W){O N:Nat→Prop}{pb nb db:Nat}{d:Dk}{c:Cl}{n:Nt}{t:Nat}(h:KC W w O pb nb c N)(hs:Sh W w O nb db d n)(hki:KI c t)(ht:t≤1000000)(hf:n.fetches+40000 < 4611686018427387904)(hkl:c.key.length≤9223372036854775807)(hl:∀ f∈d.fs,f.2.length≤1048576)(hy:∀ l∈n.lies,l.data.length≤1048576):
  Calls Tryz.prog 18 #[ptrV pb] w fun r w'=>∃ q o c' n' x,ChkIs c.key (netF d.fs n cpP).1 q∧updC (netF d.fs) conC c (netF d.fs n cpP).2 q=(o,c',n')∧KI c' (t+1)∧(c'.key=c.key∧c'.room=c.room)∧(n'.lies=n.lies∧n.fetches≤n'.fetches∧n'.fetches≤n.fetches+20000) ∧
   (∀ e,o= .inl e→c'.size=c.size∧c'.root=c.root∧3≤e.n∧e.n≤6) ∧
   (∀ ps,o= .inr ps→c.size≤c'.size∧((c.size=0∨c'.size=c.size)→ps=[])∧(c'.size=c.size→c'.root=c.root)∧(0 < c.size→c.size < c'.size→conC c.size c'.size c.root c'.root ps=true)) ∧
   r= .returned (.tuple #[x,toldT (outU o).2])∧w'.ownsRow w.heap.size 9 1 x (outU o).1.length ((outU o).1.map txt)∧(outU o).1.length≤65∧(∀ p∈(outU o).1,p.length=8) ∧
   Turn (fun k=>O k∨N k) kcT w w'∧Sh W w' O nb db d n'∧KC W w' O pb nb c' (Ext N w w'):=by
 obtain⟨cb,pm,nm,A,OP,hpc,hpv,hN⟩:=h.rest
 refine(pupdate8 W at_ O A OP cb nb db pm nm d c n pb w hE hS hTb hpv hs hpc (by omega) hki.sz (by omega) (net_short cpP hl hy) (by have:=hki.len;omega) hki.gd.wf).mono ?_
 rintro r w' ⟨q,hq,hcr,x,rfl,hx,h8⟩
 have hlen:=updC_len (fe:=netF d.fs) (con:=conC) c (netF d.fs n cpP).2 q
 have hc1:=netF_cnt d.fs n cpP
 obtain⟨g1,g2,g3⟩:=kc_after hcr hpc hN h.own (fun k hk=>(hs.own k hk).2) hs.base.size
 have hu:=fun o c' n' (e:updC (netF d.fs) conC c (netF d.fs n cpP).2 q=(o,c',n'))=>ki_update (fe:=netF d.fs) (s:=(netF d.fs n cpP).2) (I:=fun x:Nt=>x.lies=n.lies) (fun s p h=>(netF_lies d.fs s p).trans h) (netF_lies d.fs n cpP) (fun x:Nt=>x.fetches) (netF_cnt d.fs) conC hki (q:=q) (fun m r e=>by
  subst e
  obtain⟨-,h1,h2,-⟩:=hq
  exact⟨by omega,h2⟩) e
 obtain⟨o,c',n',hR⟩:∃ o c' n',updC (netF d.fs) conC c (netF d.fs n cpP).2 q=(o,c',n'):=⟨_,_,_,rfl⟩
 obtain⟨u1,u0,u2,u3,u4,u5,u6,u7⟩:=hu o c' n' hR
 rw [hR] at g2 g3 hx hlen h8 ⊢
 exact⟨q,o,c',n',x,hq,hR,u1,⟨u2,u3⟩,⟨u0,by omega,by omega⟩,u6,u7,rfl,hx,hlen,h8,g1,g2,g3⟩
def isErr {α:Type}(o:Sum Er α):Bool:=match o with
 | .inl _=>true
 | .inr _=>false
theorem kc_read {W w:World}(at_:Nat→Addr)(hE:Env W)(hS:Sents W at_)(hTb:Tabs W){O N:Nat→Prop}{pb nb db:Nat}{d:Dk}{c:Cl}{n:Nt}{t:Nat}(h:KC W w O pb nb c N)(hs:Sh W w O nb db d n)(hki:KI c t)(ht:t≤1000000)(hf:n.fetches+40000 < 4611686018427387904)(i:Nat)(hi:i < c.size):
  Calls Tryz.prog 20 #[ptrV pb,.int .i64 i] w fun r w'=>∃ o c' n' nn x,readC (netF d.fs) incC c n i=(o,c',n')∧KI c' (t+1)∧(c'.key=c.key∧c'.size=c.size∧c'.root=c.root∧c'.room=c.room)∧(n'.lies=n.lies∧n.fetches≤n'.fetches∧n'.fetches≤n.fetches+20000) ∧
   (∀ e ps,o= .inr (e,ps)→e.length≤20∧incC (leafH e) i c.size ps c.root=true)∧(∀ e,o= .inl e→3≤e.n∧e.n≤6) ∧
   r= .returned (.tuple #[txv (outR o).1,.bool nn,x,toldT (outR o).2.2])∧(nn=true→(outR o).1=[])∧(∀ e,o= .inl e→nn=true)∧w'.ownsRow w.heap.size 9 1 x (outR o).2.1.length ((outR o).2.1.map txt)∧(outR o).2.1.length≤65∧(∀ p∈(outR o).2.1,p.length=8) ∧
   Turn (fun k=>O k∨N k) kcT w w'∧Sh W w' O nb db d n'∧KC W w' O pb nb c' (Ext N w w'):=by
 obtain⟨cb,pm,nm,A,OP,hpc,hpv,hN⟩:=h.rest
 have hb1:Below w.heap.size w (w.alloc toldO):=below_alloc _ _
 have hr:=read_in W at_ O A OP cb nb db pm nm d c n i _ hE hS hTb (hpv.below hb1) (hs.below hb1) (by omega) hki.sz hi (fun p m' e=>by have:=(ki_entry hki hi p m' e).1;omega) (by have:=hki.len;omega) hki.gd.wf
 have hk:=readC_kept (fe:=netF d.fs) (inc:=incC) c n i
 have hl:=readC_len (fe:=netF d.fs) (inc:=incC) c n i
 have hu:=fun o c' n' (e:readC (netF d.fs) incC c n i=(o,c',n'))=>ki_read (fe:=netF d.fs) (s:=n) (I:=fun x:Nt=>x.lies=n.lies) (fun s p h=>(netF_lies d.fs s p).trans h) rfl (fun x:Nt=>x.fetches) (netF_cnt d.fs) incC hki hi e
 have herr:∀ e,(readC (netF d.fs) incC c n i).1= .inl e→3≤e.n∧e.n≤6:=by
  intro e he
  unfold readC at he
  cases hn:needM (netF d.fs) c.proved c.size ⟨n,[]⟩ (-1) i with
  | mk o1 m1 =>
   rw [hn] at he
   cases o1 with
   | inl p=>simp only [Sum.inl.injEq] at he;subst he;exact⟨by show(3:Int)≤6;omega,by show(6:Int)≤6;omega⟩
   | inr own =>
    simp only at he
    cases hr:rootsM (netF d.fs) c.proved c.size m1 (pathS 64 0 c.size i) with
    | mk o2 m2 =>
     rw [hr] at he
     cases o2 with
     | inl p=>simp only [Sum.inl.injEq] at he;subst he;exact⟨by show(3:Int)≤6;omega,by show(6:Int)≤6;omega⟩
     | inr ps =>
      simp only at he
      split at he
      ·simp at he
      ·simp only [Sum.inl.injEq] at he;subst he;exact⟨by show(3:Int)≤5;omega,by show(5:Int)≤6;omega⟩
 generalize readC (netF d.fs) incC c n i=R at *
 obtain⟨o,c',n'⟩:=R
 obtain⟨u1,u0,u2,u3,u4,u5,u6,u7,u8⟩:=hu o c' n' rfl
 simp only at *
 refine(pread_core W at_ O A OP cb nb db pm nm d c' n' pb (i:Int) w (outR o).1 (outR o).2.1 (outR o).2.2 (isErr o) hS hs.base.size hpc hl (hr.mono ?_)).mono ?_
 ·rintro r w2 ⟨hcr,hres⟩
  rw [← hk] at hcr
  cases o with
  | inl e =>
   rcases hres with ⟨e',ps,x,v,he,-⟩ | ⟨p,g,he,h2,rfl⟩ | ⟨he,rfl⟩
   ·simp at he
   ·obtain⟨x,v,e2,he2,h1,h2',h3,h4⟩:=ReadR.tell (.inr (.inl ⟨p,g,he,h2,rfl⟩):ReadR at_ (w.alloc toldO).heap.size w2 (.inl e) _)
    simp only [Ending.returned.injEq,Value.tuple.injEq] at he2
    have e0:=congrArg (fun a:Array Value=>a[0]?) he2
    simp only [List.getElem?_toArray,List.getElem?_cons_zero,Option.some.injEq] at e0
    subst e0
    exact⟨hcr,_,v,e2,by rw [he2],h1,h2',h3,h4,fun _=>rfl⟩
   ·obtain⟨x,v,e2,he2,h1,h2',h3,h4⟩:=ReadR.tell (.inr (.inr ⟨he,rfl⟩):ReadR at_ (w.alloc toldO).heap.size w2 (.inl e) _)
    simp only [Ending.returned.injEq,Value.tuple.injEq] at he2
    have e0:=congrArg (fun a:Array Value=>a[0]?) he2
    simp only [List.getElem?_toArray,List.getElem?_cons_zero,Option.some.injEq] at e0
    subst e0
    exact⟨hcr,_,v,e2,by rw [he2],h1,h2',h3,h4,fun _=>rfl⟩
  | inr y =>
   obtain⟨x,v,e,rfl,h1,h2,h3,h4⟩:=hres.tell
   exact⟨hcr,x,v,e,rfl,h1,h2,h3,h4,fun h=>by simp [isErr] at h⟩
 ·rintro r w' ⟨hcr,nn,x,h1,h2,h2',h3,h8⟩
  obtain⟨g1,g2,g3⟩:=kc_after hcr hpc hN h.own (fun k hk=>(hs.own k hk).2) hs.base.size
  exact⟨o,c',n',nn,x,rfl,u1,⟨u2,u3,u4,u5⟩,⟨u0,u6,by omega⟩,u8,herr,h1,h2,fun e he=>h2' (by rw [he];rfl),h3,hl,h8,g1,g2,g3⟩
end
section
set_option maxHeartbeats 1000000
open Go.RowKit
set_option maxRecDepth 100000
def Fss (w:World)(v:Value)(fs:Fs):Prop :=
 ∃ a cap,v= .slice a fs.length cap∧fs.length≤cap∧(fs=[]∨∃ b off,a=some ⟨b,off,none⟩∧∀ i (h:i < fs.length),w.cell? ⟨b,off+i*2,none⟩=some (txv fs[i].1)∧w.cell? ⟨b,off+i*2+1,none⟩=some (txv fs[i].2))
def newF (fs:Fs):Fs→Fs
 | []=>fs
 | f::r=>newF (if (ixF fs f.1).isNone then fs++[f] else fs) r
def dk0:Dk:={ fs:=[],calls:=0,failAt:=0,dead:=false,once:=false,half:=false,hit:=false,turned:=false }
theorem newF_snoc (f:List UInt8×List UInt8):∀(l acc:Fs),newF acc (l++[f])=if (ixF (newF acc l) f.1).isNone then newF acc l++[f] else newF acc l
 | [],acc=>rfl
 | x::r,acc=>by
  show newF _ (r++[f])=_
  rw [newF_snoc f r]
  rfl
theorem newF_len:∀(l acc:Fs),(newF acc l).length≤acc.length+l.length
 | [],acc=>by simp [newF]
 | x::r,acc=>by
  have:=newF_len r (if (ixF acc x.1).isNone then acc++[x] else acc)
  simp only [newF,List.length_cons]
  split at this<;>simp_all<;>omega
theorem take_snoc {α:Type}(l:List α)(k:Nat)(h:k < l.length):l.take (k+1)=l.take k++[l[k]]:=by
 rw [List.take_add_one]
 simp [h]
theorem new_any (v:Value)(fs:Fs)(w:World)(hn:fs.length≤1000000)(h:Fss w v fs):
  Calls Tryz.prog 25 #[v] w fun r w'=>r= .returned (dptr w.heap.size)∧Below w.heap.size w w'∧DiskAt w' (fun k=>w.heap.size≤k) w.heap.size { dk0 with fs:=newF [] fs }:=by
 obtain⟨a,cap,rfl,hcap,hrow⟩:=h
 have H:=hide hrow
 clear hrow
 go_enter Tryz.func25,Tryz.ntmps25
 go_wp2_with fail
 have HD0:Hid (DiskAt (w.alloc (.cells #[.slice none 0 0,.int .i64 0,.int .i64 0,.bool false,.bool false,.bool false,.bool false,.bool false] 41)) (fun k=>w.heap.size≤k) w.heap.size { dk0 with fs:=newF [] (fs.take 0) }) :=
  ⟨.slice none 0 0,Nat.le_refl _,heap_alloc_last _ _,⟨rfl,.inl ⟨rfl,rfl⟩⟩,fun g e=>by simp [Value.ownBlock] at e⟩
 go_loopw [10] (fun i wr=>∃ k:Nat,k≤fs.length∧i= .int .i64 k∧Below w.heap.size w wr∧DiskAt wr (fun k=>w.heap.size≤k) w.heap.size { dk0 with fs:=newF [] (fs.take k) }) (fun i _=>fs.length - (intOf i).toNat)
 case atStart=>exact⟨0,Nat.zero_le _,rfl,below_alloc _ _,HD0.out⟩
 case round =>
  obtain⟨k,hk,rfl,hbe,hdk⟩:=hrel
  have HB:=hide hbe
  have HD:=hide hdk
  clear hbe hdk HD0
  by_cases hlt:k < fs.length
  ·obtain⟨b,off,rfl,hcs⟩:∃ b off,a=some ⟨b,off,none⟩∧∀ i (h:i < fs.length),w.cell? ⟨b,off+i*2,none⟩=some (txv fs[i].1)∧w.cell? ⟨b,off+i*2+1,none⟩=some (txv fs[i].2):=by
    rcases H.out with h | h
    ·rw [h] at hlt;simp at hlt
    ·exact h
   obtain⟨y0,y1⟩:=hcs k hlt
   have HST:Hid (newF [] (fs.take (k+1))=if (ixF (newF [] (fs.take k)) fs[k].1).isNone then newF [] (fs.take k)++[fs[k]] else newF [] (fs.take k)):=by
    show _=_
    rw [take_snoc fs k hlt,newF_snoc]
   have hnl:=newF_len (fs.take k) []
   rw [List.length_take,Nat.min_eq_left hk] at hnl
   simp only [List.length_nil,Nat.zero_add] at hnl
   obtain⟨⟨p,x⟩,hpx⟩:∃ f,fs[k]=f:=⟨_,rfl⟩
   rw [hpx] at y0 y1 HST
   generalize newF [] (fs.take k)=acc at *
   have r0:wr.cell? ⟨b,off+k*2,none⟩=some (.string ⟨p.toArray⟩):=by rw [HB.out.cell (p:=⟨b,_,none⟩) (cell_lt y0)];exact y0
   have r1:wr.cell? ⟨b,off+k*2+1,none⟩=some (.string ⟨x.toArray⟩):=by rw [HB.out.cell (p:=⟨b,_,none⟩) (cell_lt y1)];exact y1
   clear y0 y1 hcs hpx
   go_wp2_with fail
   have HBF:Hid (Below w.heap.size w (wr.alloc (.cells #[.string ⟨p.toArray⟩,.string ⟨x.toArray⟩] 63))):=HB.out.trans ((below_alloc _ _).mono HB.out.size)
   have HDF:Hid (DiskAt (wr.alloc (.cells #[.string ⟨p.toArray⟩,.string ⟨x.toArray⟩] 63)) (fun k=>w.heap.size≤k) w.heap.size { dk0 with fs:=acc }):=HD.out.stay (O1:=fun _=>False) (T:=[]) (.of_below (below_alloc _ _)) (by simp) (by simp)
   have HFB:Hid ((wr.alloc (.cells #[.string ⟨p.toArray⟩,.string ⟨x.toArray⟩] 63)).heap[wr.heap.size]?=some (.cells #[.string ⟨p.toArray⟩,.string ⟨x.toArray⟩] 63 (0,0))):=heap_alloc_last _ _
   generalize wr.alloc (.cells #[.string ⟨p.toArray⟩,.string ⟨x.toArray⟩] 63)=wf at *
   refine(find_any (fun k=>w.heap.size≤k) w.heap.size { dk0 with fs:=acc } p wf (by show acc.length≤_;omega) HDF.out).mono ?_
   rintro e w1 ⟨rfl,hb1⟩
   have HB1:Hid (Below w.heap.size w w1):=HBF.out.trans (hb1.mono HBF.out.size)
   have HD1:=hide (HDF.out.stay (O1:=fun _=>False) (T:=[]) (.of_below hb1) (by simp) (by simp))
   have hfb:w1.heap[wr.heap.size]?=some (.cells #[.string ⟨p.toArray⟩,.string ⟨x.toArray⟩] 63 (0,0)):=by rw [hb1.block _ (heap_some_lt HFB.out)];exact HFB.out
   obtain⟨q0,-⟩:=dcell hfb 0 _ rfl
   obtain⟨q1,-⟩:=dcell hfb 1 _ rfl
   clear hb1 hfb r0 r1
   cases e:ixF acc p with
   | some j =>
    have he:ixI acc p=j:=by unfold ixI;rw [e]
    have HST':Hid (newF [] (fs.take (k+1))=acc):=by
     show _=_
     rw [HST.out,e]
     rfl
    rw [show ixI ({ dk0 with fs:=acc }:Dk).fs p=j from he]
    clear q0 q1 e he
    go_wp2_with fail
    go_round
    case rel=>exact⟨k+1,hlt,by go_num,HB1.out,by rw [HST'.out];exact HD1.out⟩
    case measure=>simp [intOf];omega
   | none =>
    have he:ixI acc p=-1:=by unfold ixI;rw [e]
    have HST':Hid (newF [] (fs.take (k+1))=acc++[(p,x)]):=by
     show _=_
     rw [HST.out,e]
     rfl
    rw [show ixI ({ dk0 with fs:=acc }:Dk).fs p=-1 from he]
    obtain⟨i,hi,hi'⟩:=Option.map_eq_some_iff.1 infoFile
    obtain⟨hz0,hz1,hz2⟩:i.zero=some (.agg #[.string ⟨#[]⟩,.string ⟨#[]⟩])∧i.size=2∧i.bytes=32:=by simpa using hi'
    clear hi'
    have HI:=hide hi
    have HZ:=hide (And.intro hz0 (And.intro hz1 hz2))
    clear hi hz0 hz1 hz2
    obtain⟨fv,hO,hb,hf,hg⟩:=HD1.out
    obtain⟨c0,f0⟩:=(dall hb).1
    have HG:=hide hg
    have HB':=hide hb
    have HF:=hide hf
    have HE:=hide e
    have HF1:Hid (∀ o,(w1.alloc o).drew.ownsRow 0 63 2 fv acc.length (fcells acc)):=fun o=>World.ownsRow.alloc (w:=w1) hf o
    have HBB:Hid (∀ o,(w1.alloc o).drew.heap[w.heap.size]?=some (.cells (dcells fv { dk0 with fs:=acc }) 41 (0,0))):=fun o=>heap_alloc_old (w:=w1) hb
    have c0':∀ o,(w1.alloc o).cell? ⟨w.heap.size,0,none⟩=some fv:=fun o=>by rw [cell_old _ _ ⟨w.heap.size,0,none⟩ (heap_some_lt hb)];exact c0
    have HNE:Hid (∀ g,fv.ownBlock=some g→w.heap.size≠g):=fun g hg e=>by
     rcases hf.2 with ⟨rfl,-⟩ | ⟨g',cap,cur,rfl,-,hgg,-⟩
     ·simp [Value.ownBlock] at hg
     ·simp only [Value.ownBlock,Option.some.injEq] at hg
      subst hg
      rw [e,hgg] at hb
      simp at hb
    clear hg hb hf e he HD HD1 HDF
    go_wp2_with fail
    go_region_law (refine step_append_lies _ (by rfl) _ _ _ (by rfl) 0 63 i (.agg #[.string ⟨#[]⟩,.string ⟨#[]⟩]) 2 32 Tryz.underlying39 HI.out HZ.out.1 HZ.out.2.1 HZ.out.2.2 rfl (by omega) fv acc.length (fcells acc) (by rfl) (HF1.out _) ⟨w1.heap.size,0,none⟩ 1 1 [.string ⟨p.toArray⟩,.string ⟨x.toArray⟩] (by rfl) rfl (World.news_of_block (heap_alloc_last _ _)) (by simp [Value.oneCell']) (by omega) (by unfold maxLen;omega) (by omega) (by omega) (w1.heap.size+1) (by simp) ?_;intro g cap' w3 hown hgrow hat hltg;have hb3:w3.heap[w.heap.size]?=some (.cells (dcells fv { dk0 with fs:=acc }) 41 (0,0)):=(by rw [hgrow.block w.heap.size (heap_some_lt (HBB.out _)) (fun e=>HNE.out w.heap.size e.symm rfl)];exact HBB.out _);obtain⟨c3,f3⟩:=(dall hb3).1;have HOW:=hide hown;have HGR:=hide hgrow;have HAT:=hide hat;have HB3:=hide hb3;clear hown hgrow hat hb3)
    all_goals
     have hend:=set_end (O:=fun k=>w.heap.size≤k) (b:=w.heap.size) (d:={ dk0 with fs:=acc }) (p:=p) (x:=x) (w:=w1) (Turn.refl _ _ _) (Nat.le_refl _) HG.out HF.out HE.out HOW.out HGR.out HAT.out HB3.out
     have hset:setF acc p x=acc++[(p,x)]:=by unfold setF;rw [HE.out]
     have HBZ:=hide (HB1.out.trans (hend.2.1.below (fun _ h=>h) HB1.out.size))
     have HDZ:=hide (hend.2.2.mono (O':=fun k=>w.heap.size≤k) (fun k hk=>by
      rcases hk with h | h
      ·exact h
      ·exact Nat.le_trans HB1.out.size h.1))
     clear hend
     go_wp2_with fail
     go_round
     case rel =>
      refine⟨k+1,hlt,by go_num,HBZ.out,?_⟩
      have h9:=HDZ.out
      rw [HST'.out]
      simp only [hset] at h9
      exact h9
     case measure=>simp [intOf];omega
  ·obtain rfl:k=fs.length:=by omega
   have HDE:=HD.out
   rw [List.take_length] at HDE
   go_wp2_with fail
   go_ret
   exact⟨rfl,HB.out,HDE⟩
end
section
open Go.RowKit
set_option maxRecDepth 100000
end
section
open Go.RowKit
set_option maxRecDepth 100000
end
section
open Go.RowKit
set_option maxRecDepth 100000
end
section
open Go.RowKit
set_option maxRecDepth 100000
def Tss (w:World)(v:Value)(ls:List (List UInt8)):Prop :=
 ∃ a cap,v= .slice a ls.length cap∧ls.length≤cap∧(ls=[]∨∃ b off,a=some ⟨b,off,none⟩∧∀ i (h:i < ls.length),w.cell? ⟨b,off+i,none⟩=some (txv ls[i]))
theorem Tss.of {w:World}{v:Value}{ls:List (List UInt8)}(h:Sss w v (ls.map tb)):Tss w v ls:=by
 obtain⟨a,cap,e,hc,hx⟩:=h
 rw [List.length_map] at e hc
 refine⟨a,cap,e,hc,?_⟩
 rcases hx with h | ⟨b,off,ea,hx⟩
 ·exact .inl (by simpa using h)
 ·refine .inr ⟨b,off,ea,fun i hi=>?_⟩
  have:=hx i (by simpa using hi)
  rw [List.getElem_map] at this
  exact this
theorem Tss.below {w w':World}{v:Value}{ls:List (List UInt8)}(h:Tss w v ls)(hb:Below w.heap.size w w'):Tss w' v ls:=by
 obtain⟨a,cap,e,hc,h | ⟨b,off,ea,hx⟩⟩:=h
 ·exact⟨a,cap,e,hc,.inl h⟩
 ·exact⟨a,cap,e,hc,.inr ⟨b,off,ea,fun i hi=>by rw [hb.cell (p:=⟨b,_,none⟩) (cell_lt (hx i hi))];exact hx i hi⟩⟩
theorem Tss.at {w:World}{a:Option Addr}{n cap:Nat}{ls:List (List UInt8)}(h:Tss w (.slice a n cap) ls):n=ls.length∧ls.length≤cap∧(0 < ls.length→∃ b off,a=some ⟨b,off,none⟩∧∀ i (h:i < ls.length),w.cell? ⟨b,off+i,none⟩=some (txv ls[i])):=by
 obtain⟨a',cap',e,hc,hx⟩:=h
 simp only [Value.slice.injEq] at e
 obtain⟨rfl,rfl,rfl⟩:=e
 refine⟨rfl,hc,fun h0=>?_⟩
 rcases hx with h | h
 ·rw [h] at h0;simp at h0
 ·exact h
end
section
open Go.RowKit
set_option maxRecDepth 100000
end
section
open Go.RowKit
set_option maxRecDepth 100000
end
section
open Go.RowKit
set_option maxRecDepth 100000
end
section
open Go.RowKit
set_option maxRecDepth 100000
theorem tss_owns {w:World}{B:Nat}{v:Value}{ls:List (List UInt8)}(h:w.ownsRow B 9 1 v ls.length (ls.map txv)):Tss w v ls:=by
 rcases h.2 with ⟨rfl,h0⟩ | ⟨g,cap,cur,rfl,-,hg,hcap,-,hsz,ht⟩
 ·exact⟨none,0,by rw [h0],by omega,.inl (List.eq_nil_of_length_eq_zero h0)⟩
 ·refine⟨_,cap,rfl,hcap,.inr ⟨g,0,rfl,fun i hi=>?_⟩⟩
  rw [Nat.zero_add,cell_of_row _ _ _ _ _ _ hg]
  have e:(ls.map txv)[i]?=some (txv ls[i]):=by simp [hi]
  rw [← ht,List.getElem?_take,if_pos (by omega)] at e
  simpa using e
theorem own_slice {w:World}{B:Nat}{e:TypeId}{s:Nat}{v:Value}{n:Nat}{xs:List Value}(h:w.ownsRow B e s v n xs):∃ a cap,v= .slice a n cap:=by
 rcases h.2 with ⟨rfl,rfl⟩ | ⟨g,cap,cur,rfl,-⟩
 ·exact⟨_,_,rfl⟩
 ·exact⟨_,_,rfl⟩
theorem app_texts (w:World){ops:Array Oper}{rest:List Oper}{o:Oper}{a:Act}{Q:Exit→Act→World→Prop}
  (hgd:o.guard=none) (s x:Operand) (hop:o.op=Op.call { callee:=Callee.builtin Builtin.append,args:=#[s,x],argTypes:=#[22,22] })
  (B:Nat) (hB:B≤w.heap.size) (v:Value) (ls:List (List UInt8)) (hs:a.eval s=v) (hown:w.ownsRow B 9 1 v ls.length (ls.map txv))
  (y:Value) (ms:List (List UInt8)) (hx:a.eval x=y) (hy:Tss w y ms) (hn:ls.length+ms.length≤1000000000)
  (h:∀ v' w',w'.ownsRow B 9 1 v' (ls++ms).length ((ls++ms).map txv)→w.grownBy w' v.ownBlock→wpList Tryz.prog ops Q rest (a.put o.dst v') w'):wpList Tryz.prog ops Q (o::rest) a w:=by
 obtain⟨i,hi,hi'⟩:=Option.map_eq_some_iff.1 infoStr
 obtain⟨hz0,hz1,hz2⟩:i.zero=some (.string ⟨#[]⟩)∧i.size=1∧i.bytes=16:=by simpa using hi'
 obtain⟨ad,cap,rfl,hcap,hc⟩:=hy
 cases ad with
 | none =>
  have h0:ms=[]:=by
   rcases hc with h | ⟨b,off,e,-⟩
   ·exact h
   ·simp at e
  subst h0
  have hrun:(Builtin.append_ #[22,22] o.type #[v,.slice none 0 cap]).run Tryz.prog w= .ok v w:=by
   rcases hown.2 with ⟨rfl,h0⟩ | ⟨g,cap',cur,rfl,-,hg,hcap',-,hsz,ht⟩
   ·simp [Builtin.append_,run_underlying Tryz.underlying22,sizeOf,typeInfo,hi,Builtin.lenOf,Builtin.firstCells]
   ·simp [Builtin.append_,run_underlying Tryz.underlying22,sizeOf,typeInfo,hi,Builtin.lenOf,Builtin.firstCells,storeCells,hcap']
  refine wpList_plain hgd fun K hK=>?_
  unfold Oper.wp
  simp only [List.length_nil] at hx
  simp [execOp,hop,resolve,invoke,builtin,hs,hx,hrun,Result.andThen]
  exact hK _ _ (h v w (by simpa using hown) ⟨rfl,rfl,rfl,Nat.le_refl _,fun _ _ _=>rfl⟩)
 | some ad =>
  refine wpList_append_own _ hgd s x 22 hop B 9 i (.string ⟨#[]⟩) 1 16 Tryz.underlying22 hi hz0 hz1 hz2 rfl (by omega) v ls.length (ls.map txv) hs hown ad ms.length cap (ms.map txv) hx (by simp) ?_ ?_ (by unfold maxLen;omega) (by omega) hB ?_
  ·intro j u hj
   rcases hc with h | ⟨b,off,e,hc⟩
   ·subst h;simp at hj
   ·have hjl:j < ms.length:=by simpa using (List.getElem?_eq_some_iff.1 hj).1
    obtain rfl:ad=⟨b,off,none⟩:=by simpa using e
    rw [Addr.add_mid,hc j hjl]
    simpa [hjl] using hj
  ·intro u hu
   obtain⟨t,_,rfl⟩:=List.mem_map.1 hu
   rfl
  ·intro v' w' hown' hgrow _
   refine h v' w' ?_ hgrow
   rw [List.length_append,List.map_append]
   exact hown'
end
section
open Go.RowKit
set_option maxRecDepth 100000
end
end Go.Proofs.YtinhekmmdlhfkaaGreatDoor
