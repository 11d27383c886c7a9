import Derived.Test.YtinhekmmdlhfkaaGreatDoorG40
import Derived.Test.YtinhekmmdlhfkaaGreatDoorG18
import Derived.Test.YtinhekmmdlhfkaaGreatDoorG22
import Derived.Test.YtinhekmmdlhfkaaGreatDoorG20
namespace Go.Proofs.YtinhekmmdlhfkaaGreatDoor
section
set_option maxHeartbeats 1000000
open Go.RowKit
set_option maxRecDepth 100000
def tlv (es:List (List UInt8))(put t:Nat):Fs:=(List.range t).flatMap fun(k:Nat)=>zcy es put ((k:Int) - 1)
theorem zsm (es:List (List UInt8))(put t:Nat):tlv es put (t+1)=tlv es put t++zcy es put ((t:Int) - 1):=by
 unfold tlv
 rw [List.range_succ,List.flatMap_append]
 simp
theorem zwx (es:List (List UInt8))(put:Nat):tlv es put 22=yj es put:=by
 unfold tlv yj zns
 rw [List.range_succ_eq_map,List.flatMap_cons,List.flatMap_map]
 congr 1
theorem zsg {l l':Int}(h:l≤l')(n:Nat):zz l' n≤zz l n:=by
 unfold zz
 exact Nat.div_le_div_left (Nat.pow_le_pow_right (by omega) (by omega)) (Nat.pow_pos (by omega))
theorem z01 (es:List (List UInt8))(put t:Nat)(hp:put≤es.length)(ht:t≤22)(h:zz ((t:Int) - 1) es.length=0):tlv es put t=yj es put:=by
 rw [← zwx]
 unfold tlv
 rw [zz7 _ t 22 ht]
 intro k hk
 have h1:=zsg (show((t:Int) - 1)≤((k:Int) - 1) by omega) es.length
 have h2:zz ((k:Int) - 1) put≤zz ((k:Int) - 1) es.length:=Nat.div_le_div_right hp
 unfold zcy
 rw [if_pos (by omega)]
theorem z7a (n:Nat)(hn:n≤1000000)(l:Int)(hl:10≤l):zz l n=0:=by
 have h1:=zsg hl n
 have h2:zz 10 n=0:=by
  unfold zz
  exact Nat.div_eq_of_lt (by simp;omega)
 omega
theorem zwq (es:List (List UInt8))(put:Nat):∀(n t:Nat),∃ r,tlv es put (t+n)=tlv es put t++r
 | 0,t=>⟨[],by simp⟩
 | n+1,t=>by
  obtain⟨r,hr⟩:=zwq es put n t
  exact⟨r++zcy es put (((t+n:Nat):Int) - 1),by rw [← Nat.add_assoc,zsm,hr,List.append_assoc]⟩
theorem zom (es:List (List UInt8))(put t:Nat)(ht:t≤22):∃ r,yj es put=tlv es put t++r:=by
 obtain⟨r,hr⟩:=zwq es put (22 - t) t
 rw [show t+(22 - t)=22 by omega,zwx] at hr
 exact⟨r,hr⟩
theorem z0x {yj:Fs}{c:List UInt8}{d d':Dk}{p:List UInt8}(h:qa yj d=(some p,d')):qt yj c d=(some p,d'):=by
 unfold qt
 rw [h]
theorem z3w {yj:Fs}{c:List UInt8}{d d':Dk}(h:qa yj d=(none,d')):qt yj c d=if bad d' then (some cpF,zbv d' cpF c) else (none,zbv d' cpF c):=by
 unfold qt
 rw [h]
theorem zys (O:Nat→Prop)(W:World)(hE:Env W)(hOW:∀ k,O k→W.heap.size≤k)(db lb:Nat)(d:Dk)(l:Lg)(w:World)(hn:d.fs.length+(yj l.es l.put).length≤900000000)(he:l.es.length≤1000000)(hput:l.put≤l.es.length)(h20:∀ e∈l.es,e.length≤20)(hk:l.key.length≤9223372036854775807)(hlv:l.live=true)(hW:Below W.heap.size W w)(h:zm w O db d)(hL:xk w O db lb l):
  Calls Tryz.prog 50 #[.pointer (some ⟨lb,0,none⟩)] w fun r w'=>∃ e,r= .returned e∧z2z (qt (yj l.es l.put) (xn l.es.length (yb l.es) l.key) d).1 w.heap.size e w'∧zf O dT w w'∧zm w' (Ext O w w') db (qt (yj l.es l.put) (xn l.es.length (yb l.es) l.key) d).2:=by
 have HD:=za h
 have HLG:=za hL
 have H20:=za h20
 have HW:=za hW
 have HO:=za hOW
 have hEE:=za hE
 obtain⟨a,cap,hb,-⟩:=lok hL
 obtain⟨-,-,⟨c2,f2⟩,-⟩:=zej hb
 clear h hL h20 hW hOW hE hb f2
 go_enter Tryz.func50,Tryz.ntmps50
 go_wp2_with fail
 clear c2
 go_loopg [4,5] 30 (fun gg s4 _ wr=>∃(t:Nat) (dt:Dk),t≤11∧30 - t≤gg∧s4= .int .i64 ((t:Int) - 1)∧qa (tlv l.es l.put t) d=(none,dt)∧zf O dT w wr∧zm wr (Ext O w wr) db dt)
 case atStart=>exact⟨0,d,by omega,by omega,rfl,rfl,zf.refl _ _ _,HD.o.mono (fun _ h=> .inl h)⟩
 case round =>
  obtain⟨t,dt,ht11,hgg,rfl,hps,hT,hD⟩:=hrel
  have HPS:=za hps
  have HT:=za hT
  have HDT:=za hD
  have HLG1:=za ((HLG.o.stay hT (by decide) (by decide) (by decide)).mono (O':=Ext O w wr) (fun _ h=> .inl h))
  have hBW:=HW.o.trans (hT.below HO.o HW.o.size)
  have HBW:=za hBW
  have HO1:Hid (∀ k,Ext O w wr k→W.heap.size≤k):=Ext.base HO.o HW.o.size
  obtain⟨lv,hlv'⟩:∃ lv:Int,(t:Int) - 1=lv:=⟨_,rfl⟩
  have hlv1:-1≤lv:=by omega
  have hlv2:lv≤10:=by omega
  have HLV:=za hlv'
  rw [hlv']
  clear hps hT hD hBW hlv'
  go_wp2_with fail
  refine(zkn lv hlv1 (by omega) l.es.length wr).mono ?_
  rintro r w1 ⟨rfl,rfl⟩
  by_cases hc:0 < zz lv l.es.length
  ·have hcI:(0:Int) < ((zz lv l.es.length:Nat):Int):=by omega
   have ht10:t≤10:=by
    rcases Nat.lt_or_ge 10 t with h | h
    ·have:=z7a l.es.length he lv (by have:=HLV.o;omega)
     omega
    ·exact h
   generalize zz lv l.es.length=cc at hcI ⊢
   have hdl:dt.fs.length≤900000000:=by
    have h1:=zhn (tlv l.es l.put t) d
    rw [HPS.o] at h1
    obtain⟨rr,hrr⟩:=zom l.es l.put t (by omega)
    have h2:(yj l.es l.put).length=(tlv l.es l.put t).length+rr.length:=by rw [hrr,List.length_append]
    simp only at h1
    omega
   go_wp2_with fail
   refine(zxp (Ext O w w1) W hEE.out HO1.o db lb dt l w1 hdl he hput H20.o hlv HBW.o HDT.o HLG1.o lv hlv1 (by omega)).mono ?_
   rintro r w2 ⟨e,rfl,hgp,ht2,hd2⟩
   have HT2:Hid (zf O dT w w2):=HT.o.trans ht2
   have HD2:=za (hd2.mono (Ext.trans HT.o.size ht2.size))
   have HPN:Hid (qa (tlv l.es l.put (t+1)) d=qa (zcy l.es l.put lv) dt):=by
    show _=_
    rw [zsm,zfa,HPS.o,HLV.o]
   have HGP:=za (hgp.weaken HT.o.size)
   clear ht2 hd2
   rcases hgp with ⟨hno,rfl⟩ | ⟨p,hp,hge⟩
   ·have HPK:Hid (qa (tlv l.es l.put (t+1)) d=(none,(qa (zcy l.es l.put lv) dt).2)):=by
     show _=_
     rw [HPN.o]
     exact Prod.ext hno rfl
    clear hno
    generalize (qa (zcy l.es l.put lv) dt).2=d2 at *
    go_wp2_with fail
    go_roundg (gk - 1)
    case rel=>exact⟨t+1,d2,by omega,by omega,by congr 1;have:=HLV.o;omega,HPK.o,HT2.o,HD2.o⟩
    case measure=>omega
   ·have HPK:Hid (qt (yj l.es l.put) (xn l.es.length (yb l.es) l.key) d=(some p,(qa (zcy l.es l.put lv) dt).2)):=by
     show _=_
     obtain⟨rr,hrr⟩:=zom l.es l.put (t+1) (by omega)
     refine z0x ?_
     rw [hrr]
     refine zoj ?_
     rw [HPN.o]
     exact Prod.ext hp rfl
    obtain⟨g,rfl⟩:∃ g,e= .iface 113 (.pointer (some ⟨g,0,none⟩)):=by
     rcases jf hge with ⟨h,-⟩ | ⟨-,h⟩
     ·simp at h
     ·exact h
    have HGE:=za (hge.weaken HT.o.size)
    clear hp hge HGP
    go_wp2_with fail
    go_ret
    rw [HPK.o]
    exact⟨_,rfl,.inr ⟨p,rfl,HGE.o⟩,HT2.o,HD2.o⟩
  ·have hc0:zz lv l.es.length=0:=by omega
   have HTL:Hid (tlv l.es l.put t=yj l.es l.put):=z01 l.es l.put t hput (by omega) (by rw [HLV.o];exact hc0)
   rw [hc0]
   have hdl:dt.fs.length≤1000000000:=by
    have h1:=zhn (tlv l.es l.put t) d
    rw [HPS.o] at h1
    rw [HTL.o] at h1
    simp only at h1
    omega
   clear hc hc0
   go_wp2_with fail
   refine(zx0 (Ext O w w1) (Ext O w w1) db lb dt l w1 (hEE.out.below HBW.o) hdl he H20.o hk hlv HDT.o HLG1.o).mono ?_
   rintro r w2 ⟨e,rfl,hge,ht2,hd2⟩
   have HT2:Hid (zf O dT w w2):=HT.o.trans ht2
   have HD2:=za (hd2.mono (Ext.trans HT.o.size ht2.size))
   have HPU:Hid (qt (yj l.es l.put) (xn l.es.length (yb l.es) l.key) d=if bad dt then (some cpF,zbv dt cpF (xn l.es.length (yb l.es) l.key)) else (none,zbv dt cpF (xn l.es.length (yb l.es) l.key))):=by
    refine z3w ?_
    rw [← HTL.o]
    exact HPS.o
   have HGE:=za (hge.weaken HT.o.size)
   clear ht2 hd2
   rcases jf hge with ⟨hbd,rfl⟩ | ⟨hbd,g,rfl⟩
   ·clear hge
    have HBD:=za hbd
    clear hbd
    go_wp2_with fail
    go_ret
    rw [HPU.o,HBD.o]
    exact⟨_,rfl,.inl ⟨rfl,rfl⟩,HT2.o,HD2.o⟩
   ·clear hge
    have HBD:=za hbd
    clear hbd
    go_wp2_with fail
    go_ret
    rw [HPU.o,HBD.o]
    refine⟨_,rfl,.inr ⟨cpF,rfl,?_⟩,HT2.o,HD2.o⟩
    have:=HGE.o
    rw [HBD.o] at this
    exact this
end
section
set_option maxHeartbeats 1000000
open Go.RowKit
set_option maxRecDepth 100000
abbrev pT:List Nat:=[41,63,109]
theorem zeg {O:Nat→Prop}{w w2:World}{p:Addr}{u:Value}:∀ k,Ext O w w2 k→Ext O w (w2.setCell p u) k:=fun _ h=>Ext.more (by simp [World.setCell]) _ h
theorem z3k {w:World}{db lb:Nat}{a:Option Addr}{cap:Nat}{l:Lg}(hb:w.heap[lb]?=some (.cells (zck db (.slice a l.es.length cap) l) 109 (0,0))):(w.setCell ⟨lb,0,none⟩ .nilIface).heap[lb]?=some (.cells (zck db (.slice a l.es.length cap) { l with live:=false }) 109 (0,0)):=qj hb 0 _
theorem zv9 {w:World}{O:Nat→Prop}{db lb i:Nat}{a:Option Addr}{cap:Nat}{l l':Lg}{u:Value}(hb:w.heap[lb]?=some (.cells (zck db (.slice a l.es.length cap) l) 109 (0,0)))(hes:OBs w 0 (.slice a l.es.length cap) l.es)(hg:∀ g,(Value.slice a l.es.length cap).ownBlock=some g→O g)(hO:O lb)
  (hb':(w.setCell ⟨lb,i,none⟩ u).heap[lb]?=some (.cells (zck db (.slice a l.es.length cap) l') 109 (0,0))) (he:l'.es=l.es):xk (w.setCell ⟨lb,i,none⟩ u) O db lb l':=by
 have ht:zf (fun _=>True) [109] w (w.setCell ⟨lb,i,none⟩ u):=(zf.refl _ _ w).set (.inl trivial) hb (by simp) u
 refine⟨_,hO,hb',?_,hg⟩
 rw [he]
 obtain⟨xs,ho,hx⟩:=hes
 exact⟨xs,zo ho ht (by decide),fun j hj=>by
  obtain⟨z,e,hz⟩:=hx j hj
  exact⟨z,e,zo hz.1 ht (by decide),hz.2⟩⟩
theorem zk0 (O:Nat→Prop)(W:World)(at_:Nat→Addr)(hE:Env W)(hSN:qm W at_)(hOW:∀ k,O k→W.heap.size≤k)(db lb:Nat)(d:Dk)(l:Lg)(w:World)(hn:d.fs.length+(yj l.es l.put).length≤900000000)(he:l.es.length≤1000000)(hput:l.put≤l.es.length)(h20:∀ e∈l.es,e.length≤20)(hk:l.key.length≤9223372036854775807)(hW:Below W.heap.size W w)(h:zm w O db d)(hL:xk w O db lb l):
  Calls Tryz.prog 30 #[.pointer (some ⟨lb,0,none⟩)] w fun r w'=>zf O pT w w' ∧
   ((l.live=false∧r= .returned (.tuple #[.int .i64 0,jo at_ 6])∧Below w.heap.size w w') ∨
    (l.live=true∧(qt (yj l.es l.put) (xn l.es.length (yb l.es) l.key) d).1=none∧r= .returned (.tuple #[.int .i64 (l.es.length:Int),.nilIface])∧zm w' (Ext O w w') db (qt (yj l.es l.put) (xn l.es.length (yb l.es) l.key) d).2∧xk w' (Ext O w w') db lb { l with put:=l.es.length }) ∨
    (l.live=true∧∃ p e,(qt (yj l.es l.put) (xn l.es.length (yb l.es) l.key) d).1=some p∧r= .returned (.tuple #[.int .i64 0,e])∧zbd true p w.heap.size e w'∧zm w' (Ext O w w') db (qt (yj l.es l.put) (xn l.es.length (yb l.es) l.key) d).2∧xk w' (Ext O w w') db lb { l with live:=false })):=by
 have HD:=za h
 have HLG:=za hL
 have H20:=za h20
 have HW:=za hW
 have HO:=za hOW
 have hEE:=za hE
 have HS:=za (yz hSN hW)
 clear h hL h20 hW hOW hE hSN
 generalize hpr:qt (yj l.es l.put) (xn l.es.length (yb l.es) l.key) d=pr
 have HPR:=za hpr
 clear hpr
 cases hlv:l.live with
 | false =>
  have h6:=HS.o.failed
  go_enter Tryz.func30,Tryz.ntmps30
  go_wp2_with fail
  refine(ze9 O db lb l w HLG.o).mono ?_
  rintro r w1 ⟨rfl,rfl⟩
  rw [hlv]
  go_wp2_with fail
  go_region
  all_goals go_wp2_with fail
  all_goals go_ret2
  all_goals exact⟨(zf.refl _ _ _).drew,.inl ⟨by first | rfl | trivial,rfl,(Below.refl _ _).drew⟩⟩
 | true =>
  go_enter Tryz.func30,Tryz.ntmps30
  go_wp2_with fail
  refine(ze9 O db lb l w HLG.o).mono ?_
  rintro r w1 ⟨rfl,rfl⟩
  rw [hlv]
  go_wp2_with fail
  refine(zys O W hEE.out HO.o db lb d l w1 hn he hput H20.o hk hlv HW.o HD.o HLG.o).mono ?_
  rintro r w2 ⟨e,rfl,hgp,ht2,hd2⟩
  rw [HPR.o] at hgp hd2
  clear HPR
  have HT2:=za ht2
  have HD2:=za hd2
  have HL2:=za ((HLG.o.stay ht2 (by decide) (by decide) (by decide)).mono (O':=Ext O w1 w2) (fun _ h=> .inl h))
  clear ht2 hd2
  obtain⟨a,cap,hb,hes,hgg,hOl⟩:=lok HL2.o
  obtain⟨⟨c0,f0⟩,-,⟨c2,f2⟩,⟨c3,f3⟩⟩:=zej hb
  have HB:=za hb
  have HES:=za hes
  have HG:=za hgg
  have HOL:=za hOl
  clear hb hes hgg hOl
  rcases hgp with ⟨hno,rfl⟩ | ⟨p,hp,hge⟩
  ·have HNO:=za hno
   have HLV:=za hlv
   clear hno hlv c0 f0
   have k3:=(zg (qj HB.o 3 (.int .i64 (l.es.length:Int))) 3 _ rfl).1
   go_wp2_with fail
   go_ret2
   have hlg:=zv9 (O:=Ext O w1 w2) (l':={ l with put:=l.es.length }) HB.o HES.o HG.o HOL.o (qj HB.o 3 (.int .i64 (l.es.length:Int))) rfl
   refine⟨HT2.o.mono (fun _ h=>h) (by decide) |>.set HOL.o HB.o (by decide) _,.inr (.inl ⟨by first | rfl | trivial,HNO.o,rfl,?_,?_⟩)⟩
   ·exact(HD2.o.stay ((zf.refl _ _ w2).set (O:=fun _=>True) (T:=[109]) (.inl trivial) HB.o (by simp) _) (by decide) (by decide)).mono zeg
   ·rw [HLV.o] at hlg
    exact hlg.mono zeg
  ·have HP:=za hp
   obtain⟨g,rfl⟩:∃ g,e= .iface 113 (.pointer (some ⟨g,0,none⟩)):=by
    rcases jf hge with ⟨h,-⟩ | ⟨-,h⟩
    ·simp at h
    ·exact h
   have HGE:=za hge
   clear hp hge hlv
   go_wp2_with fail
   go_ret2
   have hlg:=zv9 (O:=Ext O w1 w2) (l':={ l with live:=false }) HB.o HES.o HG.o HOL.o (z3k HB.o) rfl
   have htt:zf (fun _=>True) [109] w2 (w2.setCell ⟨lb,0,none⟩ .nilIface):=(zf.refl _ _ w2).set (.inl trivial) HB.o (by simp) _
   refine⟨HT2.o.mono (fun _ h=>h) (by decide) |>.set HOL.o HB.o (by decide) _,.inr (.inr ⟨by first | rfl | trivial,p,_,HP.o,rfl,?_,?_,?_⟩)⟩
   ·rcases HGE.o with ⟨h,-⟩ | ⟨h,g',e',hB,hpe⟩
    ·exact .inl ⟨h,by simp at h⟩
    ·exact .inr ⟨h,g',e',hB,hpe.turn htt (by decide) (by decide)⟩
   ·exact(HD2.o.stay htt (by decide) (by decide)).mono zeg
   ·exact hlg.mono zeg
end
section
set_option maxHeartbeats 4000000
open Go.RowKit Go.Extern.Stop Go.Stop Go.Extern
set_option maxRecDepth 100000
theorem z62 (pg:Nat)(e t:Addr)(old:Value)(w:World)(h1:w.cell? ⟨pg,1,none⟩=some (.iface 112 (.pointer (some e))))(hg:w.cell? ⟨7,0,none⟩=some (tyV 70))(ht0:w.cell? t=some old)(hf0:w.frozen? t=false):
  Calls Tryz.prog 47 #[.iface 113 (.pointer (some ⟨pg,0,none⟩)),.iface 118 (.pointer (some t))] w fun ev w'=>ev= .returned (.bool true)∧∃ w1,Below w.heap.size w w1∧w'=w1.setCell t (.pointer (some e)):=by
 have x1:=@run_callFunc_extern Tryz.prog 77 _ (fun args=>ReflectliteValue.unpack (args.getD 0 (.tuple #[]))) Tryz.func77 (by kernel_rfl) (by kernel_rfl) (by kernel_rfl) (by kernel_rfl)
 have x2:=@run_callFunc_extern Tryz.prog 78 _ (ReflectliteValue.methodAny (ReflectliteValue.valueError "reflectlite.Value.Type" 0) (fun t _ _ _=>ReflectliteType.toType t)) Tryz.func78 (by kernel_rfl) (by kernel_rfl) (by kernel_rfl) (by kernel_rfl)
 have x3:=@run_callFunc_extern Tryz.prog 79 _ (ReflectliteValue.method (ReflectliteValue.valueError "reflectlite.Value.IsNil" 0) ReflectliteValue.isNil) Tryz.func79 (by kernel_rfl) (by kernel_rfl) (by kernel_rfl) (by kernel_rfl)
 have x4:=@run_callFunc_extern Tryz.prog 230 _ (ReflectliteType.abiMethod fun t=>do pure (.int .u8 (← Rtype.kind t))) Tryz.func230 (by kernel_rfl) (by kernel_rfl) (by kernel_rfl) (by kernel_rfl)
 have x5:=@run_callFunc_extern Tryz.prog 249 _ (ReflectliteType.method ReflectliteType.elem) Tryz.func249 (by kernel_rfl) (by kernel_rfl) (by kernel_rfl) (by kernel_rfl)
 have x6:=@run_callFunc_extern Tryz.prog 250 _ (ReflectliteType.relation "Implements" ReflectliteType.implements_) Tryz.func250 (by kernel_rfl) (by kernel_rfl) (by kernel_rfl) (by kernel_rfl)
 have x7:=@run_callFunc_extern Tryz.prog 75 _ ReflectliteType.typeOf Tryz.func75 (by kernel_rfl) (by kernel_rfl) (by kernel_rfl) (by kernel_rfl)
 have x8:=@run_callFunc_extern Tryz.prog 247 _ (ReflectliteType.relation "AssignableTo" ReflectliteType.assignableTo) Tryz.func247 (by kernel_rfl) (by kernel_rfl) (by kernel_rfl) (by kernel_rfl)
 have x9:=@run_callFunc_extern Tryz.prog 120 _ (ReflectliteValue.method (ReflectliteValue.valueError "reflectlite.Value.Elem" 0) ReflectliteValue.elem) Tryz.func120 (by kernel_rfl) (by kernel_rfl) (by kernel_rfl) (by kernel_rfl)
 have x10:=@run_callFunc_extern Tryz.prog 121 _ ReflectliteValue.set Tryz.func121 (by kernel_rfl) (by kernel_rfl) (by kernel_rfl) (by kernel_rfl)
 have y1:=zuf
 have y2:=zyx
 have y3:=zzl
 have y4:=zy2
 have y5:=zlb
 have y6:=zla
 have y7:=zkq
 have y8:=zuo
 have y9:=zfu
 have z1:=zvo
 have z2:=zus
 have z3:=z1z
 have z4:=z1v
 have z5:=z2i
 have z6:=z4a
 have z7:=z0t
 have z8:=z58
 have z9:=z1c
 have hpl:pg < w.heap.size:=zj h1
 have hgl:7 < w.heap.size:=zj hg
 have htl:=zj ht0
 have n8:=zya ⟨w.heap.size,0,none⟩ t ((w.alloc (.cells #[.pointer (some t)] 118)).alloc (.cells #[tyP 118,.pointer (some ⟨w.heap.size,0,none⟩),.int .u64 150] 174)) (by simp)
 have hg2:((w.alloc (.cells #[.pointer (some t)] 118)).alloc (.cells #[tyP 118,.pointer (some ⟨w.heap.size,0,none⟩),.int .u64 150] 174)).cell? ⟨7,0,none⟩=some (tyV 70):=by
  rw [World.cell?_alloc_lt _ _ ⟨_,0,none⟩ (by simp;omega),World.cell?_alloc_lt _ _ ⟨_,0,none⟩ hgl];exact hg
 have el:=zxz ⟨w.heap.size,0,none⟩ t (((w.alloc (.cells #[.pointer (some t)] 118)).alloc (.cells #[tyP 118,.pointer (some ⟨w.heap.size,0,none⟩),.int .u64 150] 174)).alloc (.cells #[tyP 118,.pointer (some ⟨w.heap.size,0,none⟩),.int .u64 150] 174)) (by rw [World.cell?_alloc_lt _ _ ⟨w.heap.size,0,none⟩ (by simp;omega)];simp)
 have hp3:(((w.alloc (.cells #[.pointer (some t)] 118)).alloc (.cells #[tyP 118,.pointer (some ⟨w.heap.size,0,none⟩),.int .u64 150] 174)).alloc (.cells #[tyP 118,.pointer (some ⟨w.heap.size,0,none⟩),.int .u64 150] 174)).cell? ⟨pg,1,none⟩=some (.iface 112 (.pointer (some e))):=by
  rw [World.cell?_alloc_lt _ _ ⟨_,1,none⟩ (by simp;omega),World.cell?_alloc_lt _ _ ⟨_,1,none⟩ (by simp;omega),World.cell?_alloc_lt _ _ ⟨_,1,none⟩ hpl];exact h1
 have st:=z5s t ⟨w.heap.size+1+1+1,0,none⟩ e old ((((w.alloc (.cells #[.pointer (some t)] 118)).alloc (.cells #[tyP 118,.pointer (some ⟨w.heap.size,0,none⟩),.int .u64 150] 174)).alloc (.cells #[tyP 118,.pointer (some ⟨w.heap.size,0,none⟩),.int .u64 150] 174)).alloc (.cells #[.pointer (some e)] 112))
  (by rw [World.cell?_alloc_at _ _ _ _ (by simp)];rfl)
  (by rw [World.cell?_alloc_lt _ _ t (by simp;omega),World.cell?_alloc_lt _ _ t (by simp;omega),World.cell?_alloc_lt _ _ t (by simp;omega),World.cell?_alloc_lt _ _ t htl];exact ht0)
  (by rw [World.frozen?_alloc_old _ _ t (by simp;omega),World.frozen?_alloc_old _ _ t (by simp;omega),World.frozen?_alloc_old _ _ t (by simp;omega),World.frozen?_alloc_old _ _ t (Nat.ne_of_lt htl)];exact hf0)
 go_enter Tryz.func47,Tryz.ntmps47
 go_wp2
 refine wp_loop_rounds 2 ?_
 rw [rounds_succ]
 go_wp2
 rw [rounds_succ]
 go_wp2
 go_ret
 exact⟨rfl,_,(((ze _ _).trans ((ze _ _).mono (by simp))).trans ((ze _ _).mono (by simp;omega))).trans ((ze _ _).mono (by simp;omega)),rfl⟩
end
section
set_option maxHeartbeats 1000000
open Go.RowKit
set_option maxRecDepth 100000
def zf6 (n:Int)(p:List UInt8):Value:= .agg #[.int .i64 n,.string ⟨p.toArray⟩]
theorem z6l:(Tryz.prog.info? 112).map (·.comparable)=some true:=by kernel_rfl
theorem z52:(Tryz.prog.info? 353).map (·.size)=some 1:=by kernel_rfl
theorem zkp (v:Value)(W:World):(Instr.typeAssert (.iface 113 v) 70 113 true).run Tryz.prog W= .ok (.tuple #[v,.bool true]) W:=by kernel_rfl
theorem jr {W:World}{B:Nat}{C:Array Value}(hb:W.heap[B]?=some (.cells C 29 (0,0)))(n:Int)(p:List UInt8)(hC:C.size=2):((W.setCell ⟨B,0,none⟩ (.int .i64 n)).setCell ⟨B,1,none⟩ (.string ⟨p.toArray⟩)).heap[B]?=some (.cells #[.int .i64 n,.string ⟨p.toArray⟩] 29 (0,0)):=by
 rw [qj (qj hb 0 _) 1 _]
 obtain⟨l⟩:=C
 match l,hC with
 | [a,b],_=>rfl
theorem zcu {w W:World}{u v:Value}{i j:Nat}(h:Below w.heap.size w W):Below w.heap.size w ((W.setCell ⟨w.heap.size,i,none⟩ u).setCell ⟨w.heap.size,j,none⟩ v):=(h.setCell (Nat.le_refl _) _).setCell (Nat.le_refl _) _
theorem z8d (pg e:Nat)(p:List UInt8)(w W:World)(hW:Below w.heap.size w W)(hs:W.heap.size=w.heap.size+3)(hp:W.heap[pg]?=some (.cells #[txv p,zar e] 115 (0,0)))(hpl:pg < w.heap.size)(b1:W.heap[w.heap.size]?=some (.cells #[.int .i64 0,.string ⟨#[]⟩] 29 (0,0)))(b3:W.heap[w.heap.size+1+1]?=some (.cells #[.pointer none] 112 (0,0)))(hET:W.cell? ⟨7,0,none⟩=some (tyV 70)):
  Calls Tryz.prog 47 #[.iface 113 (.pointer (some ⟨pg,0,none⟩)),.iface 118 (.pointer (some ⟨w.heap.size+1+1,0,none⟩))] W fun r w3=>r= .returned (.bool true)∧w3.cell? ⟨pg,0,none⟩=some (.string ⟨p.toArray⟩)∧w3.cell? ⟨pg,1,none⟩=some (.iface 112 (.pointer (some ⟨e,0,none⟩)))∧w3.cell? ⟨w.heap.size+1+1,0,none⟩=some (.pointer (some ⟨e,0,none⟩))∧w3.heap[w.heap.size]?=some (.cells #[.int .i64 0,.string ⟨#[]⟩] 29 (0,0))∧Below w.heap.size w w3:=by
 refine(z62 pg ⟨e,0,none⟩ ⟨w.heap.size+1+1,0,none⟩ (.pointer none) W (zg hp 1 (zar e) rfl).1 hET (zg b3 0 _ rfl).1 (zg b3 0 _ rfl).2).mono ?_
 rintro r w2 ⟨rfl,w1,hb1,rfl⟩
 have e3:w1.heap[w.heap.size+1+1]?=some (.cells #[.pointer none] 112 (0,0)):=by rw [hb1.block _ (by omega)];exact b3
 have hb2:=qj e3 0 (.pointer (some ⟨e,0,none⟩))
 have hp4:(w1.setCell ⟨w.heap.size+1+1,0,none⟩ (.pointer (some ⟨e,0,none⟩))).heap[pg]?=some (.cells #[txv p,zar e] 115 (0,0)):=by
  rw [heap_setCell_other _ _ _ _ (by show pg≠w.heap.size+1+1;omega),hb1.block _ (by omega)];exact hp
 have hr4:(w1.setCell ⟨w.heap.size+1+1,0,none⟩ (.pointer (some ⟨e,0,none⟩))).heap[w.heap.size]?=some (.cells #[.int .i64 0,.string ⟨#[]⟩] 29 (0,0)):=by
  rw [heap_setCell_other _ _ _ _ (by show w.heap.size≠w.heap.size+1+1;omega),hb1.block _ (by omega)];exact b1
 exact⟨rfl,(zg hp4 0 (txv p) rfl).1,(zg hp4 1 (zar e) rfl).1,(zg hb2 0 _ rfl).1,hr4,(hW.trans (hb1.mono (by omega))).setCell (by show w.heap.size≤w.heap.size+1+1;omega) _⟩
theorem zwe (at_:Nat→Addr)(pg:Nat)(p:List UInt8)(w:World)(hs:qm w at_)(hp:w.heap[pg]?=some (.cells #[txv p,jo at_ 5] 115 (0,0))):
  Calls Tryz.prog 27 #[xm pg] w fun e w'=>e= .returned (zf6 6 p)∧Below w.heap.size w w':=by
 obtain⟨h0,h1,h2,h3,h4,h5,h6,hap,hbl⟩:=hs
 clear hap hbl
 have g0:∀ o,(w.alloc o).cell? ⟨1,0,none⟩=some (.iface 326 (.pointer (some (at_ 0)))):=fun o=>by rw [zk _ _ ⟨_,0,none⟩ (zj h0)];exact h0
 have g1:∀ o,(w.alloc o).cell? ⟨2,0,none⟩=some (.iface 326 (.pointer (some (at_ 1)))):=fun o=>by rw [zk _ _ ⟨_,0,none⟩ (zj h1)];exact h1
 have g2:∀ o,(w.alloc o).cell? ⟨3,0,none⟩=some (.iface 326 (.pointer (some (at_ 2)))):=fun o=>by rw [zk _ _ ⟨_,0,none⟩ (zj h2)];exact h2
 have g3:∀ o,(w.alloc o).cell? ⟨4,0,none⟩=some (.iface 326 (.pointer (some (at_ 3)))):=fun o=>by rw [zk _ _ ⟨_,0,none⟩ (zj h3)];exact h3
 have g4:∀ o,(w.alloc o).cell? ⟨5,0,none⟩=some (.iface 326 (.pointer (some (at_ 4)))):=fun o=>by rw [zk _ _ ⟨_,0,none⟩ (zj h4)];exact h4
 have g6:∀ o,(w.alloc o).cell? ⟨0,0,none⟩=some (.iface 326 (.pointer (some (at_ 6)))):=fun o=>by rw [zk _ _ ⟨_,0,none⟩ (zj h6)];exact h6
 have H5:=za h5
 have HP:=za hp
 clear h0 h1 h2 h3 h4 h5 h6 hp
 have hya:=zkp (.pointer (some ⟨pg,0,none⟩))
 have hsm:∀ W,(binOp .eql 70 (.iface 326 (.pointer (some (at_ 5)))) (.iface 326 (.pointer (some (at_ 5))))).run Tryz.prog W= .ok (.bool true) W:=fun W=>by
  obtain⟨i,hi,hcmp⟩:=Option.map_eq_some_iff.1 zc1
  obtain⟨j,hj,hjs⟩:=Option.map_eq_some_iff.1 zc5
  exact run_eql_iface_ptr_same W (at_ 5) Tryz.underlying70 Tryz.underlying326 hi hcmp hj
 unfold xm
 go_enter Tryz.func27,Tryz.ntmps27
 go_wp2_with fail
 obtain⟨s3,b1,-,b3,hb3⟩:=zp2 w (.cells #[.int .i64 0,.string ⟨#[]⟩] 29) (.cells #[.nilIface,.iface 326 (.pointer (some (at_ 0))),.iface 326 (.pointer (some (at_ 1))),.iface 326 (.pointer (some (at_ 2))),.iface 326 (.pointer (some (at_ 3))),.iface 326 (.pointer (some (at_ 4))),.nilIface,.iface 326 (.pointer (some (at_ 6)))] 70) (.cells #[.pointer none] 112)
 generalize (((w.alloc (.cells #[.int .i64 0,.string ⟨#[]⟩] 29)).alloc (.cells #[.nilIface,.iface 326 (.pointer (some (at_ 0))),.iface 326 (.pointer (some (at_ 1))),.iface 326 (.pointer (some (at_ 2))),.iface 326 (.pointer (some (at_ 3))),.iface 326 (.pointer (some (at_ 4))),.nilIface,.iface 326 (.pointer (some (at_ 6)))] 70)).alloc (.cells #[.pointer none] 112))=W3 at *
 have q5:W3.cell? ⟨6,0,none⟩=some (.iface 326 (.pointer (some (at_ 5)))):=by rw [hb3.cell (p:=⟨_,0,none⟩) (zj H5.o)];exact H5.o
 have HP3:W3.heap[pg]?=some (.cells #[txv p,jo at_ 5] 115 (0,0)):=by rw [hb3.block _ (zb HP.o)];exact HP.o
 have q0:W3.cell? ⟨pg,0,none⟩=some (.string ⟨p.toArray⟩):=(zg HP3 0 (txv p) rfl).1
 have q1:W3.cell? ⟨pg,1,none⟩=some (.iface 326 (.pointer (some (at_ 5)))):=(zg HP3 1 (jo at_ 5) rfl).1
 have r0:=zg b1 0 _ rfl
 have r1:=zg b1 1 _ rfl
 obtain⟨c0,z0⟩:=r0
 obtain⟨c1,z1⟩:=r1
 have Q1:=za q1
 have HB1:=za b1
 have HB3:=za hb3
 clear HP3 b1 b3 hb3 s3
 go_region_with (go_at_call 46;refine(zqc pg (at_ 5) _ ?_).mono ?_;exact Q1.out;rintro r w1 ⟨rfl,rfl⟩)
 all_goals go_wp2_with fail
 all_goals exact bodyPost_ret (v:=zf6 6 p) (results_cell_row Tryz.results27 _ _ w.heap.size 29 _ (0,0) _ rfl (jr (by exact HB1.o) 6 p rfl) Tryz.underlying29 rfl (by kernel_rfl)) rfl ⟨rfl,zcu HB3.o.drew⟩
theorem z4q (at_:Nat→Addr)(pg:Nat)(p:List UInt8)(w:World)(hs:qm w at_)(hET:w.cell? ⟨7,0,none⟩=some (tyV 70))(hpe:zvv w pg p):
  Calls Tryz.prog 27 #[xm pg] w fun e w'=>e= .returned (zf6 8 p)∧Below w.heap.size w w':=by
 obtain⟨h0,h1,h2,h3,h4,h5,h6,hap,hbl⟩:=hs
 clear hap hbl
 have g0:∀ o,(w.alloc o).cell? ⟨1,0,none⟩=some (.iface 326 (.pointer (some (at_ 0)))):=fun o=>by rw [zk _ _ ⟨_,0,none⟩ (zj h0)];exact h0
 have g1:∀ o,(w.alloc o).cell? ⟨2,0,none⟩=some (.iface 326 (.pointer (some (at_ 1)))):=fun o=>by rw [zk _ _ ⟨_,0,none⟩ (zj h1)];exact h1
 have g2:∀ o,(w.alloc o).cell? ⟨3,0,none⟩=some (.iface 326 (.pointer (some (at_ 2)))):=fun o=>by rw [zk _ _ ⟨_,0,none⟩ (zj h2)];exact h2
 have g3:∀ o,(w.alloc o).cell? ⟨4,0,none⟩=some (.iface 326 (.pointer (some (at_ 3)))):=fun o=>by rw [zk _ _ ⟨_,0,none⟩ (zj h3)];exact h3
 have g4:∀ o,(w.alloc o).cell? ⟨5,0,none⟩=some (.iface 326 (.pointer (some (at_ 4)))):=fun o=>by rw [zk _ _ ⟨_,0,none⟩ (zj h4)];exact h4
 have g6:∀ o,(w.alloc o).cell? ⟨0,0,none⟩=some (.iface 326 (.pointer (some (at_ 6)))):=fun o=>by rw [zk _ _ ⟨_,0,none⟩ (zj h6)];exact h6
 obtain⟨e,hp,he⟩:=hpe
 have H5:=za h5
 have HET:=za hET
 have HP:=za hp
 clear h0 h1 h2 h3 h4 h5 h6 hp
 have hya:=zkp (.pointer (some ⟨pg,0,none⟩))
 clear he hET
 have hty:=fun W=>run_eql_iface_types (P:=Tryz.prog) 112 326 (.pointer (some ⟨e,0,none⟩)) (.pointer (some (at_ 5))) Tryz.underlying70 (by decide) W
 have hsm:∀ W,(binOp .eql 70 (.iface 112 (.pointer (some ⟨e,0,none⟩))) (.iface 112 (.pointer (some ⟨e,0,none⟩)))).run Tryz.prog W= .ok (.bool true) W:=fun W=>by
  obtain⟨i,hi,hcmp⟩:=Option.map_eq_some_iff.1 z6l
  obtain⟨j,hj,hjs⟩:=Option.map_eq_some_iff.1 z52
  exact run_eql_iface_ptr_same W ⟨e,0,none⟩ Tryz.underlying70 Tryz.underlying112 hi hcmp hj
 unfold xm
 go_enter Tryz.func27,Tryz.ntmps27
 go_wp2_with fail
 obtain⟨s3,b1,-,b3,hb3⟩:=zp2 w (.cells #[.int .i64 0,.string ⟨#[]⟩] 29) (.cells #[.nilIface,.iface 326 (.pointer (some (at_ 0))),.iface 326 (.pointer (some (at_ 1))),.iface 326 (.pointer (some (at_ 2))),.iface 326 (.pointer (some (at_ 3))),.iface 326 (.pointer (some (at_ 4))),.nilIface,.iface 326 (.pointer (some (at_ 6)))] 70) (.cells #[.pointer none] 112)
 generalize (((w.alloc (.cells #[.int .i64 0,.string ⟨#[]⟩] 29)).alloc (.cells #[.nilIface,.iface 326 (.pointer (some (at_ 0))),.iface 326 (.pointer (some (at_ 1))),.iface 326 (.pointer (some (at_ 2))),.iface 326 (.pointer (some (at_ 3))),.iface 326 (.pointer (some (at_ 4))),.nilIface,.iface 326 (.pointer (some (at_ 6)))] 70)).alloc (.cells #[.pointer none] 112))=W3 at *
 have q5:W3.cell? ⟨6,0,none⟩=some (.iface 326 (.pointer (some (at_ 5)))):=by rw [hb3.cell (p:=⟨_,0,none⟩) (zj H5.o)];exact H5.o
 have hP3:W3.heap[pg]?=some (.cells #[txv p,zar e] 115 (0,0)):=by rw [hb3.block _ (zb HP.o)];exact HP.o
 have q1:W3.cell? ⟨pg,1,none⟩=some (.iface 112 (.pointer (some ⟨e,0,none⟩))):=(zg hP3 1 (zar e) rfl).1
 have QE:Hid (W3.cell? ⟨7,0,none⟩=some (tyV 70)):=by show _=_;rw [hb3.cell (p:=⟨_,0,none⟩) (zj HET.o)];exact HET.o
 have Q1:=za q1
 have HP3:=za hP3
 have HB1:=za b1
 have HB2:=za b3
 have HB3:=za hb3
 have HLT:Hid (pg < w.heap.size):=zb HP.o
 have HS3:=za s3
 clear b1 b3 hb3 s3 hP3
 go_region
 all_goals go_wp2_with fail
 all_goals clear q1 q5
 all_goals go_region_with (go_at_call 47;refine(z8d pg e p w _ ?_ ?_ ?_ ?_ ?_ ?_ ?_).mono ?_;exact HB3.o.drew.drew;exact HS3.o;exact HP3.o;exact HLT.o;exact HB1.o;exact HB2.o;exact QE.out;rintro r w3 ⟨rfl,k0,k1,k2,hr4,hbw⟩;obtain⟨c0,z0⟩:=zg hr4 0 _ rfl;obtain⟨c1,z1⟩:=zg hr4 1 _ rfl;have HR4:=za hr4;have HBW:=za hbw;clear hr4 hbw)
 all_goals go_wp2_with fail
 all_goals exact bodyPost_ret (v:=zf6 8 p) (results_cell_row Tryz.results27 _ _ w.heap.size 29 _ (0,0) _ rfl (jr (by exact HR4.o) 8 p rfl) Tryz.underlying29 rfl (by kernel_rfl)) rfl ⟨rfl,zcu HBW.o⟩
end
end Go.Proofs.YtinhekmmdlhfkaaGreatDoor
