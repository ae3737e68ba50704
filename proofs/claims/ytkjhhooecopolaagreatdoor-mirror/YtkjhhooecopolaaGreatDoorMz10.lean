import Derived.Test.YtkjhhooecopolaaGreatDoorMz09
import Derived.Deep.LoopGhost
import Derived.Deep.RegionLaw
import Derived.Deep.RegionWith
set_option maxRecDepth 100000
set_option maxHeartbeats 4000000
namespace Go.Proofs.YtkjhhooecopolaaGreatDoor
open Go.RowKit
theorem qG{c:Nat}{l:List Pl.Tk}(h:(Pl.mk c l).1=true):(Pl.mk c l).2.length+1=l.length:=by
 cases l with
 |nil=>simp[Pl.mk] at h
 |cons t r=>
  by_cases hk:t.k=c
  ·simp[Pl.mk,hk]
  ·simp[Pl.mk,hk] at h
theorem xV{c:Nat}{l:List Pl.Tk}(h:(Pl.mk c l).1=false):(Pl.mk c l).2=l:=by
 cases l with
 |nil=>rfl
 |cons t r=>
  by_cases hk:t.k=c
  ·simp[Pl.mk,hk] at h
  ·simp[Pl.mk,hk]
theorem vY{α:Type}{item:List Pl.Tk->Bool×List Pl.Tk×α}{g:Nat}{l:List Pl.Tk}{acc:List α}(h:(item l).1=false):Pl.bK item (g+1) l acc=(false,(item l).2.1,acc):=by
 rw[Pl.bK,if_neg (by rw[h];simp)]
theorem vZ{α:Type}{item:List Pl.Tk->Bool×List Pl.Tk×α}{g:Nat}{l:List Pl.Tk}{acc:List α}(h:(item l).1=true)(h2:(Pl.mk 44 (item l).2.1).1=true):
  Pl.bK item (g+1) l acc=Pl.bK item g (Pl.mk 44 (item l).2.1).2 (acc++[(item l).2.2]):=by
 rw[Pl.bK,if_pos h,if_pos h2]
theorem wh{α:Type}{item:List Pl.Tk->Bool×List Pl.Tk×α}{g:Nat}{l:List Pl.Tk}{acc:List α}(h:(item l).1=true)(h2:(Pl.mk 44 (item l).2.1).1=false):
  Pl.bK item (g+1) l acc=((Pl.mk 41 (item l).2.1).1,(Pl.mk 41 (item l).2.1).2,acc++[(item l).2.2]):=by
 rw[Pl.bK,if_pos h,if_neg (by rw[h2];simp)]
theorem aes{α:Type}(item:List Pl.Tk->Bool×List Pl.Tk×α)(E:List α->List (List (Int×Int)))(B:List Pl.Tk->List α->Prop)(hO:mW)(rb:Nat)(s:ByteArray)(A:List Pl.Tk)(cx:Cx rb s A)
  (hI:∀l acc w,RD rb s A l (E acc) w->Gl w->B l acc->Calls Tryz.prog 196 #[.pointer (some ⟨rb,0,none⟩)] w (nV rb s A (item l).1 (item l).2.1 (E (acc++[(item l).2.2])) w))
  (hd:∀l,(item l).1=true->(item l).2.1.length<l.length)
  (hB:∀l acc,B l acc->(item l).1=true->B (Pl.mk 44 (item l).2.1).2 (acc++[(item l).2.2]))
  (f:Nat)(l:List Pl.Tk)(acc:List α)(w:World)(hR:RD rb s A l (E acc) w)(hG:Gl w)(hBl:B l acc)(hf:l.length<=f):
  Calls Tryz.prog 149 #[.pointer (some ⟨rb,0,none⟩),.func (.func 196) #[.pointer (some ⟨rb,0,none⟩)] #[]] w (nV rb s A (Pl.bK item f l acc).1 (Pl.bK item f l acc).2.1 (E (Pl.bK item f l acc).2.2) w):=by
 generalize hT:Pl.bK item f l acc=T;have HI:Hid (∀l acc w,RD rb s A l (E acc) w->Gl w->B l acc->Calls Tryz.prog 196 #[.pointer (some ⟨rb,0,none⟩)] w (nV rb s A (item l).1 (item l).2.1 (E (acc++[(item l).2.2])) w)):=hI;have HD:Hid (∀l,(item l).1=true->(item l).2.1.length<l.length):=hd;have HB:Hid (∀l acc,B l acc->(item l).1=true->B (Pl.mk 44 (item l).2.1).2 (acc++[(item l).2.2])):=hB;have HS:Hid (∃l acc,l.length<=f/\RD rb s A l (E acc) w/\Gl w/\B l acc/\Below rb w w/\Pl.bK item f l acc=T):=⟨l,acc,hf,hR,hG,hBl,Below.refl _ _,hT⟩;clear hI hd hB hT hR hG hBl hf
 go_enter Tryz.func149,Tryz.ntmps149
 go_wp2_with fail
 go_loopg [6] f (fun g s6 wr=>Hid (∃l acc,l.length<=g/\RD rb s A l (E acc) wr/\Gl wr/\B l acc/\Below rb w wr/\Pl.bK item g l acc=T))
 case atStart=>exact HS
 case round=>
  obtain⟨l,acc,hlen,hR,hG,hBl,ag,hT⟩:=hrel.out;have hne:l≠[]:=by
   obtain⟨_,_,_,_,h⟩:=hR.suffix;rw[h];simp
  obtain⟨g1,rfl⟩:∃g1,gk=g1+1:=⟨gk-1,by have:=gL.2 hne;omega⟩
  clear hne;have HR:Hid (Pl.bK item (g1+1) l acc=T):=hT;have HL:Hid (l.length<=g1+1):=hlen;clear hT hlen
  go_wp2_with fail
  refine(HI.out l acc wr hR hG hBl).mono ?_;rintro e w1 ⟨rfl,⟨qH,dJ,hrg1⟩,hb1⟩;have cz:Gl w1:=hG.below hb1 cx.rb;have HE:Hid ((item l).1=true->qH=E (acc++[(item l).2.2])):=hrg1;clear hrg1;cases hi:(item l).1
  ·have hT:=HR.out;rw[vY hi] at hT;subst hT;clear HR HE HB HD HI HS hrel
   go_wp2_with fail
   go_ret
   exact⟨rfl,⟨qH,dJ,fun h=>(by cases h)⟩,ag.trans hb1⟩
  ·have hrg:=HE.out hi;subst hrg;clear HE
   go_wp2_with fail
   refine(rV hO 44 (by decide) rb s A _ _ w1 cx dJ cz).mono ?_
   rintro e w2 ⟨rfl,cu,hb2⟩;have jB:Gl w2:=cz.below hb2 cx.rb;simp only[show(44:UInt8).toNat=44 from rfl] at cu⊢
   cases hm:(Pl.mk 44 (item l).2.1).1
   ·have hT:=HR.out;rw[wh hi hm] at hT;subst hT;rw[xV hm] at cu;clear HR HB HD HI HS hrel
    go_wp2_with fail
    refine(rV hO 41 (by decide) rb s A _ _ w2 cx cu jB).mono ?_
    rintro e w3 ⟨rfl,l8,hb3⟩;simp only[show(41:UInt8).toNat=41 from rfl] at l8⊢
    go_wp2_with fail
    go_ret
    exact⟨rfl,⟨_,l8,fun _=>rfl⟩,((ag.trans hb1).trans hb2).trans hb3⟩
   ·have hT:=HR.out;rw[vZ hi hm] at hT;have HN:Hid (∃l acc,l.length<=g1/\RD rb s A l (E acc) w2/\Gl w2/\B l acc/\Below rb w w2/\Pl.bK item g1 l acc=T):=by
     refine⟨_,_,?_,cu,jB,HB.out l acc hBl hi,(ag.trans hb1).trans hb2,hT⟩;have q1:=HD.out l hi;have q2:=qG hm;have q3:=HL.out;omega
    clear hT HR
    go_wp2_with fail
    go_roundg g1
    case measure=>omega
    case rel=>exact HN
theorem aet{α:Type}(item:List Pl.Tk->Bool×List Pl.Tk×α)(E:List α->List (List (Int×Int)))(B:List Pl.Tk->List α->Prop)(hO:mW)(rb:Nat)(s:ByteArray)(A:List Pl.Tk)(cx:Cx rb s A)
  (hI:∀l acc w,RD rb s A l (E acc) w->Gl w->B l acc->Calls Tryz.prog 150 #[.pointer (some ⟨rb,0,none⟩)] w (nV rb s A (item l).1 (item l).2.1 (E (acc++[(item l).2.2])) w))
  (hd:∀l,(item l).1=true->(item l).2.1.length<l.length)
  (hB:∀l acc,B l acc->(item l).1=true->B (Pl.mk 44 (item l).2.1).2 (acc++[(item l).2.2]))
  (f:Nat)(l:List Pl.Tk)(acc:List α)(w:World)(hR:RD rb s A l (E acc) w)(hG:Gl w)(hBl:B l acc)(hf:l.length<=f):
  Calls Tryz.prog 149 #[.pointer (some ⟨rb,0,none⟩),.func (.func 150) #[.pointer (some ⟨rb,0,none⟩)] #[]] w (nV rb s A (Pl.bK item f l acc).1 (Pl.bK item f l acc).2.1 (E (Pl.bK item f l acc).2.2) w):=by
 generalize hT:Pl.bK item f l acc=T;have HI:Hid (∀l acc w,RD rb s A l (E acc) w->Gl w->B l acc->Calls Tryz.prog 150 #[.pointer (some ⟨rb,0,none⟩)] w (nV rb s A (item l).1 (item l).2.1 (E (acc++[(item l).2.2])) w)):=hI;have HD:Hid (∀l,(item l).1=true->(item l).2.1.length<l.length):=hd;have HB:Hid (∀l acc,B l acc->(item l).1=true->B (Pl.mk 44 (item l).2.1).2 (acc++[(item l).2.2])):=hB;have HS:Hid (∃l acc,l.length<=f/\RD rb s A l (E acc) w/\Gl w/\B l acc/\Below rb w w/\Pl.bK item f l acc=T):=⟨l,acc,hf,hR,hG,hBl,Below.refl _ _,hT⟩;clear hI hd hB hT hR hG hBl hf
 go_enter Tryz.func149,Tryz.ntmps149
 go_wp2_with fail
 go_loopg [6] f (fun g s6 wr=>Hid (∃l acc,l.length<=g/\RD rb s A l (E acc) wr/\Gl wr/\B l acc/\Below rb w wr/\Pl.bK item g l acc=T))
 case atStart=>exact HS
 case round=>
  obtain⟨l,acc,hlen,hR,hG,hBl,ag,hT⟩:=hrel.out;have hne:l≠[]:=by
   obtain⟨_,_,_,_,h⟩:=hR.suffix;rw[h];simp
  obtain⟨g1,rfl⟩:∃g1,gk=g1+1:=⟨gk-1,by have:=gL.2 hne;omega⟩
  clear hne;have HR:Hid (Pl.bK item (g1+1) l acc=T):=hT;have HL:Hid (l.length<=g1+1):=hlen;clear hT hlen
  go_wp2_with fail
  refine(HI.out l acc wr hR hG hBl).mono ?_;rintro e w1 ⟨rfl,⟨qH,dJ,hrg1⟩,hb1⟩;have cz:Gl w1:=hG.below hb1 cx.rb;have HE:Hid ((item l).1=true->qH=E (acc++[(item l).2.2])):=hrg1;clear hrg1;cases hi:(item l).1
  ·have hT:=HR.out;rw[vY hi] at hT;subst hT;clear HR HE HB HD HI HS hrel
   go_wp2_with fail
   go_ret
   exact⟨rfl,⟨qH,dJ,fun h=>(by cases h)⟩,ag.trans hb1⟩
  ·have hrg:=HE.out hi;subst hrg;clear HE
   go_wp2_with fail
   refine(rV hO 44 (by decide) rb s A _ _ w1 cx dJ cz).mono ?_
   rintro e w2 ⟨rfl,cu,hb2⟩;have jB:Gl w2:=cz.below hb2 cx.rb;simp only[show(44:UInt8).toNat=44 from rfl] at cu⊢
   cases hm:(Pl.mk 44 (item l).2.1).1
   ·have hT:=HR.out;rw[wh hi hm] at hT;subst hT;rw[xV hm] at cu;clear HR HB HD HI HS hrel
    go_wp2_with fail
    refine(rV hO 41 (by decide) rb s A _ _ w2 cx cu jB).mono ?_
    rintro e w3 ⟨rfl,l8,hb3⟩;simp only[show(41:UInt8).toNat=41 from rfl] at l8⊢
    go_wp2_with fail
    go_ret
    exact⟨rfl,⟨_,l8,fun _=>rfl⟩,((ag.trans hb1).trans hb2).trans hb3⟩
   ·have hT:=HR.out;rw[vZ hi hm] at hT;have HN:Hid (∃l acc,l.length<=g1/\RD rb s A l (E acc) w2/\Gl w2/\B l acc/\Below rb w w2/\Pl.bK item g1 l acc=T):=by
     refine⟨_,_,?_,cu,jB,HB.out l acc hBl hi,(ag.trans hb1).trans hb2,hT⟩;have q1:=HD.out l hi;have q2:=qG hm;have q3:=HL.out;omega
    clear hT HR
    go_wp2_with fail
    go_roundg g1
    case measure=>omega
    case rel=>exact HN
theorem aeu{α:Type}(item:List Pl.Tk->Bool×List Pl.Tk×α)(E:List α->List (List (Int×Int)))(B:List Pl.Tk->List α->Prop)(hO:mW)(rb:Nat)(s:ByteArray)(A:List Pl.Tk)(cx:Cx rb s A)
  (hI:∀l acc w,RD rb s A l (E acc) w->Gl w->B l acc->Calls Tryz.prog 95 #[.pointer (some ⟨rb,0,none⟩)] w (nV rb s A (item l).1 (item l).2.1 (E (acc++[(item l).2.2])) w))
  (hd:∀l,(item l).1=true->(item l).2.1.length<l.length)
  (hB:∀l acc,B l acc->(item l).1=true->B (Pl.mk 44 (item l).2.1).2 (acc++[(item l).2.2]))
  (f:Nat)(l:List Pl.Tk)(acc:List α)(w:World)(hR:RD rb s A l (E acc) w)(hG:Gl w)(hBl:B l acc)(hf:l.length<=f):
  Calls Tryz.prog 149 #[.pointer (some ⟨rb,0,none⟩),.func (.func 95) #[.pointer (some ⟨rb,0,none⟩)] #[]] w (nV rb s A (Pl.bK item f l acc).1 (Pl.bK item f l acc).2.1 (E (Pl.bK item f l acc).2.2) w):=by
 generalize hT:Pl.bK item f l acc=T;have HI:Hid (∀l acc w,RD rb s A l (E acc) w->Gl w->B l acc->Calls Tryz.prog 95 #[.pointer (some ⟨rb,0,none⟩)] w (nV rb s A (item l).1 (item l).2.1 (E (acc++[(item l).2.2])) w)):=hI;have HD:Hid (∀l,(item l).1=true->(item l).2.1.length<l.length):=hd;have HB:Hid (∀l acc,B l acc->(item l).1=true->B (Pl.mk 44 (item l).2.1).2 (acc++[(item l).2.2])):=hB;have HS:Hid (∃l acc,l.length<=f/\RD rb s A l (E acc) w/\Gl w/\B l acc/\Below rb w w/\Pl.bK item f l acc=T):=⟨l,acc,hf,hR,hG,hBl,Below.refl _ _,hT⟩;clear hI hd hB hT hR hG hBl hf
 go_enter Tryz.func149,Tryz.ntmps149
 go_wp2_with fail
 go_loopg [6] f (fun g s6 wr=>Hid (∃l acc,l.length<=g/\RD rb s A l (E acc) wr/\Gl wr/\B l acc/\Below rb w wr/\Pl.bK item g l acc=T))
 case atStart=>exact HS
 case round=>
  obtain⟨l,acc,hlen,hR,hG,hBl,ag,hT⟩:=hrel.out;have hne:l≠[]:=by
   obtain⟨_,_,_,_,h⟩:=hR.suffix;rw[h];simp
  obtain⟨g1,rfl⟩:∃g1,gk=g1+1:=⟨gk-1,by have:=gL.2 hne;omega⟩
  clear hne;have HR:Hid (Pl.bK item (g1+1) l acc=T):=hT;have HL:Hid (l.length<=g1+1):=hlen;clear hT hlen
  go_wp2_with fail
  refine(HI.out l acc wr hR hG hBl).mono ?_;rintro e w1 ⟨rfl,⟨qH,dJ,hrg1⟩,hb1⟩;have cz:Gl w1:=hG.below hb1 cx.rb;have HE:Hid ((item l).1=true->qH=E (acc++[(item l).2.2])):=hrg1;clear hrg1;cases hi:(item l).1
  ·have hT:=HR.out;rw[vY hi] at hT;subst hT;clear HR HE HB HD HI HS hrel
   go_wp2_with fail
   go_ret
   exact⟨rfl,⟨qH,dJ,fun h=>(by cases h)⟩,ag.trans hb1⟩
  ·have hrg:=HE.out hi;subst hrg;clear HE
   go_wp2_with fail
   refine(rV hO 44 (by decide) rb s A _ _ w1 cx dJ cz).mono ?_
   rintro e w2 ⟨rfl,cu,hb2⟩;have jB:Gl w2:=cz.below hb2 cx.rb;simp only[show(44:UInt8).toNat=44 from rfl] at cu⊢
   cases hm:(Pl.mk 44 (item l).2.1).1
   ·have hT:=HR.out;rw[wh hi hm] at hT;subst hT;rw[xV hm] at cu;clear HR HB HD HI HS hrel
    go_wp2_with fail
    refine(rV hO 41 (by decide) rb s A _ _ w2 cx cu jB).mono ?_
    rintro e w3 ⟨rfl,l8,hb3⟩;simp only[show(41:UInt8).toNat=41 from rfl] at l8⊢
    go_wp2_with fail
    go_ret
    exact⟨rfl,⟨_,l8,fun _=>rfl⟩,((ag.trans hb1).trans hb2).trans hb3⟩
   ·have hT:=HR.out;rw[vZ hi hm] at hT;have HN:Hid (∃l acc,l.length<=g1/\RD rb s A l (E acc) w2/\Gl w2/\B l acc/\Below rb w w2/\Pl.bK item g1 l acc=T):=by
     refine⟨_,_,?_,cu,jB,HB.out l acc hBl hi,(ag.trans hb1).trans hb2,hT⟩;have q1:=HD.out l hi;have q2:=qG hm;have q3:=HL.out;omega
    clear hT HR
    go_wp2_with fail
    go_roundg g1
    case measure=>omega
    case rel=>exact HN
namespace Pl
theorem Aa(c:Nat)(l:List Tk):(mk c l).2.length<=l.length:=by
 cases l with
 |nil=>simp[mk]
 |cons t r=>by_cases hk:t.k=c<;>simp[mk,hk]
theorem Ab{c:Nat}{l:List Tk}(h:(mk c l).1=true):(mk c l).2.length<l.length:=by
 have:=qG h;omega
theorem wj{q:List UInt8}{l:List Tk}(h:(wd q l).1=true):(wd q l).2.length<l.length:=by
 cases l with
 |nil=>simp[wd] at h
 |cons t r=>
  by_cases hk:t.k=119/\t.raw=q
  ·simp only[wd];rw[if_pos hk];simp
  ·simp only[wd] at h;rw[if_neg hk] at h;cases h
theorem Hd(l:List Tk)(h:(cE l).1=true):(cE l).2.1.length<l.length:=by
 match l,h with
 |[],h=>cases h
 |[x],h=>cases h
 |x::y::r,h=>
  by_cases hx:x.k=110
  ·by_cases hy:y.k=110
   ·simp[cE,hx,hy];omega
   ·simp[cE,hx,hy] at h
  ·simp[cE,hx] at h
theorem He{α:Type}(item:List Tk->Bool×List Tk×α)(hd:∀l,(item l).1=true->(item l).2.1.length<l.length):
  ∀(f:Nat)(l:List Tk)(acc:List α),(bK item f l acc).1=true->(bK item f l acc).2.1.length<l.length/\(bK item f l acc).2.2.length+(bK item f l acc).2.1.length<=acc.length+l.length
 |0,l,acc,h=>by cases h
 |f+1,l,acc,h=>by
  cases hi:(item l).1
  ·rw[vY hi] at h;cases h
  ·have h1:=hd l hi;cases hm:(mk 44 (item l).2.1).1
   ·rw[wh hi hm] at h⊢;have h2:=Ab h;simp only[aS,bO,fE];omega
   ·rw[vZ hi hm] at h⊢;have ih:=He item hd f _ _ h;have h2:=Ab hm;simp only[aS,bO,fE] at ih;omega
theorem Hf(l:List Tk)(h:(di l).1=true):(di l).2.1.length<l.length:=by
 unfold di at h⊢;by_cases h1:(mk 40 l).1=true
 ·have q:=Ab h1;rw[if_pos h1] at h⊢;by_cases h2:(mk 41 (mk 40 l).2).1=true
  ·rw[if_pos h2] at h⊢;have:=Ab h2;simp only;omega
  ·rw[if_neg h2] at h⊢;have:=(He cE Hd _ _ _ h).1;omega
 ·rw[if_neg h1] at h;cases h
theorem C4(l:List Tk)(h:(bo l).1=true):(bo l).2.1.length<l.length/\(bo l).2.2.length+(bo l).2.1.length<=l.length:=by
 unfold bo at h⊢;by_cases h0:(wd EMPTY l).1=true
 ·rw[if_pos h0];have:=wj h0;simp only[fE];omega
 ·rw[if_neg h0] at h⊢;by_cases h1:(mk 40 l).1=true
  ·have q:=Ab h1;rw[if_pos h1] at h⊢;have:=He di Hf _ _ _ h;simp only[fE] at this;omega
  ·rw[if_neg h1] at h;cases h
theorem aev(l:List Tk)(h:(eJ l).1=true):(eJ l).2.1.length<l.length:=by
 unfold eJ at h⊢;by_cases h0:(wd EMPTY l).1=true
 ·rw[if_pos h0];exact wj h0
 ·rw[if_neg h0] at h⊢;by_cases h1:(mk 40 l).1=true
  ·have q:=Ab h1;rw[if_pos h1] at h⊢;have:=(He bo (fun l h=>(C4 l h).1) _ _ _ h).1
   omega
  ·rw[if_neg h1] at h;cases h
end Pl
theorem qA.snoc{rb:Nat}{rv:Value}{rg:List (List (Int×Int))}{w w1:World}{o:Obj}{g cap:Nat}{vs:List Value}
  (h1:vs.length=rg.length)(h2:w.ownsRow (rb+1) 127 1 rv rg.length vs)
  (h3:∀(i:Nat) v g,vs[i]?=some v->rg[i]?=some g->w.ownsRow (rb+1) 81 1 v g.length (pR g))
  (h4:∀(i j:Nat) v u k,vs[i]?=some v->vs[j]?=some u->v.ownBlock=some k->u.ownBlock=some k->i=j)
  (hgrow:(w.alloc o).grownBy w1 rv.ownBlock)(ho:w1.ownsRow (rb+1) 127 1 (.slice (some ⟨g,0,none⟩) (rg.length+1) cap) (rg.length+1) (vs++[.slice none 0 0])):
  qA rb (.slice (some ⟨g,0,none⟩) (rg.length+1) cap) (rg++[[]]) (w1.setCell ⟨rb,6,none⟩ (.slice (some ⟨g,0,none⟩) (rg.length+1) cap)):=by
 refine⟨vs++[.slice none 0 0],by simp[h1],?_,?_,?_⟩
 ·simp only[aS,bO,fE,jd];refine aJ ho fun k hk=>bg ?_ _
  have:=(au ho k hk).1;omega
 ·intro i v g' hi hg';by_cases hin:i<vs.length
  ·rw[dZ hin] at hi;rw[dZ (by omega)] at hg'
   have hq:=h3 i v g' hi hg';refine aJ hq fun k hk=>?_
   have:=(au hq k hk);obtain⟨c,hc⟩:=nQ hq hk;rw[bg (by omega)]
   exact CH hgrow k this.2 (nP h2 hc (by decide))
  ·have hi2:i=vs.length:=by
    have:=(bT.1 hi).1;simp at this;omega
   subst hi2;have e1:v=.slice none 0 0:=by simpa using hi.symm
   have e2:g'=[]:=by rw[h1] at hg';simpa using hg'.symm
   subst e1 e2;exact World.ownsRow_nil _ _ _ _
 ·intro i j v u k hi hj hv hu;have key:∀(i:Nat) v,(vs++[Value.slice none 0 0])[i]?=some v->v.ownBlock=some k->vs[i]?=some v:=fun i v hi hv=>by
   by_cases hin:i<vs.length
   ·rwa[dZ hin] at hi
   ·have hi2:i=vs.length:=by
     have:=(bT.1 hi).1;simp at this;omega
    subst hi2;have e1:v=.slice none 0 0:=by simpa using hi.symm
    subst e1;cases hv
  exact h4 i j v u k (key i v hi hv) (key j u hj hu) hv hu
theorem aew:(Tryz.prog.info? 127).map (fun i=>(i.zero,i.size,i.bytes))=some (some (.slice none 0 0),1,24):=by kernel_rfl
theorem aex(hO:mW)(rb:Nat)(s:ByteArray)(A l:List Pl.Tk)(rg:List (List (Int×Int)))(w:World)(cx:Cx rb s A)(hR:RD rb s A l rg w)(hG:Gl w)(hrg:rg.length<=1000):
  Calls Tryz.prog 150 #[.pointer (some ⟨rb,0,none⟩)] w (nV rb s A (Pl.di l).1 (Pl.di l).2.1 (rg++[(Pl.di l).2.2]) w):=by
 generalize hT:Pl.di l=T;have HT:Hid (Pl.di l=T):=hT;clear hT;obtain⟨i0,hi,hz0,hz1,hz2⟩:=info_parts aew;have hlt:=hR.lt;obtain⟨c,t,r0,tv,rv,hc,hl,hbk,hown,vs,h1,h2,h3,h4⟩:=id hR;have c6:w.cell? ⟨rb,6,none⟩=some rv:=cell_of hbk 6;have HH:Hid (∀w1 g cap o,(w.alloc o).grownBy w1 rv.ownBlock->w1.ownsRow (rb+1) 127 1 (.slice (some ⟨g,0,none⟩) (rg.length+1) cap) (rg.length+1) (vs++[.slice none 0 0])->
   RD rb s A l (rg++[[]]) (w1.setCell ⟨rb,6,none⟩ (.slice (some ⟨g,0,none⟩) (rg.length+1) cap))/\Below rb w (w1.setCell ⟨rb,6,none⟩ (.slice (some ⟨g,0,none⟩) (rg.length+1) cap))):=by
  intro w1 g cap o hgrow ho;have k6:=(CH hgrow rb hlt (rT h2 rb (by omega))).trans hbk
  refine⟨⟨c,t,r0,tv,_,hc,hl,heap_set k6 _,aJ hown fun k hk=>?_,qA.snoc h1 h2 h3 h4 hgrow ho⟩,?_⟩
  ·obtain⟨c9,uq⟩:=nQ hown hk;have:=(au hown k hk);rw[bg (by omega)]
   exact CH hgrow k this.2 (nP h2 uq (by decide))
  ·exact(((Below.refl rb w).alloc (eo hlt) _).grown hgrow (by simp;omega) (fun k hk=>by have:=(au h2 k hk).1;omega)).setCell (ae _) _
 clear h1 h3 h4
 go_enter Tryz.func150,Tryz.ntmps150
 go_wp2_with (at_builtin;refine wpList_append_lies _ rfl (.tmp 7) (.tmp 8) 78 rfl (rb+1) 127 i0 _ 1 24 Tryz.underlying78 hi hz0 hz1 hz2 rfl (by decide) rv rg.length vs rfl (aJ h2 (fun k hk=>Below.heap_alloc _ _ _ (au h2 k hk).2)) ⟨w.heap.size,0,none⟩ 1 1 [.slice none 0 0] rfl rfl (World.news_of_block (cs:= #[.slice none 0 0]) (t:=127) (fr:=(0,0)) (heap_alloc_new w _)) (by simp[Value.oneCell']) (by decide) (by unfold maxLen;omega) (by omega) (by simp;omega) (w.heap.size+1) (by simp) ?_;intro g cap w1 ho hgrow hat vO;have hb1:=(CH hgrow rb hlt (rT h2 rb (by omega))).trans hbk;have d6:w1.cell? ⟨rb,6,none⟩=some rv:=cell_of hb1 6;have f6:w1.frozen? ⟨rb,6,none⟩=false:=aB hb1 6)
 obtain⟨dJ,ag⟩:=HH.out w1 g cap _ hgrow ho;have cz:=hG.below ag cx.rb;have hlA:=dJ.le;have hcl:=cx.len;clear HH hgrow ho hat vO hb1 d6 f6 c6 h2 hown hbk hl hc hi hz0 hz1 hz2;refine(rV hO 40 (by decide) rb s A l _ _ cx dJ cz).mono ?_
 rintro e w2 ⟨rfl,cu,hb2⟩;simp only[show(40:UInt8).toNat=40 from rfl] at cu⊢
 have jB:Gl w2:=cz.below hb2 cx.rb;cases hm:(Pl.mk 40 l).1
 ·have hT:=HT.out;rw[Pl.di,if_neg (by rw[hm];simp)] at hT
  subst hT;rw[xV hm] at cu;clear HT
  go_wp2_with fail
  go_ret
  exact⟨rfl,⟨_,cu,fun h=>(by cases h)⟩,ag.trans hb2⟩
 ·go_wp2_with fail
  refine(rV hO 41 (by decide) rb s A _ _ _ cx cu jB).mono ?_
  rintro e w3 ⟨rfl,l8,hb3⟩;simp only[show(41:UInt8).toNat=41 from rfl] at l8⊢
  have xW:Gl w3:=jB.below hb3 cx.rb;cases hm2:(Pl.mk 41 (Pl.mk 40 l).2).1
  ·have hT:=HT.out;rw[Pl.di,if_pos hm,if_neg (by rw[hm2];simp)] at hT
   subst hT;rw[xV hm2] at l8;have hlm:=Pl.Aa 40 l;clear HT
   go_wp2_with fail
   refine(aes Pl.cE (fun acc=>rg++[acc]) (fun l acc=>acc.length+l.length<=1000) hO rb s A cx
    (fun l' acc w' hR' C5 hB'=>aer hO rb s A l' rg acc w' cx hR' C5 (by omega) hrg) Pl.Hd
    (fun l' acc hB' hi'=>by
     have q1:=Pl.Hd l' hi';have q2:=Pl.Aa 44 (Pl.cE l').2.1;simp only[aS,bO,fE];omega)
    l.length (Pl.mk 40 l).2 [] w3 l8 xW (by simp;omega) hlm).mono ?_
   rintro e w4 ⟨rfl,⟨uy,uz,uA⟩,hb4⟩
   go_wp2_with fail
   go_ret
   exact⟨rfl,⟨uy,uz,uA⟩,((ag.trans hb2).trans hb3).trans hb4⟩
  ·have hT:=HT.out;rw[Pl.di,if_pos hm,if_pos hm2] at hT;subst hT;clear HT
   go_wp2_with fail
   go_ret
   exact⟨rfl,⟨_,l8,fun _=>rfl⟩,(ag.trans hb2).trans hb3⟩
theorem uB{q:List UInt8}{l:List Pl.Tk}(h:(Pl.wd q l).1=false):(Pl.wd q l).2=l:=by
 cases l with
 |nil=>rfl
 |cons t r=>
  by_cases hk:t.k=119/\t.raw=q
  ·simp only[Pl.wd] at h;rw[if_pos hk] at h;cases h
  ·simp only[Pl.wd];rw[if_neg hk]
def Pl.aH(l:List Pl.Tk):Bool×List Pl.Tk×List (List (List (Int×Int))):=
 if(Pl.wd Pl.bp l).1=true then((Pl.bo (Pl.wd Pl.bp l).2).1,(Pl.bo (Pl.wd Pl.bp l).2).2.1,[(Pl.bo (Pl.wd Pl.bp l).2).2.2])
 else if(Pl.wd Pl.cJ l).1=true then Pl.eJ (Pl.wd Pl.cJ l).2
 else(false,l,[])
theorem TU(hO:mW)(rb:Nat)(s:ByteArray)(A l:List Pl.Tk)(rg:List (List (Int×Int)))(w:World)(cx:Cx rb s A)(hR:RD rb s A l rg w)(hG:Gl w)(hrg:rg.length+l.length<=1000):
  Calls Tryz.prog 95 #[.pointer (some ⟨rb,0,none⟩)] w (nV rb s A (Pl.bo l).1 (Pl.bo l).2.1 (rg++(Pl.bo l).2.2) w):=by
 generalize hT:Pl.bo l=T;have HT:Hid (Pl.bo l=T):=hT;clear hT;have hlt:=hR.lt
 go_enter Tryz.func95,Tryz.ntmps95
 go_wp2_with fail
 refine(GQ hO Pl.EMPTY 69 [77,80,84,89] rfl (by decide) rb s A l _ _ cx hR hG).mono ?_
 rintro e w1 ⟨rfl,dJ,hb1⟩;have cz:Gl w1:=hG.below hb1 cx.rb;cases hm:(Pl.wd Pl.EMPTY l).1
 ·rw[uB hm] at dJ
  go_wp2_with fail
  refine(rV hO 40 (by decide) rb s A l _ _ cx dJ cz).mono ?_
  rintro e w2 ⟨rfl,cu,hb2⟩;simp only[show(40:UInt8).toNat=40 from rfl] at cu⊢
  have jB:Gl w2:=cz.below hb2 cx.rb;cases hm2:(Pl.mk 40 l).1
  ·have hT:=HT.out;rw[Pl.bo,if_neg (by rw[hm];simp),if_neg (by rw[hm2];simp)] at hT
   subst hT;rw[xV hm2] at cu;clear HT
   go_wp2_with fail
   go_ret
   exact⟨rfl,⟨_,cu,fun h=>(by cases h)⟩,hb1.trans hb2⟩
  ·have hT:=HT.out;rw[Pl.bo,if_neg (by rw[hm];simp),if_pos hm2] at hT
   subst hT;clear HT;have hlm:=Pl.Aa 40 l
   go_wp2_with fail
   refine(aet Pl.di (fun acc=>rg++acc) (fun l acc=>rg.length+acc.length+l.length<=1000) hO rb s A cx
    (fun l' acc w' hR' C5 hB'=>by
     rw[<-fD];exact aex hO rb s A l' (rg++acc) w' cx hR' C5 (by simp;omega)) Pl.Hf
    (fun l' acc hB' hi'=>by
     have q1:=Pl.Hf l' hi';have q2:=Pl.Aa 44 (Pl.di l').2.1;simp only[aS,bO,fE];omega)
    l.length (Pl.mk 40 l).2 [] w2 (by simpa using cu) jB (by simp;omega) hlm).mono ?_
   rintro e w4 ⟨rfl,⟨uy,uz,uA⟩,hb4⟩
   go_wp2_with fail
   go_ret
   exact⟨rfl,⟨uy,uz,uA⟩,(hb1.trans hb2).trans hb4⟩
 ·have hT:=HT.out;rw[Pl.bo,if_pos hm] at hT;subst hT;clear HT
  go_wp2_with fail
  go_ret
  exact⟨rfl,⟨_,dJ,fun _=>by simp⟩,hb1⟩
theorem aey(hO:mW)(rb:Nat)(s:ByteArray)(A l:List Pl.Tk)(rg:List (List (Int×Int)))(w:World)(cx:Cx rb s A)(hR:RD rb s A l rg w)(hG:Gl w)(hrg:rg.length+l.length<=1000):
  Calls Tryz.prog 96 #[.pointer (some ⟨rb,0,none⟩)] w (nV rb s A (Pl.eJ l).1 (Pl.eJ l).2.1 (rg++(Pl.eJ l).2.2.flatten) w):=by
 generalize hT:Pl.eJ l=T;have HT:Hid (Pl.eJ l=T):=hT;clear hT;have hlt:=hR.lt
 go_enter Tryz.func96,Tryz.ntmps96
 go_wp2_with fail
 refine(GQ hO Pl.EMPTY 69 [77,80,84,89] rfl (by decide) rb s A l _ _ cx hR hG).mono ?_
 rintro e w1 ⟨rfl,dJ,hb1⟩;have cz:Gl w1:=hG.below hb1 cx.rb;cases hm:(Pl.wd Pl.EMPTY l).1
 ·rw[uB hm] at dJ
  go_wp2_with fail
  refine(rV hO 40 (by decide) rb s A l _ _ cx dJ cz).mono ?_
  rintro e w2 ⟨rfl,cu,hb2⟩;simp only[show(40:UInt8).toNat=40 from rfl] at cu⊢
  have jB:Gl w2:=cz.below hb2 cx.rb;cases hm2:(Pl.mk 40 l).1
  ·have hT:=HT.out;rw[Pl.eJ,if_neg (by rw[hm];simp),if_neg (by rw[hm2];simp)] at hT
   subst hT;rw[xV hm2] at cu;clear HT
   go_wp2_with fail
   go_ret
   exact⟨rfl,⟨_,cu,fun h=>(by cases h)⟩,hb1.trans hb2⟩
  ·have hT:=HT.out;rw[Pl.eJ,if_neg (by rw[hm];simp),if_pos hm2] at hT
   subst hT;clear HT;have hlm:=Pl.Aa 40 l
   go_wp2_with fail
   refine(aeu Pl.bo (fun acc=>rg++acc.flatten) (fun l acc=>rg.length+acc.flatten.length+l.length<=1000) hO rb s A cx
    (fun l' acc w' hR' C5 hB'=>by
     have e:rg++(acc++[(Pl.bo l').2.2]).flatten=(rg++acc.flatten)++(Pl.bo l').2.2:=by simp
     rw[e];exact TU hO rb s A l' (rg++acc.flatten) w' cx hR' C5 (by rw[aS];exact hB')) (fun l h=>(Pl.C4 l h).1)
    (fun l' acc hB' hi'=>by
     have q1:=(Pl.C4 l' hi').2;have q2:=Pl.Aa 44 (Pl.bo l').2.1;have e:(acc++[(Pl.bo l').2.2]).flatten.length=acc.flatten.length+(Pl.bo l').2.2.length:=by
      rw[Ra,aS];simp
     show rg.length+(acc++[(Pl.bo l').2.2]).flatten.length+(Pl.mk 44 (Pl.bo l').2.1).2.length<=1000;rw[e];omega)
    l.length (Pl.mk 40 l).2 [] w2 (by simpa using cu) jB (by simp;omega) hlm).mono ?_
   rintro e w4 ⟨rfl,⟨uy,uz,uA⟩,hb4⟩
   go_wp2_with fail
   go_ret
   exact⟨rfl,⟨uy,uz,uA⟩,(hb1.trans hb2).trans hb4⟩
 ·have hT:=HT.out;rw[Pl.eJ,if_pos hm] at hT;subst hT;clear HT
  go_wp2_with fail
  go_ret
  exact⟨rfl,⟨_,dJ,fun _=>by simp⟩,hb1⟩
theorem TV(hO:mW)(rb:Nat)(s:ByteArray)(A l:List Pl.Tk)(w:World)(cx:Cx rb s A)(hR:RD rb s A l [] w)(hG:Gl w):
  Calls Tryz.prog 61 #[.pointer (some ⟨rb,0,none⟩)] w (nV rb s A (Pl.aH l).1 (Pl.aH l).2.1 (Pl.aH l).2.2.flatten w):=by
 generalize hT:Pl.aH l=T;have HT:Hid (Pl.aH l=T):=hT;clear hT;have hlt:=hR.lt;have hle:=hR.le;have hcl:=cx.len
 go_enter Tryz.func61,Tryz.ntmps61
 go_wp2_with fail
 refine(GQ hO Pl.bp 80 [79,76,89,71,79,78] rfl (by decide) rb s A l _ _ cx hR hG).mono ?_
 rintro e w1 ⟨rfl,dJ,hb1⟩;have cz:Gl w1:=hG.below hb1 cx.rb;cases hm:(Pl.wd Pl.bp l).1
 ·rw[uB hm] at dJ
  go_wp2_with fail
  refine(GQ hO Pl.cJ 77 [85,76,84,73,80,79,76,89,71,79,78] rfl (by decide) rb s A l _ _ cx dJ cz).mono ?_
  rintro e w2 ⟨rfl,cu,hb2⟩;have jB:Gl w2:=cz.below hb2 cx.rb;cases hm2:(Pl.wd Pl.cJ l).1
  ·have hT:=HT.out;rw[Pl.aH,if_neg (by rw[hm];simp),if_neg (by rw[hm2];simp)] at hT
   subst hT;rw[uB hm2] at cu;clear HT
   go_wp2_with fail
   go_ret
   exact⟨rfl,⟨_,cu,fun h=>(by cases h)⟩,hb1.trans hb2⟩
  ·have hT:=HT.out;rw[Pl.aH,if_neg (by rw[hm];simp),if_pos hm2] at hT
   subst hT;clear HT;have hlm:=Pl.wj hm2
   go_wp2_with fail
   refine(aey hO rb s A _ [] _ cx cu jB (by simp;omega)).mono ?_
   rintro e w3 ⟨rfl,⟨uy,uz,uA⟩,hb4⟩
   go_wp2_with fail
   go_ret
   exact⟨rfl,⟨uy,uz,fun h=>by simpa using uA h⟩,(hb1.trans hb2).trans hb4⟩
 ·have hT:=HT.out;rw[Pl.aH,if_pos hm] at hT;subst hT;clear HT;have hlm:=Pl.wj hm
  go_wp2_with fail
  refine(TU hO rb s A _ [] _ cx dJ cz (by simp;omega)).mono ?_
  rintro e w3 ⟨rfl,⟨uy,uz,uA⟩,hb4⟩
  go_wp2_with fail
  go_ret
  exact⟨rfl,⟨uy,uz,fun h=>by simpa using uA h⟩,hb1.trans hb4⟩
theorem aez(k:Int)(raw:ByteArray)(n:Int)(p j:Nat)(w:World)(hp:p<=1000)(hr:raw.size<=1000)(hj:j=p+raw.size):
  Calls Tryz.prog 195 #[.agg #[.int .i64 k,.string raw,.int .i64 n,.int .i64 p]] w fun e w'=>e=.returned (.int .i64 j)/\Below w.heap.size w w':=by
 have HJ:Hid (j=p+raw.size):=hj;clear hj
 go_enter Tryz.func195,Tryz.ntmps195
 go_wp2
 go_ret
 exact⟨rP (by rw[HJ.out];simp),(Below.refl _ _).alloc (ae _) _⟩
theorem aeA:(Tryz.prog.info? 76).map (fun i=>(i.zero,i.size,i.bytes))=some (some (.agg #[.int .i64 0,.string ⟨#[]⟩,.int .i64 0,.int .i64 0]),4,40):=by kernel_rfl
theorem Gl.drew{w:World}(h:Gl w):Gl w.drew:=⟨h.sz,h.es,h.er,h.tab⟩
def TW(rb:Nat)(s:ByteArray)(rv:Value)(tv:Value)(m:Nat)(xs:List Value)(c0 c1 c2 c3:Value)(w w':World):Prop:=
 (∃Ac,w'.heap[rb]?=some (.cells #[.string s,c0,c1,c2,c3,Ac,rv] 80 (0,0))/\w'.ownsRow (rb+1) 76 4 Ac m xs/\(∀k,Ac.ownBlock=some k->tv.ownBlock=some k\/w.heap.size<=k))/\
 (∀k,k<w.heap.size->k≠rb->tv.ownBlock≠some k->w'.heap[k]?=w.heap[k]?)/\Below rb w w'
theorem aeB{rb:Nat}{s:ByteArray}{k:Value}{raw n p:Value}{tv rv:Value}{m:Nat}{xs ys:List Value}{w w1 w3 w4:World}{o:Obj}{g cap:Nat}{c0 c1 c2 c3:Value}
  (hb:w.heap[rb]?=some (.cells #[.string s,k,raw,n,p,tv,rv] 80 (0,0)))
  (hown:w.ownsRow (rb+1) 76 4 tv m xs)
  (ho:w1.ownsRow (rb+1) 76 4 (.slice (some ⟨g,0,none⟩) (m+1) cap) (m+1) ys)
  (hgrow:(w.alloc o).drew.grownBy w1 tv.ownBlock)(hat:tv.ownBlock=some g\/g=w.heap.size+1)
  (hb3:Below (w1.setCell ⟨rb,5,none⟩ (.slice (some ⟨g,0,none⟩) (m+1) cap)).drew.heap.size (w1.setCell ⟨rb,5,none⟩ (.slice (some ⟨g,0,none⟩) (m+1) cap)).drew w3)
  (hb4:Below w3.heap.size w3 w4):
  TW rb s rv tv (m+1) ys c0 c1 c2 c3 w ((((w4.setCell ⟨rb,1,none⟩ c0).setCell ⟨rb,2,none⟩ c1).setCell ⟨rb,3,none⟩ c2).setCell ⟨rb,4,none⟩ c3):=by
 have hlt:=lt_of_heap hb;have hs1:w.heap.size+1<=w1.heap.size:=by have:=hgrow.size;simpa using this
 have hW:(w1.setCell ⟨rb,5,none⟩ (.slice (some ⟨g,0,none⟩) (m+1) cap)).drew.heap.size=w1.heap.size:=by simp[World.drew]
 have hs3:w1.heap.size<=w3.heap.size:=by have:=hb3.size;rw[hW] at this;exact this
 have hs4:w3.heap.size<=w4.heap.size:=hb4.size;have e1:∀k,k<w1.heap.size->k≠rb->w4.heap[k]?=w1.heap[k]?:=fun k hk hne=>by
  rw[hb4.block k (by omega),hb3.block k (by rw[hW];exact hk)]
  exact bg hne _
 have e2:∀k,k<w.heap.size->k≠rb->tv.ownBlock≠some k->w4.heap[k]?=w.heap[k]?:=fun k hk hne ht=>by
  rw[e1 k (by omega) hne];exact rR hgrow k hk ht
 have hb1:w1.heap[rb]?=some (.cells #[.string s,k,raw,n,p,tv,rv] 80 (0,0)):=(rR hgrow rb hlt (rT hown rb (by omega))).trans hb
 have Hg:w4.heap[rb]?=some (.cells #[.string s,k,raw,n,p,.slice (some ⟨g,0,none⟩) (m+1) cap,rv] 80 (0,0)):=by
  rw[hb4.block rb (by omega),hb3.block rb (by rw[hW];omega)]
  exact heap_set hb1 _
 refine⟨⟨.slice (some ⟨g,0,none⟩) (m+1) cap,?_,?_,?_⟩,?_,?_⟩
 ·exact heap_set (heap_set (heap_set (heap_set Hg _) _) _) _
 ·refine aJ ho fun k hk=>?_
  obtain⟨q1,q2⟩:=au ho k hk;rw[bg (by omega),bg (by omega),bg (by omega),bg (by omega)]
  exact e1 k q2 (by omega)
 ·intro k hk;have qB:g=k:=by simpa[Value.ownBlock] using hk
  rcases hat with h|h
  ·exact Or.inl (by rw[h,qB])
  ·exact Or.inr (by omega)
 ·intro k hk hne ht;rw[bg hne,bg hne,bg hne,bg hne];exact e2 k hk hne ht
 ·have q:Below rb w w4:=by
   refine⟨?_,?_,?_,by omega,fun k hk=>e2 k (by omega) (by omega) (rT hown k (by omega))⟩
   ·rw[hb4.os,hb3.os];exact hgrow.os
   ·rw[hb4.tape,hb3.tape];exact hgrow.tape
   ·rw[hb4.output,hb3.output];exact hgrow.output
  exact(((q.setCell (ae _) _).setCell (ae _) _).setCell (ae _) _).setCell (ae _) _
theorem aeC(rb:Nat)(s raw:ByteArray)(k n:Int)(p j:Nat)(tv rv:Value)(m:Nat)(xs:List Value)(w:World)(k':Int)(Mi:ByteArray)(n':Int)(p':Nat)
  (hb:w.heap[rb]?=some (.cells #[.string s,.int .i64 k,.string raw,.int .i64 n,.int .i64 p,tv,rv] 80 (0,0)))
  (hown:w.ownsRow (rb+1) 76 4 tv m xs)(hm:m<=1000)(hp:p<=1000)(hr:raw.size<=1000)(hj:j=p+raw.size)(hG:Gl w)(rU:6<=rb)
  (hT:∀w1,Gl w1->Calls Tryz.prog 60 #[.string s,.int .i64 j] w1 fun e w'=>e=.returned (.agg #[.int .i64 k',.string Mi,.int .i64 n',.int .i64 p'])/\Below w1.heap.size w1 w'):
  Calls Tryz.prog 148 #[.pointer (some ⟨rb,0,none⟩)] w fun e w'=>e=.returned (.tuple #[])/\
   TW rb s rv tv (m+1) (xs++[.int .i64 k,.string raw,.int .i64 n,.int .i64 p]) (.int .i64 k') (.string Mi) (.int .i64 n') (.int .i64 p') w w':=by
 have HJ:Hid (j=p+raw.size):=hj;have HT:Hid (∀w1,Gl w1->Calls Tryz.prog 60 #[.string s,.int .i64 j] w1 fun e w'=>e=.returned (.agg #[.int .i64 k',.string Mi,.int .i64 n',.int .i64 p'])/\Below w1.heap.size w1 w'):=hT
 clear hj hT;obtain⟨i0,hi,hz0,hz1,hz2⟩:=info_parts aeA;have c0:w.cell? ⟨rb,0,none⟩=some (.string s):=cell_of hb 0;have c1:w.cell? ⟨rb,1,none⟩=some (.int .i64 k):=cell_of hb 1;have c2:w.cell? ⟨rb,2,none⟩=some (.string raw):=cell_of hb 2;have c3:w.cell? ⟨rb,3,none⟩=some (.int .i64 n):=cell_of hb 3;have c4:w.cell? ⟨rb,4,none⟩=some (.int .i64 p):=cell_of hb 4;have c5:w.cell? ⟨rb,5,none⟩=some tv:=cell_of hb 5;have hlt:=lt_of_heap hb
 go_enter Tryz.func148,Tryz.ntmps148
 go_wp2_with fail
 go_region_law (refine step_append_lies _ rfl (.tmp 6) (.tmp 11) 77 rfl (rb+1) 76 i0 _ 4 40 Tryz.underlying77 hi hz0 hz1 hz2 rfl (by decide) tv m xs (by simp[Act.eval]) (aJ hown (fun k hk=>Below.heap_alloc _ _ _ (au hown k hk).2)) ⟨w.heap.size,0,none⟩ 1 1 [.int .i64 k,.string raw,.int .i64 n,.int .i64 p] (by simp[Act.eval]) rfl (World.news_of_block (cs:= #[.int .i64 k,.string raw,.int .i64 n,.int .i64 p]) (t:=76) (fr:=(0,0)) (heap_alloc_new w _)) (by simp[Value.oneCell']) (by decide) (by unfold maxLen;omega) (by omega) (by simp;omega) (w.heap.size+1) (by simp) ?_;intro g cap w1 ho hgrow hat vO;have hb1:=(rR hgrow rb hlt (rT hown rb (by omega))).trans hb;have d5:w1.cell? ⟨rb,5,none⟩=some tv:=cell_of hb1 5;have f5:w1.frozen? ⟨rb,5,none⟩=false:=aB hb1 5)
 all_goals
  have d0:w1.cell? ⟨rb,0,none⟩=some (.string s):=cell_of hb1 0;have d1:w1.cell? ⟨rb,1,none⟩=some (.int .i64 k):=cell_of hb1 1;have d2:w1.cell? ⟨rb,2,none⟩=some (.string raw):=cell_of hb1 2;have d3:w1.cell? ⟨rb,3,none⟩=some (.int .i64 n):=cell_of hb1 3;have d4:w1.cell? ⟨rb,4,none⟩=some (.int .i64 p):=cell_of hb1 4;have q1:w1.frozen? ⟨rb,1,none⟩=false:=aB hb1 1;have q2:w1.frozen? ⟨rb,2,none⟩=false:=aB hb1 2;have q3:w1.frozen? ⟨rb,3,none⟩=false:=aB hb1 3;have q4:w1.frozen? ⟨rb,4,none⟩=false:=aB hb1 4;have kG:rb<w1.heap.size:=lt_of_heap hb1;have HH:Hid (Gl (w1.setCell ⟨rb,5,none⟩ (.slice (some ⟨g,0,none⟩) (m+1) cap)).drew):=by
   have q:Below rb w w1:=((Below.refl _ _).alloc (eo hlt) _).drew.grown hgrow (by show rb<=(w.alloc _).heap.size;simp;omega) (fun k hk=>by have:=(au hown k hk).1;omega)
   exact(hG.below (q.setCell (ae _) _) rU).drew
  clear c0 c1 c2 c3 c4 c5
  go_wp2_with fail
  go_region_with (first
   |(go_at_call 195;refine(aez _ _ _ _ j _ hp hr HJ.out).mono ?_;rintro e w3 ⟨rfl,hb3⟩;have hx3:w3.heap[rb]?=some (.cells #[.string s,.int .i64 k,.string raw,.int .i64 n,.int .i64 p,.slice (some ⟨g,0,none⟩) (m+1) cap,rv] 80 (0,0)):=(hb3.block rb (by simp;omega)).trans (heap_set hb1 _);have x0:w3.cell? ⟨rb,0,none⟩=some (.string s):=cell_of hx3 0)
   |(go_at_call 60;refine(HT.out _ (HH.out.below hb3 (by simp;omega))).mono ?_;rintro e w4 ⟨rfl,hb4⟩;have nX:=(hb4.block rb (lt_of_heap hx3)).trans hx3;have y1:w4.cell? ⟨rb,1,none⟩=some (.int .i64 k):=cell_of nX 1;have y2:w4.cell? ⟨rb,2,none⟩=some (.string raw):=cell_of nX 2;have y3:w4.cell? ⟨rb,3,none⟩=some (.int .i64 n):=cell_of nX 3;have y4:w4.cell? ⟨rb,4,none⟩=some (.int .i64 p):=cell_of nX 4;have z1:w4.frozen? ⟨rb,1,none⟩=false:=aB nX 1;have z2:w4.frozen? ⟨rb,2,none⟩=false:=aB nX 2;have z3:w4.frozen? ⟨rb,3,none⟩=false:=aB nX 3;have z4:w4.frozen? ⟨rb,4,none⟩=false:=aB nX 4))
  all_goals
   go_wp2_with fail
   go_end0
   exact⟨rfl,aeB hb hown ho hgrow hat hb3 hb4⟩
theorem aeD{rb:Nat}{s:ByteArray}{A r:List Pl.Tk}{t:Pl.Tk}{rg:List (List (Int×Int))}{w:World}(cx:Cx rb s A)(hR:RD rb s A (t::r) rg w)(hG:Gl w)
  (hk:t.k=119\/t.k=110\/t.k=40\/t.k=41\/t.k=44):
  Calls Tryz.prog 148 #[.pointer (some ⟨rb,0,none⟩)] w fun e w'=>e=.returned (.tuple #[])/\RD rb s A r rg w'/\Below rb w w'/\Kp rb w w':=by
 obtain⟨c,t',r',tv,rv,hc,hl,hb,hown,hrg⟩:=hR;injection hl with h1 h2;subst h1 h2;have hch:Pl.eB s.data.toList (t::r):=Pl.LA _ c _ (by rw[hc];exact cx.ch) (by simp)
 obtain⟨u,r',hr,hu,hcr⟩:=Pl.Sq _ t r hch (by omega)
 have hpl:=cx.pl t (by rw[<-hc];simp)
 have hsz:s.data.toList.length=s.size:=by simp
 have hlen:c.length+(r.length+1)<=402:=by have:=cx.len;rw[<-hc] at this;simpa using this
 have aeE:Pl.fI t=t.raw:=by unfold Pl.fI;rw[if_neg (by omega)]
 have hp1:=hpl.1;rw[hsz] at hp1;have hrs:(⟨(Pl.fI t).toArray⟩:ByteArray).size=t.raw.length:=by rw[aeE];rfl
 have hs:=cx.hs;refine(aeC rb s _ _ _ t.pl (t.pl+t.raw.length) tv rv c.length (uk c) w (Pl.pk u) ⟨(Pl.fI u).toArray⟩ u.n u.pl hb hown (by omega) (by omega) (by rw[hrs];omega) (by rw[hrs]) hG cx.rb ?_).mono ?_
 ·intro w1 g1;have:=Sw SJ s (t.pl+t.raw.length) w1 hp1 cx.hs g1;rw[<-hu] at this;exact this
 ·rintro e w' ⟨rfl,⟨⟨Ac,hb',hown',htv⟩,nY,ag⟩⟩;refine⟨rfl,⟨c++[t],u,r',Ac,rv,by rw[<-hc];simp,hr,hb',?_,?_⟩,ag,?_⟩
  ·rw[adu];simpa[eY] using hown'
  ·refine hrg.kept fun k cur e hk' he hlt=>?_
   refine nY k (lt_of_heap hk') (by omega) (nP hown hk' ?_)
   rcases he with rfl|rfl<;>decide
  ·rintro k o hne ⟨tv0,h0,h1⟩ hk';rw[cell_of hb 5] at h0;injection h0 with h0;subst h0;refine⟨(nY k (lt_of_heap hk') hne h1).trans hk',Ac,cell_of hb' 5,fun e=>?_⟩
   rcases htv k e with h|h
   ·exact h1 h
   ·have:=lt_of_heap hk';omega
theorem TY:mW:=fun _ _ _ _ _ _ _ cx hR hG hk=>aeD cx hR hG hk
end Go.Proofs.YtkjhhooecopolaaGreatDoor
