import Derived.Test.YtkjhhooecopolaaGreatDoorWz05
set_option maxRecDepth 100000
set_option maxHeartbeats 4000000
namespace Go.Proofs.YtkjhhooecopolaaGreatDoor
open Go.RowKit
theorem SK(rb:Nat)(s:ByteArray)(A r:List Pl.Tk)(x:Pl.Tk)(rg:List (List (Int×Int)))(w:World)(hR:RD rb s A (x::r) rg w)(hx:x.k≠110):
  Calls Tryz.prog 196 #[.pointer (some ⟨rb,0,none⟩)] w fun e w'=>e=.returned (.bool false)/\RD rb s A (x::r) rg w'/\Below rb w w':=by
 have hlt:=hR.lt;obtain⟨t',r',hl,c0,c1,c2,c3,c4⟩:=hR.cells;injection hl with h1 h2;subst h1 h2
 go_enter Tryz.func196,Tryz.ntmps196
 go_wp2_with fail
 refine(RF rb s A r x _ _ (hR.alloc _) hx).mono ?_;rintro e w1 ⟨rfl,rfl⟩
 go_wp2_with fail
 go_ret
 exact⟨rfl,hR.alloc _,(Below.refl rb w).alloc (by omega) _⟩
theorem adb(hO:mO)(rb:Nat)(s:ByteArray)(A r:List Pl.Tk)(x y:Pl.Tk)(rg:List (List (Int×Int)))(w:World)(cx:Cx rb s A)(hR:RD rb s A (x::y::r) rg w)(hG:Gl w)(hx:x.k=110)(hy:y.k≠110):
  Calls Tryz.prog 196 #[.pointer (some ⟨rb,0,none⟩)] w fun e w'=>e=.returned (.bool false)/\RD rb s A (y::r) rg w'/\Below rb w w':=by
 have hlt:=hR.lt;obtain⟨t',r',hl,c0,c1,c2,c3,c4⟩:=hR.cells;injection hl with h1 h2;subst h1 h2
 go_enter Tryz.func196,Tryz.ntmps196
 go_wp2_with fail
 refine(Lp hO rb s A (y::r) x _ _ cx (hR.alloc _) (hG.alloc _) hx).mono ?_;rintro e w1 ⟨rfl,dL,hb1,hk1⟩;clear c0 c1 c2 c3 c4;obtain⟨t',r',hl,c0,c1,c2,c3,c4⟩:=dL.cells;injection hl with h1 h2;subst h1 h2;have vz:=dL.lt
 go_wp2_with fail
 refine(RF rb s A r y _ _ (dL.alloc _) hy).mono ?_;rintro e w2 ⟨rfl,rfl⟩
 go_wp2_with fail
 go_ret
 exact⟨rfl,dL.alloc _,(((Below.refl rb w).alloc (by omega) _).trans hb1).alloc (by omega) _⟩
theorem RD.chain{rb:Nat}{s:ByteArray}{A l:List Pl.Tk}{rg:List (List (Int×Int))}{w:World}(cx:Cx rb s A)(h:RD rb s A l rg w):Pl.iU s.data.toList l:=by
 obtain⟨c,t,r,hc,hl⟩:=h.suffix;exact Pl.GJ _ c l (by rw[hc];exact cx.ch) (by rw[hl];simp)
theorem RD.le{rb:Nat}{s:ByteArray}{A l:List Pl.Tk}{rg:List (List (Int×Int))}{w:World}(h:RD rb s A l rg w):l.length<=A.length:=by
 obtain⟨c,t,r,hc,hl⟩:=h.suffix;rw[<-hc];simp
def nI(rb:Nat)(s:ByteArray)(A:List Pl.Tk)(b:Bool)(l':List Pl.Tk)(cG:List (List (Int×Int)))(w:World)(e:Ending)(w':World):Prop:=
 e=.returned (.bool b)/\(∃rg,RD rb s A l' rg w'/\(b=true->rg=cG))/\Below rb w w'
theorem ade(hO:mO)(rb:Nat)(s:ByteArray)(A l:List Pl.Tk)(rg:List (List (Int×Int)))(q:List (Int×Int))(w:World)(cx:Cx rb s A)(hR:RD rb s A l (rg++[q]) w)(hG:Gl w)(hq:q.length<=1000)(hrg:rg.length<=1000):
  Calls Tryz.prog 196 #[.pointer (some ⟨rb,0,none⟩)] w (nI rb s A (Pl.fk l).1 (Pl.fk l).2.1 (rg++[q++[(Pl.fk l).2.2]]) w):=by
 have hch:=hR.chain cx
 match l,hR,hch with
 |[],hR,hch=>exact hch.elim
 |[x],hR,hch=>
  have hx:x.k≠110:=by
   have:x.k=101\/x.k=120:=hch;omega
  refine(SK rb s A [] x _ w hR hx).mono ?_;rintro e w' ⟨rfl,h1,h2⟩;exact⟨rfl,⟨_,h1,fun h=>(by cases h)⟩,h2⟩
 |x::y::r,hR,hch=>
  by_cases hx:x.k=110
  ·by_cases hy:y.k=110
   ·have e:Pl.fk (x::y::r)=(true,r,(x.n,y.n)):=by simp[Pl.fk,hx,hy]
    rw[e];refine(acA hO rb s A r x y rg q w cx hR hG hx hy hq hrg).mono ?_;rintro e w' ⟨rfl,h1,h2⟩;exact⟨rfl,⟨_,h1,fun _=>rfl⟩,h2⟩
   ·have e:Pl.fk (x::y::r)=(false,y::r,(0,0)):=by simp[Pl.fk,hx,hy]
    rw[e];refine(adb hO rb s A r x y _ w cx hR hG hx hy).mono ?_;rintro e w' ⟨rfl,h1,h2⟩;exact⟨rfl,⟨_,h1,fun h=>(by cases h)⟩,h2⟩
  ·have e:Pl.fk (x::y::r)=(false,x::y::r,(0,0)):=by simp[Pl.fk,hx]
   rw[e];refine(SK rb s A _ x _ w hR hx).mono ?_;rintro e w' ⟨rfl,h1,h2⟩;exact⟨rfl,⟨_,h1,fun h=>(by cases h)⟩,h2⟩
theorem pJ{c:Nat}{l:List Pl.Tk}(h:(Pl.mk c l).1=true):(Pl.mk c l).2.length+1=l.length:=by
 cases l with
 |nil=>simp[Pl.mk] at h
 |cons t r=>
  by_cases hk:t.k=c
  ·simp[Pl.mk,hk]
  ·simp[Pl.mk,hk] at h
theorem xE{c:Nat}{l:List Pl.Tk}(h:(Pl.mk c l).1=false):(Pl.mk c l).2=l:=by
 cases l with
 |nil=>rfl
 |cons t r=>
  by_cases hk:t.k=c
  ·simp[Pl.mk,hk] at h
  ·simp[Pl.mk,hk]
theorem CK{α:Type}{item:List Pl.Tk->Bool×List Pl.Tk×α}{g:Nat}{l:List Pl.Tk}{acc:List α}(h:(item l).1=false):Pl.cE item (g+1) l acc=(false,(item l).2.1,acc):=by
 rw[Pl.cE,af (by rw[h];simp)]
theorem CL{α:Type}{item:List Pl.Tk->Bool×List Pl.Tk×α}{g:Nat}{l:List Pl.Tk}{acc:List α}(h:(item l).1=true)(h2:(Pl.mk 44 (item l).2.1).1=true):
  Pl.cE item (g+1) l acc=Pl.cE item g (Pl.mk 44 (item l).2.1).2 (acc++[(item l).2.2]):=by
 rw[Pl.cE,aj h,aj h2]
theorem CM{α:Type}{item:List Pl.Tk->Bool×List Pl.Tk×α}{g:Nat}{l:List Pl.Tk}{acc:List α}(h:(item l).1=true)(h2:(Pl.mk 44 (item l).2.1).1=false):
  Pl.cE item (g+1) l acc=((Pl.mk 41 (item l).2.1).1,(Pl.mk 41 (item l).2.1).2,acc++[(item l).2.2]):=by
 rw[Pl.cE,aj h,af (by rw[h2];simp)]
theorem adf{α:Type}(item:List Pl.Tk->Bool×List Pl.Tk×α)(E:List α->List (List (Int×Int)))(B:List Pl.Tk->List α->Prop)(hO:mO)(rb:Nat)(s:ByteArray)(A:List Pl.Tk)(cx:Cx rb s A)
  (hI:∀l acc w,RD rb s A l (E acc) w->Gl w->B l acc->Calls Tryz.prog 196 #[.pointer (some ⟨rb,0,none⟩)] w (nI rb s A (item l).1 (item l).2.1 (E (acc++[(item l).2.2])) w))
  (hd:∀l,(item l).1=true->(item l).2.1.length<l.length)
  (hB:∀l acc,B l acc->(item l).1=true->B (Pl.mk 44 (item l).2.1).2 (acc++[(item l).2.2]))
  (f:Nat)(l:List Pl.Tk)(acc:List α)(w:World)(hR:RD rb s A l (E acc) w)(hG:Gl w)(hBl:B l acc)(hf:l.length<=f):
  Calls Tryz.prog 149 #[.pointer (some ⟨rb,0,none⟩),.func (.func 196) #[.pointer (some ⟨rb,0,none⟩)] #[]] w (nI rb s A (Pl.cE item f l acc).1 (Pl.cE item f l acc).2.1 (E (Pl.cE item f l acc).2.2) w):=by
 generalize hT:Pl.cE item f l acc=T;have HI:Hid (∀l acc w,RD rb s A l (E acc) w->Gl w->B l acc->Calls Tryz.prog 196 #[.pointer (some ⟨rb,0,none⟩)] w (nI rb s A (item l).1 (item l).2.1 (E (acc++[(item l).2.2])) w)):=hI;have HD:Hid (∀l,(item l).1=true->(item l).2.1.length<l.length):=hd;have HB:Hid (∀l acc,B l acc->(item l).1=true->B (Pl.mk 44 (item l).2.1).2 (acc++[(item l).2.2])):=hB;have HS:Hid (∃l acc,l.length<=f/\RD rb s A l (E acc) w/\Gl w/\B l acc/\Below rb w w/\Pl.cE item f l acc=T):=⟨l,acc,hf,hR,hG,hBl,Below.refl _ _,hT⟩;clear hI hd hB hT hR hG hBl hf
 go_enter Tryz.func149,Tryz.ntmps149
 go_wp2_with fail
 go_loopg [6] f (fun g s6 wr=>Hid (∃l acc,l.length<=g/\RD rb s A l (E acc) wr/\Gl wr/\B l acc/\Below rb w wr/\Pl.cE item g l acc=T))
 case atStart=>exact HS
 case round=>
  obtain⟨l,acc,hlen,hR,hG,hBl,aw,hT⟩:=hrel.out;have hne:l≠[]:=by
   obtain⟨_,_,_,_,h⟩:=hR.suffix;rw[h];simp
  obtain⟨g1,rfl⟩:∃g1,gk=g1+1:=⟨gk-1,by have:=iP.2 hne;omega⟩
  clear hne;have HR:Hid (Pl.cE item (g1+1) l acc=T):=hT;have HL:Hid (l.length<=g1+1):=hlen;clear hT hlen
  go_wp2_with fail
  refine(HI.out l acc wr hR hG hBl).mono ?_;rintro e w1 ⟨rfl,⟨dm,dL,hrg1⟩,hb1⟩;have bO:Gl w1:=hG.below hb1 cx.rb;have HE:Hid ((item l).1=true->dm=E (acc++[(item l).2.2])):=hrg1;clear hrg1;cases hi:(item l).1
  ·have hT:=HR.out;rw[CK hi] at hT;subst hT;clear HR HE HB HD HI HS hrel
   go_wp2_with fail
   go_ret
   exact⟨rfl,⟨dm,dL,fun h=>(by cases h)⟩,aw.trans hb1⟩
  ·have hrg:=HE.out hi;subst hrg;clear HE
   go_wp2_with fail
   refine(rO hO 44 (by decide) rb s A _ _ w1 cx dL bO).mono ?_
   rintro e w2 ⟨rfl,cD,hb2⟩;have ly:Gl w2:=bO.below hb2 cx.rb;simp only[show(44:UInt8).toNat=44 from rfl] at cD⊢
   cases hm:(Pl.mk 44 (item l).2.1).1
   ·have hT:=HR.out;rw[CM hi hm] at hT;subst hT;rw[xE hm] at cD;clear HR HB HD HI HS hrel
    go_wp2_with fail
    refine(rO hO 41 (by decide) rb s A _ _ w2 cx cD ly).mono ?_
    rintro e w3 ⟨rfl,lY,hb3⟩;simp only[show(41:UInt8).toNat=41 from rfl] at lY⊢
    go_wp2_with fail
    go_ret
    exact⟨rfl,⟨_,lY,fun _=>rfl⟩,((aw.trans hb1).trans hb2).trans hb3⟩
   ·have hT:=HR.out;rw[CL hi hm] at hT;have HN:Hid (∃l acc,l.length<=g1/\RD rb s A l (E acc) w2/\Gl w2/\B l acc/\Below rb w w2/\Pl.cE item g1 l acc=T):=by
     refine⟨_,_,?_,cD,ly,HB.out l acc hBl hi,(aw.trans hb1).trans hb2,hT⟩;have q1:=HD.out l hi;have q2:=pJ hm;have q3:=HL.out;omega
    clear hT HR
    go_wp2_with fail
    go_roundg g1
    case measure=>omega
    case rel=>exact HN
theorem adg{α:Type}(item:List Pl.Tk->Bool×List Pl.Tk×α)(E:List α->List (List (Int×Int)))(B:List Pl.Tk->List α->Prop)(hO:mO)(rb:Nat)(s:ByteArray)(A:List Pl.Tk)(cx:Cx rb s A)
  (hI:∀l acc w,RD rb s A l (E acc) w->Gl w->B l acc->Calls Tryz.prog 150 #[.pointer (some ⟨rb,0,none⟩)] w (nI rb s A (item l).1 (item l).2.1 (E (acc++[(item l).2.2])) w))
  (hd:∀l,(item l).1=true->(item l).2.1.length<l.length)
  (hB:∀l acc,B l acc->(item l).1=true->B (Pl.mk 44 (item l).2.1).2 (acc++[(item l).2.2]))
  (f:Nat)(l:List Pl.Tk)(acc:List α)(w:World)(hR:RD rb s A l (E acc) w)(hG:Gl w)(hBl:B l acc)(hf:l.length<=f):
  Calls Tryz.prog 149 #[.pointer (some ⟨rb,0,none⟩),.func (.func 150) #[.pointer (some ⟨rb,0,none⟩)] #[]] w (nI rb s A (Pl.cE item f l acc).1 (Pl.cE item f l acc).2.1 (E (Pl.cE item f l acc).2.2) w):=by
 generalize hT:Pl.cE item f l acc=T;have HI:Hid (∀l acc w,RD rb s A l (E acc) w->Gl w->B l acc->Calls Tryz.prog 150 #[.pointer (some ⟨rb,0,none⟩)] w (nI rb s A (item l).1 (item l).2.1 (E (acc++[(item l).2.2])) w)):=hI;have HD:Hid (∀l,(item l).1=true->(item l).2.1.length<l.length):=hd;have HB:Hid (∀l acc,B l acc->(item l).1=true->B (Pl.mk 44 (item l).2.1).2 (acc++[(item l).2.2])):=hB;have HS:Hid (∃l acc,l.length<=f/\RD rb s A l (E acc) w/\Gl w/\B l acc/\Below rb w w/\Pl.cE item f l acc=T):=⟨l,acc,hf,hR,hG,hBl,Below.refl _ _,hT⟩;clear hI hd hB hT hR hG hBl hf
 go_enter Tryz.func149,Tryz.ntmps149
 go_wp2_with fail
 go_loopg [6] f (fun g s6 wr=>Hid (∃l acc,l.length<=g/\RD rb s A l (E acc) wr/\Gl wr/\B l acc/\Below rb w wr/\Pl.cE item g l acc=T))
 case atStart=>exact HS
 case round=>
  obtain⟨l,acc,hlen,hR,hG,hBl,aw,hT⟩:=hrel.out;have hne:l≠[]:=by
   obtain⟨_,_,_,_,h⟩:=hR.suffix;rw[h];simp
  obtain⟨g1,rfl⟩:∃g1,gk=g1+1:=⟨gk-1,by have:=iP.2 hne;omega⟩
  clear hne;have HR:Hid (Pl.cE item (g1+1) l acc=T):=hT;have HL:Hid (l.length<=g1+1):=hlen;clear hT hlen
  go_wp2_with fail
  refine(HI.out l acc wr hR hG hBl).mono ?_;rintro e w1 ⟨rfl,⟨dm,dL,hrg1⟩,hb1⟩;have bO:Gl w1:=hG.below hb1 cx.rb;have HE:Hid ((item l).1=true->dm=E (acc++[(item l).2.2])):=hrg1;clear hrg1;cases hi:(item l).1
  ·have hT:=HR.out;rw[CK hi] at hT;subst hT;clear HR HE HB HD HI HS hrel
   go_wp2_with fail
   go_ret
   exact⟨rfl,⟨dm,dL,fun h=>(by cases h)⟩,aw.trans hb1⟩
  ·have hrg:=HE.out hi;subst hrg;clear HE
   go_wp2_with fail
   refine(rO hO 44 (by decide) rb s A _ _ w1 cx dL bO).mono ?_
   rintro e w2 ⟨rfl,cD,hb2⟩;have ly:Gl w2:=bO.below hb2 cx.rb;simp only[show(44:UInt8).toNat=44 from rfl] at cD⊢
   cases hm:(Pl.mk 44 (item l).2.1).1
   ·have hT:=HR.out;rw[CM hi hm] at hT;subst hT;rw[xE hm] at cD;clear HR HB HD HI HS hrel
    go_wp2_with fail
    refine(rO hO 41 (by decide) rb s A _ _ w2 cx cD ly).mono ?_
    rintro e w3 ⟨rfl,lY,hb3⟩;simp only[show(41:UInt8).toNat=41 from rfl] at lY⊢
    go_wp2_with fail
    go_ret
    exact⟨rfl,⟨_,lY,fun _=>rfl⟩,((aw.trans hb1).trans hb2).trans hb3⟩
   ·have hT:=HR.out;rw[CL hi hm] at hT;have HN:Hid (∃l acc,l.length<=g1/\RD rb s A l (E acc) w2/\Gl w2/\B l acc/\Below rb w w2/\Pl.cE item g1 l acc=T):=by
     refine⟨_,_,?_,cD,ly,HB.out l acc hBl hi,(aw.trans hb1).trans hb2,hT⟩;have q1:=HD.out l hi;have q2:=pJ hm;have q3:=HL.out;omega
    clear hT HR
    go_wp2_with fail
    go_roundg g1
    case measure=>omega
    case rel=>exact HN
theorem adh{α:Type}(item:List Pl.Tk->Bool×List Pl.Tk×α)(E:List α->List (List (Int×Int)))(B:List Pl.Tk->List α->Prop)(hO:mO)(rb:Nat)(s:ByteArray)(A:List Pl.Tk)(cx:Cx rb s A)
  (hI:∀l acc w,RD rb s A l (E acc) w->Gl w->B l acc->Calls Tryz.prog 95 #[.pointer (some ⟨rb,0,none⟩)] w (nI rb s A (item l).1 (item l).2.1 (E (acc++[(item l).2.2])) w))
  (hd:∀l,(item l).1=true->(item l).2.1.length<l.length)
  (hB:∀l acc,B l acc->(item l).1=true->B (Pl.mk 44 (item l).2.1).2 (acc++[(item l).2.2]))
  (f:Nat)(l:List Pl.Tk)(acc:List α)(w:World)(hR:RD rb s A l (E acc) w)(hG:Gl w)(hBl:B l acc)(hf:l.length<=f):
  Calls Tryz.prog 149 #[.pointer (some ⟨rb,0,none⟩),.func (.func 95) #[.pointer (some ⟨rb,0,none⟩)] #[]] w (nI rb s A (Pl.cE item f l acc).1 (Pl.cE item f l acc).2.1 (E (Pl.cE item f l acc).2.2) w):=by
 generalize hT:Pl.cE item f l acc=T;have HI:Hid (∀l acc w,RD rb s A l (E acc) w->Gl w->B l acc->Calls Tryz.prog 95 #[.pointer (some ⟨rb,0,none⟩)] w (nI rb s A (item l).1 (item l).2.1 (E (acc++[(item l).2.2])) w)):=hI;have HD:Hid (∀l,(item l).1=true->(item l).2.1.length<l.length):=hd;have HB:Hid (∀l acc,B l acc->(item l).1=true->B (Pl.mk 44 (item l).2.1).2 (acc++[(item l).2.2])):=hB;have HS:Hid (∃l acc,l.length<=f/\RD rb s A l (E acc) w/\Gl w/\B l acc/\Below rb w w/\Pl.cE item f l acc=T):=⟨l,acc,hf,hR,hG,hBl,Below.refl _ _,hT⟩;clear hI hd hB hT hR hG hBl hf
 go_enter Tryz.func149,Tryz.ntmps149
 go_wp2_with fail
 go_loopg [6] f (fun g s6 wr=>Hid (∃l acc,l.length<=g/\RD rb s A l (E acc) wr/\Gl wr/\B l acc/\Below rb w wr/\Pl.cE item g l acc=T))
 case atStart=>exact HS
 case round=>
  obtain⟨l,acc,hlen,hR,hG,hBl,aw,hT⟩:=hrel.out;have hne:l≠[]:=by
   obtain⟨_,_,_,_,h⟩:=hR.suffix;rw[h];simp
  obtain⟨g1,rfl⟩:∃g1,gk=g1+1:=⟨gk-1,by have:=iP.2 hne;omega⟩
  clear hne;have HR:Hid (Pl.cE item (g1+1) l acc=T):=hT;have HL:Hid (l.length<=g1+1):=hlen;clear hT hlen
  go_wp2_with fail
  refine(HI.out l acc wr hR hG hBl).mono ?_;rintro e w1 ⟨rfl,⟨dm,dL,hrg1⟩,hb1⟩;have bO:Gl w1:=hG.below hb1 cx.rb;have HE:Hid ((item l).1=true->dm=E (acc++[(item l).2.2])):=hrg1;clear hrg1;cases hi:(item l).1
  ·have hT:=HR.out;rw[CK hi] at hT;subst hT;clear HR HE HB HD HI HS hrel
   go_wp2_with fail
   go_ret
   exact⟨rfl,⟨dm,dL,fun h=>(by cases h)⟩,aw.trans hb1⟩
  ·have hrg:=HE.out hi;subst hrg;clear HE
   go_wp2_with fail
   refine(rO hO 44 (by decide) rb s A _ _ w1 cx dL bO).mono ?_
   rintro e w2 ⟨rfl,cD,hb2⟩;have ly:Gl w2:=bO.below hb2 cx.rb;simp only[show(44:UInt8).toNat=44 from rfl] at cD⊢
   cases hm:(Pl.mk 44 (item l).2.1).1
   ·have hT:=HR.out;rw[CM hi hm] at hT;subst hT;rw[xE hm] at cD;clear HR HB HD HI HS hrel
    go_wp2_with fail
    refine(rO hO 41 (by decide) rb s A _ _ w2 cx cD ly).mono ?_
    rintro e w3 ⟨rfl,lY,hb3⟩;simp only[show(41:UInt8).toNat=41 from rfl] at lY⊢
    go_wp2_with fail
    go_ret
    exact⟨rfl,⟨_,lY,fun _=>rfl⟩,((aw.trans hb1).trans hb2).trans hb3⟩
   ·have hT:=HR.out;rw[CL hi hm] at hT;have HN:Hid (∃l acc,l.length<=g1/\RD rb s A l (E acc) w2/\Gl w2/\B l acc/\Below rb w w2/\Pl.cE item g1 l acc=T):=by
     refine⟨_,_,?_,cD,ly,HB.out l acc hBl hi,(aw.trans hb1).trans hb2,hT⟩;have q1:=HD.out l hi;have q2:=pJ hm;have q3:=HL.out;omega
    clear hT HR
    go_wp2_with fail
    go_roundg g1
    case measure=>omega
    case rel=>exact HN
namespace Pl
theorem zF(c:Nat)(l:List Tk):(mk c l).2.length<=l.length:=by
 cases l with
 |nil=>simp[mk]
 |cons t r=>by_cases hk:t.k=c<;>simp[mk,hk]
theorem zG{c:Nat}{l:List Tk}(h:(mk c l).1=true):(mk c l).2.length<l.length:=by
 have:=pJ h;omega
theorem zH{q:List UInt8}{l:List Tk}(h:(wd q l).1=true):(wd q l).2.length<l.length:=by
 cases l with
 |nil=>simp[wd] at h
 |cons t r=>
  by_cases hk:t.k=119/\t.raw=q
  ·simp only[wd];rw[aj hk];simp
  ·simp only[wd] at h;rw[af hk] at h;cases h
theorem LU(l:List Tk)(h:(fk l).1=true):(fk l).2.1.length<l.length:=by
 match l,h with
 |[],h=>cases h
 |[x],h=>cases h
 |x::y::r,h=>
  by_cases hx:x.k=110
  ·by_cases hy:y.k=110
   ·simp[fk,hx,hy];omega
   ·simp[fk,hx,hy] at h
  ·simp[fk,hx] at h
theorem Hg{α:Type}(item:List Tk->Bool×List Tk×α)(hd:∀l,(item l).1=true->(item l).2.1.length<l.length):
  ∀(f:Nat)(l:List Tk)(acc:List α),(cE item f l acc).1=true->(cE item f l acc).2.1.length<l.length/\(cE item f l acc).2.2.length+(cE item f l acc).2.1.length<=acc.length+l.length
 |0,l,acc,h=>by cases h
 |f+1,l,acc,h=>by
  cases hi:(item l).1
  ·rw[CK hi] at h;cases h
  ·have h1:=hd l hi;cases hm:(mk 44 (item l).2.1).1
   ·rw[CM hi hm] at h⊢;have h2:=zG h;simp only[aX,cN,gP];omega
   ·rw[CL hi hm] at h⊢;have ih:=Hg item hd f _ _ h;have h2:=zG hm;simp only[aX,cN,gP] at ih;omega
theorem LV(l:List Tk)(h:(gH l).1=true):(gH l).2.1.length<l.length:=by
 unfold gH at h⊢;by_cases h1:(mk 40 l).1=true
 ·have q:=zG h1;rw[aj h1] at h⊢;by_cases h2:(mk 41 (mk 40 l).2).1=true
  ·rw[aj h2] at h⊢;have:=zG h2;simp only;omega
  ·rw[af h2] at h⊢;have:=(Hg fk LU _ _ _ h).1;omega
 ·rw[af h1] at h;cases h
theorem Hh(l:List Tk)(h:(dB l).1=true):(dB l).2.1.length<l.length/\(dB l).2.2.length+(dB l).2.1.length<=l.length:=by
 unfold dB at h⊢;by_cases h0:(wd EMPTY l).1=true
 ·rw[aj h0];have:=zH h0;simp only[gP];omega
 ·rw[af h0] at h⊢;by_cases h1:(mk 40 l).1=true
  ·have q:=zG h1;rw[aj h1] at h⊢;have:=Hg gH LV _ _ _ h;simp only[gP] at this;omega
  ·rw[af h1] at h;cases h
theorem adi(l:List Tk)(h:(iH l).1=true):(iH l).2.1.length<l.length:=by
 unfold iH at h⊢;by_cases h0:(wd EMPTY l).1=true
 ·rw[aj h0];exact zH h0
 ·rw[af h0] at h⊢;by_cases h1:(mk 40 l).1=true
  ·have q:=zG h1;rw[aj h1] at h⊢;have:=(Hg dB (fun l h=>(Hh l h).1) _ _ _ h).1
   omega
  ·rw[af h1] at h;cases h
end Pl
theorem qu.snoc{rb:Nat}{rv:Value}{rg:List (List (Int×Int))}{w w1:World}{o:Obj}{g cap:Nat}{vs:List Value}
  (h1:vs.length=rg.length)(h2:w.ownsRow (rb+1) 127 1 rv rg.length vs)
  (h3:∀(i:Nat) v g,vs[i]?=some v->rg[i]?=some g->w.ownsRow (rb+1) 81 1 v g.length (pH g))
  (h4:∀(i j:Nat) v u k,vs[i]?=some v->vs[j]?=some u->v.ownBlock=some k->u.ownBlock=some k->i=j)
  (hgrow:(w.alloc o).grownBy w1 rv.ownBlock)(ho:w1.ownsRow (rb+1) 127 1 (.slice (some ⟨g,0,none⟩) (rg.length+1) cap) (rg.length+1) (vs++[.slice none 0 0])):
  qu rb (.slice (some ⟨g,0,none⟩) (rg.length+1) cap) (rg++[[]]) (w1.setCell ⟨rb,6,none⟩ (.slice (some ⟨g,0,none⟩) (rg.length+1) cap)):=by
 refine⟨vs++[.slice none 0 0],by simp[h1],?_,?_,?_⟩
 ·simp only[aX,cN,gP,ki];refine aU ho fun k hk=>ir ?_ _
  have:=(aB ho k hk).1;omega
 ·intro i v g' hi hg';by_cases hin:i<vs.length
  ·rw[fC hin] at hi;rw[fC (by omega)] at hg'
   have hq:=h3 i v g' hi hg';refine aU hq fun k hk=>?_
   have:=(aB hq k hk);obtain⟨c,hc⟩:=xw hq hk;rw[ir (by omega)]
   exact Cv hgrow k this.2 (ua h2 hc (by decide))
  ·have hi2:i=vs.length:=by
    have:=(bZ.1 hi).1;simp at this;omega
   subst hi2;have e1:v=.slice none 0 0:=by simpa using hi.symm
   have e2:g'=[]:=by rw[h1] at hg';simpa using hg'.symm
   subst e1 e2;exact World.ownsRow_nil _ _ _ _
 ·intro i j v u k hi hj hv hu;have key:∀(i:Nat) v,(vs++[Value.slice none 0 0])[i]?=some v->v.ownBlock=some k->vs[i]?=some v:=fun i v hi hv=>by
   by_cases hin:i<vs.length
   ·rwa[fC hin] at hi
   ·have hi2:i=vs.length:=by
     have:=(bZ.1 hi).1;simp at this;omega
    subst hi2;have e1:v=.slice none 0 0:=by simpa using hi.symm
    subst e1;cases hv
  exact h4 i j v u k (key i v hi hv) (key j u hj hu) hv hu
theorem adj:(Tryz.prog.info? 127).map (fun i=>(i.zero,i.size,i.bytes))=some (some (.slice none 0 0),1,24):=by kernel_rfl
theorem adk(hO:mO)(rb:Nat)(s:ByteArray)(A l:List Pl.Tk)(rg:List (List (Int×Int)))(w:World)(cx:Cx rb s A)(hR:RD rb s A l rg w)(hG:Gl w)(hrg:rg.length<=1000):
  Calls Tryz.prog 150 #[.pointer (some ⟨rb,0,none⟩)] w (nI rb s A (Pl.gH l).1 (Pl.gH l).2.1 (rg++[(Pl.gH l).2.2]) w):=by
 generalize hT:Pl.gH l=T;have HT:Hid (Pl.gH l=T):=hT;clear hT;obtain⟨i0,hi,hz0,hz1,hz2⟩:=info_parts adj;have hlt:=hR.lt;obtain⟨c,t,r0,tv,rv,hc,hl,hbk,hown,vs,h1,h2,h3,h4⟩:=id hR;have c6:w.cell? ⟨rb,6,none⟩=some rv:=cell_of hbk 6;have HH:Hid (∀w1 g cap o,(w.alloc o).grownBy w1 rv.ownBlock->w1.ownsRow (rb+1) 127 1 (.slice (some ⟨g,0,none⟩) (rg.length+1) cap) (rg.length+1) (vs++[.slice none 0 0])->
   RD rb s A l (rg++[[]]) (w1.setCell ⟨rb,6,none⟩ (.slice (some ⟨g,0,none⟩) (rg.length+1) cap))/\Below rb w (w1.setCell ⟨rb,6,none⟩ (.slice (some ⟨g,0,none⟩) (rg.length+1) cap))):=by
  intro w1 g cap o hgrow ho;have k6:=(Cv hgrow rb hlt (rN h2 rb (by omega))).trans hbk
  refine⟨⟨c,t,r0,tv,_,hc,hl,heap_set k6 _,aU hown fun k hk=>?_,qu.snoc h1 h2 h3 h4 hgrow ho⟩,?_⟩
  ·obtain⟨c9,ud⟩:=xw hown hk;have:=(aB hown k hk);rw[ir (by omega)]
   exact Cv hgrow k this.2 (ua h2 ud (by decide))
  ·exact(((Below.refl rb w).alloc (eJ hlt) _).grown hgrow (by simp;omega) (fun k hk=>by have:=(aB h2 k hk).1;omega)).setCell (ay _) _
 clear h1 h3 h4
 go_enter Tryz.func150,Tryz.ntmps150
 go_wp2_with (at_builtin;refine wpList_append_lies _ rfl (.tmp 7) (.tmp 8) 78 rfl (rb+1) 127 i0 _ 1 24 Tryz.underlying78 hi hz0 hz1 hz2 rfl (by decide) rv rg.length vs rfl (aU h2 (fun k hk=>Below.heap_alloc _ _ _ (aB h2 k hk).2)) ⟨w.heap.size,0,none⟩ 1 1 [.slice none 0 0] rfl rfl (World.news_of_block (cs:= #[.slice none 0 0]) (t:=127) (fr:=(0,0)) (heap_alloc_new w _)) (by simp[Value.oneCell']) (by decide) (by unfold maxLen;omega) (by omega) (by simp;omega) (w.heap.size+1) (by simp) ?_;intro g cap w1 ho hgrow hat vz;have hb1:=(Cv hgrow rb hlt (rN h2 rb (by omega))).trans hbk;have d6:w1.cell? ⟨rb,6,none⟩=some rv:=cell_of hb1 6;have f6:w1.frozen? ⟨rb,6,none⟩=false:=bw hb1 6)
 obtain⟨dL,aw⟩:=HH.out w1 g cap _ hgrow ho;have bO:=hG.below aw cx.rb;have hlA:=dL.le;have hcl:=cx.len;clear HH hgrow ho hat vz hb1 d6 f6 c6 h2 hown hbk hl hc hi hz0 hz1 hz2;refine(rO hO 40 (by decide) rb s A l _ _ cx dL bO).mono ?_
 rintro e w2 ⟨rfl,cD,hb2⟩;simp only[show(40:UInt8).toNat=40 from rfl] at cD⊢
 have ly:Gl w2:=bO.below hb2 cx.rb;cases hm:(Pl.mk 40 l).1
 ·have hT:=HT.out;rw[Pl.gH,af (by rw[hm];simp)] at hT
  subst hT;rw[xE hm] at cD;clear HT
  go_wp2_with fail
  go_ret
  exact⟨rfl,⟨_,cD,fun h=>(by cases h)⟩,aw.trans hb2⟩
 ·go_wp2_with fail
  refine(rO hO 41 (by decide) rb s A _ _ _ cx cD ly).mono ?_
  rintro e w3 ⟨rfl,lY,hb3⟩;simp only[show(41:UInt8).toNat=41 from rfl] at lY⊢
  have qz:Gl w3:=ly.below hb3 cx.rb;cases hm2:(Pl.mk 41 (Pl.mk 40 l).2).1
  ·have hT:=HT.out;rw[Pl.gH,aj hm,af (by rw[hm2];simp)] at hT
   subst hT;rw[xE hm2] at lY;have hlm:=Pl.zF 40 l;clear HT
   go_wp2_with fail
   refine(adf Pl.fk (fun acc=>rg++[acc]) (fun l acc=>acc.length+l.length<=1000) hO rb s A cx
    (fun l' acc w' hR' CN hB'=>ade hO rb s A l' rg acc w' cx hR' CN (by omega) hrg) Pl.LU
    (fun l' acc hB' hi'=>by
     have q1:=Pl.LU l' hi';have q2:=Pl.zF 44 (Pl.fk l').2.1;simp only[aX,cN,gP];omega)
    l.length (Pl.mk 40 l).2 [] w3 lY qz (by simp;omega) hlm).mono ?_
   rintro e w4 ⟨rfl,⟨ug,uh,ui⟩,hb4⟩
   go_wp2_with fail
   go_ret
   exact⟨rfl,⟨ug,uh,ui⟩,((aw.trans hb2).trans hb3).trans hb4⟩
  ·have hT:=HT.out;rw[Pl.gH,aj hm,aj hm2] at hT;subst hT;clear HT
   go_wp2_with fail
   go_ret
   exact⟨rfl,⟨_,lY,fun _=>rfl⟩,(aw.trans hb2).trans hb3⟩
theorem Hi{q:List UInt8}{l:List Pl.Tk}(h:(Pl.wd q l).1=false):(Pl.wd q l).2=l:=by
 cases l with
 |nil=>rfl
 |cons t r=>
  by_cases hk:t.k=119/\t.raw=q
  ·simp only[Pl.wd] at h;rw[aj hk] at h;cases h
  ·simp only[Pl.wd];rw[af hk]
def Pl.cz(l:List Pl.Tk):Bool×List Pl.Tk×List (List (List (Int×Int))):=
 if(Pl.wd Pl.iq l).1=true then((Pl.dB (Pl.wd Pl.iq l).2).1,(Pl.dB (Pl.wd Pl.iq l).2).2.1,[(Pl.dB (Pl.wd Pl.iq l).2).2.2])
 else if(Pl.wd Pl.jf l).1=true then Pl.iH (Pl.wd Pl.jf l).2
 else(false,l,[])
theorem SL(hO:mO)(rb:Nat)(s:ByteArray)(A l:List Pl.Tk)(rg:List (List (Int×Int)))(w:World)(cx:Cx rb s A)(hR:RD rb s A l rg w)(hG:Gl w)(hrg:rg.length+l.length<=1000):
  Calls Tryz.prog 95 #[.pointer (some ⟨rb,0,none⟩)] w (nI rb s A (Pl.dB l).1 (Pl.dB l).2.1 (rg++(Pl.dB l).2.2) w):=by
 generalize hT:Pl.dB l=T;have HT:Hid (Pl.dB l=T):=hT;clear hT;have hlt:=hR.lt
 go_enter Tryz.func95,Tryz.ntmps95
 go_wp2_with fail
 refine(GR hO Pl.EMPTY 69 [77,80,84,89] rfl (by decide) rb s A l _ _ cx hR hG).mono ?_
 rintro e w1 ⟨rfl,dL,hb1⟩;have bO:Gl w1:=hG.below hb1 cx.rb;cases hm:(Pl.wd Pl.EMPTY l).1
 ·rw[Hi hm] at dL
  go_wp2_with fail
  refine(rO hO 40 (by decide) rb s A l _ _ cx dL bO).mono ?_
  rintro e w2 ⟨rfl,cD,hb2⟩;simp only[show(40:UInt8).toNat=40 from rfl] at cD⊢
  have ly:Gl w2:=bO.below hb2 cx.rb;cases hm2:(Pl.mk 40 l).1
  ·have hT:=HT.out;rw[Pl.dB,af (by rw[hm];simp),af (by rw[hm2];simp)] at hT
   subst hT;rw[xE hm2] at cD;clear HT
   go_wp2_with fail
   go_ret
   exact⟨rfl,⟨_,cD,fun h=>(by cases h)⟩,hb1.trans hb2⟩
  ·have hT:=HT.out;rw[Pl.dB,af (by rw[hm];simp),aj hm2] at hT
   subst hT;clear HT;have hlm:=Pl.zF 40 l
   go_wp2_with fail
   refine(adg Pl.gH (fun acc=>rg++acc) (fun l acc=>rg.length+acc.length+l.length<=1000) hO rb s A cx
    (fun l' acc w' hR' CN hB'=>by
     rw[<-fB];exact adk hO rb s A l' (rg++acc) w' cx hR' CN (by simp;omega)) Pl.LV
    (fun l' acc hB' hi'=>by
     have q1:=Pl.LV l' hi';have q2:=Pl.zF 44 (Pl.gH l').2.1;simp only[aX,cN,gP];omega)
    l.length (Pl.mk 40 l).2 [] w2 (by simpa using cD) ly (by simp;omega) hlm).mono ?_
   rintro e w4 ⟨rfl,⟨ug,uh,ui⟩,hb4⟩
   go_wp2_with fail
   go_ret
   exact⟨rfl,⟨ug,uh,ui⟩,(hb1.trans hb2).trans hb4⟩
 ·have hT:=HT.out;rw[Pl.dB,aj hm] at hT;subst hT;clear HT
  go_wp2_with fail
  go_ret
  exact⟨rfl,⟨_,dL,fun _=>by simp⟩,hb1⟩
theorem adl(hO:mO)(rb:Nat)(s:ByteArray)(A l:List Pl.Tk)(rg:List (List (Int×Int)))(w:World)(cx:Cx rb s A)(hR:RD rb s A l rg w)(hG:Gl w)(hrg:rg.length+l.length<=1000):
  Calls Tryz.prog 96 #[.pointer (some ⟨rb,0,none⟩)] w (nI rb s A (Pl.iH l).1 (Pl.iH l).2.1 (rg++(Pl.iH l).2.2.flatten) w):=by
 generalize hT:Pl.iH l=T;have HT:Hid (Pl.iH l=T):=hT;clear hT;have hlt:=hR.lt
 go_enter Tryz.func96,Tryz.ntmps96
 go_wp2_with fail
 refine(GR hO Pl.EMPTY 69 [77,80,84,89] rfl (by decide) rb s A l _ _ cx hR hG).mono ?_
 rintro e w1 ⟨rfl,dL,hb1⟩;have bO:Gl w1:=hG.below hb1 cx.rb;cases hm:(Pl.wd Pl.EMPTY l).1
 ·rw[Hi hm] at dL
  go_wp2_with fail
  refine(rO hO 40 (by decide) rb s A l _ _ cx dL bO).mono ?_
  rintro e w2 ⟨rfl,cD,hb2⟩;simp only[show(40:UInt8).toNat=40 from rfl] at cD⊢
  have ly:Gl w2:=bO.below hb2 cx.rb;cases hm2:(Pl.mk 40 l).1
  ·have hT:=HT.out;rw[Pl.iH,af (by rw[hm];simp),af (by rw[hm2];simp)] at hT
   subst hT;rw[xE hm2] at cD;clear HT
   go_wp2_with fail
   go_ret
   exact⟨rfl,⟨_,cD,fun h=>(by cases h)⟩,hb1.trans hb2⟩
  ·have hT:=HT.out;rw[Pl.iH,af (by rw[hm];simp),aj hm2] at hT
   subst hT;clear HT;have hlm:=Pl.zF 40 l
   go_wp2_with fail
   refine(adh Pl.dB (fun acc=>rg++acc.flatten) (fun l acc=>rg.length+acc.flatten.length+l.length<=1000) hO rb s A cx
    (fun l' acc w' hR' CN hB'=>by
     have e:rg++(acc++[(Pl.dB l').2.2]).flatten=(rg++acc.flatten)++(Pl.dB l').2.2:=by simp
     rw[e];exact SL hO rb s A l' (rg++acc.flatten) w' cx hR' CN (by rw[aX];exact hB')) (fun l h=>(Pl.Hh l h).1)
    (fun l' acc hB' hi'=>by
     have q1:=(Pl.Hh l' hi').2;have q2:=Pl.zF 44 (Pl.dB l').2.1;have e:(acc++[(Pl.dB l').2.2]).flatten.length=acc.flatten.length+(Pl.dB l').2.2.length:=by
      rw[Qu,aX];simp
     show rg.length+(acc++[(Pl.dB l').2.2]).flatten.length+(Pl.mk 44 (Pl.dB l').2.1).2.length<=1000;rw[e];omega)
    l.length (Pl.mk 40 l).2 [] w2 (by simpa using cD) ly (by simp;omega) hlm).mono ?_
   rintro e w4 ⟨rfl,⟨ug,uh,ui⟩,hb4⟩
   go_wp2_with fail
   go_ret
   exact⟨rfl,⟨ug,uh,ui⟩,(hb1.trans hb2).trans hb4⟩
 ·have hT:=HT.out;rw[Pl.iH,aj hm] at hT;subst hT;clear HT
  go_wp2_with fail
  go_ret
  exact⟨rfl,⟨_,dL,fun _=>by simp⟩,hb1⟩
theorem SM(hO:mO)(rb:Nat)(s:ByteArray)(A l:List Pl.Tk)(w:World)(cx:Cx rb s A)(hR:RD rb s A l [] w)(hG:Gl w):
  Calls Tryz.prog 61 #[.pointer (some ⟨rb,0,none⟩)] w (nI rb s A (Pl.cz l).1 (Pl.cz l).2.1 (Pl.cz l).2.2.flatten w):=by
 generalize hT:Pl.cz l=T;have HT:Hid (Pl.cz l=T):=hT;clear hT;have hlt:=hR.lt;have hle:=hR.le;have hcl:=cx.len
 go_enter Tryz.func61,Tryz.ntmps61
 go_wp2_with fail
 refine(GR hO Pl.iq 80 [79,76,89,71,79,78] rfl (by decide) rb s A l _ _ cx hR hG).mono ?_
 rintro e w1 ⟨rfl,dL,hb1⟩;have bO:Gl w1:=hG.below hb1 cx.rb;cases hm:(Pl.wd Pl.iq l).1
 ·rw[Hi hm] at dL
  go_wp2_with fail
  refine(GR hO Pl.jf 77 [85,76,84,73,80,79,76,89,71,79,78] rfl (by decide) rb s A l _ _ cx dL bO).mono ?_
  rintro e w2 ⟨rfl,cD,hb2⟩;have ly:Gl w2:=bO.below hb2 cx.rb;cases hm2:(Pl.wd Pl.jf l).1
  ·have hT:=HT.out;rw[Pl.cz,af (by rw[hm];simp),af (by rw[hm2];simp)] at hT
   subst hT;rw[Hi hm2] at cD;clear HT
   go_wp2_with fail
   go_ret
   exact⟨rfl,⟨_,cD,fun h=>(by cases h)⟩,hb1.trans hb2⟩
  ·have hT:=HT.out;rw[Pl.cz,af (by rw[hm];simp),aj hm2] at hT
   subst hT;clear HT;have hlm:=Pl.zH hm2
   go_wp2_with fail
   refine(adl hO rb s A _ [] _ cx cD ly (by simp;omega)).mono ?_
   rintro e w3 ⟨rfl,⟨ug,uh,ui⟩,hb4⟩
   go_wp2_with fail
   go_ret
   exact⟨rfl,⟨ug,uh,fun h=>by simpa using ui h⟩,(hb1.trans hb2).trans hb4⟩
 ·have hT:=HT.out;rw[Pl.cz,aj hm] at hT;subst hT;clear HT;have hlm:=Pl.zH hm
  go_wp2_with fail
  refine(SL hO rb s A _ [] _ cx dL bO (by simp;omega)).mono ?_
  rintro e w3 ⟨rfl,⟨ug,uh,ui⟩,hb4⟩
  go_wp2_with fail
  go_ret
  exact⟨rfl,⟨ug,uh,fun h=>by simpa using ui h⟩,hb1.trans hb4⟩
theorem adm(k:Int)(raw:ByteArray)(n:Int)(p j:Nat)(w:World)(hp:p<=1000)(hr:raw.size<=1000)(hj:j=p+raw.size):
  Calls Tryz.prog 195 #[.agg #[.int .i64 k,.string raw,.int .i64 n,.int .i64 p]] w fun e w'=>e=.returned (.int .i64 j)/\Below w.heap.size w w':=by
 have HJ:Hid (j=p+raw.size):=hj;clear hj
 go_enter Tryz.func195,Tryz.ntmps195
 go_wp2
 go_ret
 exact⟨rK (by rw[HJ.out];simp),(Below.refl _ _).alloc (ay _) _⟩
theorem adn:(Tryz.prog.info? 76).map (fun i=>(i.zero,i.size,i.bytes))=some (some (.agg #[.int .i64 0,.string ⟨#[]⟩,.int .i64 0,.int .i64 0]),4,40):=by kernel_rfl
theorem Gl.drew{w:World}(h:Gl w):Gl w.drew:=⟨h.sz,h.es,h.er,h.tab⟩
def SN(rb:Nat)(s:ByteArray)(rv:Value)(tv:Value)(m:Nat)(xs:List Value)(c0 c1 c2 c3:Value)(w w':World):Prop:=
 (∃zI,w'.heap[rb]?=some (.cells #[.string s,c0,c1,c2,c3,zI,rv] 80 (0,0))/\w'.ownsRow (rb+1) 76 4 zI m xs/\(∀k,zI.ownBlock=some k->tv.ownBlock=some k\/w.heap.size<=k))/\
 (∀k,k<w.heap.size->k≠rb->tv.ownBlock≠some k->w'.heap[k]?=w.heap[k]?)/\Below rb w w'
theorem ado{rb:Nat}{s:ByteArray}{k:Value}{raw n p:Value}{tv rv:Value}{m:Nat}{xs ys:List Value}{w w1 w3 w4:World}{o:Obj}{g cap:Nat}{c0 c1 c2 c3:Value}
  (hb:w.heap[rb]?=some (.cells #[.string s,k,raw,n,p,tv,rv] 80 (0,0)))
  (hown:w.ownsRow (rb+1) 76 4 tv m xs)
  (ho:w1.ownsRow (rb+1) 76 4 (.slice (some ⟨g,0,none⟩) (m+1) cap) (m+1) ys)
  (hgrow:(w.alloc o).drew.grownBy w1 tv.ownBlock)(hat:tv.ownBlock=some g\/g=w.heap.size+1)
  (hb3:Below (w1.setCell ⟨rb,5,none⟩ (.slice (some ⟨g,0,none⟩) (m+1) cap)).drew.heap.size (w1.setCell ⟨rb,5,none⟩ (.slice (some ⟨g,0,none⟩) (m+1) cap)).drew w3)
  (hb4:Below w3.heap.size w3 w4):
  SN rb s rv tv (m+1) ys c0 c1 c2 c3 w ((((w4.setCell ⟨rb,1,none⟩ c0).setCell ⟨rb,2,none⟩ c1).setCell ⟨rb,3,none⟩ c2).setCell ⟨rb,4,none⟩ c3):=by
 have hlt:=lt_of_heap hb;have hs1:w.heap.size+1<=w1.heap.size:=by have:=hgrow.size;simpa using this
 have hW:(w1.setCell ⟨rb,5,none⟩ (.slice (some ⟨g,0,none⟩) (m+1) cap)).drew.heap.size=w1.heap.size:=by simp[World.drew]
 have hs3:w1.heap.size<=w3.heap.size:=by have:=hb3.size;rw[hW] at this;exact this
 have hs4:w3.heap.size<=w4.heap.size:=hb4.size;have e1:∀k,k<w1.heap.size->k≠rb->w4.heap[k]?=w1.heap[k]?:=fun k hk hne=>by
  rw[hb4.block k (by omega),hb3.block k (by rw[hW];exact hk)]
  exact ir hne _
 have e2:∀k,k<w.heap.size->k≠rb->tv.ownBlock≠some k->w4.heap[k]?=w.heap[k]?:=fun k hk hne ht=>by
  rw[e1 k (by omega) hne];exact rM hgrow k hk ht
 have hb1:w1.heap[rb]?=some (.cells #[.string s,k,raw,n,p,tv,rv] 80 (0,0)):=(rM hgrow rb hlt (rN hown rb (by omega))).trans hb
 have Hj:w4.heap[rb]?=some (.cells #[.string s,k,raw,n,p,.slice (some ⟨g,0,none⟩) (m+1) cap,rv] 80 (0,0)):=by
  rw[hb4.block rb (by omega),hb3.block rb (by rw[hW];omega)]
  exact heap_set hb1 _
 refine⟨⟨.slice (some ⟨g,0,none⟩) (m+1) cap,?_,?_,?_⟩,?_,?_⟩
 ·exact heap_set (heap_set (heap_set (heap_set Hj _) _) _) _
 ·refine aU ho fun k hk=>?_
  obtain⟨q1,q2⟩:=aB ho k hk;rw[ir (by omega),ir (by omega),ir (by omega),ir (by omega)]
  exact e1 k q2 (by omega)
 ·intro k hk;have vD:g=k:=by simpa[Value.ownBlock] using hk
  rcases hat with h|h
  ·exact ag (by rw[h,vD])
  ·exact ah (by omega)
 ·intro k hk hne ht;rw[ir hne,ir hne,ir hne,ir hne];exact e2 k hk hne ht
 ·have q:Below rb w w4:=by
   refine⟨?_,?_,?_,by omega,fun k hk=>e2 k (by omega) (by omega) (rN hown k (by omega))⟩
   ·rw[hb4.os,hb3.os];exact hgrow.os
   ·rw[hb4.tape,hb3.tape];exact hgrow.tape
   ·rw[hb4.output,hb3.output];exact hgrow.output
  exact(((q.setCell (ay _) _).setCell (ay _) _).setCell (ay _) _).setCell (ay _) _
theorem adp(rb:Nat)(s raw:ByteArray)(k n:Int)(p j:Nat)(tv rv:Value)(m:Nat)(xs:List Value)(w:World)(k':Int)(LW:ByteArray)(n':Int)(p':Nat)
  (hb:w.heap[rb]?=some (.cells #[.string s,.int .i64 k,.string raw,.int .i64 n,.int .i64 p,tv,rv] 80 (0,0)))
  (hown:w.ownsRow (rb+1) 76 4 tv m xs)(hm:m<=1000)(hp:p<=1000)(hr:raw.size<=1000)(hj:j=p+raw.size)(hG:Gl w)(vB:6<=rb)
  (hT:∀w1,Gl w1->Calls Tryz.prog 60 #[.string s,.int .i64 j] w1 fun e w'=>e=.returned (.agg #[.int .i64 k',.string LW,.int .i64 n',.int .i64 p'])/\Below w1.heap.size w1 w'):
  Calls Tryz.prog 148 #[.pointer (some ⟨rb,0,none⟩)] w fun e w'=>e=.returned (.tuple #[])/\
   SN rb s rv tv (m+1) (xs++[.int .i64 k,.string raw,.int .i64 n,.int .i64 p]) (.int .i64 k') (.string LW) (.int .i64 n') (.int .i64 p') w w':=by
 have HJ:Hid (j=p+raw.size):=hj;have HT:Hid (∀w1,Gl w1->Calls Tryz.prog 60 #[.string s,.int .i64 j] w1 fun e w'=>e=.returned (.agg #[.int .i64 k',.string LW,.int .i64 n',.int .i64 p'])/\Below w1.heap.size w1 w'):=hT
 clear hj hT;obtain⟨i0,hi,hz0,hz1,hz2⟩:=info_parts adn;have c0:w.cell? ⟨rb,0,none⟩=some (.string s):=cell_of hb 0;have c1:w.cell? ⟨rb,1,none⟩=some (.int .i64 k):=cell_of hb 1;have c2:w.cell? ⟨rb,2,none⟩=some (.string raw):=cell_of hb 2;have c3:w.cell? ⟨rb,3,none⟩=some (.int .i64 n):=cell_of hb 3;have c4:w.cell? ⟨rb,4,none⟩=some (.int .i64 p):=cell_of hb 4;have c5:w.cell? ⟨rb,5,none⟩=some tv:=cell_of hb 5;have hlt:=lt_of_heap hb
 go_enter Tryz.func148,Tryz.ntmps148
 go_wp2_with fail
 go_region_law (refine step_append_lies _ rfl (.tmp 6) (.tmp 11) 77 rfl (rb+1) 76 i0 _ 4 40 Tryz.underlying77 hi hz0 hz1 hz2 rfl (by decide) tv m xs (by simp[Act.eval]) (aU hown (fun k hk=>Below.heap_alloc _ _ _ (aB hown k hk).2)) ⟨w.heap.size,0,none⟩ 1 1 [.int .i64 k,.string raw,.int .i64 n,.int .i64 p] (by simp[Act.eval]) rfl (World.news_of_block (cs:= #[.int .i64 k,.string raw,.int .i64 n,.int .i64 p]) (t:=76) (fr:=(0,0)) (heap_alloc_new w _)) (by simp[Value.oneCell']) (by decide) (by unfold maxLen;omega) (by omega) (by simp;omega) (w.heap.size+1) (by simp) ?_;intro g cap w1 ho hgrow hat vz;have hb1:=(rM hgrow rb hlt (rN hown rb (by omega))).trans hb;have d5:w1.cell? ⟨rb,5,none⟩=some tv:=cell_of hb1 5;have f5:w1.frozen? ⟨rb,5,none⟩=false:=bw hb1 5)
 all_goals
  have d0:w1.cell? ⟨rb,0,none⟩=some (.string s):=cell_of hb1 0;have d1:w1.cell? ⟨rb,1,none⟩=some (.int .i64 k):=cell_of hb1 1;have d2:w1.cell? ⟨rb,2,none⟩=some (.string raw):=cell_of hb1 2;have d3:w1.cell? ⟨rb,3,none⟩=some (.int .i64 n):=cell_of hb1 3;have d4:w1.cell? ⟨rb,4,none⟩=some (.int .i64 p):=cell_of hb1 4;have q1:w1.frozen? ⟨rb,1,none⟩=false:=bw hb1 1;have q2:w1.frozen? ⟨rb,2,none⟩=false:=bw hb1 2;have q3:w1.frozen? ⟨rb,3,none⟩=false:=bw hb1 3;have q4:w1.frozen? ⟨rb,4,none⟩=false:=bw hb1 4;have xG:rb<w1.heap.size:=lt_of_heap hb1;have HH:Hid (Gl (w1.setCell ⟨rb,5,none⟩ (.slice (some ⟨g,0,none⟩) (m+1) cap)).drew):=by
   have q:Below rb w w1:=((Below.refl _ _).alloc (eJ hlt) _).drew.grown hgrow (by show rb<=(w.alloc _).heap.size;simp;omega) (fun k hk=>by have:=(aB hown k hk).1;omega)
   exact(hG.below (q.setCell (ay _) _) vB).drew
  clear c0 c1 c2 c3 c4 c5
  go_wp2_with fail
  go_region_with (first
   |(go_at_call 195;refine(adm _ _ _ _ j _ hp hr HJ.out).mono ?_;rintro e w3 ⟨rfl,hb3⟩;have hx3:w3.heap[rb]?=some (.cells #[.string s,.int .i64 k,.string raw,.int .i64 n,.int .i64 p,.slice (some ⟨g,0,none⟩) (m+1) cap,rv] 80 (0,0)):=(hb3.block rb (by simp;omega)).trans (heap_set hb1 _);have x0:w3.cell? ⟨rb,0,none⟩=some (.string s):=cell_of hx3 0)
   |(go_at_call 60;refine(HT.out _ (HH.out.below hb3 (by simp;omega))).mono ?_;rintro e w4 ⟨rfl,hb4⟩;have vL:=(hb4.block rb (lt_of_heap hx3)).trans hx3;have y1:w4.cell? ⟨rb,1,none⟩=some (.int .i64 k):=cell_of vL 1;have y2:w4.cell? ⟨rb,2,none⟩=some (.string raw):=cell_of vL 2;have y3:w4.cell? ⟨rb,3,none⟩=some (.int .i64 n):=cell_of vL 3;have y4:w4.cell? ⟨rb,4,none⟩=some (.int .i64 p):=cell_of vL 4;have z1:w4.frozen? ⟨rb,1,none⟩=false:=bw vL 1;have z2:w4.frozen? ⟨rb,2,none⟩=false:=bw vL 2;have z3:w4.frozen? ⟨rb,3,none⟩=false:=bw vL 3;have z4:w4.frozen? ⟨rb,4,none⟩=false:=bw vL 4))
  all_goals
   go_wp2_with fail
   go_end0
   exact⟨rfl,ado hb hown ho hgrow hat hb3 hb4⟩
theorem adq{rb:Nat}{s:ByteArray}{A r:List Pl.Tk}{t:Pl.Tk}{rg:List (List (Int×Int))}{w:World}(cx:Cx rb s A)(hR:RD rb s A (t::r) rg w)(hG:Gl w)
  (hk:t.k=119\/t.k=110\/t.k=40\/t.k=41\/t.k=44):
  Calls Tryz.prog 148 #[.pointer (some ⟨rb,0,none⟩)] w fun e w'=>e=.returned (.tuple #[])/\RD rb s A r rg w'/\Below rb w w'/\Kp rb w w':=by
 obtain⟨c,t',r',tv,rv,hc,hl,hb,hown,hrg⟩:=hR;injection hl with h1 h2;subst h1 h2;have hch:Pl.iU s.data.toList (t::r):=Pl.GJ _ c _ (by rw[hc];exact cx.ch) (by simp)
 obtain⟨u,r',hr,hu,hcr⟩:=Pl.Rb _ t r hch (by omega)
 have hpl:=cx.pl t (by rw[<-hc];simp)
 have hsz:s.data.toList.length=s.size:=by simp
 have hlen:c.length+(r.length+1)<=402:=by have:=cx.len;rw[<-hc] at this;simpa using this
 have adr:Pl.bB t=t.raw:=by unfold Pl.bB;rw[af (by omega)]
 have hp1:=hpl.1;rw[hsz] at hp1;have hrs:(⟨(Pl.bB t).toArray⟩:ByteArray).size=t.raw.length:=by rw[adr];rfl
 have hs:=cx.hs;refine(adp rb s _ _ _ t.pl (t.pl+t.raw.length) tv rv c.length (oz c) w (Pl.pk u) ⟨(Pl.bB u).toArray⟩ u.n u.pl hb hown (by omega) (by omega) (by rw[hrs];omega) (by rw[hrs]) hG cx.rb ?_).mono ?_
 ·intro w1 g1;have:=Ri Rw s (t.pl+t.raw.length) w1 hp1 cx.hs g1;rw[<-hu] at this;exact this
 ·rintro e w' ⟨rfl,⟨⟨zI,hb',hown',htv⟩,nJ,aw⟩⟩;refine⟨rfl,⟨c++[t],u,r',zI,rv,by rw[<-hc];simp,hr,hb',?_,?_⟩,aw,?_⟩
  ·rw[acs];simpa[fq] using hown'
  ·refine hrg.kept fun k cur e hk' he hlt=>?_
   refine nJ k (lt_of_heap hk') (by omega) (ua hown hk' ?_)
   rcases he with rfl|rfl<;>decide
  ·rintro k o hne ⟨tv0,h0,h1⟩ hk';rw[cell_of hb 5] at h0;injection h0 with h0;subst h0;refine⟨(nJ k (lt_of_heap hk') hne h1).trans hk',zI,cell_of hb' 5,fun e=>?_⟩
   rcases htv k e with h|h
   ·exact h1 h
   ·have:=lt_of_heap hk';omega
theorem SP:mO:=fun _ _ _ _ _ _ _ cx hR hG hk=>adq cx hR hG hk
end Go.Proofs.YtkjhhooecopolaaGreatDoor
