import Derived.Test.YtkjhhooecopolaaGreatDoorZz06
set_option maxRecDepth 100000
set_option maxHeartbeats 4000000
namespace Go.Proofs.YtkjhhooecopolaaGreatDoor
open Go.RowKit
namespace Ge
abbrev Fr:=Int×Int
abbrev Qt:=Fr×Fr
def fc(a b:Fr):Int:=(a.1*b.2-b.1*a.2).sign
def pc(p q:Qt):Int:=if fc p.1 q.1=0 then fc p.2 q.2 else fc p.1 q.1
structure Bk(a:Fr):Prop where
 pos:0<a.2
 co:Int.gcd a.1 a.2=1
structure fL(p:Qt):Prop where
 x:Bk p.1
 y:Bk p.2
theorem Q5(a b:Fr):fc b a= -fc a b:=by
 unfold fc;rw[<-OW];congr 1;omega
theorem KE{k m n:Int}(h:Int.gcd k m=1)(hd:k∣m*n):k∣n:=by
 have h1:=akk.2 hd;rw[l9] at h1;exact akk.1 (Nat.Coprime.dvd_of_dvd_mul_left h h1)
theorem KF{a b:Fr}(ha:Bk a)(hb:Bk b)(h:fc a b=0):a=b:=by
 unfold fc at h;have h':a.1*b.2=b.1*a.2:=by have:=ud.1 h;omega
 have d1:a.2∣b.2:=by
  have:a.2∣a.1*b.2:=by rw[h'];exact Int.dvd_mul_left _ _
  exact KE (by rw[Zq];exact ha.co) this
 have d2:b.2∣a.2:=by
  have:b.2∣b.1*a.2:=by rw[<-h'];exact Int.dvd_mul_left _ _
  exact KE (by rw[Zq];exact hb.co) this
 have e2:a.2=b.2:=Int.dvd_antisymm (dB ha.pos) (dB hb.pos) d1 d2;have e1:a.1=b.1:=by
  rw[e2] at h';exact OU (Zm hb.pos) h'
 exact dC e1 e2
theorem yx(a:Fr):fc a a=0:=by
 unfold fc;rw[show a.1*a.2-a.1*a.2=0 by omega]
 rfl
theorem Q6(z:Int):(z.sign= -1/\z<0)\/(z.sign=0/\z=0)\/(z.sign=1/\0<z):=by
 rcases eD z 0 with h|h|h
 ·exact ae ⟨Ec h,h⟩
 ·exact af (ae ⟨by rw[h];rfl,h⟩)
 ·exact af (af ⟨nX h,h⟩)
theorem Q7{a b:Fr}:fc a b<0↔a.1*b.2<b.1*a.2:=by
 unfold fc;have:=Q6 (a.1*b.2-b.1*a.2);omega
theorem Q8{a b:Fr}:fc a b=0↔a.1*b.2=b.1*a.2:=by
 unfold fc;have:=Q6 (a.1*b.2-b.1*a.2);omega
theorem uD{a b c d e f:Int}(hb:0<b)(hd:0<d)(hf:0<f)(h1:a*d<c*b)(h2:c*f<=e*d):a*f<e*b:=by
 have k1:a*d*f<c*b*f:=OT h1 hf;have k2:c*f*b<=e*d*b:=akl h2 (dB hb);have k3:d*(a*f)<d*(e*b):=by
  have e1:d*(a*f)=a*d*f:=by ac_rfl
  have e2:d*(e*b)=e*d*b:=by ac_rfl
  have e3:c*b*f=c*f*b:=by ac_rfl
  rw[e1,e2];omega
 exact akm k3 (dB hd)
theorem KG{a b c d e f:Int}(hb:0<b)(hd:0<d)(hf:0<f)(h1:a*d<=c*b)(h2:c*f<e*d):a*f<e*b:=by
 have k1:a*d*f<=c*b*f:=akl h1 (dB hf);have k2:c*f*b<e*d*b:=OT h2 hb;have k3:d*(a*f)<d*(e*b):=by
  have e1:d*(a*f)=a*d*f:=by ac_rfl
  have e2:d*(e*b)=e*d*b:=by ac_rfl
  have e3:c*b*f=c*f*b:=by ac_rfl
  rw[e1,e2];omega
 exact akm k3 (dB hd)
theorem KH{a b c d e f:Int}(hd:0<d)(h1:a*d=c*b)(h2:c*f=e*d):a*f=e*b:=by
 have k3:d*(a*f)=d*(e*b):=by
  have e1:d*(a*f)=a*d*f:=by ac_rfl
  have e2:d*(e*b)=e*d*b:=by ac_rfl
  have e3:c*b*f=c*f*b:=by ac_rfl
  rw[e1,e2,h1,e3,h2]
 exact xP (Zm hd) k3
def lt(p q:Qt):Prop:=pc p q<0
theorem abF{p q:Qt}:pc p q<0↔fc p.1 q.1<0\/(fc p.1 q.1=0/\fc p.2 q.2<0):=by
 unfold pc;split<;>omega
theorem Fv(p q:Qt):pc q p= -pc p q:=by
 unfold pc;rw[Q5 p.1 q.1,Q5 p.2 q.2];split<;>split<;>omega
theorem abG{p q:Qt}(hp:fL p)(hq:fL q)(h:pc p q=0):p=q:=by
 unfold pc at h;split at h
 ·rename_i h1
  exact dC (KF hp.x hq.x h1) (KF hp.y hq.y h)
 ·rename_i h1;exact absurd h h1
theorem wu(p:Qt):pc p p=0:=by
 unfold pc;rw[yx,ah rfl,yx]
theorem lt_trans{p q r:Qt}(hp:fL p)(hq:fL q)(hr:fL r)(h1:lt p q)(h2:lt q r):lt p r:=by
 unfold lt at*;rw[abF] at*;rw[Q7,Q8,Q7] at*;rcases h1 with h1|⟨h1,h1'⟩
 ·rcases h2 with h2|⟨h2,_⟩
  ·exact ae (uD hp.x.pos hq.x.pos hr.x.pos h1 (dB h2))
  ·exact ae (uD hp.x.pos hq.x.pos hr.x.pos h1 (Jj h2))
 ·rcases h2 with h2|⟨h2,h2'⟩
  ·exact ae (KG hp.x.pos hq.x.pos hr.x.pos (Jj h1) h2)
  ·exact af ⟨KH hq.x.pos h1 h2,uD hp.y.pos hq.y.pos hr.y.pos h1' (dB h2')⟩
theorem lt_irrefl(p:Qt):¬lt p p:=by unfold lt;rw[wu];decide
def qJ(l:List Qt):Prop:=l.Pairwise lt
def ins(p:Qt):List Qt->List Qt
 |[]=>[p]
 |q::l=>if pc q p=0 then q::l else if pc q p<0 then q::ins p l else p::q::l
theorem qK{p:Qt}(hp:fL p):∀{l:List Qt},(∀q∈l,fL q)->∀r,r∈ins p l↔r=p\/r∈l
 |[],_,r=>by simp[ins]
 |q::l,hl,r=>by
  unfold ins;split
  ·rename_i h
   have e:=abG (hl q (by simp)) hp h
   subst e;simp
  ·split
   ·have ih:=qK hp (l:=l) (fun x hx=>hl x (by simp[hx])) r
    simp only[aP,ih];constructor
    ·rintro(h|h|h)
     ·exact af (ae h)
     ·exact ae h
     ·exact af (af h)
    ·rintro(h|h|h)
     ·exact af (ae h)
     ·exact ae h
     ·exact af (af h)
   ·simp
theorem uE{p:Qt}(hp:fL p){l:List Qt}(hl:∀q∈l,fL q):∀q∈ins p l,fL q:=fun q hq=>by
 rcases(qK hp hl q).1 hq with h|h
 ·rw[h];exact hp
 ·exact hl q h
theorem Q9{p:Qt}(hp:fL p):∀{l:List Qt},(∀q∈l,fL q)->qJ l->qJ (ins p l)
 |[],_,_=>by simp[ins,qJ]
 |q::l,hl,ha=>by
  have ha':=fE.1 ha;unfold ins;split
  ·exact ha
  ·split
   ·rename_i _ h
    refine fE.2 ⟨fun r hr=>?_,Q9 hp (fun x hx=>hl x (by simp[hx])) ha'.2⟩
    rcases(qK hp (fun x hx=>hl x (by simp[hx])) r).1 hr with e|e
    ·rw[e];exact h
    ·exact ha'.1 r e
   ·rename_i h0 h1
    have jT:lt p q:=by unfold lt;have:=Fv q p;omega
    refine fE.2 ⟨fun r hr=>?_,ha⟩
    rcases aP.1 hr with e|e
    ·rw[e];exact jT
    ·exact lt_trans hp (hl q (by simp)) (hl r (by simp[e])) jT (ha'.1 r e)
theorem Ra:∀{a b:List Qt},(∀q∈a,fL q)->(∀q∈b,fL q)->qJ a->qJ b->(∀q,q∈a↔q∈b)->a=b
 |[],[],_,_,_,_,_=>rfl
 |[],q::l,_,_,_,_,h=>by have:=(h q).2 (by simp);simp at this
 |q::l,[],_,_,_,_,h=>by have:=(h q).1 (by simp);simp at this
 |p::a,q::b,ra,rb,ha,hb,h=>by
  have ha':=fE.1 ha;have hb':=fE.1 hb;have e:p=q:=by
   rcases aP.1 ((h p).1 (by simp)) with e|e
   ·exact e
   ·rcases aP.1 ((h q).2 (by simp)) with e'|e'
    ·exact e'.symm
    ·have h1:=hb'.1 p e;have h2:=ha'.1 q e';exact absurd (lt_trans (ra p (by simp)) (rb q (by simp)) (ra p (by simp)) h2 h1) (lt_irrefl p)
  subst e;congr 1;refine Ra (fun x hx=>ra x (by simp[hx])) (fun x hx=>rb x (by simp[hx])) ha'.2 hb'.2 fun r=>?_
  constructor
  ·intro hr;rcases aP.1 ((h r).1 (by simp[hr])) with e|e
   ·exact absurd (ha'.1 r hr) (by rw[e];exact lt_irrefl p)
   ·exact e
  ·intro hr;rcases aP.1 ((h r).2 (by simp[hr])) with e|e
   ·exact absurd (hb'.1 r hr) (by rw[e];exact lt_irrefl p)
   ·exact e
end Ge
namespace Ge
def aS(n d:Int):Fr:=if d<0 then(Bd (-n) (-d),wh (-n) (-d)) else(Bd n d,wh n d)
theorem Rb{n d g:Int}{a b:Int}(hg:(Int.gcd n d:Int)=g)(hp:0<g)(h1:n=g*a)(h2:d=g*b):Int.gcd a b=1:=by
 have e:Int.gcd (g*a) (g*b)=g.natAbs*Int.gcd a b:=Zr ..;rw[<-h1,<-h2] at e;have e2:(Int.gcd n d)=g.natAbs:=by omega
 rw[e2] at e;have hpos:0<g.natAbs:=by omega
 have e3:g.natAbs*1=g.natAbs*Int.gcd a b:=by rw[Nat.mul_one];exact e
 exact(akn hpos e3).symm
theorem yz{n d:Int}(hd:d≠0):Bk (aS n d):=by
 unfold aS;split
 ·rename_i h
  exact⟨QR (by omega),Rb rfl (by have:=qI (n:= -n) (d:= -d) (by omega);omega) (Ff (-n) (-d)) (Be (-n) (-d))⟩
 ·exact⟨QR (by omega),Rb rfl (by have:=qI (n:=n) hd;omega) (Ff n d) (Be n d)⟩
theorem yA{n d:Int}(hd:d≠0):∃g,g≠0/\n=g*(aS n d).1/\d=g*(aS n d).2/\(0<g↔0<d):=by
 unfold aS;split
 ·rename_i h
  have hg:=qI (n:= -n) (d:= -d) (by omega)
  have e1:=Ff (-n) (-d);have e2:=Be (-n) (-d);refine⟨-(Int.gcd (-n) (-d):Int),by omega,?_,?_,by omega⟩
  ·simp only;rw[gS,<-e1];omega
  ·simp only;rw[gS,<-e2];omega
 ·have hg:=qI (n:=n) hd;exact⟨_,by omega,Ff n d,Be n d,by omega⟩
theorem Fw(n:Int):aS n 1=(n,1):=by
 unfold aS;rw[aa (by decide)]
 unfold Bd wh;rw[OX];simp
theorem yB{n d m e:Int}(hd:d≠0)(he:e≠0)(h:n*e=m*d):aS n d=aS m e:=by
 obtain⟨g,g0,h1,h2,_⟩:=yA (n:=n) hd;obtain⟨k,k0,h3,h4,_⟩:=yA (n:=m) he;refine KF (yz hd) (yz he) (Q8.2 ?_);have e1:g*(aS n d).1*(k*(aS m e).2)=k*(aS m e).1*(g*(aS n d).2):=by rw[<-h1,<-h2,<-h3,<-h4];exact h
 have e2:(g*k)*((aS n d).1*(aS m e).2)=(g*k)*((aS m e).1*(aS n d).2):=by
  calc (g*k)*((aS n d).1*(aS m e).2)=g*(aS n d).1*(k*(aS m e).2):=by ac_rfl
   _=k*(aS m e).1*(g*(aS n d).2):=e1
   _=(g*k)*((aS m e).1*(aS n d).2):=by ac_rfl
 exact xP (Zt g0 k0) e2
end Ge
theorem abH(l:List UInt8)(c:UInt8):Pl.qz (l++[c])=10*Pl.qz l+(c.toNat-48):=by simp[Pl.qz]
theorem Rc(rb:Nat)(s:ByteArray)(A r:List Pl.Tk)(x:Pl.Tk)(rg:List (List (Int×Int)))(w:World)(hR:RD rb s A (x::r) rg w)(hx:x.k≠110):
  Calls Tryz.prog 196 #[.pointer (some ⟨rb,0,none⟩)] w fun e w'=>e=.returned (.bool false)/\RD rb s A (x::r) rg w'/\Below rb w w':=by
 have hlt:=hR.lt;obtain⟨t',r',hl,c0,c1,c2,c3,c4⟩:=hR.cells;injection hl with h1 h2;subst h1 h2
 go_enter Tryz.func196,Tryz.ntmps196
 go_wp2_with fail
 refine(Qy rb s A r x _ _ (hR.alloc _) hx).mono ?_;rintro e w1 ⟨rfl,rfl⟩
 go_wp2_with fail
 go_ret
 exact⟨rfl,hR.alloc _,(Below.refl rb w).alloc (by omega) _⟩
theorem abI(hO:lM)(rb:Nat)(s:ByteArray)(A r:List Pl.Tk)(x y:Pl.Tk)(rg:List (List (Int×Int)))(w:World)(cx:Cx rb s A)(hR:RD rb s A (x::y::r) rg w)(hG:Gl w)(hx:x.k=110)(hy:y.k≠110):
  Calls Tryz.prog 196 #[.pointer (some ⟨rb,0,none⟩)] w fun e w'=>e=.returned (.bool false)/\RD rb s A (y::r) rg w'/\Below rb w w':=by
 have hlt:=hR.lt;obtain⟨t',r',hl,c0,c1,c2,c3,c4⟩:=hR.cells;injection hl with h1 h2;subst h1 h2
 go_enter Tryz.func196,Tryz.ntmps196
 go_wp2_with fail
 refine(Kf hO rb s A (y::r) x _ _ cx (hR.alloc _) (hG.alloc _) hx).mono ?_;rintro e w1 ⟨rfl,dD,hb1,hk1⟩;clear c0 c1 c2 c3 c4;obtain⟨t',r',hl,c0,c1,c2,c3,c4⟩:=dD.cells;injection hl with h1 h2;subst h1 h2;have ur:=dD.lt
 go_wp2_with fail
 refine(Qy rb s A r y _ _ (dD.alloc _) hy).mono ?_;rintro e w2 ⟨rfl,rfl⟩
 go_wp2_with fail
 go_ret
 exact⟨rfl,dD.alloc _,(((Below.refl rb w).alloc (by omega) _).trans hb1).alloc (by omega) _⟩
theorem RD.chain{rb:Nat}{s:ByteArray}{A l:List Pl.Tk}{rg:List (List (Int×Int))}{w:World}(cx:Cx rb s A)(h:RD rb s A l rg w):Pl.iG s.data.toList l:=by
 obtain⟨c,t,r,hc,hl⟩:=h.suffix;exact Pl.J6 _ c l (by rw[hc];exact cx.ch) (by rw[hl];simp)
theorem RD.le{rb:Nat}{s:ByteArray}{A l:List Pl.Tk}{rg:List (List (Int×Int))}{w:World}(h:RD rb s A l rg w):l.length<=A.length:=by
 obtain⟨c,t,r,hc,hl⟩:=h.suffix;rw[<-hc];simp
def mq(rb:Nat)(s:ByteArray)(A:List Pl.Tk)(b:Bool)(l':List Pl.Tk)(sK:List (List (Int×Int)))(w:World)(e:Ending)(w':World):Prop:=
 e=.returned (.bool b)/\(∃rg,RD rb s A l' rg w'/\(b=true->rg=sK))/\Below rb w w'
theorem abJ(hO:lM)(rb:Nat)(s:ByteArray)(A l:List Pl.Tk)(rg:List (List (Int×Int)))(q:List (Int×Int))(w:World)(cx:Cx rb s A)(hR:RD rb s A l (rg++[q]) w)(hG:Gl w)(hq:q.length<=1000)(hrg:rg.length<=1000):
  Calls Tryz.prog 196 #[.pointer (some ⟨rb,0,none⟩)] w (mq rb s A (Pl.fq l).1 (Pl.fq l).2.1 (rg++[q++[(Pl.fq l).2.2]]) w):=by
 have hch:=hR.chain cx
 match l,hR,hch with
 |[],hR,hch=>exact hch.elim
 |[x],hR,hch=>
  have hx:x.k≠110:=by
   have:x.k=101\/x.k=120:=hch;omega
  refine(Rc rb s A [] x _ w hR hx).mono ?_;rintro e w' ⟨rfl,h1,h2⟩;exact⟨rfl,⟨_,h1,fun h=>(by cases h)⟩,h2⟩
 |x::y::r,hR,hch=>
  by_cases hx:x.k=110
  ·by_cases hy:y.k=110
   ·have e:Pl.fq (x::y::r)=(true,r,(x.n,y.n)):=by simp[Pl.fq,hx,hy]
    rw[e];refine(aa2 hO rb s A r x y rg q w cx hR hG hx hy hq hrg).mono ?_;rintro e w' ⟨rfl,h1,h2⟩;exact⟨rfl,⟨_,h1,fun _=>rfl⟩,h2⟩
   ·have e:Pl.fq (x::y::r)=(false,y::r,(0,0)):=by simp[Pl.fq,hx,hy]
    rw[e];refine(abI hO rb s A r x y _ w cx hR hG hx hy).mono ?_;rintro e w' ⟨rfl,h1,h2⟩;exact⟨rfl,⟨_,h1,fun h=>(by cases h)⟩,h2⟩
  ·have e:Pl.fq (x::y::r)=(false,x::y::r,(0,0)):=by simp[Pl.fq,hx]
   rw[e];refine(Rc rb s A _ x _ w hR hx).mono ?_;rintro e w' ⟨rfl,h1,h2⟩;exact⟨rfl,⟨_,h1,fun h=>(by cases h)⟩,h2⟩
theorem pC{c:Nat}{l:List Pl.Tk}(h:(Pl.mk c l).1=true):(Pl.mk c l).2.length+1=l.length:=by
 cases l with
 |nil=>simp[Pl.mk] at h
 |cons t r=>
  by_cases hk:t.k=c
  ·simp[Pl.mk,hk]
  ·simp[Pl.mk,hk] at h
theorem wz{c:Nat}{l:List Pl.Tk}(h:(Pl.mk c l).1=false):(Pl.mk c l).2=l:=by
 cases l with
 |nil=>rfl
 |cons t r=>
  by_cases hk:t.k=c
  ·simp[Pl.mk,hk] at h
  ·simp[Pl.mk,hk]
theorem Bl{α:Type}{item:List Pl.Tk->Bool×List Pl.Tk×α}{g:Nat}{l:List Pl.Tk}{acc:List α}(h:(item l).1=false):Pl.bY item (g+1) l acc=(false,(item l).2.1,acc):=by
 rw[Pl.bY,aa (by rw[h];simp)]
theorem Bn{α:Type}{item:List Pl.Tk->Bool×List Pl.Tk×α}{g:Nat}{l:List Pl.Tk}{acc:List α}(h:(item l).1=true)(h2:(Pl.mk 44 (item l).2.1).1=true):
  Pl.bY item (g+1) l acc=Pl.bY item g (Pl.mk 44 (item l).2.1).2 (acc++[(item l).2.2]):=by
 rw[Pl.bY,ah h,ah h2]
theorem Bo{α:Type}{item:List Pl.Tk->Bool×List Pl.Tk×α}{g:Nat}{l:List Pl.Tk}{acc:List α}(h:(item l).1=true)(h2:(Pl.mk 44 (item l).2.1).1=false):
  Pl.bY item (g+1) l acc=((Pl.mk 41 (item l).2.1).1,(Pl.mk 41 (item l).2.1).2,acc++[(item l).2.2]):=by
 rw[Pl.bY,ah h,aa (by rw[h2];simp)]
theorem abK{α:Type}(item:List Pl.Tk->Bool×List Pl.Tk×α)(E:List α->List (List (Int×Int)))(B:List Pl.Tk->List α->Prop)(hO:lM)(rb:Nat)(s:ByteArray)(A:List Pl.Tk)(cx:Cx rb s A)
  (hI:∀l acc w,RD rb s A l (E acc) w->Gl w->B l acc->Calls Tryz.prog 196 #[.pointer (some ⟨rb,0,none⟩)] w (mq rb s A (item l).1 (item l).2.1 (E (acc++[(item l).2.2])) w))
  (hd:∀l,(item l).1=true->(item l).2.1.length<l.length)
  (hB:∀l acc,B l acc->(item l).1=true->B (Pl.mk 44 (item l).2.1).2 (acc++[(item l).2.2]))
  (f:Nat)(l:List Pl.Tk)(acc:List α)(w:World)(hR:RD rb s A l (E acc) w)(hG:Gl w)(hBl:B l acc)(hf:l.length<=f):
  Calls Tryz.prog 149 #[.pointer (some ⟨rb,0,none⟩),.func (.func 196) #[.pointer (some ⟨rb,0,none⟩)] #[]] w (mq rb s A (Pl.bY item f l acc).1 (Pl.bY item f l acc).2.1 (E (Pl.bY item f l acc).2.2) w):=by
 generalize hT:Pl.bY item f l acc=T;have HI:Hid (∀l acc w,RD rb s A l (E acc) w->Gl w->B l acc->Calls Tryz.prog 196 #[.pointer (some ⟨rb,0,none⟩)] w (mq rb s A (item l).1 (item l).2.1 (E (acc++[(item l).2.2])) w)):=hI;have HD:Hid (∀l,(item l).1=true->(item l).2.1.length<l.length):=hd;have HB:Hid (∀l acc,B l acc->(item l).1=true->B (Pl.mk 44 (item l).2.1).2 (acc++[(item l).2.2])):=hB;have HS:Hid (∃l acc,l.length<=f/\RD rb s A l (E acc) w/\Gl w/\B l acc/\Below rb w w/\Pl.bY item f l acc=T):=⟨l,acc,hf,hR,hG,hBl,Below.refl _ _,hT⟩;clear hI hd hB hT hR hG hBl hf
 go_enter Tryz.func149,Tryz.ntmps149
 go_wp2_with fail
 go_loopg [6] f (fun g s6 wr=>Hid (∃l acc,l.length<=g/\RD rb s A l (E acc) wr/\Gl wr/\B l acc/\Below rb w wr/\Pl.bY item g l acc=T))
 case atStart=>exact HS
 case round=>
  obtain⟨l,acc,hlen,hR,hG,hBl,aj,hT⟩:=hrel.out;have hne:l≠[]:=by
   obtain⟨_,_,_,_,h⟩:=hR.suffix;rw[h];simp
  obtain⟨g1,rfl⟩:∃g1,gk=g1+1:=⟨gk-1,by have:=il.2 hne;omega⟩
  clear hne;have HR:Hid (Pl.bY item (g1+1) l acc=T):=hT;have HL:Hid (l.length<=g1+1):=hlen;clear hT hlen
  go_wp2_with fail
  refine(HI.out l acc wr hR hG hBl).mono ?_;rintro e w1 ⟨rfl,⟨pD,dD,hrg1⟩,hb1⟩;have bz:Gl w1:=hG.below hb1 cx.rb;have HE:Hid ((item l).1=true->pD=E (acc++[(item l).2.2])):=hrg1;clear hrg1;cases hi:(item l).1
  ·have hT:=HR.out;rw[Bl hi] at hT;subst hT;clear HR HE HB HD HI HS hrel
   go_wp2_with fail
   go_ret
   exact⟨rfl,⟨pD,dD,fun h=>(by cases h)⟩,aj.trans hb1⟩
  ·have hrg:=HE.out hi;subst hrg;clear HE
   go_wp2_with fail
   refine(qF hO 44 (by decide) rb s A _ _ w1 cx dD bz).mono ?_
   rintro e w2 ⟨rfl,cd,hb2⟩;have ki:Gl w2:=bz.below hb2 cx.rb;simp only[show(44:UInt8).toNat=44 from rfl] at cd⊢
   cases hm:(Pl.mk 44 (item l).2.1).1
   ·have hT:=HR.out;rw[Bo hi hm] at hT;subst hT;rw[wz hm] at cd;clear HR HB HD HI HS hrel
    go_wp2_with fail
    refine(qF hO 41 (by decide) rb s A _ _ w2 cx cd ki).mono ?_
    rintro e w3 ⟨rfl,kQ,hb3⟩;simp only[show(41:UInt8).toNat=41 from rfl] at kQ⊢
    go_wp2_with fail
    go_ret
    exact⟨rfl,⟨_,kQ,fun _=>rfl⟩,((aj.trans hb1).trans hb2).trans hb3⟩
   ·have hT:=HR.out;rw[Bn hi hm] at hT;have HN:Hid (∃l acc,l.length<=g1/\RD rb s A l (E acc) w2/\Gl w2/\B l acc/\Below rb w w2/\Pl.bY item g1 l acc=T):=by
     refine⟨_,_,?_,cd,ki,HB.out l acc hBl hi,(aj.trans hb1).trans hb2,hT⟩;have q1:=HD.out l hi;have q2:=pC hm;have q3:=HL.out;omega
    clear hT HR
    go_wp2_with fail
    go_roundg g1
    case measure=>omega
    case rel=>exact HN
theorem abL{α:Type}(item:List Pl.Tk->Bool×List Pl.Tk×α)(E:List α->List (List (Int×Int)))(B:List Pl.Tk->List α->Prop)(hO:lM)(rb:Nat)(s:ByteArray)(A:List Pl.Tk)(cx:Cx rb s A)
  (hI:∀l acc w,RD rb s A l (E acc) w->Gl w->B l acc->Calls Tryz.prog 150 #[.pointer (some ⟨rb,0,none⟩)] w (mq rb s A (item l).1 (item l).2.1 (E (acc++[(item l).2.2])) w))
  (hd:∀l,(item l).1=true->(item l).2.1.length<l.length)
  (hB:∀l acc,B l acc->(item l).1=true->B (Pl.mk 44 (item l).2.1).2 (acc++[(item l).2.2]))
  (f:Nat)(l:List Pl.Tk)(acc:List α)(w:World)(hR:RD rb s A l (E acc) w)(hG:Gl w)(hBl:B l acc)(hf:l.length<=f):
  Calls Tryz.prog 149 #[.pointer (some ⟨rb,0,none⟩),.func (.func 150) #[.pointer (some ⟨rb,0,none⟩)] #[]] w (mq rb s A (Pl.bY item f l acc).1 (Pl.bY item f l acc).2.1 (E (Pl.bY item f l acc).2.2) w):=by
 generalize hT:Pl.bY item f l acc=T;have HI:Hid (∀l acc w,RD rb s A l (E acc) w->Gl w->B l acc->Calls Tryz.prog 150 #[.pointer (some ⟨rb,0,none⟩)] w (mq rb s A (item l).1 (item l).2.1 (E (acc++[(item l).2.2])) w)):=hI;have HD:Hid (∀l,(item l).1=true->(item l).2.1.length<l.length):=hd;have HB:Hid (∀l acc,B l acc->(item l).1=true->B (Pl.mk 44 (item l).2.1).2 (acc++[(item l).2.2])):=hB;have HS:Hid (∃l acc,l.length<=f/\RD rb s A l (E acc) w/\Gl w/\B l acc/\Below rb w w/\Pl.bY item f l acc=T):=⟨l,acc,hf,hR,hG,hBl,Below.refl _ _,hT⟩;clear hI hd hB hT hR hG hBl hf
 go_enter Tryz.func149,Tryz.ntmps149
 go_wp2_with fail
 go_loopg [6] f (fun g s6 wr=>Hid (∃l acc,l.length<=g/\RD rb s A l (E acc) wr/\Gl wr/\B l acc/\Below rb w wr/\Pl.bY item g l acc=T))
 case atStart=>exact HS
 case round=>
  obtain⟨l,acc,hlen,hR,hG,hBl,aj,hT⟩:=hrel.out;have hne:l≠[]:=by
   obtain⟨_,_,_,_,h⟩:=hR.suffix;rw[h];simp
  obtain⟨g1,rfl⟩:∃g1,gk=g1+1:=⟨gk-1,by have:=il.2 hne;omega⟩
  clear hne;have HR:Hid (Pl.bY item (g1+1) l acc=T):=hT;have HL:Hid (l.length<=g1+1):=hlen;clear hT hlen
  go_wp2_with fail
  refine(HI.out l acc wr hR hG hBl).mono ?_;rintro e w1 ⟨rfl,⟨pD,dD,hrg1⟩,hb1⟩;have bz:Gl w1:=hG.below hb1 cx.rb;have HE:Hid ((item l).1=true->pD=E (acc++[(item l).2.2])):=hrg1;clear hrg1;cases hi:(item l).1
  ·have hT:=HR.out;rw[Bl hi] at hT;subst hT;clear HR HE HB HD HI HS hrel
   go_wp2_with fail
   go_ret
   exact⟨rfl,⟨pD,dD,fun h=>(by cases h)⟩,aj.trans hb1⟩
  ·have hrg:=HE.out hi;subst hrg;clear HE
   go_wp2_with fail
   refine(qF hO 44 (by decide) rb s A _ _ w1 cx dD bz).mono ?_
   rintro e w2 ⟨rfl,cd,hb2⟩;have ki:Gl w2:=bz.below hb2 cx.rb;simp only[show(44:UInt8).toNat=44 from rfl] at cd⊢
   cases hm:(Pl.mk 44 (item l).2.1).1
   ·have hT:=HR.out;rw[Bo hi hm] at hT;subst hT;rw[wz hm] at cd;clear HR HB HD HI HS hrel
    go_wp2_with fail
    refine(qF hO 41 (by decide) rb s A _ _ w2 cx cd ki).mono ?_
    rintro e w3 ⟨rfl,kQ,hb3⟩;simp only[show(41:UInt8).toNat=41 from rfl] at kQ⊢
    go_wp2_with fail
    go_ret
    exact⟨rfl,⟨_,kQ,fun _=>rfl⟩,((aj.trans hb1).trans hb2).trans hb3⟩
   ·have hT:=HR.out;rw[Bn hi hm] at hT;have HN:Hid (∃l acc,l.length<=g1/\RD rb s A l (E acc) w2/\Gl w2/\B l acc/\Below rb w w2/\Pl.bY item g1 l acc=T):=by
     refine⟨_,_,?_,cd,ki,HB.out l acc hBl hi,(aj.trans hb1).trans hb2,hT⟩;have q1:=HD.out l hi;have q2:=pC hm;have q3:=HL.out;omega
    clear hT HR
    go_wp2_with fail
    go_roundg g1
    case measure=>omega
    case rel=>exact HN
theorem abM{α:Type}(item:List Pl.Tk->Bool×List Pl.Tk×α)(E:List α->List (List (Int×Int)))(B:List Pl.Tk->List α->Prop)(hO:lM)(rb:Nat)(s:ByteArray)(A:List Pl.Tk)(cx:Cx rb s A)
  (hI:∀l acc w,RD rb s A l (E acc) w->Gl w->B l acc->Calls Tryz.prog 95 #[.pointer (some ⟨rb,0,none⟩)] w (mq rb s A (item l).1 (item l).2.1 (E (acc++[(item l).2.2])) w))
  (hd:∀l,(item l).1=true->(item l).2.1.length<l.length)
  (hB:∀l acc,B l acc->(item l).1=true->B (Pl.mk 44 (item l).2.1).2 (acc++[(item l).2.2]))
  (f:Nat)(l:List Pl.Tk)(acc:List α)(w:World)(hR:RD rb s A l (E acc) w)(hG:Gl w)(hBl:B l acc)(hf:l.length<=f):
  Calls Tryz.prog 149 #[.pointer (some ⟨rb,0,none⟩),.func (.func 95) #[.pointer (some ⟨rb,0,none⟩)] #[]] w (mq rb s A (Pl.bY item f l acc).1 (Pl.bY item f l acc).2.1 (E (Pl.bY item f l acc).2.2) w):=by
 generalize hT:Pl.bY item f l acc=T;have HI:Hid (∀l acc w,RD rb s A l (E acc) w->Gl w->B l acc->Calls Tryz.prog 95 #[.pointer (some ⟨rb,0,none⟩)] w (mq rb s A (item l).1 (item l).2.1 (E (acc++[(item l).2.2])) w)):=hI;have HD:Hid (∀l,(item l).1=true->(item l).2.1.length<l.length):=hd;have HB:Hid (∀l acc,B l acc->(item l).1=true->B (Pl.mk 44 (item l).2.1).2 (acc++[(item l).2.2])):=hB;have HS:Hid (∃l acc,l.length<=f/\RD rb s A l (E acc) w/\Gl w/\B l acc/\Below rb w w/\Pl.bY item f l acc=T):=⟨l,acc,hf,hR,hG,hBl,Below.refl _ _,hT⟩;clear hI hd hB hT hR hG hBl hf
 go_enter Tryz.func149,Tryz.ntmps149
 go_wp2_with fail
 go_loopg [6] f (fun g s6 wr=>Hid (∃l acc,l.length<=g/\RD rb s A l (E acc) wr/\Gl wr/\B l acc/\Below rb w wr/\Pl.bY item g l acc=T))
 case atStart=>exact HS
 case round=>
  obtain⟨l,acc,hlen,hR,hG,hBl,aj,hT⟩:=hrel.out;have hne:l≠[]:=by
   obtain⟨_,_,_,_,h⟩:=hR.suffix;rw[h];simp
  obtain⟨g1,rfl⟩:∃g1,gk=g1+1:=⟨gk-1,by have:=il.2 hne;omega⟩
  clear hne;have HR:Hid (Pl.bY item (g1+1) l acc=T):=hT;have HL:Hid (l.length<=g1+1):=hlen;clear hT hlen
  go_wp2_with fail
  refine(HI.out l acc wr hR hG hBl).mono ?_;rintro e w1 ⟨rfl,⟨pD,dD,hrg1⟩,hb1⟩;have bz:Gl w1:=hG.below hb1 cx.rb;have HE:Hid ((item l).1=true->pD=E (acc++[(item l).2.2])):=hrg1;clear hrg1;cases hi:(item l).1
  ·have hT:=HR.out;rw[Bl hi] at hT;subst hT;clear HR HE HB HD HI HS hrel
   go_wp2_with fail
   go_ret
   exact⟨rfl,⟨pD,dD,fun h=>(by cases h)⟩,aj.trans hb1⟩
  ·have hrg:=HE.out hi;subst hrg;clear HE
   go_wp2_with fail
   refine(qF hO 44 (by decide) rb s A _ _ w1 cx dD bz).mono ?_
   rintro e w2 ⟨rfl,cd,hb2⟩;have ki:Gl w2:=bz.below hb2 cx.rb;simp only[show(44:UInt8).toNat=44 from rfl] at cd⊢
   cases hm:(Pl.mk 44 (item l).2.1).1
   ·have hT:=HR.out;rw[Bo hi hm] at hT;subst hT;rw[wz hm] at cd;clear HR HB HD HI HS hrel
    go_wp2_with fail
    refine(qF hO 41 (by decide) rb s A _ _ w2 cx cd ki).mono ?_
    rintro e w3 ⟨rfl,kQ,hb3⟩;simp only[show(41:UInt8).toNat=41 from rfl] at kQ⊢
    go_wp2_with fail
    go_ret
    exact⟨rfl,⟨_,kQ,fun _=>rfl⟩,((aj.trans hb1).trans hb2).trans hb3⟩
   ·have hT:=HR.out;rw[Bn hi hm] at hT;have HN:Hid (∃l acc,l.length<=g1/\RD rb s A l (E acc) w2/\Gl w2/\B l acc/\Below rb w w2/\Pl.bY item g1 l acc=T):=by
     refine⟨_,_,?_,cd,ki,HB.out l acc hBl hi,(aj.trans hb1).trans hb2,hT⟩;have q1:=HD.out l hi;have q2:=pC hm;have q3:=HL.out;omega
    clear hT HR
    go_wp2_with fail
    go_roundg g1
    case measure=>omega
    case rel=>exact HN
namespace Pl
theorem yC(c:Nat)(l:List Tk):(mk c l).2.length<=l.length:=by
 cases l with
 |nil=>simp[mk]
 |cons t r=>by_cases hk:t.k=c<;>simp[mk,hk]
theorem yD{c:Nat}{l:List Tk}(h:(mk c l).1=true):(mk c l).2.length<l.length:=by
 have:=pC h;omega
theorem yE{q:List UInt8}{l:List Tk}(h:(wd q l).1=true):(wd q l).2.length<l.length:=by
 cases l with
 |nil=>simp[wd] at h
 |cons t r=>
  by_cases hk:t.k=119/\t.raw=q
  ·simp only[wd];rw[ah hk];simp
  ·simp only[wd] at h;rw[aa hk] at h;cases h
theorem KJ(l:List Tk)(h:(fq l).1=true):(fq l).2.1.length<l.length:=by
 match l,h with
 |[],h=>cases h
 |[x],h=>cases h
 |x::y::r,h=>
  by_cases hx:x.k=110
  ·by_cases hy:y.k=110
   ·simp[fq,hx,hy];omega
   ·simp[fq,hx,hy] at h
  ·simp[fq,hx] at h
theorem Fx{α:Type}(item:List Tk->Bool×List Tk×α)(hd:∀l,(item l).1=true->(item l).2.1.length<l.length):
  ∀(f:Nat)(l:List Tk)(acc:List α),(bY item f l acc).1=true->(bY item f l acc).2.1.length<l.length/\(bY item f l acc).2.2.length+(bY item f l acc).2.1.length<=acc.length+l.length
 |0,l,acc,h=>by cases h
 |f+1,l,acc,h=>by
  cases hi:(item l).1
  ·rw[Bl hi] at h;cases h
  ·have h1:=hd l hi;cases hm:(mk 44 (item l).2.1).1
   ·rw[Bo hi hm] at h⊢;have h2:=yD h;simp only[aT,cG,gU];omega
   ·rw[Bn hi hm] at h⊢;have ih:=Fx item hd f _ _ h;have h2:=yD hm;simp only[aT,cG,gU] at ih;omega
theorem KM(l:List Tk)(h:(ia l).1=true):(ia l).2.1.length<l.length:=by
 unfold ia at h⊢;by_cases h1:(mk 40 l).1=true
 ·have q:=yD h1;rw[ah h1] at h⊢;by_cases h2:(mk 41 (mk 40 l).2).1=true
  ·rw[ah h2] at h⊢;have:=yD h2;simp only;omega
  ·rw[aa h2] at h⊢;have:=(Fx fq KJ _ _ _ h).1;omega
 ·rw[aa h1] at h;cases h
theorem Fy(l:List Tk)(h:(dv l).1=true):(dv l).2.1.length<l.length/\(dv l).2.2.length+(dv l).2.1.length<=l.length:=by
 unfold dv at h⊢;by_cases h0:(wd EMPTY l).1=true
 ·rw[ah h0];have:=yE h0;simp only[gU];omega
 ·rw[aa h0] at h⊢;by_cases h1:(mk 40 l).1=true
  ·have q:=yD h1;rw[ah h1] at h⊢;have:=Fx ia KM _ _ _ h;simp only[gU] at this;omega
  ·rw[aa h1] at h;cases h
theorem abN(l:List Tk)(h:(iX l).1=true):(iX l).2.1.length<l.length:=by
 unfold iX at h⊢;by_cases h0:(wd EMPTY l).1=true
 ·rw[ah h0];exact yE h0
 ·rw[aa h0] at h⊢;by_cases h1:(mk 40 l).1=true
  ·have q:=yD h1;rw[ah h1] at h⊢;have:=(Fx dv (fun l h=>(Fy l h).1) _ _ _ h).1
   omega
  ·rw[aa h1] at h;cases h
end Pl
theorem o8.snoc{rb:Nat}{rv:Value}{rg:List (List (Int×Int))}{w w1:World}{o:Obj}{g cap:Nat}{vs:List Value}
  (h1:vs.length=rg.length)(h2:w.ownsRow (rb+1) 127 1 rv rg.length vs)
  (h3:∀(i:Nat) v g,vs[i]?=some v->rg[i]?=some g->w.ownsRow (rb+1) 81 1 v g.length (oc g))
  (h4:∀(i j:Nat) v u k,vs[i]?=some v->vs[j]?=some u->v.ownBlock=some k->u.ownBlock=some k->i=j)
  (hgrow:(w.alloc o).grownBy w1 rv.ownBlock)(ho:w1.ownsRow (rb+1) 127 1 (.slice (some ⟨g,0,none⟩) (rg.length+1) cap) (rg.length+1) (vs++[.slice none 0 0])):
  o8 rb (.slice (some ⟨g,0,none⟩) (rg.length+1) cap) (rg++[[]]) (w1.setCell ⟨rb,6,none⟩ (.slice (some ⟨g,0,none⟩) (rg.length+1) cap)):=by
 refine⟨vs++[.slice none 0 0],by simp[h1],?_,?_,?_⟩
 ·simp only[aT,cG,gU,js];refine aO ho fun k hk=>gJ ?_ _
  have:=(aB ho k hk).1;omega
 ·intro i v g' hi hg';by_cases hin:i<vs.length
  ·rw[eG hin] at hi;rw[eG (by omega)] at hg'
   have hq:=h3 i v g' hi hg';refine aO hq fun k hk=>?_
   have:=(aB hq k hk);obtain⟨c,hc⟩:=vY hq hk;rw[gJ (by omega)]
   exact AW hgrow k this.2 (sB h2 hc (by decide))
  ·have hi2:i=vs.length:=by
    have:=(bU.1 hi).1;simp at this;omega
   subst hi2;have e1:v=.slice none 0 0:=by simpa using hi.symm
   have e2:g'=[]:=by rw[h1] at hg';simpa using hg'.symm
   subst e1 e2;exact World.ownsRow_nil _ _ _ _
 ·intro i j v u k hi hj hv hu;have key:∀(i:Nat) v,(vs++[Value.slice none 0 0])[i]?=some v->v.ownBlock=some k->vs[i]?=some v:=fun i v hi hv=>by
   by_cases hin:i<vs.length
   ·rwa[eG hin] at hi
   ·have hi2:i=vs.length:=by
     have:=(bU.1 hi).1;simp at this;omega
    subst hi2;have e1:v=.slice none 0 0:=by simpa using hi.symm
    subst e1;cases hv
  exact h4 i j v u k (key i v hi hv) (key j u hj hu) hv hu
theorem abO:(Tryz.prog.info? 127).map (fun i=>(i.zero,i.size,i.bytes))=some (some (.slice none 0 0),1,24):=by kernel_rfl
theorem abP(hO:lM)(rb:Nat)(s:ByteArray)(A l:List Pl.Tk)(rg:List (List (Int×Int)))(w:World)(cx:Cx rb s A)(hR:RD rb s A l rg w)(hG:Gl w)(hrg:rg.length<=1000):
  Calls Tryz.prog 150 #[.pointer (some ⟨rb,0,none⟩)] w (mq rb s A (Pl.ia l).1 (Pl.ia l).2.1 (rg++[(Pl.ia l).2.2]) w):=by
 generalize hT:Pl.ia l=T;have HT:Hid (Pl.ia l=T):=hT;clear hT;obtain⟨i0,hi,hz0,hz1,hz2⟩:=info_parts abO;have hlt:=hR.lt;obtain⟨c,t,r0,tv,rv,hc,hl,hbk,hown,vs,h1,h2,h3,h4⟩:=id hR;have c6:w.cell? ⟨rb,6,none⟩=some rv:=cell_of hbk 6;have HH:Hid (∀w1 g cap o,(w.alloc o).grownBy w1 rv.ownBlock->w1.ownsRow (rb+1) 127 1 (.slice (some ⟨g,0,none⟩) (rg.length+1) cap) (rg.length+1) (vs++[.slice none 0 0])->
   RD rb s A l (rg++[[]]) (w1.setCell ⟨rb,6,none⟩ (.slice (some ⟨g,0,none⟩) (rg.length+1) cap))/\Below rb w (w1.setCell ⟨rb,6,none⟩ (.slice (some ⟨g,0,none⟩) (rg.length+1) cap))):=by
  intro w1 g cap o hgrow ho;have k6:=(AW hgrow rb hlt (qE h2 rb (by omega))).trans hbk
  refine⟨⟨c,t,r0,tv,_,hc,hl,heap_set k6 _,aO hown fun k hk=>?_,o8.snoc h1 h2 h3 h4 hgrow ho⟩,?_⟩
  ·obtain⟨c9,sH⟩:=vY hown hk;have:=(aB hown k hk);rw[gJ (by omega)]
   exact AW hgrow k this.2 (sB h2 sH (by decide))
  ·exact(((Below.refl rb w).alloc (dN hlt) _).grown hgrow (by simp;omega) (fun k hk=>by have:=(aB h2 k hk).1;omega)).setCell (ax _) _
 clear h1 h3 h4
 go_enter Tryz.func150,Tryz.ntmps150
 go_wp2_with (at_builtin;refine wpList_append_lies _ rfl (.tmp 7) (.tmp 8) 78 rfl (rb+1) 127 i0 _ 1 24 Tryz.underlying78 hi hz0 hz1 hz2 rfl (by decide) rv rg.length vs rfl (aO h2 (fun k hk=>Below.heap_alloc _ _ _ (aB h2 k hk).2)) ⟨w.heap.size,0,none⟩ 1 1 [.slice none 0 0] rfl rfl (World.news_of_block (cs:= #[.slice none 0 0]) (t:=127) (fr:=(0,0)) (heap_alloc_new w _)) (by simp[Value.oneCell']) (by decide) (by unfold maxLen;omega) (by omega) (by simp;omega) (w.heap.size+1) (by simp) ?_;intro g cap w1 ho hgrow hat ur;have hb1:=(AW hgrow rb hlt (qE h2 rb (by omega))).trans hbk;have d6:w1.cell? ⟨rb,6,none⟩=some rv:=cell_of hb1 6;have f6:w1.frozen? ⟨rb,6,none⟩=false:=aX hb1 6)
 obtain⟨dD,aj⟩:=HH.out w1 g cap _ hgrow ho;have bz:=hG.below aj cx.rb;have hlA:=dD.le;have hcl:=cx.len;clear HH hgrow ho hat ur hb1 d6 f6 c6 h2 hown hbk hl hc hi hz0 hz1 hz2;refine(qF hO 40 (by decide) rb s A l _ _ cx dD bz).mono ?_
 rintro e w2 ⟨rfl,cd,hb2⟩;simp only[show(40:UInt8).toNat=40 from rfl] at cd⊢
 have ki:Gl w2:=bz.below hb2 cx.rb;cases hm:(Pl.mk 40 l).1
 ·have hT:=HT.out;rw[Pl.ia,aa (by rw[hm];simp)] at hT
  subst hT;rw[wz hm] at cd;clear HT
  go_wp2_with fail
  go_ret
  exact⟨rfl,⟨_,cd,fun h=>(by cases h)⟩,aj.trans hb2⟩
 ·go_wp2_with fail
  refine(qF hO 41 (by decide) rb s A _ _ _ cx cd ki).mono ?_
  rintro e w3 ⟨rfl,kQ,hb3⟩;simp only[show(41:UInt8).toNat=41 from rfl] at kQ⊢
  have mr:Gl w3:=ki.below hb3 cx.rb;cases hm2:(Pl.mk 41 (Pl.mk 40 l).2).1
  ·have hT:=HT.out;rw[Pl.ia,ah hm,aa (by rw[hm2];simp)] at hT
   subst hT;rw[wz hm2] at kQ;have hlm:=Pl.yC 40 l;clear HT
   go_wp2_with fail
   refine(abK Pl.fq (fun acc=>rg++[acc]) (fun l acc=>acc.length+l.length<=1000) hO rb s A cx
    (fun l' acc w' hR' Bp hB'=>abJ hO rb s A l' rg acc w' cx hR' Bp (by omega) hrg) Pl.KJ
    (fun l' acc hB' hi'=>by
     have q1:=Pl.KJ l' hi';have q2:=Pl.yC 44 (Pl.fq l').2.1;simp only[aT,cG,gU];omega)
    l.length (Pl.mk 40 l).2 [] w3 kQ mr (by simp;omega) hlm).mono ?_
   rintro e w4 ⟨rfl,⟨sL,sM,sO⟩,hb4⟩
   go_wp2_with fail
   go_ret
   exact⟨rfl,⟨sL,sM,sO⟩,((aj.trans hb2).trans hb3).trans hb4⟩
  ·have hT:=HT.out;rw[Pl.ia,ah hm,ah hm2] at hT;subst hT;clear HT
   go_wp2_with fail
   go_ret
   exact⟨rfl,⟨_,kQ,fun _=>rfl⟩,(aj.trans hb2).trans hb3⟩
theorem Fz{q:List UInt8}{l:List Pl.Tk}(h:(Pl.wd q l).1=false):(Pl.wd q l).2=l:=by
 cases l with
 |nil=>rfl
 |cons t r=>
  by_cases hk:t.k=119/\t.raw=q
  ·simp only[Pl.wd] at h;rw[ah hk] at h;cases h
  ·simp only[Pl.wd];rw[aa hk]
def Pl.bO(l:List Pl.Tk):Bool×List Pl.Tk×List (List (List (Int×Int))):=
 if(Pl.wd Pl.dQ l).1=true then((Pl.dv (Pl.wd Pl.dQ l).2).1,(Pl.dv (Pl.wd Pl.dQ l).2).2.1,[(Pl.dv (Pl.wd Pl.dQ l).2).2.2])
 else if(Pl.wd Pl.jk l).1=true then Pl.iX (Pl.wd Pl.jk l).2
 else(false,l,[])
theorem Re(hO:lM)(rb:Nat)(s:ByteArray)(A l:List Pl.Tk)(rg:List (List (Int×Int)))(w:World)(cx:Cx rb s A)(hR:RD rb s A l rg w)(hG:Gl w)(hrg:rg.length+l.length<=1000):
  Calls Tryz.prog 95 #[.pointer (some ⟨rb,0,none⟩)] w (mq rb s A (Pl.dv l).1 (Pl.dv l).2.1 (rg++(Pl.dv l).2.2) w):=by
 generalize hT:Pl.dv l=T;have HT:Hid (Pl.dv l=T):=hT;clear hT;have hlt:=hR.lt
 go_enter Tryz.func95,Tryz.ntmps95
 go_wp2_with fail
 refine(E8 hO Pl.EMPTY 69 [77,80,84,89] rfl (by decide) rb s A l _ _ cx hR hG).mono ?_
 rintro e w1 ⟨rfl,dD,hb1⟩;have bz:Gl w1:=hG.below hb1 cx.rb;cases hm:(Pl.wd Pl.EMPTY l).1
 ·rw[Fz hm] at dD
  go_wp2_with fail
  refine(qF hO 40 (by decide) rb s A l _ _ cx dD bz).mono ?_
  rintro e w2 ⟨rfl,cd,hb2⟩;simp only[show(40:UInt8).toNat=40 from rfl] at cd⊢
  have ki:Gl w2:=bz.below hb2 cx.rb;cases hm2:(Pl.mk 40 l).1
  ·have hT:=HT.out;rw[Pl.dv,aa (by rw[hm];simp),aa (by rw[hm2];simp)] at hT
   subst hT;rw[wz hm2] at cd;clear HT
   go_wp2_with fail
   go_ret
   exact⟨rfl,⟨_,cd,fun h=>(by cases h)⟩,hb1.trans hb2⟩
  ·have hT:=HT.out;rw[Pl.dv,aa (by rw[hm];simp),ah hm2] at hT
   subst hT;clear HT;have hlm:=Pl.yC 40 l
   go_wp2_with fail
   refine(abL Pl.ia (fun acc=>rg++acc) (fun l acc=>rg.length+acc.length+l.length<=1000) hO rb s A cx
    (fun l' acc w' hR' Bp hB'=>by
     rw[<-eF];exact abP hO rb s A l' (rg++acc) w' cx hR' Bp (by simp;omega)) Pl.KM
    (fun l' acc hB' hi'=>by
     have q1:=Pl.KM l' hi';have q2:=Pl.yC 44 (Pl.ia l').2.1;simp only[aT,cG,gU];omega)
    l.length (Pl.mk 40 l).2 [] w2 (by simpa using cd) ki (by simp;omega) hlm).mono ?_
   rintro e w4 ⟨rfl,⟨sL,sM,sO⟩,hb4⟩
   go_wp2_with fail
   go_ret
   exact⟨rfl,⟨sL,sM,sO⟩,(hb1.trans hb2).trans hb4⟩
 ·have hT:=HT.out;rw[Pl.dv,ah hm] at hT;subst hT;clear HT
  go_wp2_with fail
  go_ret
  exact⟨rfl,⟨_,dD,fun _=>by simp⟩,hb1⟩
theorem abQ(hO:lM)(rb:Nat)(s:ByteArray)(A l:List Pl.Tk)(rg:List (List (Int×Int)))(w:World)(cx:Cx rb s A)(hR:RD rb s A l rg w)(hG:Gl w)(hrg:rg.length+l.length<=1000):
  Calls Tryz.prog 96 #[.pointer (some ⟨rb,0,none⟩)] w (mq rb s A (Pl.iX l).1 (Pl.iX l).2.1 (rg++(Pl.iX l).2.2.flatten) w):=by
 generalize hT:Pl.iX l=T;have HT:Hid (Pl.iX l=T):=hT;clear hT;have hlt:=hR.lt
 go_enter Tryz.func96,Tryz.ntmps96
 go_wp2_with fail
 refine(E8 hO Pl.EMPTY 69 [77,80,84,89] rfl (by decide) rb s A l _ _ cx hR hG).mono ?_
 rintro e w1 ⟨rfl,dD,hb1⟩;have bz:Gl w1:=hG.below hb1 cx.rb;cases hm:(Pl.wd Pl.EMPTY l).1
 ·rw[Fz hm] at dD
  go_wp2_with fail
  refine(qF hO 40 (by decide) rb s A l _ _ cx dD bz).mono ?_
  rintro e w2 ⟨rfl,cd,hb2⟩;simp only[show(40:UInt8).toNat=40 from rfl] at cd⊢
  have ki:Gl w2:=bz.below hb2 cx.rb;cases hm2:(Pl.mk 40 l).1
  ·have hT:=HT.out;rw[Pl.iX,aa (by rw[hm];simp),aa (by rw[hm2];simp)] at hT
   subst hT;rw[wz hm2] at cd;clear HT
   go_wp2_with fail
   go_ret
   exact⟨rfl,⟨_,cd,fun h=>(by cases h)⟩,hb1.trans hb2⟩
  ·have hT:=HT.out;rw[Pl.iX,aa (by rw[hm];simp),ah hm2] at hT
   subst hT;clear HT;have hlm:=Pl.yC 40 l
   go_wp2_with fail
   refine(abM Pl.dv (fun acc=>rg++acc.flatten) (fun l acc=>rg.length+acc.flatten.length+l.length<=1000) hO rb s A cx
    (fun l' acc w' hR' Bp hB'=>by
     have e:rg++(acc++[(Pl.dv l').2.2]).flatten=(rg++acc.flatten)++(Pl.dv l').2.2:=by simp
     rw[e];exact Re hO rb s A l' (rg++acc.flatten) w' cx hR' Bp (by rw[aT];exact hB')) (fun l h=>(Pl.Fy l h).1)
    (fun l' acc hB' hi'=>by
     have q1:=(Pl.Fy l' hi').2;have q2:=Pl.yC 44 (Pl.dv l').2.1;have e:(acc++[(Pl.dv l').2.2]).flatten.length=acc.flatten.length+(Pl.dv l').2.2.length:=by
      rw[Zu,aT];simp
     show rg.length+(acc++[(Pl.dv l').2.2]).flatten.length+(Pl.mk 44 (Pl.dv l').2.1).2.length<=1000;rw[e];omega)
    l.length (Pl.mk 40 l).2 [] w2 (by simpa using cd) ki (by simp;omega) hlm).mono ?_
   rintro e w4 ⟨rfl,⟨sL,sM,sO⟩,hb4⟩
   go_wp2_with fail
   go_ret
   exact⟨rfl,⟨sL,sM,sO⟩,(hb1.trans hb2).trans hb4⟩
 ·have hT:=HT.out;rw[Pl.iX,ah hm] at hT;subst hT;clear HT
  go_wp2_with fail
  go_ret
  exact⟨rfl,⟨_,dD,fun _=>by simp⟩,hb1⟩
theorem Rf(hO:lM)(rb:Nat)(s:ByteArray)(A l:List Pl.Tk)(w:World)(cx:Cx rb s A)(hR:RD rb s A l [] w)(hG:Gl w):
  Calls Tryz.prog 61 #[.pointer (some ⟨rb,0,none⟩)] w (mq rb s A (Pl.bO l).1 (Pl.bO l).2.1 (Pl.bO l).2.2.flatten w):=by
 generalize hT:Pl.bO l=T;have HT:Hid (Pl.bO l=T):=hT;clear hT;have hlt:=hR.lt;have hle:=hR.le;have hcl:=cx.len
 go_enter Tryz.func61,Tryz.ntmps61
 go_wp2_with fail
 refine(E8 hO Pl.dQ 80 [79,76,89,71,79,78] rfl (by decide) rb s A l _ _ cx hR hG).mono ?_
 rintro e w1 ⟨rfl,dD,hb1⟩;have bz:Gl w1:=hG.below hb1 cx.rb;cases hm:(Pl.wd Pl.dQ l).1
 ·rw[Fz hm] at dD
  go_wp2_with fail
  refine(E8 hO Pl.jk 77 [85,76,84,73,80,79,76,89,71,79,78] rfl (by decide) rb s A l _ _ cx dD bz).mono ?_
  rintro e w2 ⟨rfl,cd,hb2⟩;have ki:Gl w2:=bz.below hb2 cx.rb;cases hm2:(Pl.wd Pl.jk l).1
  ·have hT:=HT.out;rw[Pl.bO,aa (by rw[hm];simp),aa (by rw[hm2];simp)] at hT
   subst hT;rw[Fz hm2] at cd;clear HT
   go_wp2_with fail
   go_ret
   exact⟨rfl,⟨_,cd,fun h=>(by cases h)⟩,hb1.trans hb2⟩
  ·have hT:=HT.out;rw[Pl.bO,aa (by rw[hm];simp),ah hm2] at hT
   subst hT;clear HT;have hlm:=Pl.yE hm2
   go_wp2_with fail
   refine(abQ hO rb s A _ [] _ cx cd ki (by simp;omega)).mono ?_
   rintro e w3 ⟨rfl,⟨sL,sM,sO⟩,hb4⟩
   go_wp2_with fail
   go_ret
   exact⟨rfl,⟨sL,sM,fun h=>by simpa using sO h⟩,(hb1.trans hb2).trans hb4⟩
 ·have hT:=HT.out;rw[Pl.bO,ah hm] at hT;subst hT;clear HT;have hlm:=Pl.yE hm
  go_wp2_with fail
  refine(Re hO rb s A _ [] _ cx dD bz (by simp;omega)).mono ?_
  rintro e w3 ⟨rfl,⟨sL,sM,sO⟩,hb4⟩
  go_wp2_with fail
  go_ret
  exact⟨rfl,⟨sL,sM,fun h=>by simpa using sO h⟩,hb1.trans hb4⟩
end Go.Proofs.YtkjhhooecopolaaGreatDoor
