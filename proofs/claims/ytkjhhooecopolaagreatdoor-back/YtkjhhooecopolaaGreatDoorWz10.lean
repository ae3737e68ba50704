import Derived.Test.YtkjhhooecopolaaGreatDoorWz09
set_option maxRecDepth 100000
set_option maxHeartbeats 4000000
namespace Go.Proofs.YtkjhhooecopolaaGreatDoor
open Go.RowKit
namespace Pl
def Goes(s:List UInt8)(l l':List Tk):Prop:=(∃c,c++l'=l)/\iU s l'
theorem Goes.refl{s:List UInt8}{l:List Tk}(h:iU s l):Goes s l l:=⟨⟨[],rfl⟩,h⟩
theorem Goes.trans{s:List UInt8}{a b c:List Tk}(h:Goes s a b)(k:Goes s b c):Goes s a c:=by
 obtain⟨⟨x,hx⟩,_⟩:=h;obtain⟨⟨y,hy⟩,hc⟩:=k;exact⟨⟨x++y,by rw[fB,hy,hx]⟩,hc⟩
theorem Goes.tail{s:List UInt8}{t:Tk}{r:List Tk}(h:iU s (t::r))(hk:¬(t.k=101\/t.k=120)):Goes s (t::r) r:=by
 obtain⟨u,r',_,_,hc⟩:=Rb s t r h hk;exact⟨⟨[t],rfl⟩,hc⟩
theorem zO{s:List UInt8}{c:Nat}{l:List Tk}(h:iU s l)(hc:c≠101/\c≠120):Goes s l (mk c l).2:=by
 cases l with
 |nil=>exact h.elim
 |cons t r=>
  by_cases hk:t.k=c
  ·have e:mk c (t::r)=(true,r):=by simp[mk,hk]
   rw[e];exact Goes.tail h (by omega)
  ·have e:mk c (t::r)=(false,t::r):=by simp[mk,hk]
   rw[e];exact Goes.refl h
theorem Ht{s:List UInt8}{q:List UInt8}{l:List Tk}(h:iU s l):Goes s l (wd q l).2:=by
 cases l with
 |nil=>exact h.elim
 |cons t r=>
  by_cases hk:t.k=119/\t.raw=q
  ·have e:wd q (t::r)=(true,r):=by simp only[wd];rw[aj hk]
   rw[e];exact Goes.tail h (by omega)
  ·have e:wd q (t::r)=(false,t::r):=by simp only[wd];rw[af hk]
   rw[e];exact Goes.refl h
theorem adL{s:List UInt8}(l:List Tk)(h:iU s l):Goes s l (fk l).2.1:=by
 match l,h with
 |[],h=>exact h.elim
 |[x],h=>exact Goes.refl h
 |x::y::r,h=>
  by_cases hx:x.k=110
  ·have g1:=Goes.tail h (by omega)
   by_cases hy:y.k=110
   ·have e:fk (x::y::r)=(true,r,(x.n,y.n)):=by simp[fk,hx,hy]
    rw[e];exact g1.trans (Goes.tail g1.2 (by omega))
   ·have e:fk (x::y::r)=(false,y::r,(0,0)):=by simp[fk,hx,hy]
    rw[e];exact g1
  ·have e:fk (x::y::r)=(false,x::y::r,(0,0)):=by simp[fk,hx]
   rw[e];exact Goes.refl h
theorem Hu{s:List UInt8}{α:Type}(item:List Tk->Bool×List Tk×α)(hi:∀l,iU s l->Goes s l (item l).2.1):
  ∀(f:Nat)(l:List Tk)(acc:List α),iU s l->Goes s l (cE item f l acc).2.1
 |0,l,acc,h=>Goes.refl h
 |f+1,l,acc,h=>by
  have g1:=hi l h;cases h1:(item l).1
  ·rw[CK h1];exact g1
  ·cases h2:(mk 44 (item l).2.1).1
   ·rw[CM h1 h2];exact g1.trans (zO g1.2 (by omega))
   ·rw[CL h1 h2];have g2:=zO (c:=44) g1.2 (by omega)
    exact(g1.trans g2).trans (Hu item hi f _ _ g2.2)
theorem adM{s:List UInt8}(l:List Tk)(h:iU s l):Goes s l (gH l).2.1:=by
 unfold gH;have g1:=zO (c:=40) h (by omega)
 split
 ·split
  ·exact g1.trans (zO g1.2 (by omega))
  ·exact g1.trans (Hu fk adL _ _ _ g1.2)
 ·exact Goes.refl h
theorem S6{s:List UInt8}(l:List Tk)(h:iU s l):Goes s l (dB l).2.1:=by
 unfold dB;split
 ·exact Ht h
 ·have g1:=zO (c:=40) h (by omega)
  split
  ·exact g1.trans (Hu gH adM _ _ _ g1.2)
  ·exact Goes.refl h
theorem adN{s:List UInt8}(l:List Tk)(h:iU s l):Goes s l (iH l).2.1:=by
 unfold iH;split
 ·exact Ht h
 ·have g1:=zO (c:=40) h (by omega)
  split
  ·exact g1.trans (Hu dB S6 _ _ _ g1.2)
  ·exact Goes.refl h
theorem S7{s:List UInt8}(l:List Tk)(h:iU s l):Goes s l (cz l).2.1:=by
 unfold cz;split
 ·have g1:=Ht (q:=iq) h;exact g1.trans (S6 _ g1.2)
 ·split
  ·have g1:=Ht (q:=jf) h;exact g1.trans (adN _ g1.2)
  ·exact Goes.refl h
theorem S8(l:List Tk)(h:(cz l).1=true):(cz l).2.1.length<l.length:=by
 unfold cz at h⊢;by_cases h1:(wd iq l).1=true
 ·rw[aj h1] at h⊢;have:=zH h1;have:=(Hh _ h).1;simp only;omega
 ·rw[af h1] at h⊢;by_cases h2:(wd jf l).1=true
  ·rw[aj h2] at h⊢;have:=zH h2;have:=adi _ h;omega
  ·rw[af h2] at h;cases h
def hk(l:List Tk):Nat:=match l with |[]=>0|t::_=>t.k
def hpl(l:List Tk):Nat:=match l with |[]=>0|t::_=>t.pl
def took(s:List UInt8):List Tk:=(all s).take ((all s).length-(cz (all s)).2.1.length)
def err(s:List UInt8):Nat×Nat:=
  if 400<s.length then(1,0)
  else if(cz (all s)).1=true/\hk (cz (all s)).2.1=101 then
    (match(took s).find? outT with
     | some u=>(3,u.pl)
     | none=>(0,0))
  else(2,hpl (cz (all s)).2.1)
theorem Hv(s:List UInt8):took s++(cz (all s)).2.1=all s:=by
 obtain⟨⟨c,hc⟩,_⟩:=S7 (all s) (Ct s);unfold took;have:(all s).length=c.length+(cz (all s)).2.1.length:=by
  conv=>lhs;rw[<-hc]
  simp
 rw[this,Nat.add_sub_cancel]
 conv=>lhs;lhs;rw[<-hc]
 rw[List.take_left];exact hc
end Pl
def S9(s:ByteArray)(w:World)(e:Ending)(w':World):Prop:=
 Below w.heap.size w w'/\∃pv,e=.returned (.tuple #[.pointer pv,.int .i64 (Pl.err s.data.toList).1,.int .i64 (Pl.err s.data.toList).2])/\
  ((Pl.err s.data.toList).1=0->∃rb,pv=some ⟨rb,0,none⟩/\w.heap.size<=rb/\RD rb s (Pl.all s.data.toList) (Pl.cz (Pl.all s.data.toList)).2.1 (Pl.cz (Pl.all s.data.toList)).2.2.flatten w')
theorem Hw(s:ByteArray)(w:World)(hm:s.size<=maxLen)(hG:Gl w):
  Calls Tryz.prog 33 #[.string s] w (S9 s w):=by
 have hsz:s.data.toList.length=s.size:=by simp
 by_cases hs:400<s.size
 ·refine(adu s w hs hm).mono ?_;rintro e w' ⟨rfl,rfl⟩;have he:Pl.err s.data.toList=(1,0):=by unfold Pl.err;rw[aj (by omega)]
  refine⟨Below.refl _ _,none,?_,?_⟩
  ·rw[he];rfl
  ·rw[he];intro h;cases h
 ·have hs':s.size<=400:=by omega
  have hg:=Pl.S7 (Pl.all s.data.toList) (Pl.Ct s.data.toList);have nK:=Pl.Hv s.data.toList;have oK:Pl.err s.data.toList=if(Pl.cz (Pl.all s.data.toList)).1=true/\Pl.hk (Pl.cz (Pl.all s.data.toList)).2.1=101 then
    (match(Pl.took s.data.toList).find? outT with |some u=>(3,u.pl)|none=>(0,0)) else(2,Pl.hpl (Pl.cz (Pl.all s.data.toList)).2.1):=by
   unfold Pl.err;rw[af (by omega)]
  have hlt:=Pl.S8 (Pl.all s.data.toList);unfold S9;rcases hp:Pl.cz (Pl.all s.data.toList) with⟨b,l',v⟩;rw[hp] at hg nK oK hlt;simp only at hg nK oK hlt⊢;obtain⟨t,r,rfl⟩:∃t r,l'=t::r:=by
   cases l' with
   |nil=>exact hg.2.elim
   |cons t r=>exact⟨t,r,rfl⟩
  by_cases hok:b=true/\t.k=101
  ·obtain⟨rfl,ht⟩:=hok;have hc0:0<(Pl.took s.data.toList).length:=by
    have h1:=hlt rfl;have h2:=au List.length nK;simp only[aX] at h2;omega
   refine(adB s w hs' hG t r (Pl.took s.data.toList) v hp ht nK hc0).mono ?_;rintro e w' ⟨aw,hr⟩;rw[aj ⟨rfl,ht⟩] at oK;refine⟨aw,?_⟩;rcases hr with⟨u,hu,rfl⟩|⟨hu,rb,rfl,h1,h2⟩
   ·rw[hu] at oK;simp only at oK;refine⟨none,by rw[oK];rfl,?_⟩
    rw[oK];intro h;cases h
   ·rw[hu] at oK;simp only at oK;exact⟨_,by rw[oK];rfl,fun _=>⟨rb,rfl,h1,h2⟩⟩
  ·rw[af (by exact hok)] at oK
   refine(adw s w hs' hG (t::r) t r b v hp rfl (by
    by_cases hb:b=true
    ·exact ah (fun h=>hok ⟨hb,h⟩)
    ·exact ag (by simpa using hb))).mono ?_
   rintro e w' ⟨rfl,aw⟩;refine⟨aw,none,by rw[oK];rfl,?_⟩
   rw[oK];intro h;cases h
def L3{α:Type}(T:Nat)(R:World->Value->α->Prop)(w:World)(v:Value)(xs:List α):Prop:=
 ∃vs:List Value,vs.length=xs.length/\w.ownsRow 0 T 1 v xs.length vs/\∀(i:Nat) u x,vs[i]?=some u->xs[i]?=some x->R w u x
theorem L4{w:World}{b:Nat}{e:TypeId}{size:Nat}{v:Value}{n:Nat}{xs:List Value}(h:w.ownsRow b e size v n xs):w.ownsRow 0 e size v n xs:=by
 obtain⟨h1,h2⟩:=h;rcases h2 with h2|⟨g,cap,cur,hv,_,r⟩
 ·exact⟨h1,ag h2⟩
 ·exact⟨h1,ah ⟨g,cap,cur,hv,iD _,r⟩⟩
theorem Ta{w w':World}{b:Nat}{e:TypeId}{size:Nat}{v:Value}{n:Nat}{xs:List Value}(h:w.ownsRow b e size v n xs)
  (hk:∀(k:Nat)(cur:Array Value),w.heap[k]?=some (Obj.cells cur e (0,0))->w'.heap[k]?=w.heap[k]?):w'.ownsRow b e size v n xs:=
 aU h fun k hk'=>by
  obtain⟨c,hc⟩:=xw h hk';exact hk k c hc
namespace Pl
def bh{α:Type}(f:α->List UInt8):List α->List UInt8
 |[]=>[]
 |[x]=>f x
 |x::y::r=>f x++([44,32]++bh f (y::r))
def jM(p:Int×Int):List UInt8:=Lib.itoa p.1++([32]++Lib.itoa p.2)
def eB(g:List (Int×Int)):List UInt8:=[40]++(bh jM g++[41])
def fI(gs:List (List (Int×Int))):List UInt8:=if gs.length=0 then EMPTY else[40]++(bh eB gs++[41])
def rU(ps:List (List (List (Int×Int)))):List UInt8:=if ps.length=0 then jf++([32]++EMPTY) else jf++([32,40]++(bh fI ps++[41]))
theorem Hx{α:Type}(f:α->List UInt8)(B:Nat):∀(l:List α),(∀x∈l,(f x).length<=B)->(bh f l).length<=l.length*(B+2)
 |[],_=>by simp[bh]
 |[a],h=>by have:=h a (by simp);simp[bh];omega
 |a::b::r,h=>by
  have ih:=Hx f B (b::r) (fun x hx=>h x (by simp[hx]))
  have ha:=h a (by simp)
  simp only[bh,aX,cN,gP] at ih⊢;rw[FN];rw[FN] at ih⊢;omega
end Pl
def fX(n:Int):Prop:= -50<=n/\n<=50
def pN(g:List (Int×Int)):Prop:=∀p∈g,fX p.1/\fX p.2
theorem adO{w:World}{e:TypeId}{size:Nat}{v:Value}{n:Nat}{xs:List Value}(h:w.ownsRow 0 e size v n xs){o:Nat}{u:Value}(hu:xs[o]?=some u):
  ∃b cap,v=.slice (some ⟨b,0,none⟩) n cap/\b<w.heap.size/\w.cell? ⟨b,o,none⟩=some u:=by
 obtain⟨h1,h2⟩:=h;rcases h2 with⟨_,h0⟩|⟨b,cap,cur,hv,_,hb,_,_,_,ht⟩
 ·rw[h0,BA] at h1;rw[gF.1 h1] at hu;simp at hu
 ·refine⟨b,cap,hv,lt_of_heap hb,?_⟩;rw[cell_of hb o,<-jb];rw[<-ht,kj] at hu;split at hu
  ·exact hu
  ·cases hu
def L5(gs:List (List (Int×Int))):Prop:=gs.length<=402/\∀g∈gs,pN g/\g.length<=402
theorem adP{α:Type}{T:Nat}{R:World->Value->α->Prop}{w:World}{v:Value}{xs:List α}(h:L3 T R w v xs):∃so cap,v=.slice so xs.length cap:=by
 obtain⟨vs,_,h,_⟩:=h;rcases h.2 with⟨hv,h0⟩|⟨b,cap,cur,hv,_⟩
 ·exact⟨none,0,by rw[hv,h0]⟩
 ·exact⟨_,cap,hv⟩
theorem adQ{α:Type}{T:Nat}{R:World->Value->α->Prop}{w:World}{so:Option Addr}{n cap:Nat}{xs:List α}(h:L3 T R w (.slice so n cap) xs){k:Nat}{x:α}(hx:xs[k]?=some x):
  ∃b u,so=some ⟨b,0,none⟩/\b<w.heap.size/\w.cell? ⟨b,k,none⟩=some u/\R w u x:=by
 obtain⟨vs,hl,ho,hr⟩:=h;have hk:k<vs.length:=by rw[hl];exact(bZ.1 hx).1
 obtain⟨u,hu⟩:∃u,vs[k]?=some u:=⟨_,aC hk⟩;obtain⟨b,c,hv,hb,hc⟩:=adO ho hu;injection hv with hv;exact⟨b,u,hv,hb,hc,hr k u x hu hx⟩
def CR(ps:List (List (List (Int×Int)))):Prop:=ps.length<=402/\∀gs∈ps,L5 gs
theorem jw(w:World)(o:Obj){b k:Nat}(h:b<w.heap.size):(w.alloc o).cell? ⟨b,k,none⟩=w.cell? ⟨b,k,none⟩:=by
 simp only[World.cell?];rw[Below.heap_alloc _ _ _ h]
namespace Ge
end Ge
namespace Ge
def cK(e f:Pt×Pt):Int:=(e.2.1-e.1.1)*(f.2.2-f.1.2)-(e.2.2-e.1.2)*(f.2.1-f.1.1)
def mT(e f:Pt×Pt):Int:=(f.1.1-e.1.1)*(f.2.2-f.1.2)-(f.1.2-e.1.2)*(f.2.1-f.1.1)
def mX(e f:Pt×Pt):Int:=e.1.1*cK e f+(e.2.1-e.1.1)*mT e f
def mY(e f:Pt×Pt):Int:=e.1.2*cK e f+(e.2.2-e.1.2)*mT e f
def fw(e f:Pt×Pt):Qt:=(aW (mX e f) (cK e f),aW (mY e f) (cK e f))
end Ge
namespace Ge
def hq(p:Qt)(e:Pt×Pt):Bool:=fo (p.1.1*p.2.2,p.2.1*p.1.2) (p.1.2*p.2.2) e
def pt(a:Pt):Qt:=((a.1,1),(a.2,1))
def xJ(e:Pt×Pt)(out:List Qt)(f:Pt×Pt):List Qt:=
  if cK e f=0 then
    (let o1:=if hq (pt f.1) e then ins (pt f.1) out else out
     if hq (pt f.2) e then ins (pt f.2) o1 else o1)
  else if hq (fw e f) e&&hq (fw e f) f then ins (fw e f) out else out
def oL(l:List (Pt×Pt))(e:Pt×Pt):List Qt:=l.foldl (xJ e) (ins (pt e.2) (ins (pt e.1) []))
theorem rV(a:Pt):gq (pt a):=⟨⟨by show(0:Int)<1;decide,by show Int.gcd a.1 1=1;exact Qs ..⟩,⟨by show(0:Int)<1;decide,by show Int.gcd a.2 1=1;exact Qs ..⟩⟩
theorem Tb{e f:Pt×Pt}(h:cK e f≠0):gq (fw e f):=⟨zD h,zD h⟩
end Ge
theorem Tc{e f:Ed}(he:eO e)(hf:eO f):(-20000<=Ge.cK e f/\Ge.cK e f<=20000)/\(-3000000<=Ge.mX e f/\Ge.mX e f<=3000000)/\(-3000000<=Ge.mY e f/\Ge.mY e f<=3000000):=by
 obtain⟨a1,a2,a3,a4⟩:=he;obtain⟨b1,b2,b3,b4⟩:=hf;have nL:∀{x y:Int},small x->small y-> -100<=y-x/\y-x<=100:=fun hx hy=>by unfold small at*;omega
 have x1:=nL a1 a3;have x2:=nL a2 a4;have x3:=nL b1 b3;have x4:=nL b2 b4;have x5:=nL a1 b1;have x6:=nL a2 b2;have m1: -10000<=(e.2.1-e.1.1)*(f.2.2-f.1.2)/\(e.2.1-e.1.1)*(f.2.2-f.1.2)<=10000:=oH (a:=100) (b:=100) x1 x4;have m2: -10000<=(e.2.2-e.1.2)*(f.2.1-f.1.1)/\(e.2.2-e.1.2)*(f.2.1-f.1.1)<=10000:=oH (a:=100) (b:=100) x2 x3;have m3: -10000<=(f.1.1-e.1.1)*(f.2.2-f.1.2)/\(f.1.1-e.1.1)*(f.2.2-f.1.2)<=10000:=oH (a:=100) (b:=100) x5 x4;have m4: -10000<=(f.1.2-e.1.2)*(f.2.1-f.1.1)/\(f.1.2-e.1.2)*(f.2.1-f.1.1)<=10000:=oH (a:=100) (b:=100) x6 x3;have hC:Ge.cK e f=(e.2.1-e.1.1)*(f.2.2-f.1.2)-(e.2.2-e.1.2)*(f.2.1-f.1.1):=rfl;have hT:Ge.mT e f=(f.1.1-e.1.1)*(f.2.2-f.1.2)-(f.1.2-e.1.2)*(f.2.1-f.1.1):=rfl;have cb: -20000<=Ge.cK e f/\Ge.cK e f<=20000:=by omega
 have tb: -20000<=Ge.mT e f/\Ge.mT e f<=20000:=by omega
 have m5: -1000000<=e.1.1*Ge.cK e f/\e.1.1*Ge.cK e f<=1000000:=oH (a:=50) (b:=20000) a1 cb;have m6: -2000000<=(e.2.1-e.1.1)*Ge.mT e f/\(e.2.1-e.1.1)*Ge.mT e f<=2000000:=oH (a:=100) (b:=20000) x1 tb;have m7: -1000000<=e.1.2*Ge.cK e f/\e.1.2*Ge.cK e f<=1000000:=oH (a:=50) (b:=20000) a2 cb;have m8: -2000000<=(e.2.2-e.1.2)*Ge.mT e f/\(e.2.2-e.1.2)*Ge.mT e f<=2000000:=oH (a:=100) (b:=20000) x2 tb;refine⟨cb,?_,?_⟩
 ·unfold Ge.mX;omega
 ·unfold Ge.mY;omega
namespace Pl
theorem adR{t:Tk}(h:Form t)(hk:t.k=110):bB t≠[44]:=fun e=>by
 have:=(GQ h 44 (by decide)).1 e
 rw[hk] at this;exact absurd this (by decide)
theorem Hy{a b:Tk}(h1:bB a≠[44])(h2:a.k≠110\/b.k≠110):bb a b=false:=by
 unfold bb;rcases h2 with h2|h2<;>simp[h1,h2]
theorem xK{t:Tk}(h:Form t)(c:UInt8)(hc:c.toNat=40\/c.toNat=41\/c.toNat=44)(hk:t.k=c.toNat):wr t=[c]/\bB t=[c]/\t.k≠110:=by
 have e:=(GQ h c hc).2 hk;have hne:t.k≠110:=by omega
 exact⟨by unfold wr;rw[af hne,e],e,hne⟩
theorem Hz{p t:Tk}{d:List Tk}(h:bb p t=false):eA p (t::d)=wr t++eA t d:=by
 show(if bb p t=true then[32] else[])++(wr t++eA t d)=_
 rw[h,af (by simp),qd]
theorem CS{p t:Tk}{d:List Tk}(h:Form p)(hk:p.k=40):eA p (t::d)=wr t++eA t d:=by
 obtain⟨_,h2,h3⟩:=xK h 40 (by decide) hk
 exact Hz (Hy (by rw[h2];decide) (ag h3))
theorem Td{p t:Tk}{d:List Tk}(h:Form p)(hk:p.k=41):eA p (t::d)=wr t++eA t d:=by
 obtain⟨_,h2,h3⟩:=xK h 41 (by decide) hk
 exact Hz (Hy (by rw[h2];decide) (ag h3))
theorem HZ{p t:Tk}{d:List Tk}(h:Form p)(hk:p.k=44):eA p (t::d)=[32]++(wr t++eA t d):=by
 obtain⟨_,h2,_⟩:=xK h 44 (by decide) hk
 show(if bb p t=true then[32] else[])++(wr t++eA t d)=_
 rw[aj (by unfold bb;simp[h2])]
structure Tx{α:Type}(ok:α->Prop)(txt:α->List UInt8)(c:List Tk)(x:α):Prop where
 ne:c≠[]
 br:∀p,Form p->p.k=40->eA p c=txt x
 co:∀p,Form p->p.k=44->eA p c=[32]++txt x
 cl:∀p t d,Form t->t.k≠110->eA p (c++t::d)=eA p c++(wr t++eA t d)
 zP:(∀t∈c,t.k=110->fX t.n)->c.length<=402->ok x
def Says{α:Type}(ok:α->Prop)(txt:α->List UInt8)(item:List Tk->Bool×List Tk×α):Prop:=
 ∀l,(∀t∈l,Form t)->(item l).1=true->∃c,c++(item l).2.1=l/\Tx ok txt c (item l).2.2
theorem adS:Says (fun p=>fX p.1/\fX p.2) jM fk:=by
 intro l hf h
 match l,hf,h with
 |[],_,h=>cases h
 |[x],_,h=>cases h
 |x::y::r,hf,h=>
  have e:fk (x::y::r)=if x.k=110 then(if y.k=110 then(true,r,(x.n,y.n)) else(false,y::r,(0,0))) else(false,x::y::r,(0,0)):=rfl
  rw[e] at h⊢;by_cases hx:x.k=110
  ·rw[aj hx] at h⊢;by_cases hy:y.k=110
   ·rw[aj hy];have fx:=hf x (by simp)
    have fy:=hf y (by simp)
    have w1:wr x=Lib.itoa x.n:=aj hx;have w2:wr y=Lib.itoa y.n:=aj hy;have hb:∀d,eA x (y::d)=[32]++(wr y++eA y d):=fun d=>by
     show(if bb x y=true then[32] else[])++(wr y++eA y d)=_
     rw[aj (by unfold bb;simp[hx,hy])]
    refine⟨[x,y],rfl,by simp,fun p fp hp=>?_,fun p fp hp=>?_,fun p t d ft ht=>?_,fun hn _=>⟨hn x (by simp) hx,hn y (by simp) hy⟩⟩
    ·rw[CS fp hp,hb,w1,w2];simp[eA,jM]
    ·rw[HZ fp hp,hb,w1,w2];simp[eA,jM]
    ·show(if bb p x=true then[32] else[])++(wr x++eA x (y::t::d))=((if bb p x=true then[32] else[])++(wr x++eA x [y]))++_
     rw[hb,hb,Hz (p:=y) (t:=t) (Hy (adR fy hy) (ah ht))];simp[eA,List.append_assoc]
   ·rw[af hy] at h;cases h
  ·rw[af hx] at h;cases h
theorem pJ{c:Nat}{l:List Tk}(h:(mk c l).1=true):∃t,l=t::(mk c l).2/\t.k=c:=by
 cases l with
 |nil=>cases h
 |cons t r=>
  have e:mk c (t::r)=if t.k=c then(true,r) else(false,t::r):=rfl
  rw[e] at h⊢;by_cases hk:t.k=c
  ·rw[aj hk];exact⟨t,rfl,hk⟩
  ·rw[af hk] at h;cases h
theorem CT{q:List UInt8}{l:List Tk}(h:(wd q l).1=true):∃t,l=t::(wd q l).2/\t.k=119/\t.raw=q:=by
 cases l with
 |nil=>cases h
 |cons t r=>
  have e:wd q (t::r)=if t.k=119/\t.raw=q then(true,r) else(false,t::r):=rfl
  rw[e] at h⊢;by_cases hk:t.k=119/\t.raw=q
  ·rw[aj hk];exact⟨t,rfl,hk⟩
  ·rw[af hk] at h;cases h
theorem H0{α:Type}{ok:α->Prop}{txt:α->List UInt8}{item:List Tk->Bool×List Tk×α}(hi:Says ok txt item):
  ∀(f:Nat)(l:List Tk)(acc:List α),(∀t∈l,Form t)->(cE item f l acc).1=true->
   ∃c xs,c++(cE item f l acc).2.1=l/\(cE item f l acc).2.2=acc++xs/\xs≠[]/\
    Tx (fun xs=>xs.length<=402/\∀x∈xs,ok x) (fun xs=>bh txt xs++[41]) c xs/\xs.length<=c.length
 |0,l,acc,_,h=>by cases h
 |f+1,l,acc,hf,h=>by
  unfold cE at h⊢;by_cases h1:(item l).1=true
  ·rw[aj h1] at h⊢;obtain⟨c0,hc0,T0⟩:=hi l hf h1;generalize(item l).2.1=rest at*;generalize(item l).2.2=x at*;have iu:∀t∈rest,Form t:=fun t ht=>hf t (by rw[<-hc0];simp[ht])
   have hn0:1<=c0.length:=iP.2 T0.ne;by_cases h2:(mk 44 rest).1=true
   ·rw[aj h2] at h⊢;obtain⟨t,ht,hk⟩:=pJ h2;have ft:Form t:=iu t (by rw[ht];simp)
    obtain⟨c1,xs,hc1,hv,hne,T1,hlen⟩:=H0 hi f (mk 44 rest).2 (acc++[x]) (fun u hu=>iu u (by rw[ht];simp[hu])) h
    obtain⟨s1,s2,s3⟩:=xK ft 44 (by decide) hk
    have hj:bh txt (x::xs)=txt x++([44,32]++bh txt xs):=by
     cases xs with
     |nil=>exact absurd rfl hne
     |cons a b=>rfl
    refine⟨c0++t::c1,x::xs,by rw[fB,kZ,hc1,<-ht,hc0],by rw[hv];simp,by simp,⟨by simp,fun p fp hp=>?_,fun p fp hp=>?_,fun p u d fu hu=>?_,fun hn hl=>?_⟩,by simp;omega⟩
    ·rw[T0.cl p t c1 ft s3,T0.br p fp hp,T1.co t ft hk,s1,hj];simp
    ·rw[T0.cl p t c1 ft s3,T0.co p fp hp,T1.co t ft hk,s1,hj];simp
    ·rw[fB,kZ,T0.cl p t _ ft s3,T0.cl p t c1 ft s3,T1.cl t u d fu hu];simp[List.append_assoc]
    ·have hl':c0.length+(c1.length+1)<=402:=by simpa using hl
     have k0:=T0.zP (fun t ht=>hn t (by simp[ht])) (by omega)
     have k1:=T1.zP (fun t ht=>hn t (by simp[ht])) (by omega)
     exact⟨by simp;omega,fun y hy=>by
      rcases aP.1 hy with e|e
      ·rw[e];exact k0
      ·exact k1.2 y e⟩
   ·rw[af h2] at h⊢;obtain⟨t,ht,hk⟩:=pJ (c:=41) h;have ft:Form t:=iu t (by rw[ht];simp)
    obtain⟨s1,s2,s3⟩:=xK ft 41 (by decide) hk
    have hw:eA t []=[]:=rfl;refine⟨c0++[t],[x],by rw[fB,BG,<-ht,hc0],rfl,by simp,⟨by simp,fun p fp hp=>?_,fun p fp hp=>?_,fun p u d fu hu=>?_,fun hn hl=>?_⟩,by simp⟩
    ·rw[T0.cl p t [] ft s3,T0.br p fp hp,s1,hw];simp[bh]
    ·rw[T0.cl p t [] ft s3,T0.co p fp hp,s1,hw];simp[bh]
    ·rw[fB,BG,T0.cl p t _ ft s3,T0.cl p t [] ft s3,Td ft hk,hw];simp[List.append_assoc]
    ·have hl':c0.length+1<=402:=by simpa using hl
     have k0:=T0.zP (fun t ht=>hn t (by simp[ht])) (by omega)
     exact⟨by simp,fun y hy=>by rw[bY.1 hy];exact k0⟩
  ·rw[af h1] at h;cases h
end Pl
def Pl.oM(s:List UInt8):List UInt8:=if(Pl.err s).1=0 then Pl.wt (Pl.took s) else[]
theorem uk{s:List UInt8}(h:(Pl.err s).1=0):s.length<=400/\(Pl.err s).2=0/\(Pl.cz (Pl.all s)).1=true/\Pl.hk (Pl.cz (Pl.all s)).2.1=101/\(Pl.took s).find? outT=none:=by
 unfold Pl.err at h⊢;by_cases h1:400<s.length
 ·rw[aj h1] at h;cases h
 ·rw[af h1] at h⊢;by_cases h2:(Pl.cz (Pl.all s)).1=true/\Pl.hk (Pl.cz (Pl.all s)).2.1=101
  ·rw[aj h2] at h⊢;cases h3:(Pl.took s).find? outT with
   |some u=>rw[h3] at h;cases h
   |none=>exact⟨by omega,rfl,h2.1,h2.2,rfl⟩
  ·rw[af h2] at h;cases h
theorem adT{s:List UInt8}{t:Pl.Tk}(h:t∈Pl.took s):t∈Pl.all s:=by
 unfold Pl.took at h;exact qh h
theorem L6{s:List UInt8}(h:(Pl.err s).1=0):(∀t∈Pl.took s,(Pl.wr t).length<=400)/\(∀t∈Pl.took s,t.k=110-> -50<=t.n/\t.n<=50)/\(Pl.took s).length<=402:=by
 obtain⟨h1,_,_,_,h5⟩:=uk h;have hr:∀t∈Pl.took s,t.k=110-> -50<=t.n/\t.n<=50:=fun t ht hk=>by
  have:=aa6.1 h5 t ht;unfold outT xH at this;simp[hk] at this;omega
 refine⟨fun t ht=>?_,hr,?_⟩
 ·unfold Pl.wr;by_cases hk:t.k=110
  ·rw[aj hk];have:=hr t ht hk;have:=Lib.itoa_length_le t.n (by omega) (by omega)
   omega
  ·rw[af hk];have hp:=(Pl.GK s t (adT ht)).1;unfold Pl.bB;split
   ·simp
   ·omega
 ·have:=Pl.GL s;unfold Pl.took;rw[iE];omega
theorem adU(s:ByteArray)(w:World)(hm:s.size<=maxLen)(hG:Gl w):
  Calls Tryz.prog 40 #[.string s] w fun e w'=>e=.returned (.tuple #[.string ⟨(Pl.oM s.data.toList).toArray⟩,.int .i64 (Pl.err s.data.toList).1,.int .i64 (Pl.err s.data.toList).2])/\Below w.heap.size w w':=by
 by_cases h0:(Pl.err s.data.toList).1=0
 ·have hp2:=(uk h0).2.1;have hpt:Pl.oM s.data.toList=Pl.wt (Pl.took s.data.toList):=by unfold Pl.oM;rw[aj h0]
  obtain⟨hw,hn',hl⟩:=L6 h0;have hn:∀t∈Pl.took s.data.toList,t.k=110-> -9223372036854775808<=t.n/\t.n<=9223372036854775807:=fun t ht hk=>by have:=hn' t ht hk;omega
  have nK:=Pl.Hv s.data.toList;have hlt:=Pl.S8 _ (uk h0).2.2.1;have HR:Hid (∀w1,Gl w1->Calls Tryz.prog 33 #[.string s] w1 fun e w'=>Below w1.heap.size w1 w'/\∃rb g cap,e=.returned (.tuple #[.pointer (some ⟨rb,0,none⟩),.int .i64 0,.int .i64 0])/\
    w'.cell? ⟨rb,5,none⟩=some (.slice (some ⟨g,0,none⟩) (Pl.took s.data.toList).length cap)/\g<w'.heap.size/\(∀j u,(oz (Pl.took s.data.toList))[j]?=some u->w'.cell? ⟨g,j,none⟩=some u)):=fun w1 g1=>by
   refine(Hw s w1 hm g1).mono ?_;rintro e w' ⟨hb,pv,rfl,lZ⟩;obtain⟨rb,rfl,_,hR⟩:=lZ h0;obtain⟨c,t,r,tv,rv,hc,hl',hbk,hown,_⟩:=hR;have hcc:c=Pl.took s.data.toList:=Qv (hc.trans nK.symm);subst hcc;have h0':0<(Pl.took s.data.toList).length:=by
    have h2:=au List.length nK;simp only[aX] at h2;omega
   obtain⟨g,cap,rfl,_,hg2⟩:=hown.form h0';refine⟨hb,rb,g,cap,by rw[h0,hp2];rfl,cell_of hbk 5,hg2,fun j u hu=>?_⟩
   have:=hown.cells (g:=g) rfl j u hu;rwa[addr_add] at this
  rw[hpt,h0,hp2];clear hp2 hpt h0 nK hlt
  go_enter Tryz.func40,Tryz.ntmps40
  go_wp2_with fail
  refine(HR.out _ hG).mono ?_;rintro e w1 ⟨hb1,rb,g,cap,rfl,c5,hg2,hrow⟩;have mP:Hid (∀j u,(oz (Pl.took s.data.toList))[j]?=some u->w1.cell? ⟨g,j,none⟩=some u):=hrow;have bO:Gl w1:=hG.below hb1 hG.sz;clear hrow HR
  go_wp2_with fail
  refine(adH (Pl.took s.data.toList) g cap w1 bO hg2 mP.out hl hw hn).mono ?_;rintro e w2 ⟨rfl,hb2⟩
  go_wp2_with fail
  go_ret3
  exact⟨rfl,hb1.trans (hb2.mono hb1.size)⟩
 ·have hpt:Pl.oM s.data.toList=[]:=by unfold Pl.oM;rw[af h0]
  have HR:Hid (∀w1,Gl w1->Calls Tryz.prog 33 #[.string s] w1 fun e w'=>Below w1.heap.size w1 w'/\∃pv,e=.returned (.tuple #[.pointer pv,.int .i64 (Pl.err s.data.toList).1,.int .i64 (Pl.err s.data.toList).2])):=fun w1 g1=>by
   refine(Hw s w1 hm g1).mono ?_;rintro e w' ⟨hb,pv,rfl,lZ⟩;exact⟨hb,pv,rfl⟩
  rw[hpt];have hne:(((Pl.err s.data.toList).1:Int) != 0)=true:=by rw[Kr];omega
  generalize(Pl.err s.data.toList).1=E at*;generalize(Pl.err s.data.toList).2=Pp at*;clear hpt h0
  go_enter Tryz.func40,Tryz.ntmps40
  go_wp2_with fail
  refine(HR.out _ hG).mono ?_;rintro e w1 ⟨hb1,pv,rfl⟩
  go_wp2_with fail
  go_ret3
  exact⟨rfl,hb1⟩
namespace Pl
theorem Tx.bracket{α β:Type}{ok1:α->Prop}{Te:β->Prop}{Tf:α->List UInt8}{Th:β->List UInt8}{c:List Tk}{x:α}{y:β}{t:Tk}(T:Tx ok1 Tf c x)(ft:Form t)(hk:t.k=40)
  (ho:ok1 x->Te y)(ht:Th y=[40]++Tf x):Tx Te Th (t::c) y:=by
 obtain⟨s1,_,s3⟩:=xK ft 40 (by decide) hk
 refine⟨by simp,fun p fp hp=>?_,fun p fp hp=>?_,fun p u d fu hu=>?_,fun hn hl=>?_⟩
 ·rw[CS fp hp,T.br t ft hk,s1,ht]
 ·rw[HZ fp hp,T.br t ft hk,s1,ht]
 ·show(if bb p t=true then[32] else[])++(wr t++eA t (c++u::d))=((if bb p t=true then[32] else[])++(wr t++eA t c))++_
  rw[T.cl t u d fu hu];simp[List.append_assoc]
 ·have hl':c.length+1<=402:=by simpa using hl
  exact ho (T.zP (fun t ht=>hn t (by simp[ht])) (by omega))
theorem adV{α:Type}{ok:List α->Prop}{txt:α->List UInt8}{t:Tk}(ft:Form t)(hk:t.k=41)(ho:ok []):Tx ok (fun xs=>bh txt xs++[41]) [t] []:=by
 obtain⟨s1,_,s3⟩:=xK ft 41 (by decide) hk
 refine⟨by simp,fun p fp hp=>?_,fun p fp hp=>?_,fun p u d fu hu=>?_,fun _ _=>ho⟩
 ·rw[CS fp hp,s1];rfl
 ·rw[HZ fp hp,s1];rfl
 ·show(if bb p t=true then[32] else[])++(wr t++eA t (u::d))=((if bb p t=true then[32] else[])++(wr t++[]))++_
  rw[Td ft hk];simp[List.append_assoc]
theorem Ti{α:Type}{ok:α->Prop}{txt:α->List UInt8}{t:Tk}{y:α}(hk:t.k=119)(hr:t.raw=EMPTY)(ht:txt y=EMPTY)(ho:ok y):Tx ok txt [t] y:=by
 have hp:bB t=EMPTY:=by unfold bB;rw[af (by rw[hk];decide),hr]
 have s1:wr t=EMPTY:=by unfold wr;rw[af (by rw[hk];decide),hp]
 refine⟨by simp,fun p fp hp=>?_,fun p fp hp=>?_,fun p u d fu hu=>?_,fun _ _=>ho⟩
 ·rw[CS fp hp,s1,ht];rfl
 ·rw[HZ fp hp,s1,ht];rfl
 ·show(if bb p t=true then[32] else[])++(wr t++eA t (u::d))=((if bb p t=true then[32] else[])++(wr t++[]))++_
  rw[Hz (Hy (by rw[hp];decide) (ag (by rw[hk];decide)))]
  simp[List.append_assoc]
theorem adW:Says (fun g=>pN g/\g.length<=402) eB gH:=by
 intro l hf h;unfold gH at h⊢;by_cases h1:(mk 40 l).1=true
 ·rw[aj h1] at h⊢;obtain⟨t,ht,hk⟩:=pJ h1;have ft:Form t:=hf t (by rw[ht];simp)
  have zQ:∀u∈(mk 40 l).2,Form u:=fun u hu=>hf u (by rw[ht];simp[hu])
  by_cases h2:(mk 41 (mk 40 l).2).1=true
  ·rw[aj h2];obtain⟨t2,ht2,hk2⟩:=pJ h2;have ft2:Form t2:=zQ t2 (by rw[ht2];simp)
   refine⟨[t,t2],?_,(adV (ok:=fun g=>pN g/\g.length<=402) (txt:=jM) ft2 hk2 ⟨fun p hp=>by simp at hp,by simp⟩).bracket ft hk id rfl⟩
   show t::t2::(mk 41 (mk 40 l).2).2=l;rw[<-ht2,<-ht]
  ·rw[af h2] at h⊢;obtain⟨c,xs,hc,hv,_,T,_⟩:=H0 adS l.length (mk 40 l).2 [] zQ h;rw[qd] at hv;rw[hv];exact⟨t::c,by rw[kZ,hc,<-ht],T.bracket ft hk (fun o=>⟨fun p hp=>o.2 p hp,o.1⟩) rfl⟩
 ·rw[af h1] at h;cases h
def rW(ps:List (List (List (Int×Int)))):List UInt8:=if ps.length=0 then EMPTY else[40]++(bh fI ps++[41])
theorem Tj(ps:List (List (List (Int×Int)))):rU ps=jf++([32]++rW ps):=by
 unfold rU rW;by_cases h:ps.length=0
 ·rw[aj h,aj h]
 ·rw[af h,af h];simp
theorem Tm:Says L5 fI dB:=by
 intro l hf h;unfold dB at h⊢;by_cases h0:(wd EMPTY l).1=true
 ·rw[aj h0];obtain⟨t,ht,hk,hr⟩:=CT h0;exact⟨[t],by rw[BG,<-ht],Ti hk hr rfl ⟨by simp,fun p hp=>by simp at hp⟩⟩
 ·rw[af h0] at h⊢;by_cases h1:(mk 40 l).1=true
  ·rw[aj h1] at h⊢;obtain⟨t,ht,hk⟩:=pJ h1;have ft:Form t:=hf t (by rw[ht];simp)
   have zQ:∀u∈(mk 40 l).2,Form u:=fun u hu=>hf u (by rw[ht];simp[hu])
   obtain⟨c,xs,hc,hv,hne,T,_⟩:=H0 adW l.length (mk 40 l).2 [] zQ h;rw[qd] at hv;rw[hv];have hl:¬xs.length=0:=fun e=>hne (gF.1 e)
   exact⟨t::c,by rw[kZ,hc,<-ht],T.bracket ft hk (fun o=>⟨o.1,fun p hp=>o.2 p hp⟩) (af hl)⟩
  ·rw[af h1] at h;cases h
theorem adY:Says CR rW iH:=by
 intro l hf h;unfold iH at h⊢;by_cases h0:(wd EMPTY l).1=true
 ·rw[aj h0];obtain⟨t,ht,hk,hr⟩:=CT h0;exact⟨[t],by rw[BG,<-ht],Ti hk hr rfl ⟨by simp,fun p hp=>by simp at hp⟩⟩
 ·rw[af h0] at h⊢;by_cases h1:(mk 40 l).1=true
  ·rw[aj h1] at h⊢;obtain⟨t,ht,hk⟩:=pJ h1;have ft:Form t:=hf t (by rw[ht];simp)
   have zQ:∀u∈(mk 40 l).2,Form u:=fun u hu=>hf u (by rw[ht];simp[hu])
   obtain⟨c,xs,hc,hv,hne,T,_⟩:=H0 Tm l.length (mk 40 l).2 [] zQ h;rw[qd] at hv;rw[hv];have hl:¬xs.length=0:=fun e=>hne (gF.1 e)
   exact⟨t::c,by rw[kZ,hc,<-ht],T.bracket ft hk (fun o=>⟨o.1,fun p hp=>o.2 p hp⟩) (af hl)⟩
  ·rw[af h1] at h;cases h
theorem Tn{α:Type}{ok:α->Prop}{txt:α->List UInt8}{c:List Tk}{x:α}{a:Tk}{q:List UInt8}(T:Tx ok txt c x)(hk:a.k=119)(hr:a.raw=q):wt (a::c)=q++([32]++txt x):=by
 have h:=T.br ⟨40,[40],0,0⟩ (ah (ag ⟨40,rfl,rfl,by decide⟩)) rfl
 have hne:=T.ne;cases c with
 |nil=>exact absurd rfl hne
 |cons b r=>
  rw[CS (ah (ag ⟨40,rfl,rfl,by decide⟩)) rfl] at h
  have hp:bB a=q:=by unfold bB;rw[af (by rw[hk];decide),hr]
  have s1:wr a=q:=by unfold wr;rw[af (by rw[hk];decide),hp]
  show wr a++([32]++(wr b++eA b r))=_;rw[h,s1]
theorem Tp{s:List UInt8}(h:(err s).1=0)(hw:(wd iq (all s)).1=true):
  ∃gs,(cz (all s)).2.2=[gs]/\L5 gs/\wt (took s)=iq++([32]++fI gs):=by
 obtain⟨_,_,h1,_⟩:=uk h;obtain⟨_,hn,hl⟩:=L6 h;have nK:=Hv s;have hpw:cz (all s)=((dB (wd iq (all s)).2).1,(dB (wd iq (all s)).2).2.1,[(dB (wd iq (all s)).2).2.2]):=by
  unfold cz;rw[aj hw]
 rw[hpw] at h1 nK;obtain⟨a,ha,hk,hr⟩:=CT hw;have hf:∀t∈all s,Form t:=fun t ht=>Lm (GK s t ht)
 obtain⟨c,hc,T⟩:=Tm (wd iq (all s)).2 (fun t ht=>hf t (by rw[ha];simp[ht])) h1
 have ht:took s=a::c:=by
  refine Qv (nK.trans (ha.trans ?_));show a::_=a::(c++_);rw[hc]
 rw[ht] at hn hl;exact⟨_,by rw[hpw],T.zP (fun t h=>hn t (by simp[h])) (by simp at hl;omega),by rw[ht];exact Tn T hk hr⟩
theorem Tq{s:List UInt8}(h:(err s).1=0)(hw0:(wd iq (all s)).1=false):
  (wd jf (all s)).1=true/\CR (cz (all s)).2.2/\wt (took s)=rU (cz (all s)).2.2:=by
 obtain⟨_,_,h1,_⟩:=uk h;obtain⟨_,hn,hl⟩:=L6 h;have nK:=Hv s;by_cases hw:(wd jf (all s)).1=true
 ·have hpw:cz (all s)=iH (wd jf (all s)).2:=by
   unfold cz;rw[af (by rw[hw0];simp),aj hw]
  rw[hpw] at h1 nK⊢;obtain⟨a,ha,hk,hr⟩:=CT hw;have hf:∀t∈all s,Form t:=fun t ht=>Lm (GK s t ht)
  obtain⟨c,hc,T⟩:=adY (wd jf (all s)).2 (fun t ht=>hf t (by rw[ha];simp[ht])) h1
  have ht:took s=a::c:=by
   refine Qv (nK.trans (ha.trans ?_));show a::_=a::(c++_);rw[hc]
  rw[ht] at hn hl;exact⟨hw,T.zP (fun t h=>hn t (by simp[h])) (by simp at hl;omega),by rw[ht,Tj];exact Tn T hk hr⟩
 ·have hpw:cz (all s)=(false,all s,[]):=by
   unfold cz;rw[af (by rw[hw0];simp),af hw]
  rw[hpw] at h1;cases h1
end Pl
namespace Pl
def nM(a:Ge.Fr):List UInt8:=if a.2=1 then Lib.itoa a.1 else Lib.itoa a.1++([47]++Lib.itoa a.2)
def gI(q:Ge.Qt):List UInt8:=nM q.1++([32]++nM q.2)
end Pl
end Go.Proofs.YtkjhhooecopolaaGreatDoor
