import Derived.Test.YtkjhhooecopolaaGreatDoorMz11
import Derived.Lib.ItoaLen
import Derived.Lib.AppendIntMem
import Derived.Deep.RegionHeld3
set_option maxRecDepth 100000
set_option maxHeartbeats 4000000
namespace Go.Proofs.YtkjhhooecopolaaGreatDoor
open Go.RowKit
theorem addr_add(g j:Nat):(⟨g,0,none⟩:Addr).add j=⟨g,j,none⟩:=by
 unfold Addr.add;split<;>simp_all
def aeV(s:ByteArray)(l':List Pl.Tk)(v:List (List (List (Int×Int))))(w:World)(o:Option Pl.Tk)(e:Ending)(w':World):Prop:=
 Below w.heap.size w w'/\((∃u,o=some u/\e=.returned (.tuple #[.pointer none,.int .i64 3,.int .i64 u.pl]))\/
  (o=none/\∃rb,e=.returned (.tuple #[.pointer (some ⟨rb,0,none⟩),.int .i64 0,.int .i64 0])/\w.heap.size<=rb/\RD rb s (Pl.all s.data.toList) l' v.flatten w'))
theorem Ml{α:Type}(p:α->Bool)(c:List α)(k:Nat)(a:α)(h:c[k]?=some a)(hn:(c.take k).find? p=none):
  (p a=false->(c.take (k+1)).find? p=none)/\(p a=true->c.find? p=some a):=by
 have hk:=(bT.1 h).1;have ha:c[k]=a:=(bT.1 h).2;have e:c.take (k+1)=c.take k++[a]:=by rw[oK hk,ha]
 constructor
 ·intro hp;rw[e,zo,hn];simp[hp]
 ·intro hp;have e2:c=(c.take k++[a])++c.drop (k+1):=by rw[<-e,Rb]
  rw[e2,zo,zo,hn];simp[hp]
theorem aeW(s:ByteArray)(w:World)(hs:s.size<=400)(hG:Gl w)(t:Pl.Tk)(r c:List Pl.Tk)(v:List (List (List (Int×Int))))
  (hp:Pl.aH (Pl.all s.data.toList)=(true,t::r,v))(ht:t.k=101)(hc:c++t::r=Pl.all s.data.toList)(hc0:0<c.length):
  Calls Tryz.prog 33 #[.string s] w (aeV s (t::r) v w (c.find? outT)):=by
 have HP:Hid (Pl.aH (Pl.all s.data.toList)=(true,t::r,v)):=hp;have HT:Hid (∀w1,Gl w1->Calls Tryz.prog 60 #[.string s,.int .i64 0] w1 fun e w'=>e=.returned (.agg (eY (Pl.tk s.data.toList 0)))/\Below w1.heap.size w1 w'):=fun w1 g1=>TZ s w1 hs g1
 have hk1:(Pl.pk t != 1)=false:=by rw[Pl.SL.2 ht];rfl
 have HC:Hid (c++t::r=Pl.all s.data.toList):=hc;have hcl:c.length<=402:=by
  have:=Pl.xL s.data.toList;rw[<-hc] at this;simp at this;omega
 clear hp hc ht;generalize hk:Pl.tk s.data.toList 0=t0 at*;have HK:Hid (Pl.tk s.data.toList 0=t0):=hk;unfold eY at HT;clear hk;generalize hF:c.find? outT=F;have HF:Hid (c.find? outT=F):=hF;clear hF
 go_enter Tryz.func33,Tryz.ntmps33
 go_wp2_with fail
 refine(HT.out _ hG).mono ?_;rintro e w1 ⟨rfl,hb1⟩;have cz:Gl w1:=hG.below hb1 hG.sz
 go_wp2_with fail
 have Hj:RD w1.heap.size s (Pl.all s.data.toList) (Pl.all s.data.toList) [] (w1.alloc (.cells (GL s t0 (.slice none 0 0) (.slice none 0 0)) 80)):=RD.fresh (by rw[HK.out])
 have cx:Cx w1.heap.size s (Pl.all s.data.toList):=Cx.mk' hs cz.sz;refine(TV TY w1.heap.size s _ _ _ cx Hj (cz.alloc _)).mono ?_;rintro e w2 ⟨rfl,⟨rg2,cu,hrg2⟩,hb2⟩;rw[HP.out] at cu hrg2⊢;simp only at cu hrg2⊢;have hrg:=hrg2 trivial;subst hrg;clear hrg2 Hj;obtain⟨c',t',r',tv,rv,hc',hl,hbk,hown,LM⟩:=id cu;injection hl with h1 h2;subst h1 h2;have hcc:c'=c:=by
  have:=HC.out;rw[<-hc'] at this;exact(BR this).symm
 subst hcc;obtain⟨g,cap,rfl,hg1,hg2⟩:=hown.form hc0;have c1:w2.cell? ⟨w1.heap.size,1,none⟩=some (.int .i64 (Pl.pk t)):=cell_of hbk 1;have c5:w2.cell? ⟨w1.heap.size,5,none⟩=some (.slice (some ⟨g,0,none⟩) c'.length cap):=cell_of hbk 5;have hrow:=hown.cells (g:=g) rfl;have iC:Hid (∀j u,(uk c')[j]?=some u->w2.cell? ⟨g,j,none⟩=some u):=fun j u h=>by
  have:=hrow j u h;rwa[addr_add] at this
 have ag:Below w.heap.size w w2:=((hb1.alloc hb1.size _).trans (hb2.mono hb1.size));have hw1:w.heap.size<=w1.heap.size:=hb1.size;clear hrow hown LM hbk hc' HT HP HK
 go_wp2_with fail
 go_loopg [37] c'.length (fun n i wr=>∃k:Nat,k+n=c'.length/\i=.int .i64 k/\Hid ((c'.take k).find? outT=none)/\Below w2.heap.size w2 wr)
 case atStart=>exact⟨0,by omega,rfl,by show _=_;simp,Below.refl _ _⟩
 case round=>
  obtain⟨k,hkn,rfl,hnone,hbr⟩:=hrel;by_cases hlt:k<c'.length
  ·obtain⟨u,hu⟩:∃u,c'[k]?=some u:=⟨_,ay hlt⟩;have HU:Hid (c'[k]?=some u):=hu;have e0:wr.cell? ⟨g,k*4,none⟩=some (.int .i64 (Pl.pk u)):=by
    rw[hbr.cell (p:=⟨g,k*4,none⟩) hg2];exact iC.out (k*4) (.int .i64 (Pl.pk u)) (by have:=Hi c' k u hu 0 (by omega);rw[tY] at this;rw[this];rfl)
   have e1:wr.cell? ⟨g,k*4+1,none⟩=some (.string ⟨(Pl.fI u).toArray⟩):=by
    rw[hbr.cell (p:=⟨g,k*4+1,none⟩) hg2];exact iC.out (k*4+1) (.string ⟨(Pl.fI u).toArray⟩) (by rw[Hi c' k u hu 1 (by omega)];rfl)
   have e2:wr.cell? ⟨g,k*4+2,none⟩=some (.int .i64 u.n):=by
    rw[hbr.cell (p:=⟨g,k*4+2,none⟩) hg2];exact iC.out (k*4+2) (.int .i64 u.n) (by rw[Hi c' k u hu 2 (by omega)];rfl)
   have e3:wr.cell? ⟨g,k*4+3,none⟩=some (.int .i64 u.pl):=by
    rw[hbr.cell (p:=⟨g,k*4+3,none⟩) hg2];exact iC.out (k*4+3) (.int .i64 u.pl) (by rw[Hi c' k u hu 3 (by omega)];rfl)
   clear hu;by_cases Hm:u.k=110
   ·have se:Pl.pk u=3:=Pl.GP.2 Hm;rw[se] at e0;cases hin:kH 50 u.n
    ·have ho:F=some u:=by
      rw[<-HF.out];exact(Ml outT c' k u HU.out hnone.out).2 (by unfold outT;simp[Hm,hin])
     subst ho
     go_wp2_with fail
     refine(Hh u.n 50 _ (by omega) (by omega)).mono ?_
     rintro e w3 ⟨rfl,rfl⟩
     go_wp2_with fail
     go_quiet (fail)
     go_wp2_with fail
     go_ret3
     refine⟨?_,Or.inl ⟨u,rfl,rfl⟩⟩;have q:Below w.heap.size w (wr.alloc (.cells #[.int .i64 3,.string ⟨(Pl.fI u).toArray⟩,.int .i64 u.n,.int .i64 u.pl] 76)):=(ag.trans (hbr.mono ag.size)).alloc (dS ag.size hbr.size) _;exact⟨q.os,q.tape,q.output,q.size,q.block⟩
    ·have hn:Hid ((c'.take (k+1)).find? outT=none):=(Ml outT c' k u HU.out hnone.out).1 (by unfold outT;simp[hin])
     go_wp2_with fail
     refine(Hh u.n 50 _ (by omega) (by omega)).mono ?_
     rintro e w3 ⟨rfl,rfl⟩
     go_wp2_with fail
     go_roundg (gk-1)
     case measure=>omega
     case rel=>exact⟨k+1,by omega,by go_num,hn,hbr.alloc hbr.size _⟩
   ·have hn:Hid ((c'.take (k+1)).find? outT=none):=(Ml outT c' k u HU.out hnone.out).1 (by unfold outT;simp[Hm])
    have se:(Pl.pk u == 3)=false:=by
     rw[beq_eq_false_iff_ne];intro h;exact Hm (Pl.GP.1 h)
    generalize Pl.pk u=pku at*
    go_wp2_with fail
    go_roundg (gk-1)
    case measure=>omega
    case rel=>exact⟨k+1,by omega,by go_num,hn,hbr.alloc hbr.size _⟩
  ·have ho:F=none:=by
    rw[<-HF.out];have:=hnone.out;rwa[rI (by omega)] at this
   subst ho
   go_wp2_with fail
   go_ret3
   exact⟨ag.trans (hbr.mono ag.size),Or.inr ⟨rfl,w1.heap.size,rfl,hw1,cu.below hbr⟩⟩
namespace Pl
def wr(t:Tk):List UInt8:=if t.k=110 then Lib.itoa t.n else fI t
def bb(a b:Tk):Bool:=decide (fI a=[44])||(decide (a.k=110)&&decide (b.k=110))
def fK:Tk->List Tk->List UInt8
 |_,[]=>[]
 |p,t::r=>(if bb p t=true then[32] else[])++(wr t++fK t r)
def wt:List Tk->List UInt8
 |[]=>[]
 |[t]=>wr t
 |a::b::r=>wr a++([32]++(wr b++fK b r))
end Pl
theorem o6{B:Nat}{w w':World}(h:Below B w w')(n:Nat):Below B w (w'.drewN n):=⟨h.os,h.tape,h.output,h.size,h.block⟩
namespace Pl
def Goes(s:List UInt8)(l l':List Tk):Prop:=(∃c,c++l'=l)/\eB s l'
theorem Goes.refl{s:List UInt8}{l:List Tk}(h:eB s l):Goes s l l:=⟨⟨[],rfl⟩,h⟩
theorem Goes.trans{s:List UInt8}{a b c:List Tk}(h:Goes s a b)(k:Goes s b c):Goes s a c:=by
 obtain⟨⟨x,hx⟩,_⟩:=h;obtain⟨⟨y,hy⟩,hc⟩:=k;exact⟨⟨x++y,by rw[fD,hy,hx]⟩,hc⟩
theorem Goes.tail{s:List UInt8}{t:Tk}{r:List Tk}(h:eB s (t::r))(hk:¬(t.k=101\/t.k=120)):Goes s (t::r) r:=by
 obtain⟨u,r',_,_,hc⟩:=Sq s t r h hk;exact⟨⟨[t],rfl⟩,hc⟩
theorem uC{s:List UInt8}{c:Nat}{l:List Tk}(h:eB s l)(hc:c≠101/\c≠120):Goes s l (mk c l).2:=by
 cases l with
 |nil=>exact h.elim
 |cons t r=>
  by_cases hk:t.k=c
  ·have e:mk c (t::r)=(true,r):=by simp[mk,hk]
   rw[e];exact Goes.tail h (by omega)
  ·have e:mk c (t::r)=(false,t::r):=by simp[mk,hk]
   rw[e];exact Goes.refl h
theorem Ae{s:List UInt8}{q:List UInt8}{l:List Tk}(h:eB s l):Goes s l (wd q l).2:=by
 cases l with
 |nil=>exact h.elim
 |cons t r=>
  by_cases hk:t.k=119/\t.raw=q
  ·have e:wd q (t::r)=(true,r):=by simp only[wd];rw[if_pos hk]
   rw[e];exact Goes.tail h (by omega)
  ·have e:wd q (t::r)=(false,t::r):=by simp only[wd];rw[if_neg hk]
   rw[e];exact Goes.refl h
theorem T9{s:List UInt8}(l:List Tk)(h:eB s l):Goes s l (cE l).2.1:=by
 match l,h with
 |[],h=>exact h.elim
 |[x],h=>exact Goes.refl h
 |x::y::r,h=>
  by_cases hx:x.k=110
  ·have g1:=Goes.tail h (by omega)
   by_cases hy:y.k=110
   ·have e:cE (x::y::r)=(true,r,(x.n,y.n)):=by simp[cE,hx,hy]
    rw[e];exact g1.trans (Goes.tail g1.2 (by omega))
   ·have e:cE (x::y::r)=(false,y::r,(0,0)):=by simp[cE,hx,hy]
    rw[e];exact g1
  ·have e:cE (x::y::r)=(false,x::y::r,(0,0)):=by simp[cE,hx]
   rw[e];exact Goes.refl h
theorem Hn{s:List UInt8}{α:Type}(item:List Tk->Bool×List Tk×α)(hi:∀l,eB s l->Goes s l (item l).2.1):
  ∀(f:Nat)(l:List Tk)(acc:List α),eB s l->Goes s l (bK item f l acc).2.1
 |0,l,acc,h=>Goes.refl h
 |f+1,l,acc,h=>by
  have g1:=hi l h;cases h1:(item l).1
  ·rw[vY h1];exact g1
  ·cases h2:(mk 44 (item l).2.1).1
   ·rw[wh h1 h2];exact g1.trans (uC g1.2 (by omega))
   ·rw[vZ h1 h2];have g2:=uC (c:=44) g1.2 (by omega)
    exact(g1.trans g2).trans (Hn item hi f _ _ g2.2)
theorem Ua{s:List UInt8}(l:List Tk)(h:eB s l):Goes s l (di l).2.1:=by
 unfold di;have g1:=uC (c:=40) h (by omega)
 split
 ·split
  ·exact g1.trans (uC g1.2 (by omega))
  ·exact g1.trans (Hn cE T9 _ _ _ g1.2)
 ·exact Goes.refl h
theorem Mm{s:List UInt8}(l:List Tk)(h:eB s l):Goes s l (bo l).2.1:=by
 unfold bo;split
 ·exact Ae h
 ·have g1:=uC (c:=40) h (by omega)
  split
  ·exact g1.trans (Hn di Ua _ _ _ g1.2)
  ·exact Goes.refl h
theorem aeX{s:List UInt8}(l:List Tk)(h:eB s l):Goes s l (eJ l).2.1:=by
 unfold eJ;split
 ·exact Ae h
 ·have g1:=uC (c:=40) h (by omega)
  split
  ·exact g1.trans (Hn bo Mm _ _ _ g1.2)
  ·exact Goes.refl h
theorem Ho{s:List UInt8}(l:List Tk)(h:eB s l):Goes s l (aH l).2.1:=by
 unfold aH;split
 ·have g1:=Ae (q:=bp) h;exact g1.trans (Mm _ g1.2)
 ·split
  ·have g1:=Ae (q:=cJ) h;exact g1.trans (aeX _ g1.2)
  ·exact Goes.refl h
theorem aeY(l:List Tk)(h:(aH l).1=true):(aH l).2.1.length<l.length:=by
 unfold aH at h⊢;by_cases h1:(wd bp l).1=true
 ·rw[if_pos h1] at h⊢;have:=wj h1;have:=(C4 _ h).1;simp only;omega
 ·rw[if_neg h1] at h⊢;by_cases h2:(wd cJ l).1=true
  ·rw[if_pos h2] at h⊢;have:=wj h2;have:=aev _ h;omega
  ·rw[if_neg h2] at h;cases h
def hk(l:List Tk):Nat:=match l with |[]=>0|t::_=>t.k
def hpl(l:List Tk):Nat:=match l with |[]=>0|t::_=>t.pl
def took(s:List UInt8):List Tk:=(all s).take ((all s).length-(aH (all s)).2.1.length)
def err(s:List UInt8):Nat×Nat:=
  if 400<s.length then(1,0)
  else if(aH (all s)).1=true/\hk (aH (all s)).2.1=101 then
    (match(took s).find? outT with
     | some u=>(3,u.pl)
     | none=>(0,0))
  else(2,hpl (aH (all s)).2.1)
theorem Af(s:List UInt8):took s++(aH (all s)).2.1=all s:=by
 obtain⟨⟨c,hc⟩,_⟩:=Ho (all s) (xK s);unfold took;have:(all s).length=c.length+(aH (all s)).2.1.length:=by
  conv=>lhs;rw[<-hc]
  simp
 rw[this,Nat.add_sub_cancel]
 conv=>lhs;lhs;rw[<-hc]
 rw[List.take_left];exact hc
end Pl
def Ub(s:ByteArray)(w:World)(e:Ending)(w':World):Prop:=
 Below w.heap.size w w'/\∃pv,e=.returned (.tuple #[.pointer pv,.int .i64 (Pl.err s.data.toList).1,.int .i64 (Pl.err s.data.toList).2])/\
  ((Pl.err s.data.toList).1=0->∃rb,pv=some ⟨rb,0,none⟩/\w.heap.size<=rb/\RD rb s (Pl.all s.data.toList) (Pl.aH (Pl.all s.data.toList)).2.1 (Pl.aH (Pl.all s.data.toList)).2.2.flatten w')
theorem Hp(s:ByteArray)(w:World)(hm:s.size<=maxLen)(hG:Gl w):
  Calls Tryz.prog 33 #[.string s] w (Ub s w):=by
 have hsz:s.data.toList.length=s.size:=by simp
 by_cases hs:400<s.size
 ·refine(aeG s w hs hm).mono ?_;rintro e w' ⟨rfl,rfl⟩;have he:Pl.err s.data.toList=(1,0):=by unfold Pl.err;rw[if_pos (by omega)]
  refine⟨Below.refl _ _,none,?_,?_⟩
  ·rw[he];rfl
  ·rw[he];intro h;cases h
 ·have hs':s.size<=400:=by omega
  have hg:=Pl.Ho (Pl.all s.data.toList) (Pl.xK s.data.toList);have oZ:=Pl.Af s.data.toList;have o8:Pl.err s.data.toList=if(Pl.aH (Pl.all s.data.toList)).1=true/\Pl.hk (Pl.aH (Pl.all s.data.toList)).2.1=101 then
    (match(Pl.took s.data.toList).find? outT with |some u=>(3,u.pl)|none=>(0,0)) else(2,Pl.hpl (Pl.aH (Pl.all s.data.toList)).2.1):=by
   unfold Pl.err;rw[if_neg (by omega)]
  have hlt:=Pl.aeY (Pl.all s.data.toList);unfold Ub;rcases hp:Pl.aH (Pl.all s.data.toList) with⟨b,l',v⟩;rw[hp] at hg oZ o8 hlt;simp only at hg oZ o8 hlt⊢;obtain⟨t,r,rfl⟩:∃t r,l'=t::r:=by
   cases l' with
   |nil=>exact hg.2.elim
   |cons t r=>exact⟨t,r,rfl⟩
  by_cases hok:b=true/\t.k=101
  ·obtain⟨rfl,ht⟩:=hok;have hc0:0<(Pl.took s.data.toList).length:=by
    have h1:=hlt rfl;have h2:=congrArg List.length oZ;simp only[aS] at h2;omega
   refine(aeW s w hs' hG t r (Pl.took s.data.toList) v hp ht oZ hc0).mono ?_;rintro e w' ⟨ag,hr⟩;rw[if_pos ⟨rfl,ht⟩] at o8;refine⟨ag,?_⟩;rcases hr with⟨u,hu,rfl⟩|⟨hu,rb,rfl,h1,h2⟩
   ·rw[hu] at o8;simp only at o8;refine⟨none,by rw[o8];rfl,?_⟩
    rw[o8];intro h;cases h
   ·rw[hu] at o8;simp only at o8;exact⟨_,by rw[o8];rfl,fun _=>⟨rb,rfl,h1,h2⟩⟩
  ·rw[if_neg (by exact hok)] at o8
   refine(aeH s w hs' hG (t::r) t r b v hp rfl (by
    by_cases hb:b=true
    ·exact Or.inr (fun h=>hok ⟨hb,h⟩)
    ·exact Or.inl (by simpa using hb))).mono ?_
   rintro e w' ⟨rfl,ag⟩;refine⟨ag,none,by rw[o8];rfl,?_⟩
   rw[o8];intro h;cases h
theorem PS.lt{pb tb cap:Nat}{A l:List Pl.Tk}{bad:Bool}{w:World}(h:PS pb tb cap A l bad w):pb<w.heap.size:=by
 obtain⟨_,_,c,_,hb⟩:=h;exact lt_of_heap hb
theorem PS.alloc{pb tb cap:Nat}{A l:List Pl.Tk}{bad:Bool}{w:World}(h:PS pb tb cap A l bad w)(o:Obj):PS pb tb cap A l bad (w.alloc o):=
 h.mono fun _ hk=>Below.heap_alloc _ _ _ hk
theorem PS.drewN{pb tb cap:Nat}{A l:List Pl.Tk}{bad:Bool}{w:World}(h:PS pb tb cap A l bad w)(n:Nat):PS pb tb cap A l bad (w.drewN n):=h
theorem PS.box{pb tb cap:Nat}{A l:List Pl.Tk}{bad:Bool}{w:World}(h:PS pb tb cap A l bad w):
  ∃c:List Pl.Tk,c++l=A/\w.heap[pb]?=some (.cells #[.slice (some ⟨tb,0,none⟩) A.length cap,.int .i64 c.length,.bool bad,.int .i64 (bG c)] 55 (0,0)):=by
 obtain⟨_,_,c,hc,hb⟩:=h;exact⟨c,hc,hb⟩
theorem PS.Mn{pb tb cap:Nat}{A l:List Pl.Tk}{bad:Bool}{w:World}{T:TypeId}{cs:Array Value}{X Y:Value}(h:PS pb tb cap A l bad w)(b:Nat)(hb:b≠pb)(hT:T=61->False)(dK:w.heap[b]?=some (.cells cs T (0,0))):
  PS pb tb cap A l bad ((w.setCell ⟨b,0,none⟩ X).setCell ⟨b,1,none⟩ Y):=by
 obtain⟨hne,⟨cur,fU,hrow⟩,c,hc,hbk⟩:=h;have jg:tb≠b:=fun e=>by
  rw[e,dK] at fU;injection fU with fU;injection fU with _ fU _;exact hT fU
 exact⟨hne,⟨cur,((bg jg _).trans (bg jg _)).trans fU,hrow⟩,c,hc,((bg (Ne.symm hb) _).trans (bg (Ne.symm hb) _)).trans hbk⟩
def aeZ(pb tb cap:Nat)(A:List Pl.Tk)(b:Bool)(l':List Pl.Tk)(p:Int×Int)(w:World)(e:Ending)(w':World):Prop:=
 ∃X Y:Int,e=.returned (.agg #[.int .i64 X,.int .i64 Y])/\PS pb tb cap A l' (!b) w'/\Fp pb w w'/\(b=true->(X,Y)=p)
theorem Mp{pb:Nat}{w w1 w2:World}{X Y:Value}{o:Obj}(h1:Fp pb (w.alloc o) w1)(h2:Fp pb w1 w2)(_hpb:pb<w.heap.size):
  Fp pb w ((w2.setCell ⟨w.heap.size,0,none⟩ X).setCell ⟨w.heap.size,1,none⟩ Y):=by
 have h:=h1.trans h2;refine⟨h.os,h.tape,h.output,?_,fun k hk hne=>?_⟩
 ·have:=h.size;simp at this⊢;omega
 ·rw[bg (by omega),bg (by omega),h.block k (by simp;omega) hne]
  exact Below.heap_alloc _ _ _ hk
theorem ae0(pb tb cap:Nat)(A r:List Pl.Tk)(x y:Pl.Tk)(w:World)(hP:PS pb tb cap A (x::y::r) false w)(hl:A.length<=402)(hx:x.k=110)(hy:y.k=110):
  Calls Tryz.prog 87 #[.pointer (some ⟨pb,0,none⟩)] w fun e w'=>e=.returned (.agg #[.int .i64 (x.n),.int .i64 (y.n)])/\PS pb tb cap A r (!true) w'/\Fp pb w w':=by
 have hpb:=hP.lt
 go_enter Tryz.func87,Tryz.ntmps87
 go_wp2_with fail
 refine(Mk pb tb cap A _ x _ (hP.alloc _) hl hx).mono ?_;rintro e w1 ⟨rfl,eF,gw⟩
 go_wp2_with fail
 refine(Mk pb tb cap A _ y _ eF hl hy).mono ?_;rintro e w2 ⟨rfl,dQ,hf2⟩;have dK:w2.heap[w.heap.size]?=some (.cells #[.int .i64 0,.int .i64 0] 65 (0,0)):=((gw.trans hf2).block w.heap.size (by simp) (by omega)).trans (heap_alloc_new w _)
 have b0:w2.cell? ⟨w.heap.size,0,none⟩=some (.int .i64 0):=cell_of dK 0;have b1:w2.cell? ⟨w.heap.size,1,none⟩=some (.int .i64 0):=cell_of dK 1;have g0:w2.frozen? ⟨w.heap.size,0,none⟩=false:=aB dK 0;have g1:w2.frozen? ⟨w.heap.size,1,none⟩=false:=aB dK 1
 go_wp2_with fail
 refine bodyPost_ret (v:=.agg #[.int .i64 (x.n),.int .i64 (y.n)]) (by simp[results,Tryz.results87,go_sem,b0,b1]) rfl ⟨rfl,?_,Mp gw hf2 hpb⟩
 exact dQ.Mn w.heap.size (by omega) (fun h=>by cases h) dK
theorem ae1(pb tb cap:Nat)(A r:List Pl.Tk)(x y:Pl.Tk)(w:World)(hP:PS pb tb cap A (x::y::r) false w)(hl:A.length<=402)(hx:x.k=110)(hy:y.k≠110):
  Calls Tryz.prog 87 #[.pointer (some ⟨pb,0,none⟩)] w fun e w'=>e=.returned (.agg #[.int .i64 (x.n),.int .i64 0])/\PS pb tb cap A (y::r) (!false) w'/\Fp pb w w':=by
 have hpb:=hP.lt
 go_enter Tryz.func87,Tryz.ntmps87
 go_wp2_with fail
 refine(Mk pb tb cap A _ x _ (hP.alloc _) hl hx).mono ?_;rintro e w1 ⟨rfl,eF,gw⟩
 go_wp2_with fail
 refine(T7 pb tb cap A _ y _ eF hl hy).mono ?_;rintro e w2 ⟨rfl,dQ,hf2⟩;have dK:w2.heap[w.heap.size]?=some (.cells #[.int .i64 0,.int .i64 0] 65 (0,0)):=((gw.trans hf2).block w.heap.size (by simp) (by omega)).trans (heap_alloc_new w _)
 have b0:w2.cell? ⟨w.heap.size,0,none⟩=some (.int .i64 0):=cell_of dK 0;have b1:w2.cell? ⟨w.heap.size,1,none⟩=some (.int .i64 0):=cell_of dK 1;have g0:w2.frozen? ⟨w.heap.size,0,none⟩=false:=aB dK 0;have g1:w2.frozen? ⟨w.heap.size,1,none⟩=false:=aB dK 1
 go_wp2_with fail
 refine bodyPost_ret (v:=.agg #[.int .i64 (x.n),.int .i64 0]) (by simp[results,Tryz.results87,go_sem,b0,b1]) rfl ⟨rfl,?_,Mp gw hf2 hpb⟩
 exact dQ.Mn w.heap.size (by omega) (fun h=>by cases h) dK
theorem Uc(pb tb cap:Nat)(A r:List Pl.Tk)(x:Pl.Tk)(w:World)(hP:PS pb tb cap A (x::r) false w)(hl:A.length<=402)(hx:x.k≠110):
  Calls Tryz.prog 87 #[.pointer (some ⟨pb,0,none⟩)] w fun e w'=>e=.returned (.agg #[.int .i64 0,.int .i64 0])/\PS pb tb cap A (x::r) (!false) w'/\Fp pb w w':=by
 have hpb:=hP.lt
 go_enter Tryz.func87,Tryz.ntmps87
 go_wp2_with fail
 refine(T7 pb tb cap A _ x _ (hP.alloc _) hl hx).mono ?_;rintro e w1 ⟨rfl,eF,gw⟩
 go_wp2_with fail
 refine(aeQ pb tb cap A _ x _ eF hl).mono ?_;rintro e w2 ⟨rfl,dQ,hf2⟩;have dK:w2.heap[w.heap.size]?=some (.cells #[.int .i64 0,.int .i64 0] 65 (0,0)):=((gw.trans hf2).block w.heap.size (by simp) (by omega)).trans (heap_alloc_new w _)
 have b0:w2.cell? ⟨w.heap.size,0,none⟩=some (.int .i64 0):=cell_of dK 0;have b1:w2.cell? ⟨w.heap.size,1,none⟩=some (.int .i64 0):=cell_of dK 1;have g0:w2.frozen? ⟨w.heap.size,0,none⟩=false:=aB dK 0;have g1:w2.frozen? ⟨w.heap.size,1,none⟩=false:=aB dK 1
 go_wp2_with fail
 refine bodyPost_ret (v:=.agg #[.int .i64 0,.int .i64 0]) (by simp[results,Tryz.results87,go_sem,b0,b1]) rfl ⟨rfl,?_,Mp gw hf2 hpb⟩
 exact dQ.Mn w.heap.size (by omega) (fun h=>by cases h) dK
theorem ae2(pb tb cap:Nat)(s:List UInt8)(A l:List Pl.Tk)(w:World)(hch:Pl.eB s l)(hP:PS pb tb cap A l false w)(hl:A.length<=402):
  Calls Tryz.prog 87 #[.pointer (some ⟨pb,0,none⟩)] w (aeZ pb tb cap A (Pl.cE l).1 (Pl.cE l).2.1 (Pl.cE l).2.2 w):=by
 match l,hP,hch with
 |[],hP,hch=>exact hch.elim
 |[x],hP,hch=>
  have hx:x.k≠110:=by
   have:x.k=101\/x.k=120:=hch;omega
  refine(Uc pb tb cap A [] x w hP hl hx).mono ?_;rintro e w' ⟨rfl,h1,h2⟩;exact⟨_,_,rfl,h1,h2,fun h=>by cases h⟩
 |x::y::r,hP,hch=>
  by_cases hx:x.k=110
  ·by_cases hy:y.k=110
   ·have e:Pl.cE (x::y::r)=(true,r,(x.n,y.n)):=by simp[Pl.cE,hx,hy]
    rw[e];refine(ae0 pb tb cap A r x y w hP hl hx hy).mono ?_;rintro e w' ⟨rfl,h1,h2⟩;exact⟨_,_,rfl,h1,h2,fun _=>rfl⟩
   ·have e:Pl.cE (x::y::r)=(false,y::r,(0,0)):=by simp[Pl.cE,hx,hy]
    rw[e];refine(ae1 pb tb cap A r x y w hP hl hx hy).mono ?_;rintro e w' ⟨rfl,h1,h2⟩;exact⟨_,_,rfl,h1,h2,fun h=>by cases h⟩
  ·have e:Pl.cE (x::y::r)=(false,x::y::r,(0,0)):=by simp[Pl.cE,hx]
   rw[e];refine(Uc pb tb cap A _ x w hP hl hx).mono ?_;rintro e w' ⟨rfl,h1,h2⟩;exact⟨_,_,rfl,h1,h2,fun h=>by cases h⟩
def ki(g:List (Int×Int)):List Value:=g.flatMap fun p=>[.int .i64 p.1,.int .i64 p.2]
theorem Ud(g:List (Int×Int))(p:Int×Int):ki (g++[p])=ki g++[.int .i64 p.1,.int .i64 p.2]:=by simp[ki]
def xY{α:Type}(T:Bool×List Pl.Tk×List α)(l:List Pl.Tk)(bad:Bool)(acc:List α):Prop:=
 (bad=false/\T=((Pl.mk 41 l).1,(Pl.mk 41 l).2,acc))\/(bad=true/\T.1=false/\T.2.1=l)
theorem PS.next{pb tb cap:Nat}{A r:List Pl.Tk}{t:Pl.Tk}{w:World}(h:PS pb tb cap A (t::r) false w)(hk:t.k≠110)(c:List Pl.Tk)(hc:c++t::r=A)(hb:w.heap[pb]?=some (.cells #[.slice (some ⟨tb,0,none⟩) A.length cap,.int .i64 c.length,.bool false,.int .i64 (bG c)] 55 (0,0))):
  PS pb tb cap A r false (w.setCell ⟨pb,1,none⟩ (.int .i64 ((c.length:Int)+1))):=by
 refine h.put (c++[t]) (by rw[<-hc];simp) (fun k hk hne=>bg hne _) ?_
 have q:=heap_set (w:=w) (o:=1) hb (.int .i64 ((c.length:Int)+1));rw[Mj c t hk];simpa using q
theorem Mq{α:Type}{T:Bool×List Pl.Tk×List α}{pb tb cap:Nat}{s:List UInt8}{A l:List Pl.Tk}{bad:Bool}{acc:List α}{w:World}(hF:xY T l bad acc)(hch:Pl.eB s l)(hP:PS pb tb cap A l bad w)(hl:A.length<=402):
  Calls Tryz.prog 42 #[.pointer (some ⟨pb,0,none⟩),.int .u8 41] w fun e w'=>e=.returned (.tuple #[])/\PS pb tb cap A T.2.1 (!T.1) w'/\Fp pb w w'/\(T.1=true->T.2.2=acc):=by
 cases l with
 |nil=>exact hch.elim
 |cons t r=>
  rcases hF with⟨rfl,rfl⟩|⟨rfl,h1,h2⟩
  ·by_cases hk:t.k=41
   ·have e:Pl.mk 41 (t::r)=(true,r):=by simp[Pl.mk,hk]
    simp only[e];refine(Hk pb tb cap A r t w 41 hP hl hk (by omega)).mono ?_
    rintro e w' ⟨rfl,h1,h2⟩;exact⟨rfl,h1,h2,fun _=>trivial⟩
   ·have e:Pl.mk 41 (t::r)=(false,t::r):=by simp[Pl.mk,hk]
    simp only[e];refine(Hl pb tb cap A r t w 41 hP hl hk).mono ?_;rintro e w' ⟨rfl,h1,h2⟩;exact⟨rfl,h1,h2,fun _=>trivial⟩
  ·rw[h1,h2];refine(aeK pb tb cap A r t w 41 hP hl).mono ?_;rintro e w' ⟨rfl,h3,h4⟩;exact⟨rfl,h3,h4,fun h=>by cases h⟩
theorem Hq{pb tb cap:Nat}{s:List UInt8}{A l:List Pl.Tk}{bad:Bool}{w:World}(k:Nat)(hch:Pl.eB s l)(hP:PS pb tb cap A l bad w)(hl:A.length<=402):
  Calls Tryz.prog 44 #[.pointer (some ⟨pb,0,none⟩),.int .u8 k] w fun e w'=>e=.returned (.bool (!bad&&(Pl.mk k l).1))/\∃n,w'=w.drewN n:=by
 cases l with
 |nil=>exact hch.elim
 |cons t r=>
  cases bad
  ·refine(aeL pb tb cap A r t w k hP hl).mono ?_;rintro e w' ⟨rfl,n,rfl⟩;refine⟨rO ?_,n,rfl⟩;by_cases hk:t.k=k<;>simp[Pl.mk,hk]
  ·refine(aeM pb tb cap A r t w k hP hl).mono ?_;rintro e w' ⟨rfl,n,rfl⟩;exact⟨rfl,n,rfl⟩
theorem Ag{pb tb cap:Nat}{A l:List Pl.Tk}{bad:Bool}{w w':World}{base:Nat}{e:TypeId}{size:Nat}{v:Value}{n:Nat}{xs:List Value}(h:w.ownsRow base e size v n xs)(hf:Fp pb w w')(hP:PS pb tb cap A l bad w)(he:55≠e:=by decide):w'.ownsRow base e size v n xs:=by
 obtain⟨c,_,hb⟩:=hP.box;exact aJ h fun k hk=>hf.block k (au h k hk).2 (fun e'=>nP h hb he (by rw[hk,e']))
theorem PS.Mr{pb tb cap:Nat}{A l:List Pl.Tk}{bad:Bool}{w4 w5:World}{o1 o2:Obj}{row:Option Nat}{e:TypeId}(h:PS pb tb cap A l bad w4)(hg:((w4.alloc o1).alloc o2).grownBy w5 row)
  (hrow:∀k,row=some k->∃cur,w4.heap[k]?=some (.cells cur e (0,0)))(he:e≠61/\e≠55):PS pb tb cap A l bad w5:=by
 obtain⟨hne,⟨cur,fU,hr⟩,c,hc,hb⟩:=h;have key:∀(k:Nat)(cur':Array Value)(e':TypeId),w4.heap[k]?=some (Obj.cells cur' e' (0,0))->e≠e'->w5.heap[k]?=some (Obj.cells cur' e' (0,0)):=fun k cur' e' hk C7=>by
  have hk':=lt_of_heap hk;rw[hg.block k (by simp;omega) (fun er=>by
   obtain⟨c2,h2⟩:=hrow k er.symm;rw[hk] at h2;injection h2 with h2;injection h2 with _ h2 _;exact C7 h2.symm),Below.heap_alloc _ _ _ (by simp;omega),Below.heap_alloc _ _ _ hk']
  exact hk
 exact⟨hne,⟨cur,key _ _ _ fU he.1,hr⟩,c,hc,key _ _ _ hb he.2⟩
theorem Fp.Mr{pb:Nat}{w w4 w5:World}{o1 o2:Obj}{row:Option Nat}(h:Fp pb w w4)(hg:((w4.alloc o1).alloc o2).grownBy w5 row)(hrow:∀k,row=some k->w.heap.size<=k):Fp pb w w5:=by
 refine⟨hg.os.trans h.os,hg.tape.trans h.tape,hg.output.trans h.output,?_,fun k hk hne=>?_⟩
 ·have h1:=hg.size;have h2:=h.size;simp at h1;omega
 ·have h2:=h.size;rw[hg.block k (by simp;omega) (fun er=>by have:=hrow k er.symm;omega),Below.heap_alloc _ _ _ (by simp;omega),Below.heap_alloc _ _ _ (by omega)]
  exact h.block k hk hne
theorem Ms{c:Nat}{l:List Pl.Tk}(h:(Pl.mk c l).1=true):∃t r,l=t::r/\t.k=c:=by
 cases l with
 |nil=>cases h
 |cons t r=>
  by_cases hk:t.k=c
  ·exact⟨t,r,rfl,hk⟩
  ·simp[Pl.mk,hk] at h
def ae3(pb tb cap:Nat)(A:List Pl.Tk)(T:Bool×List Pl.Tk×List (Int×Int))(w:World)(e:Ending)(w':World):Prop:=
 ∃v,e=.returned v/\PS pb tb cap A T.2.1 (!T.1) w'/\Fp pb w w'/\(∃ps,w'.ownsRow w.heap.size 65 2 v ps.length (ki ps)/\(T.1=true->ps=T.2.2))
theorem Ue:(Tryz.prog.info? 65).map (fun i=>(i.zero,i.size,i.bytes))=some (some (.agg #[.int .i64 0,.int .i64 0]),2,16):=by kernel_rfl
def C8(pb tb cap:Nat)(s:List UInt8)(A:List Pl.Tk)(T:Bool×List Pl.Tk×List (Int×Int))(w:World)(g:Nat)(lv:Value)(more:Bool)(wr:World):Prop:=
 ∃l acc bad,PS pb tb cap A l bad wr/\Fp pb w wr/\Pl.eB s l/\wr.ownsRow w.heap.size 65 2 lv acc.length (ki acc)/\acc.length<=1000-g/\g<=402/\
  (more=true->bad=false/\Pl.bK Pl.cE g l acc=T/\l.length<=g)/\(more=false->xY T l bad acc)
theorem ae4(pb tb cap:Nat)(s:List UInt8)(A l:List Pl.Tk)(w:World)(hch:Pl.eB s l)(hP:PS pb tb cap A l false w)(hl:A.length<=402)(hll:l.length<=402):
  Calls Tryz.prog 58 #[.pointer (some ⟨pb,0,none⟩)] w (ae3 pb tb cap A (Pl.di l) w):=by
 obtain⟨i0,hi,hz0,hz1,hz2⟩:=info_parts Ue;generalize hT:Pl.di l=T;have hpb:=hP.lt;have HM:Hid (Calls Tryz.prog 42 #[.pointer (some ⟨pb,0,none⟩),.int .u8 40] w fun e w'=>e=.returned (.tuple #[])/\Fp pb w w'/\∃l1 bad,PS pb tb cap A l1 bad w'/\Pl.eB s l1/\l1.length<=l.length/\
   ((bad=true/\xY T l1 true ([]:List (Int×Int)))\/(bad=false/\(Pl.mk 41 l1).1=true/\xY T l1 false ([]:List (Int×Int)))\/(bad=false/\(Pl.mk 41 l1).1=false/\Pl.bK Pl.cE l.length l1 []=T))):=by
  have hg:=Pl.uC (c:=40) hch (by omega)
  cases l with
  |nil=>exact hch.elim
  |cons t r=>
   by_cases hk:t.k=40
   ·have e:Pl.mk 40 (t::r)=(true,r):=by simp[Pl.mk,hk]
    refine(Hk pb tb cap A r t w 40 hP hl hk (by omega)).mono ?_
    rintro e' w' ⟨rfl,h1,h2⟩;rw[e] at hg;refine⟨rfl,h2,r,false,h1,hg.2,by simp,?_⟩
    unfold Pl.di at hT;rw[e] at hT;simp only[if_true] at hT;by_cases hm:(Pl.mk 41 r).1=true
    ·rw[if_pos hm] at hT;exact Or.inr (Or.inl ⟨rfl,hm,Or.inl ⟨rfl,by rw[<-hT,hm]⟩⟩)
    ·rw[if_neg hm] at hT;exact Or.inr (Or.inr ⟨rfl,by simpa using hm,hT⟩)
   ·have e:Pl.mk 40 (t::r)=(false,t::r):=by simp[Pl.mk,hk]
    refine(Hl pb tb cap A r t w 40 hP hl hk).mono ?_;rintro e' w' ⟨rfl,h1,h2⟩;refine⟨rfl,h2,t::r,true,h1,hch,ae _,Or.inl ⟨rfl,Or.inr ⟨rfl,?_⟩⟩⟩;unfold Pl.di at hT;rw[e] at hT;simp only[iP,if_false] at hT;rw[<-hT];exact⟨rfl,rfl⟩
 clear hT
 go_enter Tryz.func58,Tryz.ntmps58
 go_wp2_with fail
 refine HM.out.mono ?_;rintro e w1 ⟨rfl,gw,l1,bad,eF,uD,kG,jC⟩
 go_wp2_with fail
 refine(Hq 41 uD eF hl).mono ?_;rintro e w2 ⟨rfl,n,rfl⟩;have bh:Hid (C8 pb tb cap s A T w l.length (.slice none 0 0) (!bad&& !(!bad&&(Pl.mk 41 l1).1)) (w1.drewN n)):=by
  refine⟨l1,[],bad,eF.drewN n,gw.drewN n,uD,World.ownsRow_nil _ _ _ _,by simp,hll,fun hm=>?_,fun hm=>?_⟩
  ·rcases jC with⟨rfl,_⟩|⟨rfl,h,_⟩|⟨rfl,h,h2⟩
   ·cases hm
   ·rw[h] at hm;cases hm
   ·exact⟨rfl,h2,kG⟩
  ·rcases jC with⟨rfl,h⟩|⟨rfl,h,h2⟩|⟨rfl,h,h2⟩
   ·exact h
   ·exact h2
   ·rw[h] at hm;cases hm
 have hb2:(w1.drewN n).cell? ⟨pb,2,none⟩=some (.bool bad):=by
  obtain⟨c,_,hb⟩:=eF.box;exact cell_of (w:=w1.drewN n) hb 2
 clear jC;generalize(Pl.mk 41 l1).1=m at*;generalize w1.drewN n=w3 at*;clear HM kG uD eF gw hch hP;cases bad<;>cases m
 all_goals
  go_wp2_with fail
  go_loopg [3,5] l.length (fun g lv mv wr=>∃more:Bool,mv=.bool more/\Hid (C8 pb tb cap s A T w g lv more wr))
  case atStart=>exact⟨_,rfl,bh⟩
  case round=>
   obtain⟨more,rfl,HR⟩:=hrel;obtain⟨l2,acc,bad,dQ,hf2,ik,hown,hacc,qB,o9,hfin⟩:=HR.out;have hs2:=hf2.size;clear HR bh hb2;cases more
   ·have hF:=hfin rfl;clear hfin o9
    go_wp2_with fail
    refine(Mq hF ik dQ hl).mono ?_;rintro e w4 ⟨rfl,kj,gQ,C9⟩
    go_wp2_with fail
    go_ret
    refine⟨_,rfl,kj,hf2.trans gQ,acc,Ag hown gQ dQ,fun h=>(C9 h).symm⟩
   ·obtain⟨rfl,hrow,hlen⟩:=o9 rfl;clear hfin o9;have hne:l2≠[]:=fun e=>by rw[e] at ik;exact ik
    obtain⟨g1,rfl⟩:∃g1,gk=g1+1:=⟨gk-1,by have:=gL.2 hne;omega⟩
    have iC:Hid (Pl.bK Pl.cE (g1+1) l2 acc=T):=hrow;have HLEN:Hid (l2.length<=g1+1):=hlen;clear hrow hne hlen
    go_wp2_with fail
    refine(ae2 pb tb cap s A l2 _ ik dQ hl).mono ?_;rintro e w4 ⟨X,Y,rfl,kj,gQ,Uf⟩;have hs4:=gQ.size;have fV:=Ag hown gQ dQ;have Ug:=kj.lt;have l9:Hid ((Pl.cE l2).1=true->(X,Y)=(Pl.cE l2).2.2):=Uf;clear Uf
    go_wp2_with (at_builtin;refine wpList_append_lies _ rfl (.tmp 23) (.tmp 25) 63 rfl w.heap.size 65 i0 _ 2 16 Tryz.underlying63 hi hz0 hz1 hz2 rfl (by decide) u3 acc.length (ki acc) rfl (aJ fV (fun k hk=>(Below.heap_alloc _ _ _ (by have:=(au fV k hk).2;simp;omega)).trans (Below.heap_alloc _ _ _ (au fV k hk).2))) ⟨w4.heap.size+1,0,none⟩ 1 1 [.int .i64 X,.int .i64 Y] rfl rfl (World.news_of_block (cs:= #[.int .i64 X,.int .i64 Y]) (t:=65) (fr:=(0,0)) (by have:=heap_alloc_new (w4.alloc (.cells #[.int .i64 X,.int .i64 Y] 65)) (.cells #[.int .i64 X,.int .i64 Y] 65);simpa using this)) (by simp[Value.oneCell']) (by decide) (by unfold maxLen;omega) (by omega) (by simp;omega) (w4.heap.size+2) (by simp) ?_;intro g cap' w5 ho hgrow hat uo)
    have dR:=kj.Mr hgrow (fun k hk=>nQ fV hk) (by decide)
    have jO:=(hf2.trans gQ).Mr hgrow (fun k hk=>(au fV k hk).1)
    have hg3:=Pl.T9 l2 ik;have ho':w5.ownsRow w.heap.size 65 2 (.slice (some ⟨g,0,none⟩) (acc.length+1) cap') (acc++[(X,Y)]).length (ki (acc++[(X,Y)])):=by
     rw[Ud];simpa using ho
    have anS:=dR.lt;clear hgrow ho hat fV hown kj gQ dQ hf2;refine(Hq 44 hg3.2 dR hl).mono ?_;rintro e w6 ⟨rfl,n6,rfl⟩;cases hb:(Pl.cE l2).1
    ·rw[hb] at dR;have HN:Hid (C8 pb tb cap s A T w g1 (.slice (some ⟨g,0,none⟩) (acc.length+1) cap') false (w5.drewN n6)):=by
      refine⟨_,acc++[(X,Y)],true,dR.drewN n6,jO.drewN n6,hg3.2,ho',by simp;omega,by omega,fun h=>(by cases h),fun _=>Or.inr ⟨rfl,?_⟩⟩
      rw[<-iC.out,vY hb];exact⟨rfl,rfl⟩
     clear iC l9 dR jO hg3 ho' ik
     go_wp2_with fail
     go_roundg g1
     case measure=>omega
     case rel=>exact⟨_,rfl,HN⟩
    ·rw[hb] at dR;have hxy:=l9.out hb;cases hm:(Pl.mk 44 (Pl.cE l2).2.1).1
     ·have HN:Hid (C8 pb tb cap s A T w g1 (.slice (some ⟨g,0,none⟩) (acc.length+1) cap') false (w5.drewN n6)):=by
       refine⟨_,acc++[(X,Y)],false,dR.drewN n6,jO.drewN n6,hg3.2,ho',by simp;omega,by omega,fun h=>(by cases h),fun _=>Or.inl ⟨rfl,?_⟩⟩
       rw[<-iC.out,wh hb hm,hxy]
      clear iC l9 dR jO hg3 ho' ik hxy
      go_wp2_with fail
      go_roundg g1
      case measure=>omega
      case rel=>exact⟨_,rfl,HN⟩
     ·obtain⟨t3,r3,ni,hk3⟩:∃t3 r3,(Pl.cE l2).2.1=t3::r3/\t3.k=44:=Ms hm;rw[ni] at dR;obtain⟨c3,hc3,lg⟩:=dR.box;have wm:=(dR.drewN n6).next (by omega) c3 hc3 lg
      have HN:Hid (C8 pb tb cap s A T w g1 (.slice (some ⟨g,0,none⟩) (acc.length+1) cap') true ((w5.drewN n6).setCell ⟨pb,1,none⟩ (.int .i64 ((c3.length:Int)+1)))):=by
       have wq:=hg3.2;have hlt:=Pl.Hd l2 hb;have hle:=HLEN.out;rw[ni] at wq hlt;simp only[bO] at hlt;refine⟨r3,acc++[(X,Y)],false,wm,(jO.drewN n6).set 1 _,(Pl.Goes.tail wq (by omega)).2,aJ ho' (fun k hk=>bg (fun e=>nP (w:=w5) ho' lg (by decide) (by rw[hk,e])) _),by simp;omega,by omega,fun _=>⟨rfl,?_,by omega⟩,fun h=>(by cases h)⟩
       rw[<-iC.out,vZ hb hm,hxy,ni];simp[Pl.mk,hk3]
      have b1:(w5.drewN n6).cell? ⟨pb,1,none⟩=some (.int .i64 c3.length):=cell_of (w:=w5.drewN n6) lg 1;have g1':(w5.drewN n6).frozen? ⟨pb,1,none⟩=false:=aB (w:=w5.drewN n6) lg 1;have hcl:c3.length<=402:=by have h:=congrArg List.length hc3;simp at h;omega
      clear iC l9 dR jO hg3 ho' ik hxy wm hc3 lg ni;generalize w5.drewN n6=w7 at*
      go_wp2_with fail
      go_roundg g1
      case measure=>omega
      case rel=>exact⟨_,rfl,HN⟩
end Go.Proofs.YtkjhhooecopolaaGreatDoor
