import Derived.Deep.RegionHeld3
import Derived.Test.YtkjhhooecopolaaGreatDoorMz15
set_option maxRecDepth 100000
set_option maxHeartbeats 4000000
namespace Go.Proofs.YtkjhhooecopolaaGreatDoor
open Go.RowKit
def H0(w:World)(v:Value)(g:List (Int×Int)):Prop:=w.ownsRow 0 81 1 v g.length (pR g)
def uK(w:World)(v:Value)(rg:List (List (Int×Int))):Prop:=xZ 127 H0 w v rg
theorem UN{rb:Nat}{rv:Value}{rg:List (List (Int×Int))}{w:World}(h:qA rb rv rg w):uK w rv rg:=by
 obtain⟨vs,h1,h2,h3,_⟩:=h;exact⟨vs,h1,wu h2,fun i u x hu hx=>wu (h3 i u x hu hx)⟩
theorem afu{w:World}{v:Value}{g:List (Int×Int)}(h:H0 w v g):∃so cap,v=.slice so g.length cap:=by
 rcases h.2 with⟨hv,h0⟩|⟨b,cap,cur,hv,_⟩
 ·exact⟨none,0,by rw[hv,h0]⟩
 ·exact⟨_,cap,hv⟩
theorem UO{w:World}{so:Option Addr}{n cap:Nat}{g:List (Int×Int)}(hR:H0 w (.slice so n cap) g){k:Nat}{p:Int×Int}(hp:g[k]?=some p):
  ∃b,so=some ⟨b,0,none⟩/\b<w.heap.size/\w.cell? ⟨b,k,none⟩=some (.complex .f64 (floatOfInt .f64 p.1) (floatOfInt .f64 p.2)):=by
 have a0:(pR g)[k]?=some (xM p):=by simp[pR,hp]
 obtain⟨b,c,hv,hb,hc⟩:=CS hR a0;injection hv with hv;exact⟨b,hv,hb,hc _ _ a0⟩
def yl(w:World)(lv:Value)(acc:List Ed)(wr:World):Prop:=
 (∃xs:List EB,xs.length=acc.length/\wr.ownsRow w.heap.size 124 4 lv acc.length (nS xs)/\∀(i:Nat) x e,xs[i]?=some x->acc[i]?=some e->iT x e)/\Below w.heap.size w wr
theorem afv(l:List EB)(e:EB):nS (l++[e])=nS l++e.cells.toList:=by simp[nS]
theorem afw:(Tryz.prog.info? 124).map (fun i=>(i.zero,i.size,i.bytes))=some (some (.agg #[.complex .f64 0 0,.float .f64 0,.complex .f64 0 0,.complex .f64 0 0]),4,56):=by kernel_rfl
theorem afx{xs:List EB}{acc:List Ed}{x:EB}{e:Ed}(hlen:xs.length=acc.length)(h:∀(i:Nat) x e,xs[i]?=some x->acc[i]?=some e->iT x e)(hx:iT x e):
  ∀(i:Nat) y f,(xs++[x])[i]?=some y->(acc++[e])[i]?=some f->iT y f:=by
 intro i u y hu hy;by_cases hi:i<xs.length
 ·rw[dZ hi] at hu;rw[dZ (by omega)] at hy
  exact h i u y hu hy
 ·have hi2:i=xs.length:=by
   have:=(bT.1 hu).1;simp at this;omega
  subst hi2;have e1:u=x:=by simpa using hu.symm
  have e2:y=e:=by rw[hlen] at hy;simpa using hy.symm
  subst e1 e2;exact hx
theorem UQ(rg:List (List (Int×Int)))(v:Value)(w:World)(hR:uK w v rg)(hok:∀g∈rg,mb g/\g.length<=402)(hl:rg.length<=161604):
  Calls Tryz.prog 36 #[v] w fun e w'=>∃v,e=.returned v/\gu w' v (Ge.aa rg)/\Below w.heap.size w w':=by
 obtain⟨so,cap,rfl⟩:=qJ hR;obtain⟨i0,hi,hz0,hz1,hz2⟩:=info_parts afw;have HR:Hid (uK w (.slice so rg.length cap) rg):=hR;have iL:Hid (∀g∈rg,mb g/\g.length<=402):=hok;clear hR hok;have bh:Hid (yl w (.slice none 0 0) [] w):=⟨⟨[],rfl,World.ownsRow_nil _ _ _ _,fun i x e h=>by simp at h⟩,Below.refl _ _⟩
 have HLEN:Hid (∀i,(Ge.aa (rg.take i)).length<=65000000):=fun i=>by
  have h:=Ge.LV 402 (rg.take i) (fun g hg=>(iL.out g (nL hg)).2)
  have h2:(rg.take i).length<=161604:=by simp;omega
  omega
 go_enter Tryz.func36,Tryz.ntmps36
 go_wp2_with fail
 go_loopg [3,11] rg.length (fun m lv iv wr=>∃i:Nat,i+m=rg.length/\iv=.int .i64 i/\Hid (yl w lv (Ge.aa (rg.take i)) wr))
 case atStart=>exact⟨0,by omega,rfl,bh⟩
 case round=>
  obtain⟨i,him,rfl,HE⟩:=hrel;have ag:=HE.out.2;clear bh;by_cases hlt:i<rg.length
  ·obtain⟨g,hg⟩:∃g,rg[i]?=some g:=⟨_,ay hlt⟩;obtain⟨b,u,rfl,hb,e0,ji⟩:=Ai HR.out hg;obtain⟨gs,gc,rfl⟩:=afu ji;have r0:=(ag.cell (p:=⟨b,i,none⟩) hb).trans e0;have hgl:g.length<=402:=(iL.out g (aY hg)).2;have UR:Hid (mb g):=(iL.out g (aY hg)).1;have uL:Hid (H0 w (.slice gs g.length gc) g):=ji;have HT:Hid (Ge.aa (rg.take (i+1))=Ge.aa (rg.take i)++Ge.fH g):=Ge.adU hg;have hli:=HLEN.out i;have eD:(i:Int)<(rg.length:Int):=by omega
   have hbr:b<wr.heap.size:=aL hb ag.size;obtain⟨m1,ym⟩:∃m1,m1=gk:=⟨_,rfl⟩;generalize Ge.aa (rg.take i)=A1 at*;clear hg e0 ji iL HR HLEN
   go_wp2_with fail
   go_loopg [3,17] g.length (fun m lv nv wr=>∃n:Nat,n+m=g.length/\nv=.int .i64 n/\Hid (yl w lv (A1++Ge.jN g n) wr))
   case atStart=>exact⟨0,by omega,rfl,by simpa[Ge.adR] using HE⟩
   case round=>
    obtain⟨n,hnm,rfl,kM⟩:=hrel;have jP:=kM.out.2;clear HE r0;by_cases H6:n<g.length
    ·obtain⟨P,hP⟩:∃P,g[n]?=some P:=⟨_,ay H6⟩;obtain⟨b3,rfl,hb3,p0⟩:=UO uL.out hP;have r0:=(jP.cell (p:=⟨b3,n,none⟩) hb3).trans p0;have afA:b3<wr.heap.size:=aL hb3 jP.size;have Ao:(n:Int)<(g.length:Int):=by omega
     obtain⟨M,Q,hQ,UT,hM⟩:∃(M:Nat)(Q:Int×Int),g[M]?=some Q/\Ge.vR g n=some Q/\(((n:Int)+1)%(g.length:Int)=(M:Int)/\M<g.length/\(n+1)%g.length=M):=by
      by_cases lU:n+1<g.length
      ·exact⟨n+1,_,ay lU,by unfold Ge.vR;rw[if_pos lU];exact ay lU,by rw[Int.emod_eq_of_lt (by omega) (by omega)];omega,lU,ab4 lU⟩
      ·have xJ:n+1=g.length:=by omega
       exact⟨0,_,ay (show 0<g.length by omega),by unfold Ge.vR;rw[if_neg lU];exact ay (show 0<g.length by omega),by rw[show((n:Int)+1)=(g.length:Int) by omega,Int.emod_self];rfl,by omega,by rw[xJ,Nat.mod_self]⟩
     obtain⟨hM1,hM2,hM3⟩:=hM;obtain⟨b4,hb4,_,f0⟩:=UO uL.out hQ;injection hb4 with hb4;injection hb4 with hb4;subst hb4;have s0:=(jP.cell (p:=⟨b3,M,none⟩) hb3).trans f0;have hMl:(M:Int)<(g.length:Int):=by omega
     have dw:¬((g.length:Int)=0):=by omega
     have UU:¬(g.length=0):=by omega
     have HP:Hid (g[n]?=some P):=hP;have HQ:Hid (Ge.vR g n=some Q):=UT;have Aj:Hid (gz P.1/\gz P.2):=UR.out P (aY hP);have Dm:Hid (gz Q.1/\gz Q.2):=UR.out Q (aY hQ);obtain⟨P1,P2⟩:=P;obtain⟨Q1,Q2⟩:=Q;clear p0 f0 hP hQ UT;simp only at r0 s0;have sG:Fl (floatOfInt .f64 P1) P1:=pS (by have:=Aj.out.1;unfold gz at this;omega)
     have sH:Fl (floatOfInt .f64 P2) P2:=pS (by have:=Aj.out.2;unfold gz at this;omega)
     have sI:Fl (floatOfInt .f64 Q1) Q1:=pS (by have:=Dm.out.1;unfold gz at this;omega)
     have sJ:Fl (floatOfInt .f64 Q2) Q2:=pS (by have:=Dm.out.2;unfold gz at this;omega)
     have wz:(!((FloatKind.f64.format.order (floatOfInt .f64 P1) (floatOfInt .f64 Q1) == some .eq)&&(FloatKind.f64.format.order (floatOfInt .f64 P2) (floatOfInt .f64 Q2) == some .eq)))= !(decide (P1=Q1)&&decide (P2=Q2)):=by
      rw[rW sG sI,rW sH sJ]
     obtain⟨wa,wb,sh,l1,l2,l3,UW⟩:=adY sG sH sI sJ (by have:=Aj.out.1;unfold gz at this;omega) (by have:=Aj.out.2;unfold gz at this;omega) (by have:=Dm.out.1;unfold gz at this;omega) (by have:=Dm.out.2;unfold gz at this;omega)
     have HX:Hid (iT ⟨wa,wb,sh,floatOfInt .f64 P1,floatOfInt .f64 P2,floatOfInt .f64 Q1,floatOfInt .f64 Q2⟩ ((P1,P2),(Q1,Q2))):=⟨l1,l2,l3,sG,sH,sI,sJ⟩;have UX:Hid (∀w,Calls Tryz.prog 64 #[.complex .f64 (floatOfInt .f64 P1) (floatOfInt .f64 P2),.complex .f64 (floatOfInt .f64 Q1) (floatOfInt .f64 Q2)] w fun e w'=>e=.returned (.agg #[.complex .f64 wa wb,.float .f64 sh])/\Below w.heap.size w w'):=UW
     clear UW l1 l2 l3 sG sH sI sJ Aj Dm;generalize floatOfInt .f64 P1=sG at*;generalize floatOfInt .f64 P2=sH at*;generalize floatOfInt .f64 Q1=sI at*;generalize floatOfInt .f64 Q2=sJ at*;by_cases kD:(P1,P2)=(Q1,Q2)
     ·injection kD with ME MF;have hc:(!((FloatKind.f64.format.order sG sI == some .eq)&&(FloatKind.f64.format.order sH sJ == some .eq)))=false:=by rw[wz,ME,MF];simp
      have HN:Hid (yl w u3 (A1++Ge.jN g (n+1)) wr):=by
       rw[Ge.adS HP.out HQ.out (by rw[ME,MF])];exact kM.out
      clear wz ME MF kM
      go_wp2_with fail
      go_roundg (gk-1)
      case measure=>omega
      case rel=>exact⟨n+1,by omega,by go_num,HN⟩
     ·have hc:(!((FloatKind.f64.format.order sG sI == some .eq)&&(FloatKind.f64.format.order sH sJ == some .eq)))=true:=by
       rw[wz];by_cases h1:P1=Q1
       ·by_cases h2:P2=Q2
        ·exact absurd (by rw[h1,h2]) kD
        ·simp[h2]
       ·simp[h1]
      have sK:Hid (Ge.jN g (n+1)=Ge.jN g n++[((P1,P2),(Q1,Q2))]):=Ge.adT HP.out HQ.out kD;have hal:(A1++Ge.jN g n).length<=65000402:=by
       have:=Ge.LU g n;simp only[aS];omega
      obtain⟨A3,MG⟩:∃A3,A3=A1++Ge.jN g n:=⟨_,rfl⟩;have HA:Hid (A3=A1++Ge.jN g n):=MG;rw[<-MG] at hal kM;clear wz kD MG
      go_wp2_with fail
      refine(UX.out _).mono ?_;rintro e w5 ⟨rfl,ai⟩;obtain⟨⟨xs,hx1,hx2,hx3⟩,_⟩:=kM.out;have Ap:Hid (∀(i:Nat) x e,xs[i]?=some x->A3[i]?=some e->iT x e):=hx3;have kA:=jP.trans (ai.mono jP.size);have dB:w5.ownsRow w.heap.size 124 4 u3 A3.length (nS xs):=aJ hx2 fun k hk=>ai.block k (au hx2 k hk).2
      have hs5:=kA.size;clear hx2 hx3 kM
      go_wp2_with (at_builtin;refine wpList_append_lies _ rfl (.tmp 33) (.tmp 40) 72 rfl w.heap.size 124 i0 _ 4 56 Tryz.underlying72 hi hz0 hz1 hz2 rfl (by decide) u3 A3.length (nS xs) rfl (aJ dB (fun k hk=>Below.heap_alloc _ _ _ (au dB k hk).2)) ⟨w5.heap.size,0,none⟩ 1 1 [.complex .f64 wa wb,.float .f64 sh,.complex .f64 sG sH,.complex .f64 sI sJ] rfl rfl (World.news_of_block (cs:= #[.complex .f64 wa wb,.float .f64 sh,.complex .f64 sG sH,.complex .f64 sI sJ]) (t:=124) (fr:=(0,0)) (heap_alloc_new w5 _)) (by simp[Value.oneCell']) (by decide) (by unfold maxLen;omega) (by omega) (by simp;omega) (w5.heap.size+1) (by simp) ?_;intro g' cap' w6 fW lC Dp Dq)
      have HN:Hid (yl w (.slice (some ⟨g',0,none⟩) (A3.length+1) cap') (A1++Ge.jN g (n+1)) w6):=by
       rw[sK.out,<-fD,<-HA.out];refine⟨⟨xs++[⟨wa,wb,sh,sG,sH,sI,sJ⟩],by simp[hx1],?_,afx hx1 Ap.out HX.out⟩,(kA.alloc kA.size _).grown lC (by simp;omega) (fun k hk=>(au dB k hk).1)⟩
       rw[afv,aS];exact fW
      clear fW lC dB HX Ap UX
      go_roundg (gk-1)
      case measure=>omega
      case rel=>exact⟨n+1,by omega,by go_num,HN⟩
    ·have hn:n=g.length:=by omega
     subst hn;have HN:Hid (yl w u3 (Ge.aa (rg.take (i+1))) wr):=by
      rw[HT.out,<-Ge.LS];exact kM.out
     clear kM uL HT
     go_wp2_with fail
     go_roundg (m1-1)
     case measure=>omega
     case rel=>exact⟨i+1,by omega,by go_num,HN⟩
  ·have hk:i=rg.length:=by omega
   subst hk;have HF:Hid (yl w u3 (Ge.aa rg) wr):=by
    have:=HE.out;rw[dI] at this;exact this
   clear HE HR iL HLEN
   go_wp2_with fail
   go_ret
   obtain⟨⟨xs,h1,h2,h3⟩,h4⟩:=HF.out;exact⟨_,rfl,⟨xs,h1,wu h2,h3⟩,h4⟩
namespace Pl
def rings(s:List UInt8):List (List (Int×Int)):=(aH (all s)).2.2.flatten
def Aq(x y d:Int):Bool:=decide (d<1)||decide (d>60)||decide (x< -100000)||decide (x>100000)||decide (y< -100000)||decide (y>100000)
def dL(s:List UInt8)(x y d:Int):Int×Bool×Nat×Nat:=
 if(err s).1=0 then
  if Aq x y d then(0,false,5,0)
  else if(Ge.aa (rings s)).any (Ge.fo (x,y) d) then(0,true,0,0)
  else(Ge.total (Ge.fu (x,y) d) (Ge.aa (rings s)),false,0,0)
 else(0,false,err s)
def Ar(r:Int×Bool×Nat×Nat):Value:=.tuple #[.int .i64 r.1,.bool r.2.1,.int .i64 r.2.2.1,.int .i64 r.2.2.2]
end Pl
theorem afB{ps:List (List (List (Int×Int)))}(hok:mh ps):∀e∈Ge.aa ps.flatten,fg e:=fun e he=>by
 obtain⟨g,hg,h1,h2⟩:=Ge.adW he;obtain⟨p,hp,H7⟩:=zq.1 hg;have ho:=((hok.2 p hp).2 g H7).1;exact⟨(ho _ h1).1,(ho _ h1).2,(ho _ h2).1,(ho _ h2).2⟩
theorem afC{ps:List (List (List (Int×Int)))}(hok:mh ps):(Ge.aa ps.flatten).length<=65000000:=by
 have h:=Ge.Tb 402 402 ps (fun p hp=>⟨(hok.2 p hp).1,fun g hg=>((hok.2 p hp).2 g hg).2⟩)
 have:=hok.1;omega
namespace Ge
theorem H8{x y d X Y D G:Int}(hx:x=G*X)(hy:y=G*Y)(hd:d=G*D)(a:Pt):rel (x,y) d a=(G*(rel (X,Y) D a).1,G*(rel (X,Y) D a).2):=by
 unfold rel;rw[hx,hy,hd];simp only[ab5];constructor<;>grind
theorem sc{G z:Int}(h:0<G):(0<G*z↔0<z)/\(G*z<0↔z<0)/\(G*z=0↔z=0)/\(G*z<=0↔z<=0):=by
 rcases fk z 0 with hz|hz|hz
 ·have:=vC h hz;omega
 ·subst hz;omega
 ·have:=aP h hz;omega
theorem UY(G:Int)(u v:Pt):cr (G*u.1,G*u.2) (G*v.1,G*v.2)=(G*G)*cr u v:=by unfold cr;grind
theorem afD(G:Int)(u v:Pt):dt (G*u.1,G*u.2) (G*v.1,G*v.2)=(G*G)*dt u v:=by unfold dt;grind
theorem MH{x y d X Y D G:Int}(hG:0<G)(hx:x=G*X)(hy:y=G*Y)(hd:d=G*D)(e:Pt×Pt):fo (x,y) d e=fo (X,Y) D e:=by
 unfold fo on;rw[H8 hx hy hd,H8 hx hy hd,UY,afD];have h2:=aP hG hG;congr 1
 ·exact decide_eq_decide.2 (sc h2).2.2.1
 ·exact decide_eq_decide.2 (sc h2).2.2.2
theorem afE{x y d X Y D G:Int}(hG:0<G)(hx:x=G*X)(hy:y=G*Y)(hd:d=G*D)(a b:Pt):fr (x,y) d a b=fr (X,Y) D a b:=by
 unfold fr right;rw[H8 hx hy hd,H8 hx hy hd,UY];have h2:=aP hG hG;simp only[(sc h2).1,(sc h2).2.1,(sc hG).1,(sc hG).2.2.2]
theorem UZ{f g:Pt->Pt->Int}(l:List (Pt×Pt))(h:∀a b,f a b=g a b):total f l=total g l:=by
 unfold total;congr 1;exact KG fun e _=>h e.1 e.2
end Ge
theorem U0{s:List UInt8}(h:(Pl.err s).1=0):mh (Pl.aH (Pl.all s)).2.2:=by
 cases hw:(Pl.wd Pl.bp (Pl.all s)).1
 ·exact(Pl.UF h hw).2.1
 ·obtain⟨gs,e,h1,_⟩:=Pl.UE h hw;rw[e];exact⟨by simp,fun g hg=>by rw[bJ.1 hg];exact h1⟩
theorem afF{ps:List (List (List (Int×Int)))}(h:∀p∈ps,p.length<=402):ps.flatten.length<=ps.length*402:=by
 induction ps with
 |nil=>simp
 |cons p r ih=>
  have h1:=ih (fun x hx=>h x (by simp[hx]))
  have h2:=h p (by simp)
  rw[BO,aS,bO,F6];omega
theorem H9{s:List UInt8}(h:(Pl.err s).1=0):(∀g∈Pl.rings s,mb g/\g.length<=402)/\(Pl.rings s).length<=161604/\(∀e∈Ge.aa (Pl.rings s),fg e)/\(Ge.aa (Pl.rings s)).length<=65000000:=by
 have hok:=U0 h;refine⟨fun g hg=>?_,?_,afB hok,afC hok⟩
 ·obtain⟨p,hp,H7⟩:=zq.1 hg;exact(hok.2 p hp).2 g H7
 ·have h1:=afF (fun p hp=>(hok.2 p hp).1)
  have h2:=hok.1;unfold Pl.rings;omega
theorem afG{s:List UInt8}{x y d:Int}(h:(Pl.err s).1=0)(hb:Pl.Aq x y d=false){X Y D G:Int}(hG:0<G)(hx:x=G*X)(hy:y=G*Y)(hd:d=G*D):
  Pl.dL s x y d=if(Ge.aa (Pl.rings s)).any (Ge.fo (X,Y) D) then(0,true,0,0) else(Ge.total (Ge.fr (X,Y) D) (Ge.aa (Pl.rings s)),false,0,0):=by
 unfold Pl.dL;rw[if_pos h,if_neg (by rw[hb];simp)]
 have e1:Ge.fo (x,y) d=Ge.fo (X,Y) D:=funext fun e=>Ge.MH hG hx hy hd e
 rw[e1];by_cases ha:(Ge.aa (Pl.rings s)).any (Ge.fo (X,Y) D)=true
 ·rw[if_pos ha,if_pos ha]
 ·rw[if_neg ha,if_neg ha];have hno:∀e,e∈Ge.aa (Pl.rings s)->Ge.fo (x,y) d e=false:=fun e he=>by
   rw[e1];cases hf:Ge.fo (X,Y) D e
   ·rfl
   ·exact absurd (xn.2 ⟨e,he,hf⟩) ha
  rw[<-Ge.Ru (x,y) d (Pl.rings s) hno,Ge.UZ _ (Ge.afE hG hx hy hd)]
namespace Pl
def Dr{α:Type}(sz:α->Nat)(item:List Tk->Bool×List Tk×α):Prop:=∀l,(item l).1=true->sz (item l).2.2+(item l).2.1.length<=l.length
def bz{α:Type}(sz:α->Nat)(l:List α):Nat:=(l.map sz).sum
theorem U1{α:Type}(sz:α->Nat)(l:List α)(x:α):bz sz (l++[x])=bz sz l+sz x:=by simp[bz]
theorem mk_le(c:Nat)(l:List Tk):(mk c l).2.length<=l.length:=by
 cases l with
 |nil=>simp[mk]
 |cons t r=>
  have e:mk c (t::r)=if t.k=c then(true,r) else(false,t::r):=rfl
  rw[e];split<;>simp
theorem Ia(q:List UInt8)(l:List Tk):(wd q l).2.length<=l.length:=by
 cases l with
 |nil=>simp[wd]
 |cons t r=>
  have e:wd q (t::r)=if t.k=119/\t.raw=q then(true,r) else(false,t::r):=rfl
  rw[e];split<;>simp
theorem Ib{α:Type}{sz:α->Nat}{item:List Tk->Bool×List Tk×α}(hi:Dr sz item):
  ∀(f:Nat)(l:List Tk)(acc:List α),(bK item f l acc).1=true->bz sz (bK item f l acc).2.2+(bK item f l acc).2.1.length<=bz sz acc+l.length
 |0,l,acc,h=>by cases h
 |f+1,l,acc,h=>by
  unfold bK at h⊢;by_cases h1:(item l).1=true
  ·have k1:=hi l h1;rw[if_pos h1] at h⊢;by_cases h2:(mk 44 (item l).2.1).1=true
   ·rw[if_pos h2] at h⊢;have ih:=Ib hi f _ _ h;have k2:=mk_le 44 (item l).2.1;rw[U1] at ih;omega
   ·rw[if_neg h2];have k2:=mk_le 41 (item l).2.1;simp only;rw[U1];omega
  ·rw[if_neg h1] at h;cases h
theorem afH:Dr (fun _=>1) cE:=fun l h=>by
 match l,h with
 |[],h=>cases h
 |[x],h=>cases h
 |x::y::r,h=>
  have e:cE (x::y::r)=if x.k=110 then(if y.k=110 then(true,r,(x.n,y.n)) else(false,y::r,(0,0))) else(false,x::y::r,(0,0)):=rfl
  rw[e] at h⊢;split
  ·split
   ·simp;omega
   ·simp;omega
  ·rename_i hx;rw[if_neg hx] at h;cases h
theorem afI:Dr (bz fun _=>1) di:=fun l h=>by
 unfold di at h⊢;by_cases h1:(mk 40 l).1=true
 ·have k1:=mk_le 40 l;rw[if_pos h1] at h⊢;by_cases h2:(mk 41 (mk 40 l).2).1=true
  ·have k2:=mk_le 41 (mk 40 l).2;rw[if_pos h2];simp[bz];omega
  ·rw[if_neg h2] at h⊢;have k:=Ib afH _ _ _ h;have e:bz (fun _:Int×Int=>1) []=0:=rfl
   omega
 ·rw[if_neg h1] at h;cases h
theorem U2:Dr (bz (bz fun _=>1)) bo:=fun l h=>by
 unfold bo at h⊢;by_cases h0:(wd EMPTY l).1=true
 ·have k0:=Ia EMPTY l;rw[if_pos h0];simp[bz];exact k0
 ·rw[if_neg h0] at h⊢;by_cases h1:(mk 40 l).1=true
  ·have k1:=mk_le 40 l;rw[if_pos h1] at h⊢;have k:=Ib afI _ _ _ h;have e:bz (bz fun _=>1) ([]:List (List (Int×Int)))=0:=rfl
   omega
  ·rw[if_neg h1] at h;cases h
theorem afJ:Dr (bz (bz (bz fun _=>1))) eJ:=fun l h=>by
 unfold eJ at h⊢;by_cases h0:(wd EMPTY l).1=true
 ·have k0:=Ia EMPTY l;rw[if_pos h0];simp[bz];exact k0
 ·rw[if_neg h0] at h⊢;by_cases h1:(mk 40 l).1=true
  ·have k1:=mk_le 40 l;rw[if_pos h1] at h⊢;have k:=Ib U2 _ _ _ h;have e:bz (bz (bz fun _=>1)) ([]:List (List (List (Int×Int))))=0:=rfl
   omega
  ·rw[if_neg h1] at h;cases h
theorem afK{α:Type}(l:List α):bz (fun _=>1) l=l.length:=by
 induction l with
 |nil=>rfl
 |cons a l ih=>
  have e:bz (fun _=>1) (a::l)=1+bz (fun _=>1) l:=by simp[bz]
  rw[e,ih,bO];omega
theorem afL(rg:List (List (Int×Int))):(Ge.aa rg).length<=bz (bz fun _=>1) rg:=by
 induction rg with
 |nil=>simp[Ge.aa]
 |cons g r ih=>
  have e:Ge.aa (g::r)=Ge.fH g++Ge.aa r:=tV;have h1:(Ge.fH g).length<=g.length:=by rw[<-Ge.LS];exact Ge.LU g _
  have h2:bz (bz fun _=>1) (g::r)=bz (fun _=>1) g+bz (bz fun _=>1) r:=by simp[bz]
  rw[e,aS,h2,afK];omega
theorem afM(ps:List (List (List (Int×Int)))):bz (bz fun _=>1) ps.flatten=bz (bz (bz fun _=>1)) ps:=by
 induction ps with
 |nil=>rfl
 |cons p r ih=>
  have h1:bz (bz fun _=>1) (p++r.flatten)=bz (bz fun _=>1) p+bz (bz fun _=>1) r.flatten:=by simp[bz]
  have h2:bz (bz (bz fun _=>1)) (p::r)=bz (bz fun _=>1) p+bz (bz (bz fun _=>1)) r:=by simp[bz]
  rw[BO,h1,h2,ih]
theorem afN{s:List UInt8}(h:(err s).1=0):(Ge.aa (rings s)).length<=402:=by
 obtain⟨h5,_,h1,_⟩:=yh h;have hl:=xL s;have k:bz (bz (bz fun _=>1)) (aH (all s)).2.2<=(all s).length:=by
  unfold aH at h1⊢;by_cases hw:(wd bp (all s)).1=true
  ·rw[if_pos hw] at h1⊢;have k1:=U2 _ h1;have k2:=Ia bp (all s);have e:bz (bz (bz fun _=>1)) [(bo (wd bp (all s)).2).2.2]=bz (bz fun _=>1) (bo (wd bp (all s)).2).2.2:=by simp[bz]
   simp only;rw[e];omega
  ·rw[if_neg hw] at h1⊢;by_cases hm:(wd cJ (all s)).1=true
   ·rw[if_pos hm] at h1⊢;have k1:=afJ _ h1;have k2:=Ia cJ (all s);omega
   ·rw[if_neg hm] at h1;cases h1
 have k2:=afL (rings s);have k3:bz (bz fun _=>1) (rings s)=bz (bz (bz fun _=>1)) (aH (all s)).2.2:=afM _
 have k4:s.length<=400:=by
  unfold err at h;by_cases hs:400<s.length
  ·rw[if_pos hs] at h;cases h
  ·omega
 omega
end Pl
namespace Ge
def qN(acc:List Qt)(c:List Qt):List Qt:=c.foldl (fun a q=>ins q a) acc
def fX(l:List (Pt×Pt)):List Qt:=l.foldl (fun acc e=>qN acc (po l e)) []
end Ge
namespace Pl
end Pl
namespace Ge
def isNode(l:List (Pt×Pt))(q:Qt):Prop:=
 (∃e∈l,q=pt e.1\/q=pt e.2)\/∃e∈l,∃f∈l,bw e f≠0/\q=dE e f/\hq (dE e f) e=true/\hq (dE e f) f=true
theorem U3:∀(c acc:List Qt),(∀q∈acc,fJ q)->(∀q∈c,fJ q)->∀r,r∈qN acc c↔r∈acc\/r∈c
 |[],acc,_,_,r=>by simp[qN]
 |q::c,acc,ha,hc,r=>by
  have hq:=hc q (by simp)
  have e:qN acc (q::c)=qN (ins q acc) c:=rfl;rw[e,U3 c (ins q acc) (vW hq ha) (fun x hx=>hc x (by simp[hx])) r,r7 hq ha r,aQ]
  constructor
  ·rintro((h|h)|h)
   ·exact Or.inr (Or.inl h)
   ·exact Or.inl h
   ·exact Or.inr (Or.inr h)
  ·rintro(h|h|h)
   ·exact Or.inl (Or.inr h)
   ·exact Or.inl (Or.inl h)
   ·exact Or.inr h
def adds(e f:Pt×Pt)(r:Qt):Prop:=
 (bw e f≠0/\r=dE e f/\hq (dE e f) e=true/\hq (dE e f) f=true)\/(bw e f=0/\((r=pt f.1/\hq (pt f.1) e=true)\/(r=pt f.2/\hq (pt f.2) e=true)))
theorem afO{e f:Pt×Pt}{o:List Qt}(ho:∀q∈o,fJ q):(∀q∈x9 e o f,fJ q)/\∀r,r∈x9 e o f↔r∈o\/adds e f r:=by
 unfold x9 adds;by_cases hc:bw e f=0
 ·rw[if_pos hc];dsimp only;have h1:=r7 (sy f.1) ho;have r1:=vW (sy f.1) ho;by_cases a:hq (pt f.1) e=true
  ·rw[if_pos a];have h2:=r7 (sy f.2) r1;by_cases b:hq (pt f.2) e=true
   ·rw[if_pos b];refine⟨vW (sy f.2) r1,fun r=>?_⟩
    rw[h2,h1];simp only[hc,a,b,ne_eq,not_true_eq_false,false_and,and_true,true_and,false_or];constructor
    ·rintro(h|h|h)
     ·exact Or.inr (Or.inr h)
     ·exact Or.inr (Or.inl h)
     ·exact Or.inl h
    ·rintro(h|h|h)
     ·exact Or.inr (Or.inr h)
     ·exact Or.inr (Or.inl h)
     ·exact Or.inl h
   ·rw[if_neg b];refine⟨r1,fun r=>?_⟩
    rw[h1]
    grind
  ·rw[if_neg a];have h2:=r7 (sy f.2) ho;by_cases b:hq (pt f.2) e=true
   ·rw[if_pos b];refine⟨vW (sy f.2) ho,fun r=>?_⟩
    rw[h2]
    grind
   ·rw[if_neg b];refine⟨ho,fun r=>?_⟩
    simp[hc,a,b]
 ·rw[if_neg hc];have h1:=r7 (Ut hc) ho;by_cases a:(hq (dE e f) e&&hq (dE e f) f)=true
  ·rw[if_pos a];obtain⟨a1,a2⟩:=(Bool.and_eq_true_iff).1 a;refine⟨vW (Ut hc) ho,fun r=>?_⟩
   rw[h1];simp only[hc,a1,a2,ne_eq,not_false_eq_true,and_true,true_and,false_and,or_false];exact⟨fun h=>h.symm,fun h=>h.symm⟩
  ·rw[if_neg a];refine⟨ho,fun r=>?_⟩
   constructor
   ·exact Or.inl
   ·rintro(h|⟨_,_,h1,h2⟩|⟨h,_⟩)
    ·exact h
    ·exact absurd (by rw[h1,h2];rfl) a
    ·exact absurd h hc
theorem U4(e:Pt×Pt):∀(l:List (Pt×Pt))(o:List Qt),(∀q∈o,fJ q)->(∀q∈l.foldl (x9 e) o,fJ q)/\∀r,r∈l.foldl (x9 e) o↔r∈o\/∃f∈l,adds e f r
 |[],o,ho=>⟨ho,fun r=>by simp⟩
 |f::l,o,ho=>by
  obtain⟨h1,h2⟩:=afO (e:=e) (f:=f) ho;obtain⟨h3,h4⟩:=U4 e l (x9 e o f) h1;refine⟨h3,fun r=>?_⟩
  rw[rE,h4,h2];constructor
  ·rintro((h|h)|⟨g,hg,h⟩)
   ·exact Or.inl h
   ·exact Or.inr ⟨f,by simp,h⟩
   ·exact Or.inr ⟨g,by simp[hg],h⟩
  ·rintro(h|⟨g,hg,h⟩)
   ·exact Or.inl (Or.inl h)
   ·rcases aQ.1 hg with e'|e'
    ·subst e';exact Or.inl (Or.inr h)
    ·exact Or.inr ⟨g,e',h⟩
theorem Ic(l:List (Pt×Pt))(e:Pt×Pt):(∀q∈po l e,fJ q)/\∀r,r∈po l e↔r=pt e.1\/r=pt e.2\/∃f∈l,adds e f r:=by
 have h0:∀q∈([]:List Qt),fJ q:=fun q h=>by simp at h
 have h1:=vW (sy e.1) h0;have h2:=vW (sy e.2) h1;obtain⟨h3,h4⟩:=U4 e l _ h2;refine⟨h3,fun r=>?_⟩
 unfold po;rw[h4,r7 (sy e.2) h1,r7 (sy e.1) h0];constructor
 ·rintro((h|h|h)|h)
  ·exact Or.inr (Or.inl h)
  ·exact Or.inl h
  ·simp at h
  ·exact Or.inr (Or.inr h)
 ·rintro(h|h|h)
  ·exact Or.inl (Or.inr (Or.inl h))
  ·exact Or.inl (Or.inl h)
  ·exact Or.inr h
theorem U5(L:List (Pt×Pt)):∀(l:List (Pt×Pt))(acc:List Qt),(∀q∈acc,fJ q)->rZ acc->
  (∀q∈l.foldl (fun acc e=>qN acc (po L e)) acc,fJ q)/\rZ (l.foldl (fun acc e=>qN acc (po L e)) acc)/\∀r,r∈l.foldl (fun acc e=>qN acc (po L e)) acc↔r∈acc\/∃e∈l,r∈po L e
 |[],acc,h,ha=>⟨h,ha,fun r=>by simp⟩
 |e::l,acc,h,ha=>by
  have hc:=(Ic L e).1;have hm:=U3 (po L e) acc h hc;have hr:∀q∈qN acc (po L e),fJ q:=fun q hq=>by
   rcases(hm q).1 hq with k|k
   ·exact h q k
   ·exact hc q k
  have has:rZ (qN acc (po L e)):=by
   clear hm hr;generalize po L e=c at hc;induction c generalizing acc with
   |nil=>exact ha
   |cons q c ih=>
    have hq:=hc q (by simp)
    exact ih (ins q acc) (vW hq h) (TD hq h ha) (fun x hx=>hc x (by simp[hx]))
  obtain⟨h1,h2,h3⟩:=U5 L l (qN acc (po L e)) hr has;refine⟨h1,h2,fun r=>?_⟩
  rw[rE,h3,hm];constructor
  ·rintro((k|k)|⟨g,hg,k⟩)
   ·exact Or.inl k
   ·exact Or.inr ⟨e,by simp,k⟩
   ·exact Or.inr ⟨g,by simp[hg],k⟩
  ·rintro(k|⟨g,hg,k⟩)
   ·exact Or.inl (Or.inl k)
   ·rcases aQ.1 hg with e'|e'
    ·subst e';exact Or.inl (Or.inr k)
    ·exact Or.inr ⟨g,e',k⟩
theorem yn(l:List (Pt×Pt)):(∀q∈fX l,fJ q)/\rZ (fX l)/\∀r,r∈fX l↔isNode l r:=by
 obtain⟨h1,h2,h3⟩:=U5 l l [] (fun q h=>by simp at h) List.Pairwise.nil
 refine⟨h1,h2,fun r=>?_⟩
 unfold fX;rw[h3];unfold isNode;constructor
 ·rintro(h|⟨e,he,h⟩)
  ·simp at h
  ·rcases((Ic l e).2 r).1 h with h|h|⟨f,hf,h⟩
   ·exact Or.inl ⟨e,he,Or.inl h⟩
   ·exact Or.inl ⟨e,he,Or.inr h⟩
   ·rcases h with⟨a,b,c,d⟩|⟨_,⟨h,_⟩|⟨h,_⟩⟩
    ·exact Or.inr ⟨e,he,f,hf,a,b,c,d⟩
    ·exact Or.inl ⟨f,hf,Or.inl h⟩
    ·exact Or.inl ⟨f,hf,Or.inr h⟩
 ·rintro(⟨e,he,h⟩|⟨e,he,f,hf,a,b,c,d⟩)
  ·refine Or.inr ⟨e,he,((Ic l e).2 r).2 ?_⟩;rcases h with h|h
   ·exact Or.inl h
   ·exact Or.inr (Or.inl h)
  ·exact Or.inr ⟨e,he,((Ic l e).2 r).2 (Or.inr (Or.inr ⟨f,hf,Or.inl ⟨a,b,c,d⟩⟩))⟩
theorem U6(e f:Pt×Pt):bw f e= -bw e f:=by unfold bw;grind
theorem afP{e f:Pt×Pt}(h:bw e f≠0):dE f e=dE e f:=by
 have h':bw f e≠0:=by rw[U6];omega
 unfold dE;have e1:mX f e*bw e f=mX e f*bw f e:=by unfold mX mT bw;grind
 have e2:mY f e*bw e f=mY e f*bw f e:=by unfold mY mT bw;grind
 rw[zZ h' h e1,zZ h' h e2]
end Ge
theorem sL(x:Int)(g:Nat): -(x.natAbs:Int)<=x.tdiv g/\x.tdiv g<=(x.natAbs:Int):=by
 have h:(x.tdiv g).natAbs<=x.natAbs:=by
  rw[Int.natAbs_tdiv];exact Nat.div_le_self _ _
 omega
theorem afQ{a b:Nat}{x y:Int}(D:Int)(h1:Fl a x)(h2:Fl b y)(hx: -16000000<=x/\x<=16000000)(hy: -16000000<=y/\y<=16000000)(hD:D<0/\ -300000<=D)(G:Nat)(hG:Int.gcd (Int.gcd x y:Nat) D=G)(w:World):
  Calls Tryz.prog 37 #[.complex .f64 a b,.int .i64 D] w fun e w'=>e=.returned (.agg #[.complex .f64 (floatOfInt .f64 (x.tdiv (-(G:Int)))) (floatOfInt .f64 (y.tdiv (-(G:Int)))),.int .i64 (D.tdiv (-(G:Int)))])/\Below w.heap.size w w':=by
 have uv:0<G:=by rw[<-hG];exact rY (by omega)
 have ad9:Int.gcd x y<=16000000:=by
  by_cases hz:x=0
  ·rw[hz,Int.gcd_zero_left];omega
  ·have:=anm (b:=y) hz;omega
 have hGD:G<=300000:=by
  have:=ann (a:=(Int.gcd x y:Nat)) (b:=D) (by omega)
  omega
 have c1:=h1.int (by omega) (by omega)
 have c2:=h2.int (by omega) (by omega)
 have hc1:∀w,(convert 120 3 (.float .f64 a)).run Tryz.prog w=.ok (.int .i64 x) w:=fun w=>run_convert_float_int w 120 3 .f64 .i64 a x (by rw[Tryz.underlying120];rfl) Tryz.underlying3 c1
 have hc2:∀w,(convert 120 3 (.float .f64 b)).run Tryz.prog w=.ok (.int .i64 y) w:=fun w=>run_convert_float_int w 120 3 .f64 .i64 b y (by rw[Tryz.underlying120];rfl) Tryz.underlying3 c2
 have zU:Hid (∀w1,Calls Tryz.prog 65 #[.int .i64 x,.int .i64 y] w1 fun e w'=>e=.returned (.int .i64 (Int.gcd x y:Nat))/\Below w1.heap.size w1 w'):=fun w1=>CZ x y w1 (by omega) (by omega)
 have zV:Hid (∀w1,Calls Tryz.prog 65 #[.int .i64 (Int.gcd x y:Nat),.int .i64 D] w1 fun e w'=>e=.returned (.int .i64 (G:Int))/\Below w1.heap.size w1 w'):=fun w1=>by rw[<-hG];exact CZ _ D w1 (by omega) (by omega)
 obtain⟨XQ,xP⟩:∃q,q=x.tdiv (-(G:Int)):=⟨_,rfl⟩;obtain⟨YQ,xQ⟩:∃q,q=y.tdiv (-(G:Int)):=⟨_,rfl⟩;obtain⟨DQ,xR⟩:∃q,q=D.tdiv (-(G:Int)):=⟨_,rfl⟩;rw[<-xP,<-xQ,<-xR];have HP:Hid (∀w1,Calls Tryz.prog 38 #[.int .i64 XQ,.int .i64 YQ] w1 fun e w'=>e=.returned (.complex .f64 (floatOfInt .f64 XQ) (floatOfInt .f64 YQ))/\w'=w1):=fun w1=>CK _ _ w1
 have hw1:IntKind.i64.wrap (x.tdiv (-(G:Int)))=XQ:=by rw[xP,xp,IntKind.wrap_i64];have:=sL x G;omega
 have hw2:IntKind.i64.wrap (y.tdiv (-(G:Int)))=YQ:=by rw[xQ,xp,IntKind.wrap_i64];have:=sL y G;omega
 have hw3:IntKind.i64.wrap (D.tdiv (-(G:Int)))=DQ:=by rw[xR,xp,IntKind.wrap_i64];have:=sL D G;omega
 have rX:IntKind.i64.wrap (-(x.tdiv (G:Int)))=XQ:=by rw[<-xp];exact hw1
 have Ie:IntKind.i64.wrap (-(y.tdiv (G:Int)))=YQ:=by rw[<-xp];exact hw2
 have kN:IntKind.i64.wrap (-(D.tdiv (G:Int)))=DQ:=by rw[<-xp];exact hw3
 have hw4:IntKind.i64.wrap (-(G:Int))= -(G:Int):=by rw[IntKind.wrap_i64];omega
 clear xP xQ xR;have Tv:¬G=0:=by omega
 have Tw:¬(-(G:Int)=0):=by omega
 generalize Int.gcd x y=GXY at*;clear c1 c2 h1 h2 hG;have hE:=heap_alloc_new w (.cells #[.complex .f64 0 0,.int .i64 0] 83);have hb0:Below w.heap.size w (w.alloc (.cells #[.complex .f64 0 0,.int .i64 0] 83)):=(Below.refl _ _).alloc (ae _) _;have hz:w.heap.size<(w.alloc (.cells #[.complex .f64 0 0,.int .i64 0] 83)).heap.size:=by simp
 go_enter Tryz.func37,Tryz.ntmps37
 go_wp2_with (first |(simp only[hc1])|(simp only[hc2]))
 generalize w.alloc (.cells #[.complex .f64 0 0,.int .i64 0] 83)=W at*;generalize hB:w.heap.size=B at*;refine(zU.out _).mono ?_;rintro e w1 ⟨rfl,hb1⟩
 go_wp2_with fail
 refine(zV.out _).mono ?_;rintro e w2 ⟨rfl,hb2⟩;have hs1:=hb1.size;have dv:=(hb2.block _ (show B<w1.heap.size by omega)).trans ((hb1.block _ hz).trans hE)
 have ag:=(hb0.trans (hb1.mono (eo hz))).trans (hb2.mono (by omega))
 have e0:w2.cell? ⟨B,0,none⟩=some (.complex .f64 0 0):=cell_of dv 0;have e1:w2.cell? ⟨B,1,none⟩=some (.int .i64 0):=cell_of dv 1;have z0:w2.frozen? ⟨B,0,none⟩=false:=aB dv 0;have z1:w2.frozen? ⟨B,1,none⟩=false:=aB dv 1;clear hE dv hb1 hb2 hb0
 go_wp2_with fail
 go_region_held3 (fun w'=>w'.frozen? ⟨B,0,none⟩=false/\w'.frozen? ⟨B,1,none⟩=false) (go_keep) (first
  |(go_at_call 38;refine(HP.out _).mono ?_;rintro e w5 ⟨rfl,rX⟩;subst rX)
  |(simp only[fA];go_simp))
 go_wp2_with fail
 refine bodyPost_ret (v:=.agg #[.complex .f64 (floatOfInt .f64 XQ) (floatOfInt .f64 YQ),.int .i64 DQ]) (by simp[results,Tryz.results37,go_sem,e0,e1]) rfl ⟨rfl,?_⟩
 rw[hB];exact((ag.setCell (ae _) _).setCell (ae _) _).drew
end Go.Proofs.YtkjhhooecopolaaGreatDoor
namespace Go.Proofs.YtkjhhooecopolaaGreatDoor.Ge
abbrev Nd:=Int×Int×Int
structure Can(n:Nd):Prop where
 pos:0<n.2.2
 co:Int.gcd (Int.gcd n.1 n.2.1) n.2.2=1
def aj(n:Nd):Qt:=(aR n.1 n.2.2,aR n.2.1 n.2.2)
theorem U7{n m:Nd}(hn:Can n)(h1:n.1*m.2.2=m.1*n.2.2)(h2:n.2.1*m.2.2=m.2.1*n.2.2):n.2.2∣m.2.2:=by
 have d1:n.2.2∣n.1*m.2.2:=⟨m.1,by rw[h1,dX]⟩
 have d2:n.2.2∣n.2.1*m.2.2:=⟨m.2.1,by rw[h2,dX]⟩
 have d3:n.2.2∣(Int.gcd (n.1*m.2.2) (n.2.1*m.2.2):Int):=Int.dvd_coe_gcd d1 d2;rw[Int.gcd_mul_right] at d3;have d4:n.2.2∣(Int.gcd n.1 n.2.1:Int)*m.2.2:=by
  rw[Ky] at d3;rcases Int.natAbs_eq m.2.2 with h|h
  ·rw[h];exact d3
  ·rw[h,xg];exact Int.dvd_neg.2 d3
 exact L9 (by rw[abZ];exact hn.co) d4
theorem afR{n m:Nd}(hn:Can n)(hm:Can m)(h1:n.1*m.2.2=m.1*n.2.2)(h2:n.2.1*m.2.2=m.2.1*n.2.2):n=m:=by
 have a:=U7 hn h1 h2;have b:=U7 hm h1.symm h2.symm;have p1:=ab6 hm.pos a;have p2:=ab6 hn.pos b;have e:n.2.2=m.2.2:=by omega
 have hz:m.2.2≠0:=by have:=hm.pos;omega
 rw[e] at h1 h2;have e1:=Q4 hz h1;have e2:=Q4 hz h2;exact dY e1 (dY e2 e)
theorem afS{g z:Int}(hg:0<g):(g*z).sign=z.sign:=by
 rw[Q5,pM hg,BM]
theorem Au{a b c d:Int}(hb:0<b)(hd:0<d):fc (aR a b) (aR c d)=(a*d-c*b).sign:=by
 obtain⟨g,g0,e1,e2,gp⟩:=zY (n:=a) (d:=b) (by omega)
 obtain⟨k,k0,e3,e4,kp⟩:=zY (n:=c) (d:=d) (by omega)
 have hg:=gp.2 hb;have hk:=kp.2 hd;unfold fc;have:a*d-c*b=(g*k)*((aR a b).1*(aR c d).2-(aR c d).1*(aR a b).2):=by
  generalize aR a b=A at*;generalize aR c d=B at*;rw[e1,e2,e3,e4];grind
 rw[this,afS (aP hg hk)]
theorem cL{n:Nd}(h:Can n):fJ (aj n):=⟨zX (by have:=h.pos;omega),zX (by have:=h.pos;omega)⟩
theorem Ig{n m:Nd}(hn:Can n)(hm:Can m):pc (aj n) (aj m)=if(n.1*m.2.2-m.1*n.2.2).sign=0 then(n.2.1*m.2.2-m.2.1*n.2.2).sign else(n.1*m.2.2-m.1*n.2.2).sign:=by
 unfold pc aj;rw[Au hn.pos hm.pos,Au hn.pos hm.pos]
theorem uM{n m:Nd}(hn:Can n)(hm:Can m)(h:pc (aj n) (aj m)=0):n=m:=by
 rw[Ig hn hm] at h;split at h
 ·rename_i h1
  have a:=vE.1 h1;have b:=vE.1 h;exact afR hn hm (by omega) (by omega)
 ·contradiction
theorem Ih{n m:Nd}(hn:Can n)(hm:Can m)(h:aj n=aj m):n=m:=uM hn hm (by rw[h];exact xS _)
theorem Ii{x y d k X Y P:Int}(hd:d≠0)(h1:x=k*X)(h2:y=k*Y)(h3:d=k*P)(hP:0<P)(hk:k.natAbs=Int.gcd (Int.gcd x y:Nat) d):Can (X,Y,P)/\aj (X,Y,P)=(aR x d,aR y d):=by
 have k0:k≠0:=by rintro rfl;rw[BN] at h3;exact hd h3
 refine⟨⟨hP,?_⟩,?_⟩
 ·show Int.gcd (Int.gcd X Y:Nat) P=1;have e1:Int.gcd x y=k.natAbs*Int.gcd X Y:=by rw[h1,h2,ab0]
  have e2:Int.gcd (Int.gcd x y:Nat) d=k.natAbs*Int.gcd (Int.gcd X Y:Nat) P:=by
   have:Int.gcd (k*((Int.gcd X Y:Nat):Int)) (k*P)=k.natAbs*Int.gcd (Int.gcd X Y:Nat) P:=ab0 ..;rw[<-this,e1,h3];unfold Int.gcd;congr 1;rw[nK];simp[Int.natAbs_mul]
  rw[e2] at hk;have kp:0<k.natAbs:=by omega
  exact anr kp (by omega)
 ·unfold aj;show(aR X P,aR Y P)=_;rw[zZ (n:=X) (d:=P) (m:=x) (e:=d) (by omega) hd (by rw[h1,h3];grind),zZ (n:=Y) (d:=P) (m:=y) (e:=d) (by omega) hd (by rw[h2,h3];grind)]
theorem Ij{x g:Int}(h:g∣x):x=g*x.tdiv g:=(rH h).symm
end Go.Proofs.YtkjhhooecopolaaGreatDoor.Ge
namespace Go.Proofs.YtkjhhooecopolaaGreatDoor
open Go.RowKit
def gS(n:Ge.Nd):Value:=.agg #[.complex .f64 (floatOfInt .f64 n.1) (floatOfInt .f64 n.2.1),.int .i64 n.2.2]
theorem Ik{a b:Nat}{x y:Int}(D:Int)(h1:Fl a x)(h2:Fl b y)(hx: -16000000<=x/\x<=16000000)(hy: -16000000<=y/\y<=16000000)(hD:D≠0/\ -300000<=D/\D<=300000):
  ∃n:Ge.Nd,Ge.Can n/\Ge.aj n=(Ge.aR x D,Ge.aR y D)/\dm n.1 n.2.1 n.2.2/\∀w,Calls Tryz.prog 37 #[.complex .f64 a b,.int .i64 D] w fun e w'=>e=.returned (gS n)/\Below w.heap.size w w':=by
 obtain⟨G,hG⟩:∃G,Int.gcd (Int.gcd x y:Nat) D=G:=⟨_,rfl⟩;have uv:0<G:=by rw[<-hG];exact abX _ hD.1
 have dg:(G:Int)∣(Int.gcd x y:Nat):=by rw[<-hG];exact xm ..
 have dd:(G:Int)∣D:=by rw[<-hG];exact vD ..
 have dx:(G:Int)∣x:=xq dg (xm ..);have dy:(G:Int)∣y:=xq dg (vD ..);have ex:=Ge.Ij dx;have ey:=Ge.Ij dy;have ed:=Ge.Ij dd;have bx:=sL x G;have by':=sL y G
 have bd:=sL D G;rcases fk D 0 with h|h|h
 ·have call:=afQ D h1 h2 hx hy ⟨h,hD.2.1⟩ G hG;rw[xp,xp,xp] at call;have hP:0< -(D.tdiv G):=by
   rcases Int.lt_or_le (D.tdiv G) 0 with q|q
   ·omega
   ·have:=iO (Int.natCast_nonneg G) q;omega
  obtain⟨c1,c2⟩:=Ge.Ii (x:=x) (y:=y) (d:=D) (k:= -(G:Int)) (X:= -(x.tdiv G)) (Y:= -(y.tdiv G)) (P:= -(D.tdiv G)) hD.1 (ex.trans (zr ..).symm) (ey.trans (zr ..).symm) (ed.trans (zr ..).symm) hP (by rw[hG];omega)
  exact⟨(-(x.tdiv G), -(y.tdiv G), -(D.tdiv G)),c1,c2,⟨by show(-(x.tdiv G)).natAbs<=_;omega,by show(-(y.tdiv G)).natAbs<=_;omega,hP,by show -(D.tdiv G)<=_;omega⟩,call⟩
 ·exact absurd h hD.1
 ·have call:=Tu D h1 h2 hx hy ⟨h,hD.2.2⟩ G hG;have hP:0<D.tdiv G:=by
   rcases Int.lt_or_le 0 (D.tdiv G) with q|q
   ·exact q
   ·have:=iO (Int.natCast_nonneg G) (Int.neg_nonneg_of_nonpos q);rw[xg] at this;omega
  obtain⟨c1,c2⟩:=Ge.Ii (x:=x) (y:=y) (d:=D) (k:=(G:Int)) (X:=x.tdiv G) (Y:=y.tdiv G) (P:=D.tdiv G) hD.1 ex ey ed hP (by rw[hG];omega)
  exact⟨(x.tdiv G,y.tdiv G,D.tdiv G),c1,c2,⟨by show(x.tdiv G).natAbs<=_;omega,by show(y.tdiv G).natAbs<=_;omega,hP,by show D.tdiv G<=_;omega⟩,call⟩
end Go.Proofs.YtkjhhooecopolaaGreatDoor
