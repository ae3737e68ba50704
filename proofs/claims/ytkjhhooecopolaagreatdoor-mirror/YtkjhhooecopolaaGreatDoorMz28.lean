import Derived.Test.YtkjhhooecopolaaGreatDoorMz27
import Derived.Shelf.LaySoft
import Derived.Shelf.Lay
import Derived.Shelf.SlGeneric
import Derived.Shelf.SlSortCmp.NoneTotal
import Derived.Ground.SlsfProg
import Derived.Test.YtkjhhooecopolaaGreatDoorProg
set_option maxRecDepth 100000
set_option maxHeartbeats 4000000
namespace Go.Proofs.YtkjhhooecopolaaGreatDoor.Ga
open Ge
theorem NB{n f t:N3}(hn:0<n.2.2)(hf:0<f.2.2)(hD:0<(wv f t).1)(k1:(wv n f).1<=0){u:Pt}(l:lam (wv f t) f u=0)(h:dt (wv f t) (rl f u)<=0):(rl n u).1<=0:=by
 have e1:dt (wv f t) (rl f u)*(wv f t).1=(rl f u).1*dt (wv f t) (wv f t):=by unfold lam cr at l;unfold dt;grind
 have p:=aO (z:=dt (wv f t) (rl f u)) hD;have q:=aO (z:=(rl f u).1) (ez (r:=wv f t) (kC (Or.inl hD)));rw[dX] at p q;have e2:=(kB n f u).1;have r1:=aO (z:=(rl f u).1) hn;have r2:=aO (z:=(rl n u).1) hf;omega
theorem ND{n f t:N3}(hn:0<n.2.2)(ht:0<t.2.2)(hD:0<(wv f t).1)(k2:0<(wv n t).1){u:Pt}(l:lam (wv f t) t u=0)(h:0<=dt (wv f t) (rl t u)):0<(rl n u).1:=by
 have e1:dt (wv f t) (rl t u)*(wv f t).1=(rl t u).1*dt (wv f t) (wv f t):=by unfold lam cr at l;unfold dt;grind
 have p:=neg_mul (z:=dt (wv f t) (rl t u)) hD;have q:=neg_mul (z:=(rl t u).1) (ez (r:=wv f t) (kC (Or.inl hD)));rw[dX] at p q;have e2:=(kB n t u).1;have r1:=neg_mul (z:=(rl t u).1) hn;have r2:=aO (z:=(rl n u).1) ht;omega
theorem Xt(q:N3)(D u v:Pt):fb q D v u= -fb q D u v:=by
 unfold fb;rw[vL];split
 ·rw[<-Q6];congr 1
  grind
 ·rfl
theorem Xu{n:N3}{W Y S:Int}{D:Pt}(hs:D.1*S=D.2*W)(p:Pt):lam D (bB n W Y) p=D.1*(W*(rl n p).2-Y-S*(rl n p).1):=by
 unfold lam;rw[sZ];unfold cr;simp only
 grind
theorem Xv{n f t:N3}{W Y S:Int}(hn:0<n.2.2)(hf:0<f.2.2)(ht:0<t.2.2)(hZ:ZP n f t W Y S)(k1:(wv n f).1<=0)(k2:0<(wv n t).1){u v:Pt}(hS:jK f t (wv f t) u v)(hu:mQ f t (wv f t) u)(hv:mQ f t (wv f t) v)(h1:(rl n u).1<=0)(h2:0<(rl n v).1):
  fb (aU f t) (wv f t) u v=bb (decide (-cr (rl n u) (rl n v)*W=Y*((rl n v).1-(rl n u).1)/\((rl n v).2-(rl n u).2)*W=S*((rl n v).1-(rl n u).1))):=by
 have hr:aN (wv f t):=Or.inl hZ.d;have hq:0<(aU f t).2.2:=by show 0<f.2.2+t.2.2;omega
 have zu:=Xu (n:=n) (Y:=Y) hZ.s u;have zv:=Xu (n:=n) (Y:=Y) hZ.s v;have eu:((rl n v).1-(rl n u).1)*(W*(rl n u).2-Y-S*(rl n u).1)= -(W*cr (rl n u) (rl n v)+Y*((rl n v).1-(rl n u).1))+(((rl n v).2-(rl n u).2)*W-S*((rl n v).1-(rl n u).1))*(rl n u).1:=by unfold cr;grind
 have ev:((rl n v).1-(rl n u).1)*(W*(rl n v).2-Y-S*(rl n v).1)= -(W*cr (rl n u) (rl n v)+Y*((rl n v).1-(rl n u).1))+(((rl n v).2-(rl n u).2)*W-S*((rl n v).1-(rl n u).1))*(rl n v).1:=by unfold cr;grind
 have pw:0<(rl n v).1-(rl n u).1:=by omega
 by_cases Be:lam (wv f t) f u=0/\lam (wv f t) f v=0
 ·obtain⟨l1,l2⟩:=Be;have A0:W*(rl n u).2-Y-S*(rl n u).1=0:=(dU hZ.d).1 (zu.symm.trans ((hZ.lz u).1 l1));have B0:W*(rl n v).2-Y-S*(rl n v).1=0:=(dU hZ.d).1 (zv.symm.trans ((hZ.lz v).1 l2));have pu:=place hf ht hr hu l1;have pv:=place hf ht hr hv l2;have pu':dt (wv f t) (rl (aU f t) u)<0:=by
   rcases pu with h|h
   ·exact h.2.1
   ·have:=ND hn ht hZ.d k2 ((qw hf ht hr u).2 l1) h.2.2;omega
  have pv':0<dt (wv f t) (rl (aU f t) v):=by
   rcases pv with h|h
   ·have:=NB hn hf hZ.d k1 l2 h.1;omega
   ·exact h.2.1
  have oq:=(vK (kC hr) ((zG hf ht hr u).2 l1) ((zG hf ht hr v).2 l2)).2 (zE (dH pu') (dH pv'));have K6:(aU f t).2.2*((wv f t).1*(v.1-u.1)+(wv f t).2*(v.2-u.2))=dt (wv f t) (rl (aU f t) v)-dt (wv f t) (rl (aU f t) u):=by
   unfold dt rl rel
   grind
  have s1:=aO (z:=(wv f t).1*(v.1-u.1)+(wv f t).2*(v.2-u.2)) hq;rw[K6] at s1;have sgn:((wv f t).1*(v.1-u.1)+(wv f t).2*(v.2-u.2)).sign=1:=pM (s1.1 (by omega))
  unfold fb;rw[oq,sgn];have hE:((rl n v).2-(rl n u).2)*W=S*((rl n v).1-(rl n u).1):=by grind
  have hC: -cr (rl n u) (rl n v)*W=Y*((rl n v).1-(rl n u).1):=by
   rw[A0] at eu;have e0:((rl n v).2-(rl n u).2)*W-S*((rl n v).1-(rl n u).1)=0:=by omega
   rw[e0] at eu;have e1: -cr (rl n u) (rl n v)*W= -(W*cr (rl n u) (rl n v)):=by grind
   rw[e1];omega
  rw[decide_eq_true (And.intro hC hE)];rfl
 ·have o1:=K5 hf ht hr hS Be;unfold fb;rw[o1];have hno:¬(-cr (rl n u) (rl n v)*W=Y*((rl n v).1-(rl n u).1)/\((rl n v).2-(rl n u).2)*W=S*((rl n v).1-(rl n u).1)):=by
   rintro⟨hC,hE⟩;apply Be;have e0:((rl n v).2-(rl n u).2)*W-S*((rl n v).1-(rl n u).1)=0:=by omega
   have e1: -cr (rl n u) (rl n v)*W= -(W*cr (rl n u) (rl n v)):=by grind
   rw[e1] at hC;rw[e0] at eu ev;have A0:=(dU (z:=W*(rl n u).2-Y-S*(rl n u).1) pw).1 (by omega)
   have B0:=(dU (z:=W*(rl n v).2-Y-S*(rl n v).1) pw).1 (by omega)
   rw[A0] at zu;rw[B0] at zv;exact⟨(hZ.lz u).2 (by omega),(hZ.lz v).2 (by omega)⟩
  rw[decide_eq_false hno];rfl
theorem ahW{n f t:N3}{W Y S:Int}(hn:0<n.2.2)(hf:0<f.2.2)(ht:0<t.2.2)(hZ:ZP n f t W Y S)(k1:(wv n f).1<=0)(k2:0<(wv n t).1){u v:Pt}(hS:jK f t (wv f t) u v)(hu:mQ f t (wv f t) u)(hv:mQ f t (wv f t) v)(h:¬((rl n u).1<=0/\0<(rl n v).1))(h':¬((rl n v).1<=0/\0<(rl n u).1)):
  fb (aU f t) (wv f t) u v=0:=by
 have hr:aN (wv f t):=Or.inl hZ.d;have o1:on (rl (aU f t) u) (rl (aU f t) v)=false:=by
  by_cases Be:lam (wv f t) f u=0/\lam (wv f t) f v=0
  ·obtain⟨l1,l2⟩:=Be;have pu:=place hf ht hr hu l1;have pv:=place hf ht hr hv l2;cases ho:on (rl (aU f t) u) (rl (aU f t) v)
   ·rfl
   ·exfalso;have oq:=(vK (kC hr) ((zG hf ht hr u).2 l1) ((zG hf ht hr v).2 l2)).1 ho;rcases pu with⟨x1,x2,x3⟩|⟨x1,x2,x3⟩<;>rcases pv with⟨y1,y2,y3⟩|⟨y1,y2,y3⟩
    ·exact Cm x2 y2 oq
    ·have a:=NB hn hf hZ.d k1 l1 x1;have b:=ND hn ht hZ.d k2 ((qw hf ht hr v).2 l2) y3;exact h ⟨a,b⟩
    ·have a:=NB hn hf hZ.d k1 l2 y1;have b:=ND hn ht hZ.d k2 ((qw hf ht hr u).2 l1) x3;exact h' ⟨a,b⟩
    ·exact Gi x2 y2 oq
  ·exact K5 hf ht hr hS Be
 unfold fb;rw[o1];rfl
theorem I9{F:Pt->Pt->Int}{n:N3}{p:Pt×Pt->Bool}:∀{es:List (Pt×Pt)},(∀e∈es,F e.1 e.2=if p e then wt n e else 0)->total F es=dM (wt n) p es
 |[],_=>rfl
 |e::l,h=>by rw[fq,qZ,h e (by simp),I9 fun x hx=>h x (bn _ hx)]
theorem NF(es:List (Pt×Pt))(n:N3):PP es n=dM (wt n) (fun e=>decide (kY n e<0)) es:=by
 refine I9 fun e _=>?_
 unfold right wt kY;have:=bU (rl n e.1) (rl n e.2);by_cases h1:(rl n e.1).1<=0/\0<(rl n e.2).1
 ·rw[if_pos h1,if_pos h1];by_cases hc:0<cr (rl n e.1) (rl n e.2)
  ·rw[if_pos ⟨h1.1,h1.2,hc⟩,decide_eq_true (by omega)];rfl
  ·rw[if_neg (by omega),if_neg (by omega),decide_eq_false (by omega)];rfl
 ·by_cases h2:(rl n e.2).1<=0/\0<(rl n e.1).1
  ·rw[if_neg h1,if_pos h2,if_neg h1,if_pos h2,if_neg (by omega)]
   by_cases hc:cr (rl n e.1) (rl n e.2)<0
   ·rw[if_pos ⟨h2.2,h2.1,hc⟩,decide_eq_true (by omega)];rfl
   ·rw[if_neg (by omega),decide_eq_false (by omega)];rfl
  ·rw[if_neg h1,if_neg h2,if_neg h1,if_neg h2,if_neg (by omega),if_neg (by omega)]
   split<;>rfl
theorem Xw(p:Bool):(if p then(1:Int) else 0)=bb p:=rfl
theorem Xx{rg:List (List Pt)}{n f t:N3}{e0:Pt×Pt}(hn:0<n.2.2)(h:ud (aa rg) f t)(hZ:ZP n f t (kW n e0) (kY n e0) (kS n e0))(k1:(wv n f).1<=0)(k2:0<(wv n t).1):
  RR (aa rg) f t=dM (wt n) (fun e=>aV n e e0) (aa rg)/\total (fb (aU f t) (wv f t)) (aa rg)=dM (wt n) (fun e=> !aV n e e0&& !aV n e0 e) (aa rg):=by
 have pU:∀e,kS n e*kW n e0=kS n e0*kW n e/\kY n e*kW n e0=kY n e0*kW n e↔(!aV n e e0&& !aV n e0 e)=true:=fun e=>by
  unfold aV;simp only[qq,KJ,decide_eq_false_iff_not];omega
 constructor
 ·rw[ahT hn h hZ];unfold PP;rw[<-Gc];refine I9 fun e _=>?_
  by_cases h1:(rl n e.1).1<=0/\0<(rl n e.2).1
  ·rw[Xm hZ.w hZ.d hZ.s h1.1 h1.2];unfold wt;rw[if_pos h1,Xw];congr 1;unfold aV;have a:kY n e= -cr (rl n e.1) (rl n e.2):=if_pos h1;have b:kW n e=(rl n e.2).1-(rl n e.1).1:=if_pos h1;have c:kS n e=(rl n e.2).2-(rl n e.1).2:=if_pos h1;rw[a,b,c]
  ·by_cases h2:(rl n e.2).1<=0/\0<(rl n e.1).1
   ·have g:=Xm (Y:=kY n e0) hZ.w hZ.d hZ.s h2.1 h2.2;rw[F9 (rl (bB n (kW n e0) (kY n e0)) e.1),ahM] at g;have a:kY n e= -cr (rl n e.2) (rl n e.1):=(if_neg h1).trans (if_pos h2);have b:kW n e=(rl n e.1).1-(rl n e.2).1:=(if_neg h1).trans (if_pos h2);have c:kS n e=(rl n e.1).2-(rl n e.2).2:=(if_neg h1).trans (if_pos h2);rw[<-a,<-b,<-c] at g;have hw:wt n e= -1:=(if_neg h1).trans (if_pos h2);rw[hw];have g': -(right (rl (bB n (kW n e0) (kY n e0)) e.1) (rl (bB n (kW n e0) (kY n e0)) e.2)+cA (bB n (kW n e0) (kY n e0)) (wv f t) e.1 e.2)=bb (aV n e e0):=by
     rw[<-show _=bb (aV n e e0) from g]
     omega
    cases hk:aV n e e0<;>rw[hk] at g'<;>unfold bb at g'<;>simp at g'⊢ <;>omega
   ·have hw:wt n e=0:=(if_neg h1).trans (if_neg h2);rw[ahN hZ.w h1 h2,hw];split<;>rfl
 ·refine I9 fun e he=>?_
  by_cases h1:(rl n e.1).1<=0/\0<(rl n e.2).1
  ·rw[Xv hn h.pf h.pt hZ k1 k2 (h.s e he) (h.c e he).1 (h.c e he).2 h1.1 h1.2];have hw:wt n e=1:=if_pos h1;have a:kY n e= -cr (rl n e.1) (rl n e.2):=if_pos h1;have b:kW n e=(rl n e.2).1-(rl n e.1).1:=if_pos h1;have c:kS n e=(rl n e.2).2-(rl n e.1).2:=if_pos h1;have k:=pU e;rw[a,b,c] at k;rw[hw,Xw];congr 1;refine mO.2 (Iff.trans ?_ k);rw[decide_eq_true_iff];exact And.comm
  ·by_cases h2:(rl n e.2).1<=0/\0<(rl n e.1).1
   ·have g:=Xv hn h.pf h.pt hZ k1 k2 (u:=e.2) (v:=e.1) (by
      have:=h.s e he;refine⟨fun x y z=>?_,fun x y z=>?_⟩
      ·have:=this.2 x y z;rw[bU (rl f e.1) (rl f e.2),bU (rl t e.1) (rl t e.2)];omega
      ·have:=this.1 x y z;rw[bU (rl f e.1) (rl f e.2),bU (rl t e.1) (rl t e.2)];omega) (h.c e he).2 (h.c e he).1 h2.1 h2.2
    rw[Xt] at g;have hw:wt n e= -1:=(if_neg h1).trans (if_pos h2);have a:kY n e= -cr (rl n e.2) (rl n e.1):=(if_neg h1).trans (if_pos h2);have b:kW n e=(rl n e.1).1-(rl n e.2).1:=(if_neg h1).trans (if_pos h2);have c:kS n e=(rl n e.1).2-(rl n e.2).2:=(if_neg h1).trans (if_pos h2);have k:=pU e;rw[<-a,<-b,<-c] at g;have k':decide (kY n e*kW n e0=kY n e0*kW n e/\kS n e*kW n e0=kS n e0*kW n e)=(!aV n e e0&& !aV n e0 e):=by
     refine mO.2 (Iff.trans ?_ k);rw[decide_eq_true_iff];exact And.comm
    rw[k'] at g;rw[hw];cases hk:(!aV n e e0&& !aV n e0 e)<;>rw[hk] at g<;>unfold bb at g<;>simp at g⊢ <;>omega
   ·have hw:wt n e=0:=(if_neg h1).trans (if_neg h2);rw[ahW hn h.pf h.pt hZ k1 k2 (h.s e he) (h.c e he).1 (h.c e he).2 h1 h2,hw];split<;>rfl
theorem ahX{rg:List (List Pt)}{l:List Nd}(hN:bQ (aa rg) l){az:Int->Bool}(h0:az 0=false){n:Nd}(hn:n∈l)(h:az (PP (aa rg) n)=true):
  ∃f t,Sd (aa rg) l az f t/\(wv n f).1<=0/\0<(wv n t).1/\0<cr (wv f t) (wv f n):=by
 have cn:=hN.can n hn;rw[NF] at h;obtain⟨e0,IZ,hT,hb,ha⟩:=Xl (Bc n) (Em n) (Bd n) (wt n) az h0 (aa rg) _ (fun e=>decide (kY n e<0)) (fun x y hy hyx=>by
   have hy':=of_decide_eq_true hy;refine decide_eq_true ?_;have aoz:¬_:=fun k=>by rw[Bb.2 k] at hyx;cases hyx
   have px:=sW n x;have py:=sW n y;have q1:=(neg_mul (z:=kY n y) px).2 hy';have q2:=neg_mul (z:=kY n x) py;rw[dX] at q1 q2;exact q2.1 (by omega)) (ae _) h
 have hT':=of_decide_eq_true hT;obtain⟨a,b,hab,h1,h2,hW,hY,hS⟩:∃a b,((a=e0.1/\b=e0.2)\/(a=e0.2/\b=e0.1))/\(rl n a).1<=0/\0<(rl n b).1/\kW n e0=(rl n b).1-(rl n a).1/\kY n e0= -cr (rl n a) (rl n b)/\kS n e0=(rl n b).2-(rl n a).2:=by
  by_cases k1:(rl n e0.1).1<=0/\0<(rl n e0.2).1
  ·exact⟨e0.1,e0.2,Or.inl ⟨rfl,rfl⟩,k1.1,k1.2,if_pos k1,if_pos k1,if_pos k1⟩
  ·by_cases k2:(rl n e0.2).1<=0/\0<(rl n e0.1).1
   ·exact⟨e0.2,e0.1,Or.inr ⟨rfl,rfl⟩,k2.1,k2.2,(if_neg k1).trans (if_pos k2),(if_neg k1).trans (if_pos k2),(if_neg k1).trans (if_pos k2)⟩
   ·exfalso;have:kY n e0=0:=(if_neg k1).trans (if_neg k2);omega
 obtain⟨f,t,hpc,k1,k2,hD,la,lb⟩:=Xo hN hn IZ hab h1 h2;have hP:=hpc.oP hN;have hZ:=Xp cn.pos hP.pf hP.pt h1 h2 k1 k2 hD la lb;rw[<-hW,<-hY,<-hS] at hZ;obtain⟨r1,r2⟩:=Xx cn.pos hP hZ k1 k2;refine⟨f,t,Or.inl ⟨hpc,?_,?_⟩,k1,k2,?_⟩
 ·unfold LL;have:PP (aa rg) (aU f t)=RR (aa rg) f t:=rfl;rw[this,r1,r2];exact ha
 ·rw[r1];exact hb
 ·have td:0<(bB n (kW n e0) (kY n e0)).2.2:=aP cn.pos hZ.w;obtain⟨m1,m2⟩:=I7 (bB n (kW n e0) (kY n e0)) f n;have c0:cr (wv f t) (wv (bB n (kW n e0) (kY n e0)) f)=0:=by
   have:cr (wv f t) (wv f (bB n (kW n e0) (kY n e0)))=0:=by
    rcases hZ.zf with k|k
    ·rw[k];exact(zC _).2.1
    ·exact Rz k
   rw[eG f,fF];omega
  have ezn:wv (bB n (kW n e0) (kY n e0)) n=(0, -(n.2.2*kY n e0)):=by
   unfold wv bB;exact dY (by simp only;grind) (by simp only;grind)
  have hpos:0<cr (wv f t) (wv (bB n (kW n e0) (kY n e0)) n):=by
   rw[ezn];unfold cr;simp only;have:=(neg_mul (z:=kY n e0) cn.pos).2 hT';have:=aP hD (show 0< -(n.2.2*kY n e0) by omega)
   omega
  have e:(bB n (kW n e0) (kY n e0)).2.2*cr (wv f t) (wv f n)=f.2.2*cr (wv f t) (wv (bB n (kW n e0) (kY n e0)) n)-n.2.2*cr (wv f t) (wv (bB n (kW n e0) (kY n e0)) f):=by
   have:(bB n (kW n e0) (kY n e0)).2.2*cr (wv f t) (wv f n)=(wv f t).1*((bB n (kW n e0) (kY n e0)).2.2*(wv f n).2)-(wv f t).2*((bB n (kW n e0) (kY n e0)).2.2*(wv f n).1):=by unfold cr;grind
   rw[this,m1,m2];unfold cr
   grind
  rw[c0] at e;have:=aP hP.pf hpos;exact(aO td).1 (by omega)
end Go.Proofs.YtkjhhooecopolaaGreatDoor.Ga
namespace Go.Proofs.YtkjhhooecopolaaGreatDoor
open Go.RowKit
def wL(x:PB)(wk:Bool)(ow:Option Addr):Array Value:=(x.cells++[Value.bool wk,Value.pointer ow]).toArray
def aG(bs:List Nat):List Value:=bs.map fun b=>.pointer (some ⟨b,0,none⟩)
theorem ahZ{w:World}{v:Value}{l:List PB}(h:qU w v l):∃so cap,v=.slice so l.length cap:=by
 rcases h.2 with⟨hv,h0⟩|⟨b,cap,cur,hv,_⟩
 ·exact⟨none,0,by rw[hv,h0]⟩
 ·exact⟨_,cap,hv⟩
theorem ah0{w:World}{so:Option Addr}{n cap:Nat}{l:List PB}(h:qU w (.slice so n cap) l){k:Nat}{x:PB}(he:l[k]?=some x):
  ∃b,so=some ⟨b,0,none⟩/\b<w.heap.size/\w.cell? ⟨b,k*6,none⟩=some (.complex .f64 x.wa x.wb)/\w.cell? ⟨b,k*6+1,none⟩=some (.float .f64 x.sh)/\w.cell? ⟨b,k*6+2,none⟩=some (.complex .f64 (floatOfInt .f64 x.f.1) (floatOfInt .f64 x.f.2.1))/\w.cell? ⟨b,k*6+3,none⟩=some (.int .i64 x.f.2.2)/\w.cell? ⟨b,k*6+4,none⟩=some (.complex .f64 (floatOfInt .f64 x.t.1) (floatOfInt .f64 x.t.2.1))/\w.cell? ⟨b,k*6+5,none⟩=some (.int .i64 x.t.2.2):=by
 have g:=IL l k x he;obtain⟨b,c,hv,hb,hc⟩:=CS h (g 0 (by omega))
 injection hv with hv;exact⟨b,hv,hb,hc _ _ (g 0 (by omega)),hc _ _ (g 1 (by omega)),hc _ _ (g 2 (by omega)),hc _ _ (g 3 (by omega)),hc _ _ (g 4 (by omega)),hc _ _ (g 5 (by omega))⟩
structure BS(w:World)(lv:Value)(bs:List Nat)(Xs:List PB)(wr:World):Prop where
 own:wr.ownsRow w.heap.size 175 1 lv bs.length (aG bs)
 len:bs.length=Xs.length
 lies:∀(i:Nat) b x,bs[i]?=some b->Xs[i]?=some x->w.heap.size<=b/\wr.heap[b]?=some (.cells (wL x false none) 177 (0,0))
 ne:∀b∈bs,lv.ownBlock≠some b
 nd:bs.Nodup
 below:Below w.heap.size w wr
theorem BS.keep{w:World}{lv:Value}{bs:List Nat}{Xs:List PB}{wr w':World}(h:BS w lv bs Xs wr)(hb:Below wr.heap.size wr w'):BS w lv bs Xs w':=
 ⟨aJ h.own fun k hk=>hb.block k (au h.own k hk).2,h.len,fun i b x h1 h2=>⟨(h.lies i b x h1 h2).1,(hb.block _ (lt_of_heap (h.lies i b x h1 h2).2)).trans (h.lies i b x h1 h2).2⟩,h.ne,h.nd,h.below.trans (hb.mono h.below.size)⟩
theorem BS.lt{w:World}{lv:Value}{bs:List Nat}{Xs:List PB}{wr:World}(h:BS w lv bs Xs wr){b:Nat}(hb:b∈bs):b<wr.heap.size:=by
 obtain⟨i,hi,rfl⟩:=j5.1 hb;have hx:i<Xs.length:=by rw[<-h.len];exact hi
 exact lt_of_heap (h.lies i _ _ (ay hi) (ay hx)).2
theorem BS.snoc{w:World}{lv:Value}{bs:List Nat}{Xs:List PB}{wr:World}(h:BS w lv bs Xs wr)(x:PB)(o:Obj){g cap:Nat}{w8:World}
  (aZ:((wr.alloc (.cells (wL x false none) 177)).alloc o).grownBy w8 lv.ownBlock)
  (cH:w8.ownsRow w.heap.size 175 1 (.slice (some ⟨g,0,none⟩) (bs.length+1) cap) (bs.length+1) (aG bs++[.pointer (some ⟨wr.heap.size,0,none⟩)]))
  (hat:lv.ownBlock=some g\/g=wr.heap.size+2):BS w (.slice (some ⟨g,0,none⟩) (bs.length+1) cap) (bs++[wr.heap.size]) (Xs++[x]) w8:=by
 have hsz:((wr.alloc (.cells (wL x false none) 177)).alloc o).heap.size=wr.heap.size+2:=by simp
 have hsz1:(wr.alloc (.cells (wL x false none) 177)).heap.size=wr.heap.size+1:=by simp
 have hown:∀k,lv.ownBlock=some k->k<wr.heap.size:=fun k hk=>(au h.own k hk).2
 have hold:∀b,b<wr.heap.size->lv.ownBlock≠some b->w8.heap[b]?=wr.heap[b]?:=fun b hb hne=>
  (aZ.block b (by omega) (fun e=>hne e.symm)).trans ((Below.heap_alloc _ _ _ (by omega)).trans (Below.heap_alloc _ _ _ hb))
 refine⟨?_,by rw[aS,aS,h.len];rfl,fun i b y h1 h2=>?_,fun b hb=>?_,?_,?_⟩
 ·have e:aG (bs++[wr.heap.size])=aG bs++[.pointer (some ⟨wr.heap.size,0,none⟩)]:=by simp[aG]
  rw[e,aS];exact cH
 ·by_cases hi:i<bs.length
  ·rw[dZ hi] at h1;rw[dZ (by rw[<-h.len];exact hi)] at h2
   obtain⟨k1,k2⟩:=h.lies i b y h1 h2;exact⟨k1,(hold b (lt_of_heap k2) (h.ne b (aY h1))).trans k2⟩
  ·have hi2:i=bs.length:=by
    have:=(bT.1 h1).1;simp at this;omega
   subst hi2;have e1:b=wr.heap.size:=by simpa using h1.symm
   have e2:y=x:=by rw[h.len] at h2;simpa using h2.symm
   subst e1 e2;refine⟨h.below.size,(aZ.block _ (by omega) (fun e=>ab8 _ (hown _ e.symm))).trans ((Below.heap_alloc _ _ _ (by omega)).trans (heap_alloc_new _ _))⟩
 ·intro he;have he':g=b:=by simpa[Value.ownBlock] using he
  subst he';rcases bW.1 hb with hb|hb
  ·rcases hat with hat|hat
   ·exact h.ne g hb hat
   ·have:=h.lt hb;omega
  ·rw[bJ] at hb;rcases hat with hat|hat
   ·have:=hown g hat;omega
   ·omega
 ·rw[KO];refine⟨h.nd,by simp,fun a ha b hb=>?_⟩
  rw[bJ.1 hb];have:=h.lt ha;omega
 ·exact((h.below.alloc h.below.size _).alloc (by have:=h.below.size;omega) _).grown aZ (by have:=h.below.size;omega) (fun k hk=>(au h.own k hk).1)
theorem Xy:∀{m:List Ge.Nd},m.Pairwise (fun a b=>Ge.lt (Ge.aj a) (Ge.aj b))->∀{q:Ge.Nd×Ge.Nd},q∈Ge.nexts m->Ge.lt (Ge.aj q.1) (Ge.aj q.2)
 |[],_,_,h=>by simp[Ge.nexts] at h
 |[_],_,_,h=>by simp[Ge.nexts] at h
 |a::b::r,hp,q,h=>by
  rcases aQ.1 h with h|h
  ·rw[h];exact(fZ.1 hp).1 b (by simp)
  ·exact Xy (fZ.1 hp).2 h
theorem ah1{es:List Ed}{l:List Ge.Nd}(hl:l.map Ge.aj=Ge.fX es)(e:Ed):(Ge.held e l).Pairwise (fun a b=>Ge.lt (Ge.aj a) (Ge.aj b)):=by
 have ha:Ge.rZ (l.map Ge.aj):=by rw[hl];exact(Ge.yn es).2.1
 exact acg _ (nJ.1 ha)
theorem Ja{es:List Ed}{l:List Ge.Nd}{Ps:List PB}(h:og es l Ps)(hl:l.map Ge.aj=Ge.fX es)(p:PB)(hp:p∈Ps):Ge.lt (Ge.aj p.f) (Ge.aj p.t):=by
 obtain⟨e,he⟩:=h.ap.mem p hp;have hq:=he.2.2;have hh:=ah1 hl e;generalize Ge.held e l=H at*;have k:=Xy hh hq;exact k
def fh(r:Int)(es:List Ed)(p:PB):List PB:=
 if Ge.takes r (qd es p.f p.t)=true/\Ge.takes r (oh es p.f p.t)=false then[p]
 else if Ge.takes r (oh es p.f p.t)=true/\Ge.takes r (qd es p.f p.t)=false then[p.rev] else[]
theorem yJ:(Tryz.prog.info? 175).map (fun i=>(i.zero,i.size,i.bytes))=some (some (.pointer none),1,8):=by kernel_rfl
theorem ah2(es:List Ed)(r:Int)(v:Value)(w:World)(hR:gu w v es)(hl:es.length<=402)(hs:∀e∈es,fg e)(hne:∀e∈es,e.1≠e.2)
  (Q:Value->World->Prop)
  (HS:Hid (∀Ps l,l.map Ge.aj=Ge.fX es->(∀n∈l,Ge.Can n)->og es l Ps->∀w1 lv bs wr,Below w.heap.size w w1->BS w1 lv bs (Ps.flatMap (fh r es)) wr->bs.length<=85000000->Calls Tryz.prog 108 #[lv,.func (.func 109) #[] #[]] wr fun e w'=>e=.returned (.tuple #[])/\Q lv w')):
  Calls Tryz.prog 68 #[v,.int .u8 r] w fun e w'=>∃lv,e=.returned lv/\Q lv w':=by
 obtain⟨so,cap,rfl⟩:=CU hR;obtain⟨i0,hi,hz0,hz1,hz2⟩:=info_parts yJ;have HP:Hid (Calls Tryz.prog 104 #[.slice so es.length cap] w fun r w'=>∃v' Ps,r=.returned v'/\qU w' v' Ps/\Below w.heap.size w w'/\Ps.length<=85000000/\∃l,l.map Ge.aj=Ge.fX es/\(∀n∈l,Ge.Can n)/\og es l Ps):=ahm es _ w hR hl hs
 have HR:Hid (gu w (.slice so es.length cap) es):=hR;have Jb:Hid (∀t w,Calls Tryz.prog 106 #[.int .u8 r,.int .i64 t] w fun e w'=>e=.returned (.bool (Ge.takes r t))/\w'=w):=fun t w=>af4 r t w
 go_enter Tryz.func68,Tryz.ntmps68
 go_wp2_with fail
 refine HP.out.mono ?_;rintro r' w1 ⟨pv,Ps,rfl,NG,hb1,wM,l,mr,jF,kq⟩;obtain⟨ps,pc,rfl⟩:=ahZ NG;have Jc:Hid (qU w1 (.slice ps Ps.length pc) Ps):=NG;have yK:Hid (gu w1 (.slice so es.length cap) es):=MW HR.out hb1;have NH:Hid (∀p∈Ps,∀v w,gu w v es->Calls Tryz.prog 105 #[.agg p.cells.toArray,v] w fun r w'=>r=.returned (.tuple #[.int .i64 (qd es p.f p.t),.int .i64 (oh es p.f p.t)])/\Below w.heap.size w w'):=fun p hp=>ahr p es l hne (kq.v p hp) (Ja kq mr p hp) (kq.ap.mem p hp) hl hs
 have Xz:=HS.out Ps l mr jF kq w1;have XA:Hid (∀lv bs wr,BS w1 lv bs (Ps.flatMap (fh r es)) wr->bs.length<=85000000->Calls Tryz.prog 108 #[lv,.func (.func 109) #[] #[]] wr fun e w'=>e=.returned (.tuple #[])/\Q lv w'):=fun lv bs wr h1 h2=>Xz lv bs wr hb1 h1 h2
 clear Xz HS kq jF mr NG HP HR hR hs hne;have bh:Hid (∃bs,BS w1 (.slice none 0 0) bs ((Ps.take 0).flatMap (fh r es)) w1/\bs.length<=0):=⟨[],⟨World.ownsRow_nil _ _ _ _,by simp,fun i b x h=>by simp at h,fun b h=>by simp at h,by simp,Below.refl _ _⟩,by simp⟩
 go_wp2_with fail
 go_loopg [5,15] Ps.length (fun m lv iv wr=>∃k:Nat,k+m=Ps.length/\iv=.int .i64 k/\Hid (∃bs,BS w1 lv bs ((Ps.take k).flatMap (fh r es)) wr/\bs.length<=k))
 case atStart=>exact⟨0,by omega,rfl,bh⟩
 case round=>
  obtain⟨k,hkn,rfl,HE⟩:=hrel;clear bh;obtain⟨bs,jq,hbl⟩:=HE.out;have yL:Hid (BS w1 u5 bs ((Ps.take k).flatMap (fh r es)) wr):=jq;clear HE;by_cases hlt:k<Ps.length
  ·obtain⟨p,hpk⟩:∃p,Ps[k]?=some p:=⟨_,ay hlt⟩;obtain⟨b,rfl,hb,c0,c1,c2,c3,c4,c5⟩:=ah0 Jc.out hpk;have ag:=jq.below;have r0:=(ag.cell (p:=⟨b,k*6,none⟩) hb).trans c0;have r1:=(ag.cell (p:=⟨b,k*6+1,none⟩) hb).trans c1;have r2:=(ag.cell (p:=⟨b,k*6+2,none⟩) hb).trans c2;have r3:=(ag.cell (p:=⟨b,k*6+3,none⟩) hb).trans c3;have r4:=(ag.cell (p:=⟨b,k*6+4,none⟩) hb).trans c4;have r5:=(ag.cell (p:=⟨b,k*6+5,none⟩) hb).trans c5;have hbr:b<wr.heap.size:=aL hb ag.size;have eD:(k:Int)<(Ps.length:Int):=by omega
   have NI:=NH.out p (aY hpk);have Bf:Hid (∀w,Calls Tryz.prog 107 #[.agg p.cells.toArray] w fun e w'=>e=.returned (.agg p.rev.cells.toArray)/\Below w.heap.size w w'):=fun w=>agu p w
   have tz:Hid ((Ps.take (k+1)).flatMap (fh r es)=(Ps.take k).flatMap (fh r es)++fh r es p):=by
    have htk:Ps.take (k+1)=Ps.take k++[p]:=by rw[jx,hpk];rfl
    show(Ps.take (k+1)).flatMap (fh r es)=_;rw[htk,aci,tV,abK,rA]
   have Jd:Hid (fh r es p=if Ge.takes r (qd es p.f p.t)=true/\Ge.takes r (oh es p.f p.t)=false then[p] else if Ge.takes r (oh es p.f p.t)=true/\Ge.takes r (qd es p.f p.t)=false then[p.rev] else[]):=rfl
   have NK:=Jb.out (qd es p.f p.t);have D7:=Jb.out (oh es p.f p.t);clear c0 c1 c2 c3 c4 c5 hpk jq;generalize qd es p.f p.t=TL at*;generalize oh es p.f p.t=TR at*;have tA:Hid (p.cells=[.complex .f64 p.wa p.wb,.float .f64 p.sh,.complex .f64 (floatOfInt .f64 p.f.1) (floatOfInt .f64 p.f.2.1),.int .i64 p.f.2.2,.complex .f64 (floatOfInt .f64 p.t.1) (floatOfInt .f64 p.t.2.1),.int .i64 p.t.2.2]):=rfl;have NM:Hid (p.rev.cells=[.complex .f64 (Op.negFloat .f64 p.wa) (Op.negFloat .f64 p.wb),.float .f64 (Op.negFloat .f64 p.sh),.complex .f64 (floatOfInt .f64 p.t.1) (floatOfInt .f64 p.t.2.1),.int .i64 p.t.2.2,.complex .f64 (floatOfInt .f64 p.f.1) (floatOfInt .f64 p.f.2.1),.int .i64 p.f.2.2]):=rfl;have Je:=Bf.out;rw[tA.out] at NI Je;rw[NM.out] at Je;clear Bf;generalize Op.negFloat .f64 p.wa=N1 at*;generalize Op.negFloat .f64 p.wb=N2 at*;generalize Op.negFloat .f64 p.sh=N3 at*;generalize p.wa=A1 at*;generalize p.wb=A2 at*;generalize p.sh=A3 at*;generalize floatOfInt .f64 p.f.1=A4 at*;generalize floatOfInt .f64 p.f.2.1=A5 at*;generalize p.f.2.2=A6 at*;generalize floatOfInt .f64 p.t.1=A7 at*;generalize floatOfInt .f64 p.t.2.1=A8 at*;generalize p.t.2.2=A9 at*;have XB:Hid (∀v w,gu w v es->Calls Tryz.prog 105 #[.agg #[.complex .f64 A1 A2,.float .f64 A3,.complex .f64 A4 A5,.int .i64 A6,.complex .f64 A7 A8,.int .i64 A9],v] w fun r w'=>r=.returned (.tuple #[.int .i64 TL,.int .i64 TR])/\Below w.heap.size w w'):=NI
   have Bf:Hid (∀w,Calls Tryz.prog 107 #[.agg #[.complex .f64 A1 A2,.float .f64 A3,.complex .f64 A4 A5,.int .i64 A6,.complex .f64 A7 A8,.int .i64 A9]] w fun e w'=>e=.returned (.agg #[.complex .f64 N1 N2,.float .f64 N3,.complex .f64 A7 A8,.int .i64 A9,.complex .f64 A4 A5,.int .i64 A6])/\Below w.heap.size w w'):=Je
   have HSC:Hid (wL p false none= #[.complex .f64 A1 A2,.float .f64 A3,.complex .f64 A4 A5,.int .i64 A6,.complex .f64 A7 A8,.int .i64 A9,.bool false,.pointer none]):=by
    show(p.cells++[Value.bool false,Value.pointer none]).toArray=_;rw[tA.out];rfl
   have HSR:Hid (wL p.rev false none= #[.complex .f64 N1 N2,.float .f64 N3,.complex .f64 A7 A8,.int .i64 A9,.complex .f64 A4 A5,.int .i64 A6,.bool false,.pointer none]):=by
    show(p.rev.cells++[Value.bool false,Value.pointer none]).toArray=_;rw[NM.out];rfl
   have HL:Hid (∀w,Calls Tryz.prog 106 #[.int .u8 r,.int .i64 TL] w fun e w'=>e=.returned (.bool (Ge.takes r TL))/\w'=w):=NK
   have XC:Hid (∀w,Calls Tryz.prog 106 #[.int .u8 r,.int .i64 TR] w fun e w'=>e=.returned (.bool (Ge.takes r TR))/\w'=w):=D7
   have hb0:Below wr.heap.size wr (wr.alloc (.cells #[.complex .f64 A1 A2,.float .f64 A3,.complex .f64 A4 A5,.int .i64 A6,.complex .f64 A7 A8,.int .i64 A9] 171)):=(Below.refl _ _).alloc (ae _) _;have mZ:=heap_alloc_new wr (.cells #[.complex .f64 A1 A2,.float .f64 A3,.complex .f64 A4 A5,.int .i64 A6,.complex .f64 A7 A8,.int .i64 A9] 171);have hz0':wr.heap.size<(wr.alloc (.cells #[.complex .f64 A1 A2,.float .f64 A3,.complex .f64 A4 A5,.int .i64 A6,.complex .f64 A7 A8,.int .i64 A9] 171)).heap.size:=by simp
   have XD:Hid (gu (wr.alloc (.cells #[.complex .f64 A1 A2,.float .f64 A3,.complex .f64 A4 A5,.int .i64 A6,.complex .f64 A7 A8,.int .i64 A9] 171)) (.slice so es.length cap) es):=MW yK.out (ag.alloc ag.size _);clear NI Je NK D7 tA NM Jb NH;generalize Ge.takes r TL=bL at*;generalize Ge.takes r TR=bR at*
   go_wp2_with (simp only[fA,lX];go_simp)
   generalize wr.alloc (.cells #[.complex .f64 A1 A2,.float .f64 A3,.complex .f64 A4 A5,.int .i64 A6,.complex .f64 A7 A8,.int .i64 A9] 171)=W0 at*;refine(XB.out _ _ XD.out).mono ?_;rintro r' w2 ⟨rfl,hb2⟩;have dv:=(hb2.block _ hz0').trans mZ;have hB2:Below wr.heap.size wr w2:=hb0.trans (hb2.mono (eo hz0'));have gf:Hid (BS w1 u5 bs ((Ps.take k).flatMap (fh r es)) w2):=yL.out.keep hB2;have e0:w2.cell? ⟨wr.heap.size,0,none⟩=some (.complex .f64 A1 A2):=cell_of dv 0;have e1:w2.cell? ⟨wr.heap.size,1,none⟩=some (.float .f64 A3):=cell_of dv 1;have e2:w2.cell? ⟨wr.heap.size,2,none⟩=some (.complex .f64 A4 A5):=cell_of dv 2;have e3:w2.cell? ⟨wr.heap.size,3,none⟩=some (.int .i64 A6):=cell_of dv 3;have e4:w2.cell? ⟨wr.heap.size,4,none⟩=some (.complex .f64 A7 A8):=cell_of dv 4;have e5:w2.cell? ⟨wr.heap.size,5,none⟩=some (.int .i64 A9):=cell_of dv 5;have ah6:wr.heap.size<w2.heap.size:=lt_of_heap dv;clear r0 r1 r2 r3 r4 r5 XB XD yL mZ hb0 hb2
   go_wp2_with fail
   refine(HL.out _).mono ?_;rintro r' w3 ⟨rfl,rfl⟩
   go_wp2_with fail
   refine(XC.out _).mono ?_;rintro r' w3 ⟨rfl,rfl⟩;clear HL XC;cases bL<;>cases bR
   ·have cC:Hid (∃bs,BS w1 u5 bs ((Ps.take (k+1)).flatMap (fh r es)) w3/\bs.length<=k+1):=by
     have e1:fh r es p=[]:=by rw[Jd.out];simp
     rw[tz.out,e1,rA];exact⟨bs,gf.out,by omega⟩
    clear gf
    go_wp2_with fail
    go_roundg (gk-1)
    case measure=>omega
    case rel=>exact⟨k+1,by omega,by go_num,cC⟩
   ·go_wp2_with fail
    refine(Bf.out _).mono ?_;rintro r' w4 ⟨rfl,hb4⟩;have om:Hid (BS w1 u5 bs ((Ps.take k).flatMap (fh r es)) w4):=gf.out.keep hb4;have kP:=om.out.own;have hbz:=om.out.below.size;have hnb:((w4.alloc (.cells #[.complex .f64 N1 N2,.float .f64 N3,.complex .f64 A7 A8,.int .i64 A9,.complex .f64 A4 A5,.int .i64 A6,.bool false,.pointer none] 177)).alloc (.cells #[.pointer (some ⟨w4.heap.size,0,none⟩)] 175)).heap[w4.heap.size+1]?=some (.cells #[.pointer (some ⟨w4.heap.size,0,none⟩)] 175 (0,0)):=by
     have:=heap_alloc_new (w4.alloc (.cells #[.complex .f64 N1 N2,.float .f64 N3,.complex .f64 A7 A8,.int .i64 A9,.complex .f64 A4 A5,.int .i64 A6,.bool false,.pointer none] 177)) (.cells #[.pointer (some ⟨w4.heap.size,0,none⟩)] 175);simpa using this
    clear e0 e1 e2 e3 e4 e5 dv hb4 gf Bf
    go_wp2_with (at_builtin;refine wpList_append_lies _ rfl (.tmp 47) (.tmp 52) 133 rfl w1.heap.size 175 i0 _ 1 8 Tryz.underlying133 hi hz0 hz1 hz2 rfl (by decide) u5 bs.length (aG bs) rfl (aJ kP (fun k hk=>(Below.heap_alloc _ _ _ (by have:=(au kP k hk).2;simp;omega)).trans (Below.heap_alloc _ _ _ (au kP k hk).2))) ⟨w4.heap.size+1,0,none⟩ 1 1 [.pointer (some ⟨w4.heap.size,0,none⟩)] rfl rfl (World.news_of_block (cs:= #[.pointer (some ⟨w4.heap.size,0,none⟩)]) (t:=175) (fr:=(0,0)) hnb) (by simp[Value.oneCell']) (by decide) (by unfold maxLen;omega) (by omega) (by have:=hbz;simp;omega) (w4.heap.size+2) (by simp) ?_;intro g' cap' w8 cH aZ gA pY)
    have cC:Hid (∃bs',BS w1 (.slice (some ⟨g',0,none⟩) (bs.length+1) cap') bs' ((Ps.take (k+1)).flatMap (fh r es)) w8/\bs'.length<=k+1):=by
     have e1:fh r es p=[p.rev]:=by rw[Jd.out];simp
     rw[<-HSR.out] at aZ;rw[tz.out,e1];exact⟨bs++[w4.heap.size],om.out.snoc p.rev _ aZ cH gA,by rw[aS];simp;omega⟩
    clear aZ cH gA hnb kP om
    go_wp2_with fail
    go_roundg (gk-1)
    case measure=>omega
    case rel=>exact⟨k+1,by omega,by go_num,cC⟩
   ·have kP:=gf.out.own;have om:=gf;have hbz:=gf.out.below.size;have hnb:((w3.alloc (.cells #[.complex .f64 A1 A2,.float .f64 A3,.complex .f64 A4 A5,.int .i64 A6,.complex .f64 A7 A8,.int .i64 A9,.bool false,.pointer none] 177)).alloc (.cells #[.pointer (some ⟨w3.heap.size,0,none⟩)] 175)).heap[w3.heap.size+1]?=some (.cells #[.pointer (some ⟨w3.heap.size,0,none⟩)] 175 (0,0)):=by
     have:=heap_alloc_new (w3.alloc (.cells #[.complex .f64 A1 A2,.float .f64 A3,.complex .f64 A4 A5,.int .i64 A6,.complex .f64 A7 A8,.int .i64 A9,.bool false,.pointer none] 177)) (.cells #[.pointer (some ⟨w3.heap.size,0,none⟩)] 175);simpa using this
    clear gf Bf
    go_wp2_with (at_builtin;refine wpList_append_lies _ rfl (.tmp 36) (.tmp 40) 133 rfl w1.heap.size 175 i0 _ 1 8 Tryz.underlying133 hi hz0 hz1 hz2 rfl (by decide) u5 bs.length (aG bs) rfl (aJ kP (fun k hk=>(Below.heap_alloc _ _ _ (by have:=(au kP k hk).2;simp;omega)).trans (Below.heap_alloc _ _ _ (au kP k hk).2))) ⟨w3.heap.size+1,0,none⟩ 1 1 [.pointer (some ⟨w3.heap.size,0,none⟩)] rfl rfl (World.news_of_block (cs:= #[.pointer (some ⟨w3.heap.size,0,none⟩)]) (t:=175) (fr:=(0,0)) hnb) (by simp[Value.oneCell']) (by decide) (by unfold maxLen;omega) (by omega) (by have:=hbz;simp;omega) (w3.heap.size+2) (by simp) ?_;intro g' cap' w8 cH aZ gA pY)
    have cC:Hid (∃bs',BS w1 (.slice (some ⟨g',0,none⟩) (bs.length+1) cap') bs' ((Ps.take (k+1)).flatMap (fh r es)) w8/\bs'.length<=k+1):=by
     have e1:fh r es p=[p]:=by rw[Jd.out];simp
     rw[<-HSC.out] at aZ;rw[tz.out,e1];exact⟨bs++[w3.heap.size],om.out.snoc p _ aZ cH gA,by rw[aS];simp;omega⟩
    clear aZ cH gA hnb kP om
    go_wp2_with fail
    go_roundg (gk-1)
    case measure=>omega
    case rel=>exact⟨k+1,by omega,by go_num,cC⟩
   ·have cC:Hid (∃bs,BS w1 u5 bs ((Ps.take (k+1)).flatMap (fh r es)) w3/\bs.length<=k+1):=by
     have e1:fh r es p=[]:=by rw[Jd.out];simp
     rw[tz.out,e1,rA];exact⟨bs,gf.out,by omega⟩
    clear gf
    go_wp2_with fail
    go_roundg (gk-1)
    case measure=>omega
    case rel=>exact⟨k+1,by omega,by go_num,cC⟩
  ·have hk:k=Ps.length:=by omega
   subst hk;have h1:=yL.out;rw[dI] at h1;have HC:=XA.out _ bs _ h1 (by omega)
   have Eb:Hid (Calls Tryz.prog 108 #[u5,.func (.func 109) #[] #[]] wr fun e w'=>e=.returned (.tuple #[])/\Q u5 w'):=HC
   clear HC h1 yL XA NH Jc yK Jb
   go_wp2_with fail
   refine Eb.out.mono ?_;rintro e w5 ⟨rfl,hQ⟩;have HQ:Hid (Q u5 w5):=hQ;clear hQ Eb
   go_wp2_with fail
   go_ret
   exact⟨_,rfl,HQ.out⟩
structure iE(w:World)(b:Nat)(x:PB):Prop where
 c0:w.cell? ⟨b,0,none⟩=some (.complex .f64 x.wa x.wb)
 c1:w.cell? ⟨b,1,none⟩=some (.float .f64 x.sh)
 c2:w.cell? ⟨b,2,none⟩=some (.complex .f64 (floatOfInt .f64 x.f.1) (floatOfInt .f64 x.f.2.1))
 c3:w.cell? ⟨b,3,none⟩=some (.int .i64 x.f.2.2)
 c4:w.cell? ⟨b,4,none⟩=some (.complex .f64 (floatOfInt .f64 x.t.1) (floatOfInt .f64 x.t.2.1))
 c5:w.cell? ⟨b,5,none⟩=some (.int .i64 x.t.2.2)
theorem iE.of{w:World}{b:Nat}{x:PB}{wk:Bool}{ow:Option Addr}(h:w.heap[b]?=some (.cells (wL x wk ow) 177 (0,0))):iE w b x:=
 ⟨cell_of h 0,cell_of h 1,cell_of h 2,cell_of h 3,cell_of h 4,cell_of h 5⟩
theorem NN(x y:PB)(hx:cM x)(hy:cM y)(b c:Nat)(w:World)(h1:iE w b x)(h2:iE w c y):
  Calls Tryz.prog 109 #[.pointer (some ⟨b,0,none⟩),.pointer (some ⟨c,0,none⟩)] w fun r w'=>r=.returned (.int .i64 (aW x.f y.f))/\Below w.heap.size w w'/\w.drawn<=w'.drawn:=by
 have HC:Hid (∀w,Calls Tryz.prog 125 #[.agg #[.complex .f64 (floatOfInt .f64 x.f.1) (floatOfInt .f64 x.f.2.1),.int .i64 x.f.2.2],.agg #[.complex .f64 (floatOfInt .f64 y.f.1) (floatOfInt .f64 y.f.2.1),.int .i64 y.f.2.2]] w fun r w'=>r=.returned (.int .i64 (aW x.f y.f))/\Below w.heap.size w w'/\w.drawn<=w'.drawn):=fun w=>DA x.f y.f hx.f.az hy.f.az hx.cf hy.cf w
 have a2:=h1.c2;have a3:=h1.c3;have d2:=h2.c2;have d3:=h2.c3;clear h1 h2 hx hy;generalize floatOfInt .f64 x.f.1=X1 at*;generalize floatOfInt .f64 x.f.2.1=X2 at*;generalize floatOfInt .f64 y.f.1=Y1 at*;generalize floatOfInt .f64 y.f.2.1=Y2 at*;generalize aW x.f y.f=R at*;generalize x.f.2.2=X3 at*;generalize y.f.2.2=Y3 at*
 go_enter Tryz.func109,Tryz.ntmps109
 go_wp2_with fail
 have hzb:b<w.heap.size:=lt_of_cell a2;have lD:c<w.heap.size:=lt_of_cell d2
 go_region_held3 (fun w'=>w'.cell? ⟨b,2,none⟩=some (.complex .f64 X1 X2)/\w'.cell? ⟨b,3,none⟩=some (.int .i64 X3)/\w'.cell? ⟨c,2,none⟩=some (.complex .f64 Y1 Y2)/\w'.cell? ⟨c,3,none⟩=some (.int .i64 Y3)) (go_keep) (first
   |(go_at_call 125;refine(HC.out _).mono ?_;rintro e w5 ⟨rfl,ai,En⟩;have e0:=(ai.cell (p:=⟨b,2,none⟩) hzb).trans a2;have e1:=(ai.cell (p:=⟨b,3,none⟩) hzb).trans a3;have e2:=(ai.cell (p:=⟨c,2,none⟩) lD).trans d2;have e3:=(ai.cell (p:=⟨c,3,none⟩) lD).trans d3))
 all_goals
  have ag:Below w.heap.size w w5:=(Below.refl _ _).drew.trans ai;have HD:Hid (w.drawn<=w5.drawn):=dS (lO _) En;clear ai En
  go_wp2_with fail
  go_ret
  exact⟨rfl,ag,HD.out⟩
end Go.Proofs.YtkjhhooecopolaaGreatDoor
namespace Go.Proofs
open Go.Shelf
shelf_try shelf_lay_g SlLaysF.n14 Slsf 14 at Tryz 163 as Tryz.pdqSd
shelf_tried
end Go.Proofs
