import Derived.Test.YtkjhhooecopolaaGreatDoorZz22
import Derived.Test.YtkjhhooecopolaaGreatDoorProg
set_option maxRecDepth 100000
set_option maxHeartbeats 4000000
namespace Go.Proofs.YtkjhhooecopolaaGreatDoor.Ga
open Ge
theorem LV{n f t:N3}(hn:0<n.2.2)(hf:0<f.2.2)(hD:0<(wv f t).1)(k1:(wv n f).1<=0){u:Pt}(l:lam (wv f t) f u=0)(h:dt (wv f t) (rl f u)<=0):(rl n u).1<=0:=by
 have e1:dt (wv f t) (rl f u)*(wv f t).1=(rl f u).1*dt (wv f t) (wv f t):=by unfold lam cr at l;unfold dt;grind
 have p:=aN (z:=dt (wv f t) (rl f u)) hD;have q:=aN (z:=(rl f u).1) (dO (r:=wv f t) (jS (ae hD)));rw[dM] at p q;have e2:=(jR n f u).1;have r1:=aN (z:=(rl f u).1) hn;have r2:=aN (z:=(rl n u).1) hf;omega
theorem LW{n f t:N3}(hn:0<n.2.2)(ht:0<t.2.2)(hD:0<(wv f t).1)(k2:0<(wv n t).1){u:Pt}(l:lam (wv f t) t u=0)(h:0<=dt (wv f t) (rl t u)):0<(rl n u).1:=by
 have e1:dt (wv f t) (rl t u)*(wv f t).1=(rl t u).1*dt (wv f t) (wv f t):=by unfold lam cr at l;unfold dt;grind
 have p:=neg_mul (z:=dt (wv f t) (rl t u)) hD;have q:=neg_mul (z:=(rl t u).1) (dO (r:=wv f t) (jS (ae hD)));rw[dM] at p q;have e2:=(jR n t u).1;have r1:=neg_mul (z:=(rl t u).1) hn;have r2:=aN (z:=(rl n u).1) ht;omega
theorem aeY(q:N3)(D u v:Pt):fb q D v u= -fb q D u v:=by
 unfold fb;rw[vO];split
 ·rw[<-OW];congr 1
  grind
 ·rfl
theorem UZ{n:N3}{W Y S:Int}{D:Pt}(hs:D.1*S=D.2*W)(p:Pt):lam D (bC n W Y) p=D.1*(W*(rl n p).2-Y-S*(rl n p).1):=by
 unfold lam;rw[q8];unfold cr;simp only
 grind
theorem U0{n f t:N3}{W Y S:Int}(hn:0<n.2.2)(hf:0<f.2.2)(ht:0<t.2.2)(hZ:ZP n f t W Y S)(k1:(wv n f).1<=0)(k2:0<(wv n t).1){u v:Pt}(hS:ju f t (wv f t) u v)(hu:lI f t (wv f t) u)(hv:lI f t (wv f t) v)(h1:(rl n u).1<=0)(h2:0<(rl n v).1):
  fb (aW f t) (wv f t) u v=bb (decide (-cr (rl n u) (rl n v)*W=Y*((rl n v).1-(rl n u).1)/\((rl n v).2-(rl n u).2)*W=S*((rl n v).1-(rl n u).1))):=by
 have hr:aM (wv f t):=ae hZ.d;have hq:0<(aW f t).2.2:=by show 0<f.2.2+t.2.2;omega
 have zu:=UZ (n:=n) (Y:=Y) hZ.s u;have zv:=UZ (n:=n) (Y:=Y) hZ.s v;have eu:((rl n v).1-(rl n u).1)*(W*(rl n u).2-Y-S*(rl n u).1)= -(W*cr (rl n u) (rl n v)+Y*((rl n v).1-(rl n u).1))+(((rl n v).2-(rl n u).2)*W-S*((rl n v).1-(rl n u).1))*(rl n u).1:=by unfold cr;grind
 have ev:((rl n v).1-(rl n u).1)*(W*(rl n v).2-Y-S*(rl n v).1)= -(W*cr (rl n u) (rl n v)+Y*((rl n v).1-(rl n u).1))+(((rl n v).2-(rl n u).2)*W-S*((rl n v).1-(rl n u).1))*(rl n v).1:=by unfold cr;grind
 have pw:0<(rl n v).1-(rl n u).1:=by omega
 by_cases zx:lam (wv f t) f u=0/\lam (wv f t) f v=0
 ·obtain⟨l1,l2⟩:=zx;have A0:W*(rl n u).2-Y-S*(rl n u).1=0:=(dJ hZ.d).1 (zu.symm.trans ((hZ.lz u).1 l1));have B0:W*(rl n v).2-Y-S*(rl n v).1=0:=(dJ hZ.d).1 (zv.symm.trans ((hZ.lz v).1 l2));have pu:=place hf ht hr hu l1;have pv:=place hf ht hr hv l2;have pu':dt (wv f t) (rl (aW f t) u)<0:=by
   rcases pu with h|h
   ·exact h.2.1
   ·have:=LW hn ht hZ.d k2 ((oX hf ht hr u).2 l1) h.2.2;omega
  have pv':0<dt (wv f t) (rl (aW f t) v):=by
   rcases pv with h|h
   ·have:=LV hn hf hZ.d k1 l2 h.1;omega
   ·exact h.2.1
  have oq:=(um (jS hr) ((x9 hf ht hr u).2 l1) ((x9 hf ht hr v).2 l2)).2 (x8 (dB pu') (dB pv'));have JK:(aW f t).2.2*((wv f t).1*(v.1-u.1)+(wv f t).2*(v.2-u.2))=dt (wv f t) (rl (aW f t) v)-dt (wv f t) (rl (aW f t) u):=by
   unfold dt rl rel
   grind
  have s1:=aN (z:=(wv f t).1*(v.1-u.1)+(wv f t).2*(v.2-u.2)) hq;rw[JK] at s1;have sgn:((wv f t).1*(v.1-u.1)+(wv f t).2*(v.2-u.2)).sign=1:=nX (s1.1 (by omega))
  unfold fb;rw[oq,sgn];have hE:((rl n v).2-(rl n u).2)*W=S*((rl n v).1-(rl n u).1):=by grind
  have hC: -cr (rl n u) (rl n v)*W=Y*((rl n v).1-(rl n u).1):=by
   rw[A0] at eu;have e0:((rl n v).2-(rl n u).2)*W-S*((rl n v).1-(rl n u).1)=0:=by omega
   rw[e0] at eu;have e1: -cr (rl n u) (rl n v)*W= -(W*cr (rl n u) (rl n v)):=by grind
   rw[e1];omega
  rw[gD (And.intro hC hE)];rfl
 ·have o1:=JJ hf ht hr hS zx;unfold fb;rw[o1];have hno:¬(-cr (rl n u) (rl n v)*W=Y*((rl n v).1-(rl n u).1)/\((rl n v).2-(rl n u).2)*W=S*((rl n v).1-(rl n u).1)):=by
   rintro⟨hC,hE⟩;apply zx;have e0:((rl n v).2-(rl n u).2)*W-S*((rl n v).1-(rl n u).1)=0:=by omega
   have e1: -cr (rl n u) (rl n v)*W= -(W*cr (rl n u) (rl n v)):=by grind
   rw[e1] at hC;rw[e0] at eu ev;have A0:=(dJ (z:=W*(rl n u).2-Y-S*(rl n u).1) pw).1 (by omega)
   have B0:=(dJ (z:=W*(rl n v).2-Y-S*(rl n v).1) pw).1 (by omega)
   rw[A0] at zu;rw[B0] at zv;exact⟨(hZ.lz u).2 (by omega),(hZ.lz v).2 (by omega)⟩
  rw[kH hno];rfl
theorem ae1{n f t:N3}{W Y S:Int}(hn:0<n.2.2)(hf:0<f.2.2)(ht:0<t.2.2)(hZ:ZP n f t W Y S)(k1:(wv n f).1<=0)(k2:0<(wv n t).1){u v:Pt}(hS:ju f t (wv f t) u v)(hu:lI f t (wv f t) u)(hv:lI f t (wv f t) v)(h:¬((rl n u).1<=0/\0<(rl n v).1))(h':¬((rl n v).1<=0/\0<(rl n u).1)):
  fb (aW f t) (wv f t) u v=0:=by
 have hr:aM (wv f t):=ae hZ.d;have o1:on (rl (aW f t) u) (rl (aW f t) v)=false:=by
  by_cases zx:lam (wv f t) f u=0/\lam (wv f t) f v=0
  ·obtain⟨l1,l2⟩:=zx;have pu:=place hf ht hr hu l1;have pv:=place hf ht hr hv l2;cases ho:on (rl (aW f t) u) (rl (aW f t) v)
   ·rfl
   ·exfalso;have oq:=(um (jS hr) ((x9 hf ht hr u).2 l1) ((x9 hf ht hr v).2 l2)).1 ho;rcases pu with⟨x1,x2,x3⟩|⟨x1,x2,x3⟩<;>rcases pv with⟨y1,y2,y3⟩|⟨y1,y2,y3⟩
    ·exact Ay x2 y2 oq
    ·have a:=LV hn hf hZ.d k1 l1 x1;have b:=LW hn ht hZ.d k2 ((oX hf ht hr v).2 l2) y3;exact h ⟨a,b⟩
    ·have a:=LV hn hf hZ.d k1 l2 y1;have b:=LW hn ht hZ.d k2 ((oX hf ht hr u).2 l1) x3;exact h' ⟨a,b⟩
    ·exact ED x2 y2 oq
  ·exact JJ hf ht hr hS zx
 unfold fb;rw[o1];rfl
theorem Hg{F:Pt->Pt->Int}{n:N3}{p:Pt×Pt->Bool}:∀{es:List (Pt×Pt)},(∀e∈es,F e.1 e.2=if p e then wt n e else 0)->total F es=dF (wt n) p es
 |[],_=>rfl
 |e::l,h=>by rw[gb,pR,h e (by simp),Hg fun x hx=>h x (bo _ hx)]
theorem LX(es:List (Pt×Pt))(n:N3):PP es n=dF (wt n) (fun e=>decide (kY n e<0)) es:=by
 refine Hg fun e _=>?_
 unfold right wt kY;have:=bV (rl n e.1) (rl n e.2);by_cases h1:(rl n e.1).1<=0/\0<(rl n e.2).1
 ·rw[ah h1,ah h1];by_cases hc:0<cr (rl n e.1) (rl n e.2)
  ·rw[ah ⟨h1.1,h1.2,hc⟩,gD (by omega)];rfl
  ·rw[aa (by omega),aa (by omega),kH (by omega)];rfl
 ·by_cases h2:(rl n e.2).1<=0/\0<(rl n e.1).1
  ·rw[aa h1,ah h2,aa h1,ah h2,aa (by omega)]
   by_cases hc:cr (rl n e.1) (rl n e.2)<0
   ·rw[ah ⟨h2.2,h2.1,hc⟩,gD (by omega)];rfl
   ·rw[aa (by omega),kH (by omega)];rfl
  ·rw[aa h1,aa h2,aa h1,aa h2,aa (by omega),aa (by omega)]
   split<;>rfl
theorem U1(p:Bool):(if p then(1:Int) else 0)=bb p:=rfl
theorem U2{rg:List (List Pt)}{n f t:N3}{e0:Pt×Pt}(hn:0<n.2.2)(h:rZ (ag rg) f t)(hZ:ZP n f t (kW n e0) (kY n e0) (kS n e0))(k1:(wv n f).1<=0)(k2:0<(wv n t).1):
  RR (ag rg) f t=dF (wt n) (fun e=>aV n e e0) (ag rg)/\total (fb (aW f t) (wv f t)) (ag rg)=dF (wt n) (fun e=> !aV n e e0&& !aV n e0 e) (ag rg):=by
 have Hh:∀e,kS n e*kW n e0=kS n e0*kW n e/\kY n e*kW n e0=kY n e0*kW n e↔(!aV n e e0&& !aV n e0 e)=true:=fun e=>by
  unfold aV;simp only[oU,Jm,Jn];omega
 constructor
 ·rw[aeX hn h hZ];unfold PP;rw[<-Ex];refine Hg fun e _=>?_
  by_cases h1:(rl n e.1).1<=0/\0<(rl n e.2).1
  ·rw[UR hZ.w hZ.d hZ.s h1.1 h1.2];unfold wt;rw[ah h1,U1];congr 1;unfold aV;have a:kY n e= -cr (rl n e.1) (rl n e.2):=ah h1;have b:kW n e=(rl n e.2).1-(rl n e.1).1:=ah h1;have c:kS n e=(rl n e.2).2-(rl n e.1).2:=ah h1;rw[a,b,c]
  ·by_cases h2:(rl n e.2).1<=0/\0<(rl n e.1).1
   ·have g:=UR (Y:=kY n e0) hZ.w hZ.d hZ.s h2.1 h2.2;rw[Jx (rl (bC n (kW n e0) (kY n e0)) e.1),aeQ] at g;have a:kY n e= -cr (rl n e.2) (rl n e.1):=(aa h1).trans (ah h2);have b:kW n e=(rl n e.1).1-(rl n e.2).1:=(aa h1).trans (ah h2);have c:kS n e=(rl n e.1).2-(rl n e.2).2:=(aa h1).trans (ah h2);rw[<-a,<-b,<-c] at g;have hw:wt n e= -1:=(aa h1).trans (ah h2);rw[hw];have g': -(right (rl (bC n (kW n e0) (kY n e0)) e.1) (rl (bC n (kW n e0) (kY n e0)) e.2)+cA (bC n (kW n e0) (kY n e0)) (wv f t) e.1 e.2)=bb (aV n e e0):=by
     rw[<-show _=bb (aV n e e0) from g]
     omega
    cases hk:aV n e e0<;>rw[hk] at g'<;>unfold bb at g'<;>simp at g'⊢ <;>omega
   ·have hw:wt n e=0:=(aa h1).trans (aa h2);rw[aeR hZ.w h1 h2,hw];split<;>rfl
 ·refine Hg fun e he=>?_
  by_cases h1:(rl n e.1).1<=0/\0<(rl n e.2).1
  ·rw[U0 hn h.pf h.pt hZ k1 k2 (h.s e he) (h.c e he).1 (h.c e he).2 h1.1 h1.2];have hw:wt n e=1:=ah h1;have a:kY n e= -cr (rl n e.1) (rl n e.2):=ah h1;have b:kW n e=(rl n e.2).1-(rl n e.1).1:=ah h1;have c:kS n e=(rl n e.2).2-(rl n e.1).2:=ah h1;have k:=Hh e;rw[a,b,c] at k;rw[hw,U1];congr 1;refine l8.2 (Iff.trans ?_ k);rw[qp];exact And.comm
  ·by_cases h2:(rl n e.2).1<=0/\0<(rl n e.1).1
   ·have g:=U0 hn h.pf h.pt hZ k1 k2 (u:=e.2) (v:=e.1) (by
      have:=h.s e he;refine⟨fun x y z=>?_,fun x y z=>?_⟩
      ·have:=this.2 x y z;rw[bV (rl f e.1) (rl f e.2),bV (rl t e.1) (rl t e.2)];omega
      ·have:=this.1 x y z;rw[bV (rl f e.1) (rl f e.2),bV (rl t e.1) (rl t e.2)];omega) (h.c e he).2 (h.c e he).1 h2.1 h2.2
    rw[aeY] at g;have hw:wt n e= -1:=(aa h1).trans (ah h2);have a:kY n e= -cr (rl n e.2) (rl n e.1):=(aa h1).trans (ah h2);have b:kW n e=(rl n e.1).1-(rl n e.2).1:=(aa h1).trans (ah h2);have c:kS n e=(rl n e.1).2-(rl n e.2).2:=(aa h1).trans (ah h2);have k:=Hh e;rw[<-a,<-b,<-c] at g;have k':decide (kY n e*kW n e0=kY n e0*kW n e/\kS n e*kW n e0=kS n e0*kW n e)=(!aV n e e0&& !aV n e0 e):=by
     refine l8.2 (Iff.trans ?_ k);rw[qp];exact And.comm
    rw[k'] at g;rw[hw];cases hk:(!aV n e e0&& !aV n e0 e)<;>rw[hk] at g<;>unfold bb at g<;>simp at g⊢ <;>omega
   ·have hw:wt n e=0:=(aa h1).trans (aa h2);rw[ae1 hn h.pf h.pt hZ k1 k2 (h.s e he) (h.c e he).1 (h.c e he).2 h1 h2,hw];split<;>rfl
theorem ae2{rg:List (List Pt)}{l:List Nd}(hN:bK (ag rg) l){aF:Int->Bool}(h0:aF 0=false){n:Nd}(hn:n∈l)(h:aF (PP (ag rg) n)=true):
  ∃f t,Sd (ag rg) l aF f t/\(wv n f).1<=0/\0<(wv n t).1/\0<cr (wv f t) (wv f n):=by
 have cn:=hN.can n hn;rw[LX] at h;obtain⟨e0,GZ,hT,hb,ha⟩:=UQ (zr n) (CR n) (zw n) (wt n) aF h0 (ag rg) _ (fun e=>decide (kY n e<0)) (fun x y hy hyx=>by
   have hy':=fO hy;refine gD ?_;have alA:¬_:=fun k=>by rw[zq.2 k] at hyx;cases hyx
   have px:=qZ n x;have py:=qZ n y;have q1:=(neg_mul (z:=kY n y) px).2 hy';have q2:=neg_mul (z:=kY n x) py;rw[dM] at q1 q2;exact q2.1 (by omega)) (ax _) h
 have hT':=fO hT;obtain⟨a,b,hab,h1,h2,hW,hY,hS⟩:∃a b,((a=e0.1/\b=e0.2)\/(a=e0.2/\b=e0.1))/\(rl n a).1<=0/\0<(rl n b).1/\kW n e0=(rl n b).1-(rl n a).1/\kY n e0= -cr (rl n a) (rl n b)/\kS n e0=(rl n b).2-(rl n a).2:=by
  by_cases k1:(rl n e0.1).1<=0/\0<(rl n e0.2).1
  ·exact⟨e0.1,e0.2,ae ⟨rfl,rfl⟩,k1.1,k1.2,ah k1,ah k1,ah k1⟩
  ·by_cases k2:(rl n e0.2).1<=0/\0<(rl n e0.1).1
   ·exact⟨e0.2,e0.1,af ⟨rfl,rfl⟩,k2.1,k2.2,(aa k1).trans (ah k2),(aa k1).trans (ah k2),(aa k1).trans (ah k2)⟩
   ·exfalso;have:kY n e0=0:=(aa k1).trans (aa k2);omega
 obtain⟨f,t,hpc,k1,k2,hD,la,lb⟩:=UU hN hn GZ hab h1 h2;have hP:=hpc.nB hN;have hZ:=UW cn.pos hP.pf hP.pt h1 h2 k1 k2 hD la lb;rw[<-hW,<-hY,<-hS] at hZ;obtain⟨r1,r2⟩:=U2 cn.pos hP hZ k1 k2;refine⟨f,t,ae ⟨hpc,?_,?_⟩,k1,k2,?_⟩
 ·unfold LL;have:PP (ag rg) (aW f t)=RR (ag rg) f t:=rfl;rw[this,r1,r2];exact ha
 ·rw[r1];exact hb
 ·have q9:0<(bC n (kW n e0) (kY n e0)).2.2:=aR cn.pos hZ.w;obtain⟨m1,m2⟩:=He (bC n (kW n e0) (kY n e0)) f n;have c0:cr (wv f t) (wv (bC n (kW n e0) (kY n e0)) f)=0:=by
   have:cr (wv f t) (wv f (bC n (kW n e0) (kY n e0)))=0:=by
    rcases hZ.zf with k|k
    ·rw[k];exact(xZ _).2.1
    ·exact Pn k
   rw[dS f,fh];omega
  have ezn:wv (bC n (kW n e0) (kY n e0)) n=(0, -(n.2.2*kY n e0)):=by
   unfold wv bC;exact dC (by simp only;grind) (by simp only;grind)
  have hpos:0<cr (wv f t) (wv (bC n (kW n e0) (kY n e0)) n):=by
   rw[ezn];unfold cr;simp only;have:=(neg_mul (z:=kY n e0) cn.pos).2 hT';have:=aR hD (show 0< -(n.2.2*kY n e0) by omega)
   omega
  have e:(bC n (kW n e0) (kY n e0)).2.2*cr (wv f t) (wv f n)=f.2.2*cr (wv f t) (wv (bC n (kW n e0) (kY n e0)) n)-n.2.2*cr (wv f t) (wv (bC n (kW n e0) (kY n e0)) f):=by
   have:(bC n (kW n e0) (kY n e0)).2.2*cr (wv f t) (wv f n)=(wv f t).1*((bC n (kW n e0) (kY n e0)).2.2*(wv f n).2)-(wv f t).2*((bC n (kW n e0) (kY n e0)).2.2*(wv f n).1):=by unfold cr;grind
   rw[this,m1,m2];unfold cr
   grind
  rw[c0] at e;have:=aR hP.pf hpos;exact(aN q9).1 (by omega)
end Go.Proofs.YtkjhhooecopolaaGreatDoor.Ga
namespace Go.Proofs.YtkjhhooecopolaaGreatDoor
open Go.RowKit
def uT(x:PB)(wk:Bool)(ow:Option Addr):Array Value:=(x.cells++[Value.bool wk,Value.pointer ow]).toArray
def aK(bs:List Nat):List Value:=bs.map fun b=>.pointer (some ⟨b,0,none⟩)
theorem ae4{w:World}{v:Value}{l:List PB}(h:pM w v l):∃so cap,v=.slice so l.length cap:=by
 rcases h.2 with⟨hv,h0⟩|⟨b,cap,cur,hv,_⟩
 ·exact⟨none,0,by rw[hv,h0]⟩
 ·exact⟨_,cap,hv⟩
theorem ae5{w:World}{so:Option Addr}{n cap:Nat}{l:List PB}(h:pM w (.slice so n cap) l){k:Nat}{x:PB}(he:l[k]?=some x):
  ∃b,so=some ⟨b,0,none⟩/\b<w.heap.size/\w.cell? ⟨b,k*6,none⟩=some (.complex .f64 x.wa x.wb)/\w.cell? ⟨b,k*6+1,none⟩=some (.float .f64 x.sh)/\w.cell? ⟨b,k*6+2,none⟩=some (.complex .f64 (floatOfInt .f64 x.f.1) (floatOfInt .f64 x.f.2.1))/\w.cell? ⟨b,k*6+3,none⟩=some (.int .i64 x.f.2.2)/\w.cell? ⟨b,k*6+4,none⟩=some (.complex .f64 (floatOfInt .f64 x.t.1) (floatOfInt .f64 x.t.2.1))/\w.cell? ⟨b,k*6+5,none⟩=some (.int .i64 x.t.2.2):=by
 have g:=GQ l k x he;obtain⟨b,c,hv,hb,hc⟩:=Fg h (g 0 (by omega))
 injection hv with hv;exact⟨b,hv,hb,hc _ _ (g 0 (by omega)),hc _ _ (g 1 (by omega)),hc _ _ (g 2 (by omega)),hc _ _ (g 3 (by omega)),hc _ _ (g 4 (by omega)),hc _ _ (g 5 (by omega))⟩
structure BS(w:World)(lv:Value)(bs:List Nat)(Xs:List PB)(wr:World):Prop where
 own:wr.ownsRow w.heap.size 175 1 lv bs.length (aK bs)
 len:bs.length=Xs.length
 lies:∀(i:Nat) b x,bs[i]?=some b->Xs[i]?=some x->w.heap.size<=b/\wr.heap[b]?=some (.cells (uT x false none) 177 (0,0))
 ne:∀b∈bs,lv.ownBlock≠some b
 nd:bs.Nodup
 below:Below w.heap.size w wr
theorem BS.keep{w:World}{lv:Value}{bs:List Nat}{Xs:List PB}{wr w':World}(h:BS w lv bs Xs wr)(hb:Below wr.heap.size wr w'):BS w lv bs Xs w':=
 ⟨aO h.own fun k hk=>hb.block k (aB h.own k hk).2,h.len,fun i b x h1 h2=>⟨(h.lies i b x h1 h2).1,(hb.block _ (lt_of_heap (h.lies i b x h1 h2).2)).trans (h.lies i b x h1 h2).2⟩,h.ne,h.nd,h.below.trans (hb.mono h.below.size)⟩
theorem BS.lt{w:World}{lv:Value}{bs:List Nat}{Xs:List PB}{wr:World}(h:BS w lv bs Xs wr){b:Nat}(hb:b∈bs):b<wr.heap.size:=by
 obtain⟨i,hi,rfl⟩:=jL.1 hb;have hx:i<Xs.length:=by rw[<-h.len];exact hi
 exact lt_of_heap (h.lies i _ _ (aD hi) (aD hx)).2
theorem BS.snoc{w:World}{lv:Value}{bs:List Nat}{Xs:List PB}{wr:World}(h:BS w lv bs Xs wr)(x:PB)(o:Obj){g cap:Nat}{w8:World}
  (bf:((wr.alloc (.cells (uT x false none) 177)).alloc o).grownBy w8 lv.ownBlock)
  (cD:w8.ownsRow w.heap.size 175 1 (.slice (some ⟨g,0,none⟩) (bs.length+1) cap) (bs.length+1) (aK bs++[.pointer (some ⟨wr.heap.size,0,none⟩)]))
  (hat:lv.ownBlock=some g\/g=wr.heap.size+2):BS w (.slice (some ⟨g,0,none⟩) (bs.length+1) cap) (bs++[wr.heap.size]) (Xs++[x]) w8:=by
 have hsz:((wr.alloc (.cells (uT x false none) 177)).alloc o).heap.size=wr.heap.size+2:=by simp
 have hsz1:(wr.alloc (.cells (uT x false none) 177)).heap.size=wr.heap.size+1:=by simp
 have hown:∀k,lv.ownBlock=some k->k<wr.heap.size:=fun k hk=>(aB h.own k hk).2
 have hold:∀b,b<wr.heap.size->lv.ownBlock≠some b->w8.heap[b]?=wr.heap[b]?:=fun b hb hne=>
  (bf.block b (by omega) (fun e=>hne e.symm)).trans ((Below.heap_alloc _ _ _ (by omega)).trans (Below.heap_alloc _ _ _ hb))
 refine⟨?_,by rw[aT,aT,h.len];rfl,fun i b y h1 h2=>?_,fun b hb=>?_,?_,?_⟩
 ·have e:aK (bs++[wr.heap.size])=aK bs++[.pointer (some ⟨wr.heap.size,0,none⟩)]:=by simp[aK]
  rw[e,aT];exact cD
 ·by_cases hi:i<bs.length
  ·rw[eG hi] at h1;rw[eG (by rw[<-h.len];exact hi)] at h2
   obtain⟨k1,k2⟩:=h.lies i b y h1 h2;exact⟨k1,(hold b (lt_of_heap k2) (h.ne b (bh h1))).trans k2⟩
  ·have hi2:i=bs.length:=by
    have:=(bU.1 h1).1;simp at this;omega
   subst hi2;have e1:b=wr.heap.size:=by simpa using h1.symm
   have e2:y=x:=by rw[h.len] at h2;simpa using h2.symm
   subst e1 e2;refine⟨h.below.size,(bf.block _ (by omega) (fun e=>ZB _ (hown _ e.symm))).trans ((Below.heap_alloc _ _ _ (by omega)).trans (heap_alloc_new _ _))⟩
 ·intro he;have he':g=b:=by simpa[Value.ownBlock] using he
  subst he';rcases bT.1 hb with hb|hb
  ·rcases hat with hat|hat
   ·exact h.ne g hb hat
   ·have:=h.lt hb;omega
  ·rw[bI] at hb;rcases hat with hat|hat
   ·have:=hown g hat;omega
   ·omega
 ·rw[Jr];refine⟨h.nd,by simp,fun a ha b hb=>?_⟩
  rw[bI.1 hb];have:=h.lt ha;omega
 ·exact((h.below.alloc h.below.size _).alloc (by have:=h.below.size;omega) _).grown bf (by have:=h.below.size;omega) (fun k hk=>(aB h.own k hk).1)
theorem U3:∀{m:List Ge.Nd},m.Pairwise (fun a b=>Ge.lt (Ge.au a) (Ge.au b))->∀{q:Ge.Nd×Ge.Nd},q∈Ge.nexts m->Ge.lt (Ge.au q.1) (Ge.au q.2)
 |[],_,_,h=>by simp[Ge.nexts] at h
 |[_],_,_,h=>by simp[Ge.nexts] at h
 |a::b::r,hp,q,h=>by
  rcases aP.1 h with h|h
  ·rw[h];exact(fE.1 hp).1 b (by simp)
  ·exact U3 (fE.1 hp).2 h
theorem ae6{es:List Ed}{l:List Ge.Nd}(hl:l.map Ge.au=Ge.eO es)(e:Ed):(Ge.held e l).Pairwise (fun a b=>Ge.lt (Ge.au a) (Ge.au b)):=by
 have ha:Ge.qJ (l.map Ge.au):=by rw[hl];exact(Ge.BF es).2.1
 exact ZJ _ (lZ.1 ha)
theorem Hi{es:List Ed}{l:List Ge.Nd}{Ps:List PB}(h:mH es l Ps)(hl:l.map Ge.au=Ge.eO es)(p:PB)(hp:p∈Ps):Ge.lt (Ge.au p.f) (Ge.au p.t):=by
 obtain⟨e,he⟩:=h.ap.mem p hp;have hq:=he.2.2;have hh:=ae6 hl e;generalize Ge.held e l=H at*;have k:=U3 hh hq;exact k
def eB(r:Int)(es:List Ed)(p:PB):List PB:=
 if Ge.takes r (oH es p.f p.t)=true/\Ge.takes r (mI es p.f p.t)=false then[p]
 else if Ge.takes r (mI es p.f p.t)=true/\Ge.takes r (oH es p.f p.t)=false then[p.rev] else[]
theorem xe:(Tryz.prog.info? 175).map (fun i=>(i.zero,i.size,i.bytes))=some (some (.pointer none),1,8):=by kernel_rfl
theorem ae7(es:List Ed)(r:Int)(v:Value)(w:World)(hR:fG w v es)(hl:es.length<=402)(hs:∀e∈es,dU e)(hne:∀e∈es,e.1≠e.2)
  (Q:Value->World->Prop)
  (HS:Hid (∀Ps l,l.map Ge.au=Ge.eO es->(∀n∈l,Ge.Can n)->mH es l Ps->∀w1 lv bs wr,Below w.heap.size w w1->BS w1 lv bs (Ps.flatMap (eB r es)) wr->bs.length<=85000000->Calls Tryz.prog 108 #[lv,.func (.func 109) #[] #[]] wr fun e w'=>e=.returned (.tuple #[])/\Q lv w')):
  Calls Tryz.prog 68 #[v,.int .u8 r] w fun e w'=>∃lv,e=.returned lv/\Q lv w':=by
 obtain⟨so,cap,rfl⟩:=Bg hR;obtain⟨i0,hi,hz0,hz1,hz2⟩:=info_parts xe;have HP:Hid (Calls Tryz.prog 104 #[.slice so es.length cap] w fun r w'=>∃v' Ps,r=.returned v'/\pM w' v' Ps/\Below w.heap.size w w'/\Ps.length<=85000000/\∃l,l.map Ge.au=Ge.eO es/\(∀n∈l,Ge.Can n)/\mH es l Ps):=aeo es _ w hR hl hs
 have HR:Hid (fG w (.slice so es.length cap) es):=hR;have Hj:Hid (∀t w,Calls Tryz.prog 106 #[.int .u8 r,.int .i64 t] w fun e w'=>e=.returned (.bool (Ge.takes r t))/\w'=w):=fun t w=>ac3 r t w
 go_enter Tryz.func68,Tryz.ntmps68
 go_wp2_with fail
 refine HP.out.mono ?_;rintro r' w1 ⟨pv,Ps,rfl,LY,hb1,uU,l,jX,jo,pS⟩;obtain⟨ps,pc,rfl⟩:=ae4 LY;have U4:Hid (pM w1 (.slice ps Ps.length pc) Ps):=LY;have xf:Hid (fG w1 (.slice so es.length cap) es):=Le HR.out hb1;have LZ:Hid (∀p∈Ps,∀v w,fG w v es->Calls Tryz.prog 105 #[.agg p.cells.toArray,v] w fun r w'=>r=.returned (.tuple #[.int .i64 (oH es p.f p.t),.int .i64 (mI es p.f p.t)])/\Below w.heap.size w w'):=fun p hp=>aeu p es l hne (pS.v p hp) (Hi pS jX p hp) (pS.ap.mem p hp) hl hs
 have U5:=HS.out Ps l jX jo pS w1;have U6:Hid (∀lv bs wr,BS w1 lv bs (Ps.flatMap (eB r es)) wr->bs.length<=85000000->Calls Tryz.prog 108 #[lv,.func (.func 109) #[] #[]] wr fun e w'=>e=.returned (.tuple #[])/\Q lv w'):=fun lv bs wr h1 h2=>U5 lv bs wr hb1 h1 h2
 clear U5 HS pS jo jX LY HP HR hR hs hne;have bH:Hid (∃bs,BS w1 (.slice none 0 0) bs ((Ps.take 0).flatMap (eB r es)) w1/\bs.length<=0):=⟨[],⟨World.ownsRow_nil _ _ _ _,by simp,fun i b x h=>by simp at h,fun b h=>by simp at h,by simp,Below.refl _ _⟩,by simp⟩
 go_wp2_with fail
 go_loopg [5,15] Ps.length (fun m lv iv wr=>∃k:Nat,k+m=Ps.length/\iv=.int .i64 k/\Hid (∃bs,BS w1 lv bs ((Ps.take k).flatMap (eB r es)) wr/\bs.length<=k))
 case atStart=>exact⟨0,by omega,rfl,bH⟩
 case round=>
  obtain⟨k,hkn,rfl,HE⟩:=hrel;clear bH;obtain⟨bs,jb,hbl⟩:=HE.out;have xg:Hid (BS w1 u5 bs ((Ps.take k).flatMap (eB r es)) wr):=jb;clear HE;by_cases hlt:k<Ps.length
  ·obtain⟨p,hpk⟩:∃p,Ps[k]?=some p:=⟨_,aD hlt⟩;obtain⟨b,rfl,hb,c0,c1,c2,c3,c4,c5⟩:=ae5 U4.out hpk;have aj:=jb.below;have r0:=(aj.cell (p:=⟨b,k*6,none⟩) hb).trans c0;have r1:=(aj.cell (p:=⟨b,k*6+1,none⟩) hb).trans c1;have r2:=(aj.cell (p:=⟨b,k*6+2,none⟩) hb).trans c2;have r3:=(aj.cell (p:=⟨b,k*6+3,none⟩) hb).trans c3;have r4:=(aj.cell (p:=⟨b,k*6+4,none⟩) hb).trans c4;have r5:=(aj.cell (p:=⟨b,k*6+5,none⟩) hb).trans c5;have hbr:b<wr.heap.size:=aZ hb aj.size;have ez:(k:Int)<(Ps.length:Int):=by omega
   have L3:=LZ.out p (bh hpk);have zy:Hid (∀w,Calls Tryz.prog 107 #[.agg p.cells.toArray] w fun e w'=>e=.returned (.agg p.rev.cells.toArray)/\Below w.heap.size w w'):=fun w=>adv p w
   have Hk:Hid ((Ps.take (k+1)).flatMap (eB r es)=(Ps.take k).flatMap (eB r es)++eB r es p):=by
    have htk:Ps.take (k+1)=Ps.take k++[p]:=by rw[jh,hpk];rfl
    show(Ps.take (k+1)).flatMap (eB r es)=_;rw[htk,ZL,vw,Y9,qg]
   have Hl:Hid (eB r es p=if Ge.takes r (oH es p.f p.t)=true/\Ge.takes r (mI es p.f p.t)=false then[p] else if Ge.takes r (mI es p.f p.t)=true/\Ge.takes r (oH es p.f p.t)=false then[p.rev] else[]):=rfl
   have L4:=Hj.out (oH es p.f p.t);have Cz:=Hj.out (mI es p.f p.t);clear c0 c1 c2 c3 c4 c5 hpk jb;generalize oH es p.f p.t=TL at*;generalize mI es p.f p.t=TR at*;have rf:Hid (p.cells=[.complex .f64 p.wa p.wb,.float .f64 p.sh,.complex .f64 (floatOfInt .f64 p.f.1) (floatOfInt .f64 p.f.2.1),.int .i64 p.f.2.2,.complex .f64 (floatOfInt .f64 p.t.1) (floatOfInt .f64 p.t.2.1),.int .i64 p.t.2.2]):=rfl;have L5:Hid (p.rev.cells=[.complex .f64 (Op.negFloat .f64 p.wa) (Op.negFloat .f64 p.wb),.float .f64 (Op.negFloat .f64 p.sh),.complex .f64 (floatOfInt .f64 p.t.1) (floatOfInt .f64 p.t.2.1),.int .i64 p.t.2.2,.complex .f64 (floatOfInt .f64 p.f.1) (floatOfInt .f64 p.f.2.1),.int .i64 p.f.2.2]):=rfl;have Hm:=zy.out;rw[rf.out] at L3 Hm;rw[L5.out] at Hm;clear zy;generalize Op.negFloat .f64 p.wa=N1 at*;generalize Op.negFloat .f64 p.wb=N2 at*;generalize Op.negFloat .f64 p.sh=N3 at*;generalize p.wa=A1 at*;generalize p.wb=A2 at*;generalize p.sh=A3 at*;generalize floatOfInt .f64 p.f.1=A4 at*;generalize floatOfInt .f64 p.f.2.1=A5 at*;generalize p.f.2.2=A6 at*;generalize floatOfInt .f64 p.t.1=A7 at*;generalize floatOfInt .f64 p.t.2.1=A8 at*;generalize p.t.2.2=A9 at*;have U7:Hid (∀v w,fG w v es->Calls Tryz.prog 105 #[.agg #[.complex .f64 A1 A2,.float .f64 A3,.complex .f64 A4 A5,.int .i64 A6,.complex .f64 A7 A8,.int .i64 A9],v] w fun r w'=>r=.returned (.tuple #[.int .i64 TL,.int .i64 TR])/\Below w.heap.size w w'):=L3
   have zy:Hid (∀w,Calls Tryz.prog 107 #[.agg #[.complex .f64 A1 A2,.float .f64 A3,.complex .f64 A4 A5,.int .i64 A6,.complex .f64 A7 A8,.int .i64 A9]] w fun e w'=>e=.returned (.agg #[.complex .f64 N1 N2,.float .f64 N3,.complex .f64 A7 A8,.int .i64 A9,.complex .f64 A4 A5,.int .i64 A6])/\Below w.heap.size w w'):=Hm
   have HSC:Hid (uT p false none= #[.complex .f64 A1 A2,.float .f64 A3,.complex .f64 A4 A5,.int .i64 A6,.complex .f64 A7 A8,.int .i64 A9,.bool false,.pointer none]):=by
    show(p.cells++[Value.bool false,Value.pointer none]).toArray=_;rw[rf.out];rfl
   have HSR:Hid (uT p.rev false none= #[.complex .f64 N1 N2,.float .f64 N3,.complex .f64 A7 A8,.int .i64 A9,.complex .f64 A4 A5,.int .i64 A6,.bool false,.pointer none]):=by
    show(p.rev.cells++[Value.bool false,Value.pointer none]).toArray=_;rw[L5.out];rfl
   have HL:Hid (∀w,Calls Tryz.prog 106 #[.int .u8 r,.int .i64 TL] w fun e w'=>e=.returned (.bool (Ge.takes r TL))/\w'=w):=L4
   have U8:Hid (∀w,Calls Tryz.prog 106 #[.int .u8 r,.int .i64 TR] w fun e w'=>e=.returned (.bool (Ge.takes r TR))/\w'=w):=Cz
   have hb0:Below wr.heap.size wr (wr.alloc (.cells #[.complex .f64 A1 A2,.float .f64 A3,.complex .f64 A4 A5,.int .i64 A6,.complex .f64 A7 A8,.int .i64 A9] 171)):=(Below.refl _ _).alloc (ax _) _;have mn:=heap_alloc_new wr (.cells #[.complex .f64 A1 A2,.float .f64 A3,.complex .f64 A4 A5,.int .i64 A6,.complex .f64 A7 A8,.int .i64 A9] 171);have hz0':wr.heap.size<(wr.alloc (.cells #[.complex .f64 A1 A2,.float .f64 A3,.complex .f64 A4 A5,.int .i64 A6,.complex .f64 A7 A8,.int .i64 A9] 171)).heap.size:=by simp
   have U9:Hid (fG (wr.alloc (.cells #[.complex .f64 A1 A2,.float .f64 A3,.complex .f64 A4 A5,.int .i64 A6,.complex .f64 A7 A8,.int .i64 A9] 171)) (.slice so es.length cap) es):=Le xf.out (aj.alloc aj.size _);clear L3 Hm L4 Cz rf L5 Hj LZ;generalize Ge.takes r TL=bL at*;generalize Ge.takes r TR=bR at*
   go_wp2_with (simp only[eK,lO];go_simp)
   generalize wr.alloc (.cells #[.complex .f64 A1 A2,.float .f64 A3,.complex .f64 A4 A5,.int .i64 A6,.complex .f64 A7 A8,.int .i64 A9] 171)=W0 at*;refine(U7.out _ _ U9.out).mono ?_;rintro r' w2 ⟨rfl,hb2⟩;have df:=(hb2.block _ hz0').trans mn;have L6:Below wr.heap.size wr w2:=hb0.trans (hb2.mono (dN hz0'));have ie:Hid (BS w1 u5 bs ((Ps.take k).flatMap (eB r es)) w2):=xg.out.keep L6;have e0:w2.cell? ⟨wr.heap.size,0,none⟩=some (.complex .f64 A1 A2):=cell_of df 0;have e1:w2.cell? ⟨wr.heap.size,1,none⟩=some (.float .f64 A3):=cell_of df 1;have e2:w2.cell? ⟨wr.heap.size,2,none⟩=some (.complex .f64 A4 A5):=cell_of df 2;have e3:w2.cell? ⟨wr.heap.size,3,none⟩=some (.int .i64 A6):=cell_of df 3;have e4:w2.cell? ⟨wr.heap.size,4,none⟩=some (.complex .f64 A7 A8):=cell_of df 4;have e5:w2.cell? ⟨wr.heap.size,5,none⟩=some (.int .i64 A9):=cell_of df 5;have afa:wr.heap.size<w2.heap.size:=lt_of_heap df;clear r0 r1 r2 r3 r4 r5 U7 U9 xg mn hb0 hb2
   go_wp2_with fail
   refine(HL.out _).mono ?_;rintro r' w3 ⟨rfl,rfl⟩
   go_wp2_with fail
   refine(U8.out _).mono ?_;rintro r' w3 ⟨rfl,rfl⟩;clear HL U8;cases bL<;>cases bR
   ·have bW:Hid (∃bs,BS w1 u5 bs ((Ps.take (k+1)).flatMap (eB r es)) w3/\bs.length<=k+1):=by
     have e1:eB r es p=[]:=by rw[Hl.out];simp
     rw[Hk.out,e1,qg];exact⟨bs,ie.out,by omega⟩
    clear ie
    go_wp2_with fail
    go_roundg (gk-1)
    case measure=>omega
    case rel=>exact⟨k+1,by omega,by go_num,bW⟩
   ·go_wp2_with fail
    refine(zy.out _).mono ?_;rintro r' w4 ⟨rfl,hb4⟩;have rh:Hid (BS w1 u5 bs ((Ps.take k).flatMap (eB r es)) w4):=ie.out.keep hb4;have jY:=rh.out.own;have hbz:=rh.out.below.size;have hnb:((w4.alloc (.cells #[.complex .f64 N1 N2,.float .f64 N3,.complex .f64 A7 A8,.int .i64 A9,.complex .f64 A4 A5,.int .i64 A6,.bool false,.pointer none] 177)).alloc (.cells #[.pointer (some ⟨w4.heap.size,0,none⟩)] 175)).heap[w4.heap.size+1]?=some (.cells #[.pointer (some ⟨w4.heap.size,0,none⟩)] 175 (0,0)):=by
     have:=heap_alloc_new (w4.alloc (.cells #[.complex .f64 N1 N2,.float .f64 N3,.complex .f64 A7 A8,.int .i64 A9,.complex .f64 A4 A5,.int .i64 A6,.bool false,.pointer none] 177)) (.cells #[.pointer (some ⟨w4.heap.size,0,none⟩)] 175);simpa using this
    clear e0 e1 e2 e3 e4 e5 df hb4 ie zy
    go_wp2_with (at_builtin;refine wpList_append_lies _ rfl (.tmp 47) (.tmp 52) 133 rfl w1.heap.size 175 i0 _ 1 8 Tryz.underlying133 hi hz0 hz1 hz2 rfl (by decide) u5 bs.length (aK bs) rfl (aO jY (fun k hk=>(Below.heap_alloc _ _ _ (by have:=(aB jY k hk).2;simp;omega)).trans (Below.heap_alloc _ _ _ (aB jY k hk).2))) ⟨w4.heap.size+1,0,none⟩ 1 1 [.pointer (some ⟨w4.heap.size,0,none⟩)] rfl rfl (World.news_of_block (cs:= #[.pointer (some ⟨w4.heap.size,0,none⟩)]) (t:=175) (fr:=(0,0)) hnb) (by simp[Value.oneCell']) (by decide) (by unfold maxLen;omega) (by omega) (by have:=hbz;simp;omega) (w4.heap.size+2) (by simp) ?_;intro g' cap' w8 cD bf fU oF)
    have bW:Hid (∃bs',BS w1 (.slice (some ⟨g',0,none⟩) (bs.length+1) cap') bs' ((Ps.take (k+1)).flatMap (eB r es)) w8/\bs'.length<=k+1):=by
     have e1:eB r es p=[p.rev]:=by rw[Hl.out];simp
     rw[<-HSR.out] at bf;rw[Hk.out,e1];exact⟨bs++[w4.heap.size],rh.out.snoc p.rev _ bf cD fU,by rw[aT];simp;omega⟩
    clear bf cD fU hnb jY rh
    go_wp2_with fail
    go_roundg (gk-1)
    case measure=>omega
    case rel=>exact⟨k+1,by omega,by go_num,bW⟩
   ·have jY:=ie.out.own;have rh:=ie;have hbz:=ie.out.below.size;have hnb:((w3.alloc (.cells #[.complex .f64 A1 A2,.float .f64 A3,.complex .f64 A4 A5,.int .i64 A6,.complex .f64 A7 A8,.int .i64 A9,.bool false,.pointer none] 177)).alloc (.cells #[.pointer (some ⟨w3.heap.size,0,none⟩)] 175)).heap[w3.heap.size+1]?=some (.cells #[.pointer (some ⟨w3.heap.size,0,none⟩)] 175 (0,0)):=by
     have:=heap_alloc_new (w3.alloc (.cells #[.complex .f64 A1 A2,.float .f64 A3,.complex .f64 A4 A5,.int .i64 A6,.complex .f64 A7 A8,.int .i64 A9,.bool false,.pointer none] 177)) (.cells #[.pointer (some ⟨w3.heap.size,0,none⟩)] 175);simpa using this
    clear ie zy
    go_wp2_with (at_builtin;refine wpList_append_lies _ rfl (.tmp 36) (.tmp 40) 133 rfl w1.heap.size 175 i0 _ 1 8 Tryz.underlying133 hi hz0 hz1 hz2 rfl (by decide) u5 bs.length (aK bs) rfl (aO jY (fun k hk=>(Below.heap_alloc _ _ _ (by have:=(aB jY k hk).2;simp;omega)).trans (Below.heap_alloc _ _ _ (aB jY k hk).2))) ⟨w3.heap.size+1,0,none⟩ 1 1 [.pointer (some ⟨w3.heap.size,0,none⟩)] rfl rfl (World.news_of_block (cs:= #[.pointer (some ⟨w3.heap.size,0,none⟩)]) (t:=175) (fr:=(0,0)) hnb) (by simp[Value.oneCell']) (by decide) (by unfold maxLen;omega) (by omega) (by have:=hbz;simp;omega) (w3.heap.size+2) (by simp) ?_;intro g' cap' w8 cD bf fU oF)
    have bW:Hid (∃bs',BS w1 (.slice (some ⟨g',0,none⟩) (bs.length+1) cap') bs' ((Ps.take (k+1)).flatMap (eB r es)) w8/\bs'.length<=k+1):=by
     have e1:eB r es p=[p]:=by rw[Hl.out];simp
     rw[<-HSC.out] at bf;rw[Hk.out,e1];exact⟨bs++[w3.heap.size],rh.out.snoc p _ bf cD fU,by rw[aT];simp;omega⟩
    clear bf cD fU hnb jY rh
    go_wp2_with fail
    go_roundg (gk-1)
    case measure=>omega
    case rel=>exact⟨k+1,by omega,by go_num,bW⟩
   ·have bW:Hid (∃bs,BS w1 u5 bs ((Ps.take (k+1)).flatMap (eB r es)) w3/\bs.length<=k+1):=by
     have e1:eB r es p=[]:=by rw[Hl.out];simp
     rw[Hk.out,e1,qg];exact⟨bs,ie.out,by omega⟩
    clear ie
    go_wp2_with fail
    go_roundg (gk-1)
    case measure=>omega
    case rel=>exact⟨k+1,by omega,by go_num,bW⟩
  ·have hk:k=Ps.length:=by omega
   subst hk;have h1:=xg.out;rw[fg] at h1;have HC:=U6.out _ bs _ h1 (by omega)
   have CG:Hid (Calls Tryz.prog 108 #[u5,.func (.func 109) #[] #[]] wr fun e w'=>e=.returned (.tuple #[])/\Q u5 w'):=HC
   clear HC h1 xg U6 LZ U4 xf Hj
   go_wp2_with fail
   refine CG.out.mono ?_;rintro e w5 ⟨rfl,hQ⟩;have HQ:Hid (Q u5 w5):=hQ;clear hQ CG
   go_wp2_with fail
   go_ret
   exact⟨_,rfl,HQ.out⟩
structure ig(w:World)(b:Nat)(x:PB):Prop where
 c0:w.cell? ⟨b,0,none⟩=some (.complex .f64 x.wa x.wb)
 c1:w.cell? ⟨b,1,none⟩=some (.float .f64 x.sh)
 c2:w.cell? ⟨b,2,none⟩=some (.complex .f64 (floatOfInt .f64 x.f.1) (floatOfInt .f64 x.f.2.1))
 c3:w.cell? ⟨b,3,none⟩=some (.int .i64 x.f.2.2)
 c4:w.cell? ⟨b,4,none⟩=some (.complex .f64 (floatOfInt .f64 x.t.1) (floatOfInt .f64 x.t.2.1))
 c5:w.cell? ⟨b,5,none⟩=some (.int .i64 x.t.2.2)
theorem ig.of{w:World}{b:Nat}{x:PB}{wk:Bool}{ow:Option Addr}(h:w.heap[b]?=some (.cells (uT x wk ow) 177 (0,0))):ig w b x:=
 ⟨cell_of h 0,cell_of h 1,cell_of h 2,cell_of h 3,cell_of h 4,cell_of h 5⟩
theorem L8(x y:PB)(hx:cK x)(hy:cK y)(b c:Nat)(w:World)(h1:ig w b x)(h2:ig w c y):
  Calls Tryz.prog 109 #[.pointer (some ⟨b,0,none⟩),.pointer (some ⟨c,0,none⟩)] w fun r w'=>r=.returned (.int .i64 (aY x.f y.f))/\Below w.heap.size w w'/\w.drawn<=w'.drawn:=by
 have HC:Hid (∀w,Calls Tryz.prog 125 #[.agg #[.complex .f64 (floatOfInt .f64 x.f.1) (floatOfInt .f64 x.f.2.1),.int .i64 x.f.2.2],.agg #[.complex .f64 (floatOfInt .f64 y.f.1) (floatOfInt .f64 y.f.2.1),.int .i64 y.f.2.2]] w fun r w'=>r=.returned (.int .i64 (aY x.f y.f))/\Below w.heap.size w w'/\w.drawn<=w'.drawn):=fun w=>BO x.f y.f hx.f.aF hy.f.aF hx.cf hy.cf w
 have a2:=h1.c2;have a3:=h1.c3;have d2:=h2.c2;have d3:=h2.c3;clear h1 h2 hx hy;generalize floatOfInt .f64 x.f.1=X1 at*;generalize floatOfInt .f64 x.f.2.1=X2 at*;generalize floatOfInt .f64 y.f.1=Y1 at*;generalize floatOfInt .f64 y.f.2.1=Y2 at*;generalize aY x.f y.f=R at*;generalize x.f.2.2=X3 at*;generalize y.f.2.2=Y3 at*
 go_enter Tryz.func109,Tryz.ntmps109
 go_wp2_with fail
 have hzb:b<w.heap.size:=lt_of_cell a2;have kj:c<w.heap.size:=lt_of_cell d2
 go_region_held3 (fun w'=>w'.cell? ⟨b,2,none⟩=some (.complex .f64 X1 X2)/\w'.cell? ⟨b,3,none⟩=some (.int .i64 X3)/\w'.cell? ⟨c,2,none⟩=some (.complex .f64 Y1 Y2)/\w'.cell? ⟨c,3,none⟩=some (.int .i64 Y3)) (go_keep) (first
   |(go_at_call 125;refine(HC.out _).mono ?_;rintro e w5 ⟨rfl,az,CS⟩;have e0:=(az.cell (p:=⟨b,2,none⟩) hzb).trans a2;have e1:=(az.cell (p:=⟨b,3,none⟩) hzb).trans a3;have e2:=(az.cell (p:=⟨c,2,none⟩) kj).trans d2;have e3:=(az.cell (p:=⟨c,3,none⟩) kj).trans d3))
 all_goals
  have aj:Below w.heap.size w w5:=(Below.refl _ _).drew.trans az;have HD:Hid (w.drawn<=w5.drawn):=dY (mb _) CS;clear az CS
  go_wp2_with fail
  go_ret
  exact⟨rfl,aj,HD.out⟩
end Go.Proofs.YtkjhhooecopolaaGreatDoor
namespace Go.Proofs
open Go.Shelf
def Tryz.pdqSd_ren:Go.Shelf.Ren:=⟨fun |14=>163|20=>200|21=>201|22=>202|23=>203|24=>204|25=>205|26=>206|27=>207|46=>248|47=>249|48=>250|49=>251|50=>252|15=>164|57=>289|28=>208|29=>209|n=>n,fun |24=>175|22=>132|3=>3|25=>180|4=>4|0=>0|46=>274|45=>273|50=>70|66=>313|39=>238|55=>282|70=>317|76=>346|77=>172|53=>280|5=>5|9=>9|n=>n,fun |n=>n⟩
theorem Tryz.pdqSd:Go.Proofs.SlLaysF.n14 Tryz.prog Tryz.pdqSd_ren:={
 mixed:=by kernel_rfl
 f14:=⟨Tryz.f163.name,by decide,Tryz.func163.trans (aw some (by kernel_rfl))⟩
 f15:=Tryz.func164.trans (aw some (by kernel_rfl))
 f20:=⟨Tryz.f200.name,by decide,Tryz.func200.trans (aw some (by kernel_rfl))⟩
 f21:=⟨Tryz.f201.name,by decide,Tryz.func201.trans (aw some (by kernel_rfl))⟩
 f22:=⟨Tryz.f202.name,by decide,Tryz.func202.trans (aw some (by kernel_rfl))⟩
 f23:=⟨Tryz.f203.name,by decide,Tryz.func203.trans (aw some (by kernel_rfl))⟩
 f24:=⟨Tryz.f204.name,by decide,Tryz.func204.trans (aw some (by kernel_rfl))⟩
 f25:=⟨Tryz.f205.name,by decide,Tryz.func205.trans (aw some (by kernel_rfl))⟩
 f26:=⟨Tryz.f206.name,by decide,Tryz.func206.trans (aw some (by kernel_rfl))⟩
 f27:=⟨Tryz.f207.name,by decide,Tryz.func207.trans (aw some (by kernel_rfl))⟩
 f28:=Tryz.func208.trans (aw some (by kernel_rfl))
 f29:=Tryz.func209.trans (aw some (by kernel_rfl))
 f46:=⟨Tryz.f248.name,by decide,Tryz.func248.trans (aw some (by kernel_rfl))⟩
 f47:=Tryz.func249.trans (aw some (by kernel_rfl))
 f48:=Tryz.func250.trans (aw some (by kernel_rfl))
 f49:=⟨Tryz.f251.name,by decide,Tryz.func251.trans (aw some (by kernel_rfl))⟩
 f50:=⟨Tryz.f252.name,by decide,Tryz.func252.trans (aw some (by kernel_rfl))⟩
 f57:=⟨Tryz.f289.name,by decide,Tryz.func289.trans (aw some (by kernel_rfl))⟩
 t0:=Tryz.underlying0
 a0:=Tryz.isAgg0
 z0:=Tryz.sizeOf0
 v0:=Tryz.zeroValue0
 t3:=Tryz.underlying3
 a3:=Tryz.isAgg3
 z3:=Tryz.sizeOf3
 v3:=Tryz.zeroValue3
 t4:=Tryz.underlying4
 a4:=Tryz.isAgg4
 z4:=Tryz.sizeOf4
 v4:=Tryz.zeroValue4
 t5:=Tryz.underlying5
 a5:=Tryz.isAgg5
 z5:=Tryz.sizeOf5
 v5:=Tryz.zeroValue5
 t9:=Tryz.underlying9
 a9:=Tryz.isAgg9
 z9:=Tryz.sizeOf9
 v9:=Tryz.zeroValue9
 t22:=Tryz.underlying132
 a22:=Tryz.isAgg132
 z22:=Tryz.sizeOf132
 v22:=Tryz.zeroValue132
 a24:=Tryz.isAgg175
 z24:=Tryz.sizeOf175
 t25:=Tryz.underlying180
 a25:=Tryz.isAgg180
 z25:=Tryz.sizeOf180
 v25:=Tryz.zeroValue180
 t39:=Tryz.underlying238
 a39:=Tryz.isAgg238
 z39:=Tryz.sizeOf238
 v39:=Tryz.zeroValue238
 t45:=Tryz.underlying273
 a45:=Tryz.isAgg273
 z45:=Tryz.sizeOf273
 v45:=Tryz.zeroValue273
 t46:=Tryz.underlying274
 a46:=Tryz.isAgg274
 z46:=Tryz.sizeOf274
 v46:=Tryz.zeroValue274
 t50:=Tryz.underlying70
 a50:=Tryz.isAgg70
 z50:=Tryz.sizeOf70
 v50:=Tryz.zeroValue70
 t53:=Tryz.underlying280
 a53:=Tryz.isAgg280
 z53:=Tryz.sizeOf280
 v53:=Tryz.zeroValue280
 t55:=Tryz.underlying282
 a55:=Tryz.isAgg282
 z55:=Tryz.sizeOf282
 v55:=Tryz.zeroValue282
 t66:=Tryz.underlying313
 a66:=Tryz.isAgg313
 z66:=Tryz.sizeOf313
 v66:=Tryz.zeroValue313
 t70:=Tryz.underlying317
 a70:=Tryz.isAgg317
 z70:=Tryz.sizeOf317
 v70:=Tryz.zeroValue317
 t76:=Tryz.underlying346
 a76:=Tryz.isAgg346
 z76:=Tryz.sizeOf346
 v76:=Tryz.zeroValue346
 t77:=Tryz.underlying172
 a77:=Tryz.isAgg172
 z77:=Tryz.sizeOf172
 v77:=Tryz.zeroValue172}
end Go.Proofs
