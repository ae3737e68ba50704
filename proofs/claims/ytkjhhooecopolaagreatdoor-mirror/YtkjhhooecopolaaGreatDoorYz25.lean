import Derived.Test.YtkjhhooecopolaaGreatDoorYz24
import Derived.Test.YtkjhhooecopolaaGreatDoorProg
set_option maxRecDepth 100000
set_option maxHeartbeats 4000000
namespace Go.Proofs.YtkjhhooecopolaaGreatDoor.Ga
open Ge
theorem Og{n f t:N3}(hn:0<n.2.2)(hf:0<f.2.2)(hD:0<(wv f t).1)(k1:(wv n f).1<=0){u:Pt}(l:lam (wv f t) f u=0)(h:dt (wv f t) (rl f u)<=0):(rl n u).1<=0:=by
 have e1:dt (wv f t) (rl f u)*(wv f t).1=(rl f u).1*dt (wv f t) (wv f t):=by unfold lam cr at l;unfold dt;grind
 have p:=aT (z:=dt (wv f t) (rl f u)) hD;have q:=aT (z:=(rl f u).1) (eG (r:=wv f t) (kM (ae hD)));rw[eA] at p q;have e2:=(kL n f u).1;have r1:=aT (z:=(rl f u).1) hn;have r2:=aT (z:=(rl n u).1) hf;omega
theorem Oh{n f t:N3}(hn:0<n.2.2)(ht:0<t.2.2)(hD:0<(wv f t).1)(k2:0<(wv n t).1){u:Pt}(l:lam (wv f t) t u=0)(h:0<=dt (wv f t) (rl t u)):0<(rl n u).1:=by
 have e1:dt (wv f t) (rl t u)*(wv f t).1=(rl t u).1*dt (wv f t) (wv f t):=by unfold lam cr at l;unfold dt;grind
 have p:=neg_mul (z:=dt (wv f t) (rl t u)) hD;have q:=neg_mul (z:=(rl t u).1) (eG (r:=wv f t) (kM (ae hD)));rw[eA] at p q;have e2:=(kL n t u).1;have r1:=neg_mul (z:=(rl t u).1) hn;have r2:=aT (z:=(rl n u).1) ht;omega
theorem XX(q:N3)(D u v:Pt):fb q D v u= -fb q D u v:=by
 unfold fb;rw[wE];split
 ·rw[<-RL];congr 1
  grind
 ·rfl
theorem XY{n:N3}{W Y S:Int}{D:Pt}(hs:D.1*S=D.2*W)(p:Pt):lam D (bJ n W Y) p=D.1*(W*(rl n p).2-Y-S*(rl n p).1):=by
 unfold lam;rw[tN];unfold cr;simp only
 grind
theorem XZ{n f t:N3}{W Y S:Int}(hn:0<n.2.2)(hf:0<f.2.2)(ht:0<t.2.2)(hZ:ZP n f t W Y S)(k1:(wv n f).1<=0)(k2:0<(wv n t).1){u v:Pt}(hS:jU f t (wv f t) u v)(hu:nu f t (wv f t) u)(hv:nu f t (wv f t) v)(h1:(rl n u).1<=0)(h2:0<(rl n v).1):
  fb (aZ f t) (wv f t) u v=bb (decide (-cr (rl n u) (rl n v)*W=Y*((rl n v).1-(rl n u).1)/\((rl n v).2-(rl n u).2)*W=S*((rl n v).1-(rl n u).1))):=by
 have hr:aS (wv f t):=ae hZ.d;have hq:0<(aZ f t).2.2:=by show 0<f.2.2+t.2.2;omega
 have zu:=XY (n:=n) (Y:=Y) hZ.s u;have zv:=XY (n:=n) (Y:=Y) hZ.s v;have eu:((rl n v).1-(rl n u).1)*(W*(rl n u).2-Y-S*(rl n u).1)= -(W*cr (rl n u) (rl n v)+Y*((rl n v).1-(rl n u).1))+(((rl n v).2-(rl n u).2)*W-S*((rl n v).1-(rl n u).1))*(rl n u).1:=by unfold cr;grind
 have ev:((rl n v).1-(rl n u).1)*(W*(rl n v).2-Y-S*(rl n v).1)= -(W*cr (rl n u) (rl n v)+Y*((rl n v).1-(rl n u).1))+(((rl n v).2-(rl n u).2)*W-S*((rl n v).1-(rl n u).1))*(rl n v).1:=by unfold cr;grind
 have pw:0<(rl n v).1-(rl n u).1:=by omega
 by_cases BH:lam (wv f t) f u=0/\lam (wv f t) f v=0
 ·obtain⟨l1,l2⟩:=BH;have A0:W*(rl n u).2-Y-S*(rl n u).1=0:=(dZ hZ.d).1 (zu.symm.trans ((hZ.lz u).1 l1));have B0:W*(rl n v).2-Y-S*(rl n v).1=0:=(dZ hZ.d).1 (zv.symm.trans ((hZ.lz v).1 l2));have pu:=place hf ht hr hu l1;have pv:=place hf ht hr hv l2;have pu':dt (wv f t) (rl (aZ f t) u)<0:=by
   rcases pu with h|h
   ·exact h.2.1
   ·have:=Oh hn ht hZ.d k2 ((qI hf ht hr u).2 l1) h.2.2;omega
  have pv':0<dt (wv f t) (rl (aZ f t) v):=by
   rcases pv with h|h
   ·have:=Og hn hf hZ.d k1 l2 h.1;omega
   ·exact h.2.1
  have oq:=(wD (kM hr) ((Ad hf ht hr u).2 l1) ((Ad hf ht hr v).2 l2)).2 (Ab (dM pu') (dM pv'));have LG:(aZ f t).2.2*((wv f t).1*(v.1-u.1)+(wv f t).2*(v.2-u.2))=dt (wv f t) (rl (aZ f t) v)-dt (wv f t) (rl (aZ f t) u):=by
   unfold dt rl rel
   grind
  have s1:=aT (z:=(wv f t).1*(v.1-u.1)+(wv f t).2*(v.2-u.2)) hq;rw[LG] at s1;have sgn:((wv f t).1*(v.1-u.1)+(wv f t).2*(v.2-u.2)).sign=1:=pX (s1.1 (by omega))
  unfold fb;rw[oq,sgn];have hE:((rl n v).2-(rl n u).2)*W=S*((rl n v).1-(rl n u).1):=by grind
  have hC: -cr (rl n u) (rl n v)*W=Y*((rl n v).1-(rl n u).1):=by
   rw[A0] at eu;have e0:((rl n v).2-(rl n u).2)*W-S*((rl n v).1-(rl n u).1)=0:=by omega
   rw[e0] at eu;have e1: -cr (rl n u) (rl n v)*W= -(W*cr (rl n u) (rl n v)):=by grind
   rw[e1];omega
  rw[iu (And.intro hC hE)];rfl
 ·have o1:=LF hf ht hr hS BH;unfold fb;rw[o1];have hno:¬(-cr (rl n u) (rl n v)*W=Y*((rl n v).1-(rl n u).1)/\((rl n v).2-(rl n u).2)*W=S*((rl n v).1-(rl n u).1)):=by
   rintro⟨hC,hE⟩;apply BH;have e0:((rl n v).2-(rl n u).2)*W-S*((rl n v).1-(rl n u).1)=0:=by omega
   have e1: -cr (rl n u) (rl n v)*W= -(W*cr (rl n u) (rl n v)):=by grind
   rw[e1] at hC;rw[e0] at eu ev;have A0:=(dZ (z:=W*(rl n u).2-Y-S*(rl n u).1) pw).1 (by omega)
   have B0:=(dZ (z:=W*(rl n v).2-Y-S*(rl n v).1) pw).1 (by omega)
   rw[A0] at zu;rw[B0] at zv;exact⟨(hZ.lz u).2 (by omega),(hZ.lz v).2 (by omega)⟩
  rw[lZ hno];rfl
theorem aip{n f t:N3}{W Y S:Int}(hn:0<n.2.2)(hf:0<f.2.2)(ht:0<t.2.2)(hZ:ZP n f t W Y S)(k1:(wv n f).1<=0)(k2:0<(wv n t).1){u v:Pt}(hS:jU f t (wv f t) u v)(hu:nu f t (wv f t) u)(hv:nu f t (wv f t) v)(h:¬((rl n u).1<=0/\0<(rl n v).1))(h':¬((rl n v).1<=0/\0<(rl n u).1)):
  fb (aZ f t) (wv f t) u v=0:=by
 have hr:aS (wv f t):=ae hZ.d;have o1:on (rl (aZ f t) u) (rl (aZ f t) v)=false:=by
  by_cases BH:lam (wv f t) f u=0/\lam (wv f t) f v=0
  ·obtain⟨l1,l2⟩:=BH;have pu:=place hf ht hr hu l1;have pv:=place hf ht hr hv l2;cases ho:on (rl (aZ f t) u) (rl (aZ f t) v)
   ·rfl
   ·exfalso;have oq:=(wD (kM hr) ((Ad hf ht hr u).2 l1) ((Ad hf ht hr v).2 l2)).1 ho;rcases pu with⟨x1,x2,x3⟩|⟨x1,x2,x3⟩<;>rcases pv with⟨y1,y2,y3⟩|⟨y1,y2,y3⟩
    ·exact CR x2 y2 oq
    ·have a:=Og hn hf hZ.d k1 l1 x1;have b:=Oh hn ht hZ.d k2 ((qI hf ht hr v).2 l2) y3;exact h ⟨a,b⟩
    ·have a:=Og hn hf hZ.d k1 l2 y1;have b:=Oh hn ht hZ.d k2 ((qI hf ht hr u).2 l1) x3;exact h' ⟨a,b⟩
    ·exact GR x2 y2 oq
  ·exact LF hf ht hr hS BH
 unfold fb;rw[o1];rfl
theorem JA{F:Pt->Pt->Int}{n:N3}{p:Pt×Pt->Bool}:∀{es:List (Pt×Pt)},(∀e∈es,F e.1 e.2=if p e then wt n e else 0)->total F es=dR (wt n) p es
 |[],_=>rfl
 |e::l,h=>by rw[fE,rE,h e (by simp),JA fun x hx=>h x (bz _ hx)]
theorem Oi(es:List (Pt×Pt))(n:N3):PP es n=dR (wt n) (fun e=>decide (kY n e<0)) es:=by
 refine JA fun e _=>?_
 unfold right wt kY;have:=bZ (rl n e.1) (rl n e.2);by_cases h1:(rl n e.1).1<=0/\0<(rl n e.2).1
 ·rw[ah h1,ah h1];by_cases hc:0<cr (rl n e.1) (rl n e.2)
  ·rw[ah ⟨h1.1,h1.2,hc⟩,iu (by omega)];rfl
  ·rw[aa (by omega),aa (by omega),lZ (by omega)];rfl
 ·by_cases h2:(rl n e.2).1<=0/\0<(rl n e.1).1
  ·rw[aa h1,ah h2,aa h1,ah h2,aa (by omega)]
   by_cases hc:cr (rl n e.1) (rl n e.2)<0
   ·rw[ah ⟨h2.2,h2.1,hc⟩,iu (by omega)];rfl
   ·rw[aa (by omega),lZ (by omega)];rfl
  ·rw[aa h1,aa h2,aa h1,aa h2,aa (by omega),aa (by omega)]
   split<;>rfl
theorem X0(p:Bool):(if p then(1:Int) else 0)=bb p:=rfl
theorem X7{rg:List (List Pt)}{n f t:N3}{e0:Pt×Pt}(hn:0<n.2.2)(h:uB (ag rg) f t)(hZ:ZP n f t (kW n e0) (kY n e0) (kS n e0))(k1:(wv n f).1<=0)(k2:0<(wv n t).1):
  RR (ag rg) f t=dR (wt n) (fun e=>bf n e e0) (ag rg)/\total (fb (aZ f t) (wv f t)) (ag rg)=dR (wt n) (fun e=> !bf n e e0&& !bf n e0 e) (ag rg):=by
 have qj:∀e,kS n e*kW n e0=kS n e0*kW n e/\kY n e*kW n e0=kY n e0*kW n e↔(!bf n e e0&& !bf n e0 e)=true:=fun e=>by
  unfold bf;simp only[qF,Lc,Ld];omega
 constructor
 ·rw[aim hn h hZ];unfold PP;rw[<-GK];refine JA fun e _=>?_
  by_cases h1:(rl n e.1).1<=0/\0<(rl n e.2).1
  ·rw[XR hZ.w hZ.d hZ.s h1.1 h1.2];unfold wt;rw[ah h1,X0];congr 1;unfold bf;have a:kY n e= -cr (rl n e.1) (rl n e.2):=ah h1;have b:kW n e=(rl n e.2).1-(rl n e.1).1:=ah h1;have c:kS n e=(rl n e.2).2-(rl n e.1).2:=ah h1;rw[a,b,c]
  ·by_cases h2:(rl n e.2).1<=0/\0<(rl n e.1).1
   ·have g:=XR (Y:=kY n e0) hZ.w hZ.d hZ.s h2.1 h2.2;rw[GJ (rl (bJ n (kW n e0) (kY n e0)) e.1),aie] at g;have a:kY n e= -cr (rl n e.2) (rl n e.1):=(aa h1).trans (ah h2);have b:kW n e=(rl n e.1).1-(rl n e.2).1:=(aa h1).trans (ah h2);have c:kS n e=(rl n e.1).2-(rl n e.2).2:=(aa h1).trans (ah h2);rw[<-a,<-b,<-c] at g;have hw:wt n e= -1:=(aa h1).trans (ah h2);rw[hw];have g': -(right (rl (bJ n (kW n e0) (kY n e0)) e.1) (rl (bJ n (kW n e0) (kY n e0)) e.2)+cA (bJ n (kW n e0) (kY n e0)) (wv f t) e.1 e.2)=bb (bf n e e0):=by
     rw[<-show _=bb (bf n e e0) from g]
     omega
    cases hk:bf n e e0<;>rw[hk] at g'<;>unfold bb at g'<;>simp at g'⊢ <;>omega
   ·have hw:wt n e=0:=(aa h1).trans (aa h2);rw[aif hZ.w h1 h2,hw];split<;>rfl
 ·refine JA fun e he=>?_
  by_cases h1:(rl n e.1).1<=0/\0<(rl n e.2).1
  ·rw[XZ hn h.pf h.pt hZ k1 k2 (h.s e he) (h.c e he).1 (h.c e he).2 h1.1 h1.2];have hw:wt n e=1:=ah h1;have a:kY n e= -cr (rl n e.1) (rl n e.2):=ah h1;have b:kW n e=(rl n e.2).1-(rl n e.1).1:=ah h1;have c:kS n e=(rl n e.2).2-(rl n e.1).2:=ah h1;have k:=qj e;rw[a,b,c] at k;rw[hw,X0];congr 1;refine nj.2 (Iff.trans ?_ k);rw[rW];exact And.comm
  ·by_cases h2:(rl n e.2).1<=0/\0<(rl n e.1).1
   ·have g:=XZ hn h.pf h.pt hZ k1 k2 (u:=e.2) (v:=e.1) (by
      have:=h.s e he;refine⟨fun x y z=>?_,fun x y z=>?_⟩
      ·have:=this.2 x y z;rw[bZ (rl f e.1) (rl f e.2),bZ (rl t e.1) (rl t e.2)];omega
      ·have:=this.1 x y z;rw[bZ (rl f e.1) (rl f e.2),bZ (rl t e.1) (rl t e.2)];omega) (h.c e he).2 (h.c e he).1 h2.1 h2.2
    rw[XX] at g;have hw:wt n e= -1:=(aa h1).trans (ah h2);have a:kY n e= -cr (rl n e.2) (rl n e.1):=(aa h1).trans (ah h2);have b:kW n e=(rl n e.1).1-(rl n e.2).1:=(aa h1).trans (ah h2);have c:kS n e=(rl n e.1).2-(rl n e.2).2:=(aa h1).trans (ah h2);have k:=qj e;rw[<-a,<-b,<-c] at g;have k':decide (kY n e*kW n e0=kY n e0*kW n e/\kS n e*kW n e0=kS n e0*kW n e)=(!bf n e e0&& !bf n e0 e):=by
     refine nj.2 (Iff.trans ?_ k);rw[rW];exact And.comm
    rw[k'] at g;rw[hw];cases hk:(!bf n e e0&& !bf n e0 e)<;>rw[hk] at g<;>unfold bb at g<;>simp at g⊢ <;>omega
   ·have hw:wt n e=0:=(aa h1).trans (aa h2);rw[aip hn h.pf h.pt hZ k1 k2 (h.s e he) (h.c e he).1 (h.c e he).2 h1 h2,hw];split<;>rfl
theorem aiq{rg:List (List Pt)}{l:List Nd}(hN:bX (ag rg) l){aF:Int->Bool}(h0:aF 0=false){n:Nd}(hn:n∈l)(h:aF (PP (ag rg) n)=true):
  ∃f t,Sd (ag rg) l aF f t/\(wv n f).1<=0/\0<(wv n t).1/\0<cr (wv f t) (wv f n):=by
 have cn:=hN.can n hn;rw[Oi] at h;obtain⟨e0,Jq,hT,hb,ha⟩:=XP (BF n) (EP n) (BG n) (wt n) aF h0 (ag rg) _ (fun e=>decide (kY n e<0)) (fun x y hy hyx=>by
   have hy':=eW hy;refine iu ?_;have aoZ:¬_:=fun k=>by rw[BC.2 k] at hyx;cases hyx
   have px:=tM n x;have py:=tM n y;have q1:=(neg_mul (z:=kY n y) px).2 hy';have q2:=neg_mul (z:=kY n x) py;rw[eA] at q1 q2;exact q2.1 (by omega)) (ai _) h
 have hT':=eW hT;obtain⟨a,b,hab,h1,h2,hW,hY,hS⟩:∃a b,((a=e0.1/\b=e0.2)\/(a=e0.2/\b=e0.1))/\(rl n a).1<=0/\0<(rl n b).1/\kW n e0=(rl n b).1-(rl n a).1/\kY n e0= -cr (rl n a) (rl n b)/\kS n e0=(rl n b).2-(rl n a).2:=by
  by_cases k1:(rl n e0.1).1<=0/\0<(rl n e0.2).1
  ·exact⟨e0.1,e0.2,ae ⟨rfl,rfl⟩,k1.1,k1.2,ah k1,ah k1,ah k1⟩
  ·by_cases k2:(rl n e0.2).1<=0/\0<(rl n e0.1).1
   ·exact⟨e0.2,e0.1,af ⟨rfl,rfl⟩,k2.1,k2.2,(aa k1).trans (ah k2),(aa k1).trans (ah k2),(aa k1).trans (ah k2)⟩
   ·exfalso;have:kY n e0=0:=(aa k1).trans (aa k2);omega
 obtain⟨f,t,hpc,k1,k2,hD,la,lb⟩:=XT hN hn Jq hab h1 h2;have hP:=hpc.pj hN;have hZ:=XU cn.pos hP.pf hP.pt h1 h2 k1 k2 hD la lb;rw[<-hW,<-hY,<-hS] at hZ;obtain⟨r1,r2⟩:=X7 cn.pos hP hZ k1 k2;refine⟨f,t,ae ⟨hpc,?_,?_⟩,k1,k2,?_⟩
 ·unfold LL;have:PP (ag rg) (aZ f t)=RR (ag rg) f t:=rfl;rw[this,r1,r2];exact ha
 ·rw[r1];exact hb
 ·have tO:0<(bJ n (kW n e0) (kY n e0)).2.2:=aU cn.pos hZ.w;obtain⟨m1,m2⟩:=Jy (bJ n (kW n e0) (kY n e0)) f n;have c0:cr (wv f t) (wv (bJ n (kW n e0) (kY n e0)) f)=0:=by
   have:cr (wv f t) (wv f (bJ n (kW n e0) (kY n e0)))=0:=by
    rcases hZ.zf with k|k
    ·rw[k];exact(z8 _).2.1
    ·exact Su k
   rw[eO f,fK];omega
  have ezn:wv (bJ n (kW n e0) (kY n e0)) n=(0, -(n.2.2*kY n e0)):=by
   unfold wv bJ;exact eB (by simp only;grind) (by simp only;grind)
  have hpos:0<cr (wv f t) (wv (bJ n (kW n e0) (kY n e0)) n):=by
   rw[ezn];unfold cr;simp only;have:=(neg_mul (z:=kY n e0) cn.pos).2 hT';have:=aU hD (show 0< -(n.2.2*kY n e0) by omega)
   omega
  have e:(bJ n (kW n e0) (kY n e0)).2.2*cr (wv f t) (wv f n)=f.2.2*cr (wv f t) (wv (bJ n (kW n e0) (kY n e0)) n)-n.2.2*cr (wv f t) (wv (bJ n (kW n e0) (kY n e0)) f):=by
   have:(bJ n (kW n e0) (kY n e0)).2.2*cr (wv f t) (wv f n)=(wv f t).1*((bJ n (kW n e0) (kY n e0)).2.2*(wv f n).2)-(wv f t).2*((bJ n (kW n e0) (kY n e0)).2.2*(wv f n).1):=by unfold cr;grind
   rw[this,m1,m2];unfold cr
   grind
  rw[c0] at e;have:=aU hP.pf hpos;exact(aT tO).1 (by omega)
end Go.Proofs.YtkjhhooecopolaaGreatDoor.Ga
namespace Go.Proofs.YtkjhhooecopolaaGreatDoor
open Go.RowKit
def xm(x:PB)(wk:Bool)(ow:Option Addr):Array Value:=(x.cells++[Value.bool wk,Value.pointer ow]).toArray
def aL(bs:List Nat):List Value:=bs.map fun b=>.pointer (some ⟨b,0,none⟩)
theorem ais{w:World}{v:Value}{l:List PB}(h:ru w v l):∃so cap,v=.slice so l.length cap:=by
 rcases h.2 with⟨hv,h0⟩|⟨b,cap,cur,hv,_⟩
 ·exact⟨none,0,by rw[hv,h0]⟩
 ·exact⟨_,cap,hv⟩
theorem ait{w:World}{so:Option Addr}{n cap:Nat}{l:List PB}(h:ru w (.slice so n cap) l){k:Nat}{x:PB}(he:l[k]?=some x):
  ∃b,so=some ⟨b,0,none⟩/\b<w.heap.size/\w.cell? ⟨b,k*6,none⟩=some (.complex .f64 x.wa x.wb)/\w.cell? ⟨b,k*6+1,none⟩=some (.float .f64 x.sh)/\w.cell? ⟨b,k*6+2,none⟩=some (.complex .f64 (floatOfInt .f64 x.f.1) (floatOfInt .f64 x.f.2.1))/\w.cell? ⟨b,k*6+3,none⟩=some (.int .i64 x.f.2.2)/\w.cell? ⟨b,k*6+4,none⟩=some (.complex .f64 (floatOfInt .f64 x.t.1) (floatOfInt .f64 x.t.2.1))/\w.cell? ⟨b,k*6+5,none⟩=some (.int .i64 x.t.2.2):=by
 have g:=Ji l k x he;obtain⟨b,c,hv,hb,hc⟩:=Dm h (g 0 (by omega))
 injection hv with hv;exact⟨b,hv,hb,hc _ _ (g 0 (by omega)),hc _ _ (g 1 (by omega)),hc _ _ (g 2 (by omega)),hc _ _ (g 3 (by omega)),hc _ _ (g 4 (by omega)),hc _ _ (g 5 (by omega))⟩
structure BS(w:World)(lv:Value)(bs:List Nat)(Xs:List PB)(wr:World):Prop where
 own:wr.ownsRow w.heap.size 175 1 lv bs.length (aL bs)
 len:bs.length=Xs.length
 lies:∀(i:Nat) b x,bs[i]?=some b->Xs[i]?=some x->w.heap.size<=b/\wr.heap[b]?=some (.cells (xm x false none) 177 (0,0))
 ne:∀b∈bs,lv.ownBlock≠some b
 nd:bs.Nodup
 below:Below w.heap.size w wr
theorem BS.keep{w:World}{lv:Value}{bs:List Nat}{Xs:List PB}{wr w':World}(h:BS w lv bs Xs wr)(hb:Below wr.heap.size wr w'):BS w lv bs Xs w':=
 ⟨aO h.own fun k hk=>hb.block k (aA h.own k hk).2,h.len,fun i b x h1 h2=>⟨(h.lies i b x h1 h2).1,(hb.block _ (lt_of_heap (h.lies i b x h1 h2).2)).trans (h.lies i b x h1 h2).2⟩,h.ne,h.nd,h.below.trans (hb.mono h.below.size)⟩
theorem BS.lt{w:World}{lv:Value}{bs:List Nat}{Xs:List PB}{wr:World}(h:BS w lv bs Xs wr){b:Nat}(hb:b∈bs):b<wr.heap.size:=by
 obtain⟨i,hi,rfl⟩:=kB.1 hb;have hx:i<Xs.length:=by rw[<-h.len];exact hi
 exact lt_of_heap (h.lies i _ _ (aD hi) (aD hx)).2
theorem BS.snoc{w:World}{lv:Value}{bs:List Nat}{Xs:List PB}{wr:World}(h:BS w lv bs Xs wr)(x:PB)(o:Obj){g cap:Nat}{w8:World}
  (bo:((wr.alloc (.cells (xm x false none) 177)).alloc o).grownBy w8 lv.ownBlock)
  (cM:w8.ownsRow w.heap.size 175 1 (.slice (some ⟨g,0,none⟩) (bs.length+1) cap) (bs.length+1) (aL bs++[.pointer (some ⟨wr.heap.size,0,none⟩)]))
  (hat:lv.ownBlock=some g\/g=wr.heap.size+2):BS w (.slice (some ⟨g,0,none⟩) (bs.length+1) cap) (bs++[wr.heap.size]) (Xs++[x]) w8:=by
 have hsz:((wr.alloc (.cells (xm x false none) 177)).alloc o).heap.size=wr.heap.size+2:=by simp
 have hsz1:(wr.alloc (.cells (xm x false none) 177)).heap.size=wr.heap.size+1:=by simp
 have hown:∀k,lv.ownBlock=some k->k<wr.heap.size:=fun k hk=>(aA h.own k hk).2
 have hold:∀b,b<wr.heap.size->lv.ownBlock≠some b->w8.heap[b]?=wr.heap[b]?:=fun b hb hne=>
  (bo.block b (by omega) (fun e=>hne e.symm)).trans ((Below.heap_alloc _ _ _ (by omega)).trans (Below.heap_alloc _ _ _ hb))
 refine⟨?_,by rw[aX,aX,h.len];rfl,fun i b y h1 h2=>?_,fun b hb=>?_,?_,?_⟩
 ·have e:aL (bs++[wr.heap.size])=aL bs++[.pointer (some ⟨wr.heap.size,0,none⟩)]:=by simp[aL]
  rw[e,aX];exact cM
 ·by_cases hi:i<bs.length
  ·rw[eD hi] at h1;rw[eD (by rw[<-h.len];exact hi)] at h2
   obtain⟨k1,k2⟩:=h.lies i b y h1 h2;exact⟨k1,(hold b (lt_of_heap k2) (h.ne b (bn h1))).trans k2⟩
  ·have hi2:i=bs.length:=by
    have:=(bY.1 h1).1;simp at this;omega
   subst hi2;have e1:b=wr.heap.size:=by simpa using h1.symm
   have e2:y=x:=by rw[h.len] at h2;simpa using h2.symm
   subst e1 e2;refine⟨h.below.size,(bo.block _ (by omega) (fun e=>acE _ (hown _ e.symm))).trans ((Below.heap_alloc _ _ _ (by omega)).trans (heap_alloc_new _ _))⟩
 ·intro he;have he':g=b:=by simpa[Value.ownBlock] using he
  subst he';rcases cu.1 hb with hb|hb
  ·rcases hat with hat|hat
   ·exact h.ne g hb hat
   ·have:=h.lt hb;omega
  ·rw[bU] at hb;rcases hat with hat|hat
   ·have:=hown g hat;omega
   ·omega
 ·rw[Lh];refine⟨h.nd,by simp,fun a ha b hb=>?_⟩
  rw[bU.1 hb];have:=h.lt ha;omega
 ·exact((h.below.alloc h.below.size _).alloc (by have:=h.below.size;omega) _).grown bo (by have:=h.below.size;omega) (fun k hk=>(aA h.own k hk).1)
theorem X8:∀{m:List Ge.Nd},m.Pairwise (fun a b=>Ge.lt (Ge.ay a) (Ge.ay b))->∀{q:Ge.Nd×Ge.Nd},q∈Ge.nexts m->Ge.lt (Ge.ay q.1) (Ge.ay q.2)
 |[],_,_,h=>by simp[Ge.nexts] at h
 |[_],_,_,h=>by simp[Ge.nexts] at h
 |a::b::r,hp,q,h=>by
  rcases aV.1 h with h|h
  ·rw[h];exact(gv.1 hp).1 b (by simp)
  ·exact X8 (gv.1 hp).2 h
theorem aiu{es:List Ed}{l:List Ge.Nd}(hl:l.map Ge.ay=Ge.gq es)(e:Ed):(Ge.held e l).Pairwise (fun a b=>Ge.lt (Ge.ay a) (Ge.ay b)):=by
 have ha:Ge.sJ (l.map Ge.ay):=by rw[hl];exact(Ge.yP es).2.1
 exact acL _ (nU.1 ha)
theorem JB{es:List Ed}{l:List Ge.Nd}{Ps:List PB}(h:oI es l Ps)(hl:l.map Ge.ay=Ge.gq es)(p:PB)(hp:p∈Ps):Ge.lt (Ge.ay p.f) (Ge.ay p.t):=by
 obtain⟨e,he⟩:=h.ap.mem p hp;have hq:=he.2.2;have hh:=aiu hl e;generalize Ge.held e l=H at*;have k:=X8 hh hq;exact k
def fC(r:Int)(es:List Ed)(p:PB):List PB:=
 if Ge.takes r (qs es p.f p.t)=true/\Ge.takes r (oJ es p.f p.t)=false then[p]
 else if Ge.takes r (oJ es p.f p.t)=true/\Ge.takes r (qs es p.f p.t)=false then[p.rev] else[]
theorem zi:(Tryz.prog.info? 175).map (fun i=>(i.zero,i.size,i.bytes))=some (some (.pointer none),1,8):=by kernel_rfl
theorem aiv(es:List Ed)(r:Int)(v:Value)(w:World)(hR:gG w v es)(hl:es.length<=402)(hs:∀e∈es,fB e)(hne:∀e∈es,e.1≠e.2)
  (Q:Value->World->Prop)
  (HS:Hid (∀Ps l,l.map Ge.ay=Ge.gq es->(∀n∈l,Ge.Can n)->oI es l Ps->∀w1 lv bs wr,Below w.heap.size w w1->BS w1 lv bs (Ps.flatMap (fC r es)) wr->bs.length<=85000000->Calls Tryz.prog 108 #[lv,.func (.func 109) #[] #[]] wr fun e w'=>e=.returned (.tuple #[])/\Q lv w')):
  Calls Tryz.prog 68 #[v,.int .u8 r] w fun e w'=>∃lv,e=.returned lv/\Q lv w':=by
 obtain⟨so,cap,rfl⟩:=Dq hR;obtain⟨i0,hi,hz0,hz1,hz2⟩:=info_parts zi;have HP:Hid (Calls Tryz.prog 104 #[.slice so es.length cap] w fun r w'=>∃v' Ps,r=.returned v'/\ru w' v' Ps/\Below w.heap.size w w'/\Ps.length<=85000000/\∃l,l.map Ge.ay=Ge.gq es/\(∀n∈l,Ge.Can n)/\oI es l Ps):=ahO es _ w hR hl hs
 have HR:Hid (gG w (.slice so es.length cap) es):=hR;have JC:Hid (∀t w,Calls Tryz.prog 106 #[.int .u8 r,.int .i64 t] w fun e w'=>e=.returned (.bool (Ge.takes r t))/\w'=w):=fun t w=>agx r t w
 go_enter Tryz.func68,Tryz.ntmps68
 go_wp2_with fail
 refine HP.out.mono ?_;rintro r' w1 ⟨pv,Ps,rfl,Oj,hb1,xn,l,mL,jP,kI⟩;obtain⟨ps,pc,rfl⟩:=ais Oj;have JD:Hid (ru w1 (.slice ps Ps.length pc) Ps):=Oj;have zj:Hid (gG w1 (.slice so es.length cap) es):=Nv HR.out hb1;have Ol:Hid (∀p∈Ps,∀v w,gG w v es->Calls Tryz.prog 105 #[.agg p.cells.toArray,v] w fun r w'=>r=.returned (.tuple #[.int .i64 (qs es p.f p.t),.int .i64 (oJ es p.f p.t)])/\Below w.heap.size w w'):=fun p hp=>ahT p es l hne (kI.v p hp) (JB kI mL p hp) (kI.ap.mem p hp) hl hs
 have X9:=HS.out Ps l mL jP kI w1;have Ya:Hid (∀lv bs wr,BS w1 lv bs (Ps.flatMap (fC r es)) wr->bs.length<=85000000->Calls Tryz.prog 108 #[lv,.func (.func 109) #[] #[]] wr fun e w'=>e=.returned (.tuple #[])/\Q lv w'):=fun lv bs wr h1 h2=>X9 lv bs wr hb1 h1 h2
 clear X9 HS kI jP mL Oj HP HR hR hs hne;have bw:Hid (∃bs,BS w1 (.slice none 0 0) bs ((Ps.take 0).flatMap (fC r es)) w1/\bs.length<=0):=⟨[],⟨World.ownsRow_nil _ _ _ _,by simp,fun i b x h=>by simp at h,fun b h=>by simp at h,by simp,Below.refl _ _⟩,by simp⟩
 go_wp2_with fail
 go_loopg [5,15] Ps.length (fun m lv iv wr=>∃k:Nat,k+m=Ps.length/\iv=.int .i64 k/\Hid (∃bs,BS w1 lv bs ((Ps.take k).flatMap (fC r es)) wr/\bs.length<=k))
 case atStart=>exact⟨0,by omega,rfl,bw⟩
 case round=>
  obtain⟨k,hkn,rfl,HE⟩:=hrel;clear bw;obtain⟨bs,jA,hbl⟩:=HE.out;have zk:Hid (BS w1 u5 bs ((Ps.take k).flatMap (fC r es)) wr):=jA;clear HE;by_cases hlt:k<Ps.length
  ·obtain⟨p,hpk⟩:∃p,Ps[k]?=some p:=⟨_,aD hlt⟩;obtain⟨b,rfl,hb,c0,c1,c2,c3,c4,c5⟩:=ait JD.out hpk;have ak:=jA.below;have r0:=(ak.cell (p:=⟨b,k*6,none⟩) hb).trans c0;have r1:=(ak.cell (p:=⟨b,k*6+1,none⟩) hb).trans c1;have r2:=(ak.cell (p:=⟨b,k*6+2,none⟩) hb).trans c2;have r3:=(ak.cell (p:=⟨b,k*6+3,none⟩) hb).trans c3;have r4:=(ak.cell (p:=⟨b,k*6+4,none⟩) hb).trans c4;have r5:=(ak.cell (p:=⟨b,k*6+5,none⟩) hb).trans c5;have hbr:b<wr.heap.size:=aQ hb ak.size;have eK:(k:Int)<(Ps.length:Int):=by omega
   have Om:=Ol.out p (bn hpk);have BI:Hid (∀w,Calls Tryz.prog 107 #[.agg p.cells.toArray] w fun e w'=>e=.returned (.agg p.rev.cells.toArray)/\Below w.heap.size w w'):=fun w=>agW p w
   have tP:Hid ((Ps.take (k+1)).flatMap (fC r es)=(Ps.take k).flatMap (fC r es)++fC r es p):=by
    have htk:Ps.take (k+1)=Ps.take k++[p]:=by rw[jH,hpk];rfl
    show(Ps.take (k+1)).flatMap (fC r es)=_;rw[htk,acN,uj,ace,rM]
   have JE:Hid (fC r es p=if Ge.takes r (qs es p.f p.t)=true/\Ge.takes r (oJ es p.f p.t)=false then[p] else if Ge.takes r (oJ es p.f p.t)=true/\Ge.takes r (qs es p.f p.t)=false then[p.rev] else[]):=rfl
   have Oo:=JC.out (qs es p.f p.t);have Ez:=JC.out (oJ es p.f p.t);clear c0 c1 c2 c3 c4 c5 hpk jA;generalize qs es p.f p.t=TL at*;generalize oJ es p.f p.t=TR at*;have tQ:Hid (p.cells=[.complex .f64 p.wa p.wb,.float .f64 p.sh,.complex .f64 (floatOfInt .f64 p.f.1) (floatOfInt .f64 p.f.2.1),.int .i64 p.f.2.2,.complex .f64 (floatOfInt .f64 p.t.1) (floatOfInt .f64 p.t.2.1),.int .i64 p.t.2.2]):=rfl;have Oq:Hid (p.rev.cells=[.complex .f64 (Op.negFloat .f64 p.wa) (Op.negFloat .f64 p.wb),.float .f64 (Op.negFloat .f64 p.sh),.complex .f64 (floatOfInt .f64 p.t.1) (floatOfInt .f64 p.t.2.1),.int .i64 p.t.2.2,.complex .f64 (floatOfInt .f64 p.f.1) (floatOfInt .f64 p.f.2.1),.int .i64 p.f.2.2]):=rfl;have JF:=BI.out;rw[tQ.out] at Om JF;rw[Oq.out] at JF;clear BI;generalize Op.negFloat .f64 p.wa=N1 at*;generalize Op.negFloat .f64 p.wb=N2 at*;generalize Op.negFloat .f64 p.sh=N3 at*;generalize p.wa=A1 at*;generalize p.wb=A2 at*;generalize p.sh=A3 at*;generalize floatOfInt .f64 p.f.1=A4 at*;generalize floatOfInt .f64 p.f.2.1=A5 at*;generalize p.f.2.2=A6 at*;generalize floatOfInt .f64 p.t.1=A7 at*;generalize floatOfInt .f64 p.t.2.1=A8 at*;generalize p.t.2.2=A9 at*;have Yb:Hid (∀v w,gG w v es->Calls Tryz.prog 105 #[.agg #[.complex .f64 A1 A2,.float .f64 A3,.complex .f64 A4 A5,.int .i64 A6,.complex .f64 A7 A8,.int .i64 A9],v] w fun r w'=>r=.returned (.tuple #[.int .i64 TL,.int .i64 TR])/\Below w.heap.size w w'):=Om
   have BI:Hid (∀w,Calls Tryz.prog 107 #[.agg #[.complex .f64 A1 A2,.float .f64 A3,.complex .f64 A4 A5,.int .i64 A6,.complex .f64 A7 A8,.int .i64 A9]] w fun e w'=>e=.returned (.agg #[.complex .f64 N1 N2,.float .f64 N3,.complex .f64 A7 A8,.int .i64 A9,.complex .f64 A4 A5,.int .i64 A6])/\Below w.heap.size w w'):=JF
   have HSC:Hid (xm p false none= #[.complex .f64 A1 A2,.float .f64 A3,.complex .f64 A4 A5,.int .i64 A6,.complex .f64 A7 A8,.int .i64 A9,.bool false,.pointer none]):=by
    show(p.cells++[Value.bool false,Value.pointer none]).toArray=_;rw[tQ.out];rfl
   have HSR:Hid (xm p.rev false none= #[.complex .f64 N1 N2,.float .f64 N3,.complex .f64 A7 A8,.int .i64 A9,.complex .f64 A4 A5,.int .i64 A6,.bool false,.pointer none]):=by
    show(p.rev.cells++[Value.bool false,Value.pointer none]).toArray=_;rw[Oq.out];rfl
   have HL:Hid (∀w,Calls Tryz.prog 106 #[.int .u8 r,.int .i64 TL] w fun e w'=>e=.returned (.bool (Ge.takes r TL))/\w'=w):=Oo
   have Yc:Hid (∀w,Calls Tryz.prog 106 #[.int .u8 r,.int .i64 TR] w fun e w'=>e=.returned (.bool (Ge.takes r TR))/\w'=w):=Ez
   have hb0:Below wr.heap.size wr (wr.alloc (.cells #[.complex .f64 A1 A2,.float .f64 A3,.complex .f64 A4 A5,.int .i64 A6,.complex .f64 A7 A8,.int .i64 A9] 171)):=(Below.refl _ _).alloc (ai _) _;have nI:=heap_alloc_new wr (.cells #[.complex .f64 A1 A2,.float .f64 A3,.complex .f64 A4 A5,.int .i64 A6,.complex .f64 A7 A8,.int .i64 A9] 171);have hz0':wr.heap.size<(wr.alloc (.cells #[.complex .f64 A1 A2,.float .f64 A3,.complex .f64 A4 A5,.int .i64 A6,.complex .f64 A7 A8,.int .i64 A9] 171)).heap.size:=by simp
   have Yd:Hid (gG (wr.alloc (.cells #[.complex .f64 A1 A2,.float .f64 A3,.complex .f64 A4 A5,.int .i64 A6,.complex .f64 A7 A8,.int .i64 A9] 171)) (.slice so es.length cap) es):=Nv zj.out (ak.alloc ak.size _);clear Om JF Oo Ez tQ Oq JC Ol;generalize Ge.takes r TL=bL at*;generalize Ge.takes r TR=bR at*
   go_wp2_with (simp only[fL,nH];go_simp)
   generalize wr.alloc (.cells #[.complex .f64 A1 A2,.float .f64 A3,.complex .f64 A4 A5,.int .i64 A6,.complex .f64 A7 A8,.int .i64 A9] 171)=W0 at*;refine(Yb.out _ _ Yd.out).mono ?_;rintro r' w2 ⟨rfl,hb2⟩;have dD:=(hb2.block _ hz0').trans nI;have hB2:Below wr.heap.size wr w2:=hb0.trans (hb2.mono (eF hz0'));have gz:Hid (BS w1 u5 bs ((Ps.take k).flatMap (fC r es)) w2):=zk.out.keep hB2;have e0:w2.cell? ⟨wr.heap.size,0,none⟩=some (.complex .f64 A1 A2):=cell_of dD 0;have e1:w2.cell? ⟨wr.heap.size,1,none⟩=some (.float .f64 A3):=cell_of dD 1;have e2:w2.cell? ⟨wr.heap.size,2,none⟩=some (.complex .f64 A4 A5):=cell_of dD 2;have e3:w2.cell? ⟨wr.heap.size,3,none⟩=some (.int .i64 A6):=cell_of dD 3;have e4:w2.cell? ⟨wr.heap.size,4,none⟩=some (.complex .f64 A7 A8):=cell_of dD 4;have e5:w2.cell? ⟨wr.heap.size,5,none⟩=some (.int .i64 A9):=cell_of dD 5;have aiz:wr.heap.size<w2.heap.size:=lt_of_heap dD;clear r0 r1 r2 r3 r4 r5 Yb Yd zk nI hb0 hb2
   go_wp2_with fail
   refine(HL.out _).mono ?_;rintro r' w3 ⟨rfl,rfl⟩
   go_wp2_with fail
   refine(Yc.out _).mono ?_;rintro r' w3 ⟨rfl,rfl⟩;clear HL Yc;cases bL<;>cases bR
   ·have cI:Hid (∃bs,BS w1 u5 bs ((Ps.take (k+1)).flatMap (fC r es)) w3/\bs.length<=k+1):=by
     have e1:fC r es p=[]:=by rw[JE.out];simp
     rw[tP.out,e1,rM];exact⟨bs,gz.out,by omega⟩
    clear gz
    go_wp2_with fail
    go_roundg (gk-1)
    case measure=>omega
    case rel=>exact⟨k+1,by omega,by go_num,cI⟩
   ·go_wp2_with fail
    refine(BI.out _).mono ?_;rintro r' w4 ⟨rfl,hb4⟩;have oK:Hid (BS w1 u5 bs ((Ps.take k).flatMap (fC r es)) w4):=gz.out.keep hb4;have lj:=oK.out.own;have hbz:=oK.out.below.size;have hnb:((w4.alloc (.cells #[.complex .f64 N1 N2,.float .f64 N3,.complex .f64 A7 A8,.int .i64 A9,.complex .f64 A4 A5,.int .i64 A6,.bool false,.pointer none] 177)).alloc (.cells #[.pointer (some ⟨w4.heap.size,0,none⟩)] 175)).heap[w4.heap.size+1]?=some (.cells #[.pointer (some ⟨w4.heap.size,0,none⟩)] 175 (0,0)):=by
     have:=heap_alloc_new (w4.alloc (.cells #[.complex .f64 N1 N2,.float .f64 N3,.complex .f64 A7 A8,.int .i64 A9,.complex .f64 A4 A5,.int .i64 A6,.bool false,.pointer none] 177)) (.cells #[.pointer (some ⟨w4.heap.size,0,none⟩)] 175);simpa using this
    clear e0 e1 e2 e3 e4 e5 dD hb4 gz BI
    go_wp2_with (at_builtin;refine wpList_append_lies _ rfl (.tmp 47) (.tmp 52) 133 rfl w1.heap.size 175 i0 _ 1 8 Tryz.underlying133 hi hz0 hz1 hz2 rfl (by decide) u5 bs.length (aL bs) rfl (aO lj (fun k hk=>(Below.heap_alloc _ _ _ (by have:=(aA lj k hk).2;simp;omega)).trans (Below.heap_alloc _ _ _ (aA lj k hk).2))) ⟨w4.heap.size+1,0,none⟩ 1 1 [.pointer (some ⟨w4.heap.size,0,none⟩)] rfl rfl (World.news_of_block (cs:= #[.pointer (some ⟨w4.heap.size,0,none⟩)]) (t:=175) (fr:=(0,0)) hnb) (by simp[Value.oneCell']) (by decide) (by unfold maxLen;omega) (by omega) (by have:=hbz;simp;omega) (w4.heap.size+2) (by simp) ?_;intro g' cap' w8 cM bo gK qp)
    have cI:Hid (∃bs',BS w1 (.slice (some ⟨g',0,none⟩) (bs.length+1) cap') bs' ((Ps.take (k+1)).flatMap (fC r es)) w8/\bs'.length<=k+1):=by
     have e1:fC r es p=[p.rev]:=by rw[JE.out];simp
     rw[<-HSR.out] at bo;rw[tP.out,e1];exact⟨bs++[w4.heap.size],oK.out.snoc p.rev _ bo cM gK,by rw[aX];simp;omega⟩
    clear bo cM gK hnb lj oK
    go_wp2_with fail
    go_roundg (gk-1)
    case measure=>omega
    case rel=>exact⟨k+1,by omega,by go_num,cI⟩
   ·have lj:=gz.out.own;have oK:=gz;have hbz:=gz.out.below.size;have hnb:((w3.alloc (.cells #[.complex .f64 A1 A2,.float .f64 A3,.complex .f64 A4 A5,.int .i64 A6,.complex .f64 A7 A8,.int .i64 A9,.bool false,.pointer none] 177)).alloc (.cells #[.pointer (some ⟨w3.heap.size,0,none⟩)] 175)).heap[w3.heap.size+1]?=some (.cells #[.pointer (some ⟨w3.heap.size,0,none⟩)] 175 (0,0)):=by
     have:=heap_alloc_new (w3.alloc (.cells #[.complex .f64 A1 A2,.float .f64 A3,.complex .f64 A4 A5,.int .i64 A6,.complex .f64 A7 A8,.int .i64 A9,.bool false,.pointer none] 177)) (.cells #[.pointer (some ⟨w3.heap.size,0,none⟩)] 175);simpa using this
    clear gz BI
    go_wp2_with (at_builtin;refine wpList_append_lies _ rfl (.tmp 36) (.tmp 40) 133 rfl w1.heap.size 175 i0 _ 1 8 Tryz.underlying133 hi hz0 hz1 hz2 rfl (by decide) u5 bs.length (aL bs) rfl (aO lj (fun k hk=>(Below.heap_alloc _ _ _ (by have:=(aA lj k hk).2;simp;omega)).trans (Below.heap_alloc _ _ _ (aA lj k hk).2))) ⟨w3.heap.size+1,0,none⟩ 1 1 [.pointer (some ⟨w3.heap.size,0,none⟩)] rfl rfl (World.news_of_block (cs:= #[.pointer (some ⟨w3.heap.size,0,none⟩)]) (t:=175) (fr:=(0,0)) hnb) (by simp[Value.oneCell']) (by decide) (by unfold maxLen;omega) (by omega) (by have:=hbz;simp;omega) (w3.heap.size+2) (by simp) ?_;intro g' cap' w8 cM bo gK qp)
    have cI:Hid (∃bs',BS w1 (.slice (some ⟨g',0,none⟩) (bs.length+1) cap') bs' ((Ps.take (k+1)).flatMap (fC r es)) w8/\bs'.length<=k+1):=by
     have e1:fC r es p=[p]:=by rw[JE.out];simp
     rw[<-HSC.out] at bo;rw[tP.out,e1];exact⟨bs++[w3.heap.size],oK.out.snoc p _ bo cM gK,by rw[aX];simp;omega⟩
    clear bo cM gK hnb lj oK
    go_wp2_with fail
    go_roundg (gk-1)
    case measure=>omega
    case rel=>exact⟨k+1,by omega,by go_num,cI⟩
   ·have cI:Hid (∃bs,BS w1 u5 bs ((Ps.take (k+1)).flatMap (fC r es)) w3/\bs.length<=k+1):=by
     have e1:fC r es p=[]:=by rw[JE.out];simp
     rw[tP.out,e1,rM];exact⟨bs,gz.out,by omega⟩
    clear gz
    go_wp2_with fail
    go_roundg (gk-1)
    case measure=>omega
    case rel=>exact⟨k+1,by omega,by go_num,cI⟩
  ·have hk:k=Ps.length:=by omega
   subst hk;have h1:=zk.out;rw[dN] at h1;have HC:=Ya.out _ bs _ h1 (by omega)
   have EE:Hid (Calls Tryz.prog 108 #[u5,.func (.func 109) #[] #[]] wr fun e w'=>e=.returned (.tuple #[])/\Q u5 w'):=HC
   clear HC h1 zk Ya Ol JD zj JC
   go_wp2_with fail
   refine EE.out.mono ?_;rintro e w5 ⟨rfl,hQ⟩;have HQ:Hid (Q u5 w5):=hQ;clear hQ EE
   go_wp2_with fail
   go_ret
   exact⟨_,rfl,HQ.out⟩
structure iN(w:World)(b:Nat)(x:PB):Prop where
 c0:w.cell? ⟨b,0,none⟩=some (.complex .f64 x.wa x.wb)
 c1:w.cell? ⟨b,1,none⟩=some (.float .f64 x.sh)
 c2:w.cell? ⟨b,2,none⟩=some (.complex .f64 (floatOfInt .f64 x.f.1) (floatOfInt .f64 x.f.2.1))
 c3:w.cell? ⟨b,3,none⟩=some (.int .i64 x.f.2.2)
 c4:w.cell? ⟨b,4,none⟩=some (.complex .f64 (floatOfInt .f64 x.t.1) (floatOfInt .f64 x.t.2.1))
 c5:w.cell? ⟨b,5,none⟩=some (.int .i64 x.t.2.2)
theorem iN.of{w:World}{b:Nat}{x:PB}{wk:Bool}{ow:Option Addr}(h:w.heap[b]?=some (.cells (xm x wk ow) 177 (0,0))):iN w b x:=
 ⟨cell_of h 0,cell_of h 1,cell_of h 2,cell_of h 3,cell_of h 4,cell_of h 5⟩
theorem Ot(x y:PB)(hx:cU x)(hy:cU y)(b c:Nat)(w:World)(h1:iN w b x)(h2:iN w c y):
  Calls Tryz.prog 109 #[.pointer (some ⟨b,0,none⟩),.pointer (some ⟨c,0,none⟩)] w fun r w'=>r=.returned (.int .i64 (bg x.f y.f))/\Below w.heap.size w w'/\w.drawn<=w'.drawn:=by
 have HC:Hid (∀w,Calls Tryz.prog 125 #[.agg #[.complex .f64 (floatOfInt .f64 x.f.1) (floatOfInt .f64 x.f.2.1),.int .i64 x.f.2.2],.agg #[.complex .f64 (floatOfInt .f64 y.f.1) (floatOfInt .f64 y.f.2.1),.int .i64 y.f.2.2]] w fun r w'=>r=.returned (.int .i64 (bg x.f y.f))/\Below w.heap.size w w'/\w.drawn<=w'.drawn):=fun w=>Ea x.f y.f hx.f.aF hy.f.aF hx.cf hy.cf w
 have a2:=h1.c2;have a3:=h1.c3;have d2:=h2.c2;have d3:=h2.c3;clear h1 h2 hx hy;generalize floatOfInt .f64 x.f.1=X1 at*;generalize floatOfInt .f64 x.f.2.1=X2 at*;generalize floatOfInt .f64 y.f.1=Y1 at*;generalize floatOfInt .f64 y.f.2.1=Y2 at*;generalize bg x.f y.f=R at*;generalize x.f.2.2=X3 at*;generalize y.f.2.2=Y3 at*
 go_enter Tryz.func109,Tryz.ntmps109
 go_wp2_with fail
 have hzb:b<w.heap.size:=lt_of_cell a2;have lO:c<w.heap.size:=lt_of_cell d2
 go_region_held3 (fun w'=>w'.cell? ⟨b,2,none⟩=some (.complex .f64 X1 X2)/\w'.cell? ⟨b,3,none⟩=some (.int .i64 X3)/\w'.cell? ⟨c,2,none⟩=some (.complex .f64 Y1 Y2)/\w'.cell? ⟨c,3,none⟩=some (.int .i64 Y3)) (go_keep) (first
   |(go_at_call 125;refine(HC.out _).mono ?_;rintro e w5 ⟨rfl,ax,EU⟩;have e0:=(ax.cell (p:=⟨b,2,none⟩) hzb).trans a2;have e1:=(ax.cell (p:=⟨b,3,none⟩) hzb).trans a3;have e2:=(ax.cell (p:=⟨c,2,none⟩) lO).trans d2;have e3:=(ax.cell (p:=⟨c,3,none⟩) lO).trans d3))
 all_goals
  have ak:Below w.heap.size w w5:=(Below.refl _ _).drew.trans ax;have HD:Hid (w.drawn<=w5.drawn):=dY (l8 _) EU;clear ax EU
  go_wp2_with fail
  go_ret
  exact⟨rfl,ak,HD.out⟩
end Go.Proofs.YtkjhhooecopolaaGreatDoor
namespace Go.Proofs
open Go.Shelf
def Tryz.pdqSd_ren:Go.Shelf.Ren:=⟨fun |14=>163|20=>200|21=>201|22=>202|23=>203|24=>204|25=>205|26=>206|27=>207|46=>248|47=>249|48=>250|49=>251|50=>252|15=>164|57=>289|28=>208|29=>209|n=>n,fun |24=>175|22=>132|3=>3|25=>180|4=>4|0=>0|46=>274|45=>273|50=>70|66=>313|39=>238|55=>282|70=>317|76=>346|77=>172|53=>280|5=>5|9=>9|n=>n,fun |n=>n⟩
theorem Tryz.pdqSd:Go.Proofs.SlLaysF.n14 Tryz.prog Tryz.pdqSd_ren:={
 mixed:=by kernel_rfl
 f14:=⟨Tryz.f163.name,by decide,Tryz.func163.trans (aw some (by kernel_rfl))⟩
 f15:=Tryz.func164.trans (aw some (by kernel_rfl))
 f20:=⟨Tryz.f200.name,by decide,Tryz.func200.trans (aw some (by kernel_rfl))⟩
 f21:=⟨Tryz.f201.name,by decide,Tryz.func201.trans (aw some (by kernel_rfl))⟩
 f22:=⟨Tryz.f202.name,by decide,Tryz.func202.trans (aw some (by kernel_rfl))⟩
 f23:=⟨Tryz.f203.name,by decide,Tryz.func203.trans (aw some (by kernel_rfl))⟩
 f24:=⟨Tryz.f204.name,by decide,Tryz.func204.trans (aw some (by kernel_rfl))⟩
 f25:=⟨Tryz.f205.name,by decide,Tryz.func205.trans (aw some (by kernel_rfl))⟩
 f26:=⟨Tryz.f206.name,by decide,Tryz.func206.trans (aw some (by kernel_rfl))⟩
 f27:=⟨Tryz.f207.name,by decide,Tryz.func207.trans (aw some (by kernel_rfl))⟩
 f28:=Tryz.func208.trans (aw some (by kernel_rfl))
 f29:=Tryz.func209.trans (aw some (by kernel_rfl))
 f46:=⟨Tryz.f248.name,by decide,Tryz.func248.trans (aw some (by kernel_rfl))⟩
 f47:=Tryz.func249.trans (aw some (by kernel_rfl))
 f48:=Tryz.func250.trans (aw some (by kernel_rfl))
 f49:=⟨Tryz.f251.name,by decide,Tryz.func251.trans (aw some (by kernel_rfl))⟩
 f50:=⟨Tryz.f252.name,by decide,Tryz.func252.trans (aw some (by kernel_rfl))⟩
 f57:=⟨Tryz.f289.name,by decide,Tryz.func289.trans (aw some (by kernel_rfl))⟩
 t0:=Tryz.underlying0
 a0:=Tryz.isAgg0
 z0:=Tryz.sizeOf0
 v0:=Tryz.zeroValue0
 t3:=Tryz.underlying3
 a3:=Tryz.isAgg3
 z3:=Tryz.sizeOf3
 v3:=Tryz.zeroValue3
 t4:=Tryz.underlying4
 a4:=Tryz.isAgg4
 z4:=Tryz.sizeOf4
 v4:=Tryz.zeroValue4
 t5:=Tryz.underlying5
 a5:=Tryz.isAgg5
 z5:=Tryz.sizeOf5
 v5:=Tryz.zeroValue5
 t9:=Tryz.underlying9
 a9:=Tryz.isAgg9
 z9:=Tryz.sizeOf9
 v9:=Tryz.zeroValue9
 t22:=Tryz.underlying132
 a22:=Tryz.isAgg132
 z22:=Tryz.sizeOf132
 v22:=Tryz.zeroValue132
 a24:=Tryz.isAgg175
 z24:=Tryz.sizeOf175
 t25:=Tryz.underlying180
 a25:=Tryz.isAgg180
 z25:=Tryz.sizeOf180
 v25:=Tryz.zeroValue180
 t39:=Tryz.underlying238
 a39:=Tryz.isAgg238
 z39:=Tryz.sizeOf238
 v39:=Tryz.zeroValue238
 t45:=Tryz.underlying273
 a45:=Tryz.isAgg273
 z45:=Tryz.sizeOf273
 v45:=Tryz.zeroValue273
 t46:=Tryz.underlying274
 a46:=Tryz.isAgg274
 z46:=Tryz.sizeOf274
 v46:=Tryz.zeroValue274
 t50:=Tryz.underlying70
 a50:=Tryz.isAgg70
 z50:=Tryz.sizeOf70
 v50:=Tryz.zeroValue70
 t53:=Tryz.underlying280
 a53:=Tryz.isAgg280
 z53:=Tryz.sizeOf280
 v53:=Tryz.zeroValue280
 t55:=Tryz.underlying282
 a55:=Tryz.isAgg282
 z55:=Tryz.sizeOf282
 v55:=Tryz.zeroValue282
 t66:=Tryz.underlying313
 a66:=Tryz.isAgg313
 z66:=Tryz.sizeOf313
 v66:=Tryz.zeroValue313
 t70:=Tryz.underlying317
 a70:=Tryz.isAgg317
 z70:=Tryz.sizeOf317
 v70:=Tryz.zeroValue317
 t76:=Tryz.underlying346
 a76:=Tryz.isAgg346
 z76:=Tryz.sizeOf346
 v76:=Tryz.zeroValue346
 t77:=Tryz.underlying172
 a77:=Tryz.isAgg172
 z77:=Tryz.sizeOf172
 v77:=Tryz.zeroValue172}
end Go.Proofs
