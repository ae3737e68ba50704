import Derived.Test.YtkjhhooecopolaaGreatDoorWz20
import Derived.Test.YtkjhhooecopolaaGreatDoorProg
set_option maxRecDepth 100000
set_option maxHeartbeats 4000000
namespace Go.Proofs.YtkjhhooecopolaaGreatDoor.Ga
open Ge
theorem MT{n f t:N3}(hn:0<n.2.2)(hf:0<f.2.2)(hD:0<(wv f t).1)(k1:(wv n f).1<=0){u:Pt}(l:lam (wv f t) f u=0)(h:dt (wv f t) (rl f u)<=0):(rl n u).1<=0:=by
 have e1:dt (wv f t) (rl f u)*(wv f t).1=(rl f u).1*dt (wv f t) (wv f t):=by unfold lam cr at l;unfold dt;grind
 have p:=aQ (z:=dt (wv f t) (rl f u)) hD;have q:=aQ (z:=(rl f u).1) (cP (r:=wv f t) (kG (ag hD)));rw[dX] at p q;have e2:=(kF n f u).1;have r1:=aQ (z:=(rl f u).1) hn;have r2:=aQ (z:=(rl n u).1) hf;omega
theorem MU{n f t:N3}(hn:0<n.2.2)(ht:0<t.2.2)(hD:0<(wv f t).1)(k2:0<(wv n t).1){u:Pt}(l:lam (wv f t) t u=0)(h:0<=dt (wv f t) (rl t u)):0<(rl n u).1:=by
 have e1:dt (wv f t) (rl t u)*(wv f t).1=(rl t u).1*dt (wv f t) (wv f t):=by unfold lam cr at l;unfold dt;grind
 have p:=neg_mul (z:=dt (wv f t) (rl t u)) hD;have q:=neg_mul (z:=(rl t u).1) (cP (r:=wv f t) (kG (ag hD)));rw[dX] at p q;have e2:=(kF n t u).1;have r1:=neg_mul (z:=(rl t u).1) hn;have r2:=aQ (z:=(rl n u).1) ht;omega
theorem ago(q:N3)(D u v:Pt):fb q D v u= -fb q D u v:=by
 unfold fb;rw[vk];split
 ·rw[<-Qr];congr 1
  grind
 ·rfl
theorem VZ{n:N3}{W Y S:Int}{D:Pt}(hs:D.1*S=D.2*W)(p:Pt):lam D (bK n W Y) p=D.1*(W*(rl n p).2-Y-S*(rl n p).1):=by
 unfold lam;rw[sH];unfold cr;simp only
 grind
theorem V2{n f t:N3}{W Y S:Int}(hn:0<n.2.2)(hf:0<f.2.2)(ht:0<t.2.2)(hZ:ZP n f t W Y S)(k1:(wv n f).1<=0)(k2:0<(wv n t).1){u v:Pt}(hS:jS f t (wv f t) u v)(hu:mJ f t (wv f t) u)(hv:mJ f t (wv f t) v)(h1:(rl n u).1<=0)(h2:0<(rl n v).1):
  fb (bf f t) (wv f t) u v=bb (decide (-cr (rl n u) (rl n v)*W=Y*((rl n v).1-(rl n u).1)/\((rl n v).2-(rl n u).2)*W=S*((rl n v).1-(rl n u).1))):=by
 have hr:aJ (wv f t):=ag hZ.d;have hq:0<(bf f t).2.2:=by show 0<f.2.2+t.2.2;omega
 have zu:=VZ (n:=n) (Y:=Y) hZ.s u;have zv:=VZ (n:=n) (Y:=Y) hZ.s v;have eu:((rl n v).1-(rl n u).1)*(W*(rl n u).2-Y-S*(rl n u).1)= -(W*cr (rl n u) (rl n v)+Y*((rl n v).1-(rl n u).1))+(((rl n v).2-(rl n u).2)*W-S*((rl n v).1-(rl n u).1))*(rl n u).1:=by unfold cr;grind
 have ev:((rl n v).1-(rl n u).1)*(W*(rl n v).2-Y-S*(rl n v).1)= -(W*cr (rl n u) (rl n v)+Y*((rl n v).1-(rl n u).1))+(((rl n v).2-(rl n u).2)*W-S*((rl n v).1-(rl n u).1))*(rl n v).1:=by unfold cr;grind
 have pw:0<(rl n v).1-(rl n u).1:=by omega
 by_cases Ay:lam (wv f t) f u=0/\lam (wv f t) f v=0
 ·obtain⟨l1,l2⟩:=Ay;have A0:W*(rl n u).2-Y-S*(rl n u).1=0:=(dE hZ.d).1 (zu.symm.trans ((hZ.lz u).1 l1));have B0:W*(rl n v).2-Y-S*(rl n v).1=0:=(dE hZ.d).1 (zv.symm.trans ((hZ.lz v).1 l2));have pu:=place hf ht hr hu l1;have pv:=place hf ht hr hv l2;have pu':dt (wv f t) (rl (bf f t) u)<0:=by
   rcases pu with h|h
   ·exact h.2.1
   ·have:=MU hn ht hZ.d k2 ((qp hf ht hr u).2 l1) h.2.2;omega
  have pv':0<dt (wv f t) (rl (bf f t) v):=by
   rcases pv with h|h
   ·have:=MT hn hf hZ.d k1 l2 h.1;omega
   ·exact h.2.1
  have oq:=(qo (kG hr) ((zh hf ht hr u).2 l1) ((zh hf ht hr v).2 l2)).2 (rE (dS pu') (dS pv'));have K1:(bf f t).2.2*((wv f t).1*(v.1-u.1)+(wv f t).2*(v.2-u.2))=dt (wv f t) (rl (bf f t) v)-dt (wv f t) (rl (bf f t) u):=by
   unfold dt rl rel
   grind
  have s1:=aQ (z:=(wv f t).1*(v.1-u.1)+(wv f t).2*(v.2-u.2)) hq;rw[K1] at s1;have sgn:((wv f t).1*(v.1-u.1)+(wv f t).2*(v.2-u.2)).sign=1:=pq (s1.1 (by omega))
  unfold fb;rw[oq,sgn];have hE:((rl n v).2-(rl n u).2)*W=S*((rl n v).1-(rl n u).1):=by grind
  have hC: -cr (rl n u) (rl n v)*W=Y*((rl n v).1-(rl n u).1):=by
   rw[A0] at eu;have e0:((rl n v).2-(rl n u).2)*W-S*((rl n v).1-(rl n u).1)=0:=by omega
   rw[e0] at eu;have e1: -cr (rl n u) (rl n v)*W= -(W*cr (rl n u) (rl n v)):=by grind
   rw[e1];omega
  rw[eN (And.intro hC hE)];rfl
 ·have o1:=K0 hf ht hr hS Ay;unfold fb;rw[o1];have hno:¬(-cr (rl n u) (rl n v)*W=Y*((rl n v).1-(rl n u).1)/\((rl n v).2-(rl n u).2)*W=S*((rl n v).1-(rl n u).1)):=by
   rintro⟨hC,hE⟩;apply Ay;have e0:((rl n v).2-(rl n u).2)*W-S*((rl n v).1-(rl n u).1)=0:=by omega
   have e1: -cr (rl n u) (rl n v)*W= -(W*cr (rl n u) (rl n v)):=by grind
   rw[e1] at hC;rw[e0] at eu ev;have A0:=(dE (z:=W*(rl n u).2-Y-S*(rl n u).1) pw).1 (by omega)
   have B0:=(dE (z:=W*(rl n v).2-Y-S*(rl n v).1) pw).1 (by omega)
   rw[A0] at zu;rw[B0] at zv;exact⟨(hZ.lz u).2 (by omega),(hZ.lz v).2 (by omega)⟩
  rw[gv hno];rfl
theorem agr{n f t:N3}{W Y S:Int}(hn:0<n.2.2)(hf:0<f.2.2)(ht:0<t.2.2)(hZ:ZP n f t W Y S)(k1:(wv n f).1<=0)(k2:0<(wv n t).1){u v:Pt}(hS:jS f t (wv f t) u v)(hu:mJ f t (wv f t) u)(hv:mJ f t (wv f t) v)(h:¬((rl n u).1<=0/\0<(rl n v).1))(h':¬((rl n v).1<=0/\0<(rl n u).1)):
  fb (bf f t) (wv f t) u v=0:=by
 have hr:aJ (wv f t):=ag hZ.d;have o1:on (rl (bf f t) u) (rl (bf f t) v)=false:=by
  by_cases Ay:lam (wv f t) f u=0/\lam (wv f t) f v=0
  ·obtain⟨l1,l2⟩:=Ay;have pu:=place hf ht hr hu l1;have pv:=place hf ht hr hv l2;cases ho:on (rl (bf f t) u) (rl (bf f t) v)
   ·rfl
   ·exfalso;have oq:=(qo (kG hr) ((zh hf ht hr u).2 l1) ((zh hf ht hr v).2 l2)).1 ho;rcases pu with⟨x1,x2,x3⟩|⟨x1,x2,x3⟩<;>rcases pv with⟨y1,y2,y3⟩|⟨y1,y2,y3⟩
    ·exact vh x2 y2 oq
    ·have a:=MT hn hf hZ.d k1 l1 x1;have b:=MU hn ht hZ.d k2 ((qp hf ht hr v).2 l2) y3;exact h ⟨a,b⟩
    ·have a:=MT hn hf hZ.d k1 l2 y1;have b:=MU hn ht hZ.d k2 ((qp hf ht hr u).2 l1) x3;exact h' ⟨a,b⟩
    ·exact xj x2 y2 oq
  ·exact K0 hf ht hr hS Ay
 unfold fb;rw[o1];rfl
theorem I5{F:Pt->Pt->Int}{n:N3}{p:Pt×Pt->Bool}:∀{es:List (Pt×Pt)},(∀e∈es,F e.1 e.2=if p e then wt n e else 0)->total F es=bV (wt n) p es
 |[],_=>rfl
 |e::l,h=>by rw[dZ,qL,h e (by simp),I5 fun x hx=>h x (aT _ hx)]
theorem MV(es:List (Pt×Pt))(n:N3):PP es n=bV (wt n) (fun e=>decide (kY n e<0)) es:=by
 refine I5 fun e _=>?_
 unfold right wt kY;have:=bT (rl n e.1) (rl n e.2);by_cases h1:(rl n e.1).1<=0/\0<(rl n e.2).1
 ·rw[aj h1,aj h1];by_cases hc:0<cr (rl n e.1) (rl n e.2)
  ·rw[aj ⟨h1.1,h1.2,hc⟩,eN (by omega)];rfl
  ·rw[af (by omega),af (by omega),gv (by omega)];rfl
 ·by_cases h2:(rl n e.2).1<=0/\0<(rl n e.1).1
  ·rw[af h1,aj h2,af h1,aj h2,af (by omega)]
   by_cases hc:cr (rl n e.1) (rl n e.2)<0
   ·rw[aj ⟨h2.2,h2.1,hc⟩,eN (by omega)];rfl
   ·rw[af (by omega),gv (by omega)];rfl
  ·rw[af h1,af h2,af h1,af h2,af (by omega),af (by omega)]
   split<;>rfl
theorem V3(p:Bool):(if p then(1:Int) else 0)=bb p:=rfl
theorem V4{rg:List (List Pt)}{n f t:N3}{e0:Pt×Pt}(hn:0<n.2.2)(h:rF (ae rg) f t)(hZ:ZP n f t (kW n e0) (kY n e0) (kS n e0))(k1:(wv n f).1<=0)(k2:0<(wv n t).1):
  RR (ae rg) f t=bV (wt n) (fun e=>aO n e e0) (ae rg)/\total (fb (bf f t) (wv f t)) (ae rg)=bV (wt n) (fun e=> !aO n e e0&& !aO n e0 e) (ae rg):=by
 have I6:∀e,kS n e*kW n e0=kS n e0*kW n e/\kY n e*kW n e0=kY n e0*kW n e↔(!aO n e e0&& !aO n e0 e)=true:=fun e=>by
  unfold aO;simp only[pj,Qz,QA];omega
 constructor
 ·rw[agn hn h hZ];unfold PP;rw[<-FZ];refine I5 fun e _=>?_
  by_cases h1:(rl n e.1).1<=0/\0<(rl n e.2).1
  ·rw[VU hZ.w hZ.d hZ.s h1.1 h1.2];unfold wt;rw[aj h1,V3];congr 1;unfold aO;have a:kY n e= -cr (rl n e.1) (rl n e.2):=aj h1;have b:kW n e=(rl n e.2).1-(rl n e.1).1:=aj h1;have c:kS n e=(rl n e.2).2-(rl n e.1).2:=aj h1;rw[a,b,c]
  ·by_cases h2:(rl n e.2).1<=0/\0<(rl n e.1).1
   ·have g:=VU (Y:=kY n e0) hZ.w hZ.d hZ.s h2.1 h2.2;rw[KO (rl (bK n (kW n e0) (kY n e0)) e.1),agf] at g;have a:kY n e= -cr (rl n e.2) (rl n e.1):=(af h1).trans (aj h2);have b:kW n e=(rl n e.1).1-(rl n e.2).1:=(af h1).trans (aj h2);have c:kS n e=(rl n e.1).2-(rl n e.2).2:=(af h1).trans (aj h2);rw[<-a,<-b,<-c] at g;have hw:wt n e= -1:=(af h1).trans (aj h2);rw[hw];have g': -(right (rl (bK n (kW n e0) (kY n e0)) e.1) (rl (bK n (kW n e0) (kY n e0)) e.2)+cA (bK n (kW n e0) (kY n e0)) (wv f t) e.1 e.2)=bb (aO n e e0):=by
     rw[<-show _=bb (aO n e e0) from g]
     omega
    cases hk:aO n e e0<;>rw[hk] at g'<;>unfold bb at g'<;>simp at g'⊢ <;>omega
   ·have hw:wt n e=0:=(af h1).trans (af h2);rw[agh hZ.w h1 h2,hw];split<;>rfl
 ·refine I5 fun e he=>?_
  by_cases h1:(rl n e.1).1<=0/\0<(rl n e.2).1
  ·rw[V2 hn h.pf h.pt hZ k1 k2 (h.s e he) (h.c e he).1 (h.c e he).2 h1.1 h1.2];have hw:wt n e=1:=aj h1;have a:kY n e= -cr (rl n e.1) (rl n e.2):=aj h1;have b:kW n e=(rl n e.2).1-(rl n e.1).1:=aj h1;have c:kS n e=(rl n e.2).2-(rl n e.1).2:=aj h1;have k:=I6 e;rw[a,b,c] at k;rw[hw,V3];congr 1;refine lg.2 (Iff.trans ?_ k);rw[pE];exact And.comm
  ·by_cases h2:(rl n e.2).1<=0/\0<(rl n e.1).1
   ·have g:=V2 hn h.pf h.pt hZ k1 k2 (u:=e.2) (v:=e.1) (by
      have:=h.s e he;refine⟨fun x y z=>?_,fun x y z=>?_⟩
      ·have:=this.2 x y z;rw[bT (rl f e.1) (rl f e.2),bT (rl t e.1) (rl t e.2)];omega
      ·have:=this.1 x y z;rw[bT (rl f e.1) (rl f e.2),bT (rl t e.1) (rl t e.2)];omega) (h.c e he).2 (h.c e he).1 h2.1 h2.2
    rw[ago] at g;have hw:wt n e= -1:=(af h1).trans (aj h2);have a:kY n e= -cr (rl n e.2) (rl n e.1):=(af h1).trans (aj h2);have b:kW n e=(rl n e.1).1-(rl n e.2).1:=(af h1).trans (aj h2);have c:kS n e=(rl n e.1).2-(rl n e.2).2:=(af h1).trans (aj h2);have k:=I6 e;rw[<-a,<-b,<-c] at g;have k':decide (kY n e*kW n e0=kY n e0*kW n e/\kS n e*kW n e0=kS n e0*kW n e)=(!aO n e e0&& !aO n e0 e):=by
     refine lg.2 (Iff.trans ?_ k);rw[pE];exact And.comm
    rw[k'] at g;rw[hw];cases hk:(!aO n e e0&& !aO n e0 e)<;>rw[hk] at g<;>unfold bb at g<;>simp at g⊢ <;>omega
   ·have hw:wt n e=0:=(af h1).trans (af h2);rw[agr hn h.pf h.pt hZ k1 k2 (h.s e he) (h.c e he).1 (h.c e he).2 h1 h2,hw];split<;>rfl
theorem ags{rg:List (List Pt)}{l:List Nd}(hN:bC (ae rg) l){inn:Int->Bool}(h0:inn 0=false){n:Nd}(hn:n∈l)(h:inn (PP (ae rg) n)=true):
  ∃f t,Sd (ae rg) l inn f t/\(wv n f).1<=0/\0<(wv n t).1/\0<cr (wv f t) (wv f n):=by
 have cn:=hN.can n hn;rw[MV] at h;obtain⟨e0,Ar,hT,hb,ha⟩:=VT (wh n) (qM n) (uA n) (wt n) inn h0 (ae rg) _ (fun e=>decide (kY n e<0)) (fun x y hy hyx=>by
   have hy':=gh hy;refine eN ?_;have anL:¬_:=fun k=>by rw[Ax.2 k] at hyx;cases hyx
   have px:=sG n x;have py:=sG n y;have q1:=(neg_mul (z:=kY n y) px).2 hy';have q2:=neg_mul (z:=kY n x) py;rw[dX] at q1 q2;exact q2.1 (by omega)) (ay _) h
 have hT':=gh hT;obtain⟨a,b,hab,h1,h2,hW,hY,hS⟩:∃a b,((a=e0.1/\b=e0.2)\/(a=e0.2/\b=e0.1))/\(rl n a).1<=0/\0<(rl n b).1/\kW n e0=(rl n b).1-(rl n a).1/\kY n e0= -cr (rl n a) (rl n b)/\kS n e0=(rl n b).2-(rl n a).2:=by
  by_cases k1:(rl n e0.1).1<=0/\0<(rl n e0.2).1
  ·exact⟨e0.1,e0.2,ag ⟨rfl,rfl⟩,k1.1,k1.2,aj k1,aj k1,aj k1⟩
  ·by_cases k2:(rl n e0.2).1<=0/\0<(rl n e0.1).1
   ·exact⟨e0.2,e0.1,ah ⟨rfl,rfl⟩,k2.1,k2.2,(af k1).trans (aj k2),(af k1).trans (aj k2),(af k1).trans (aj k2)⟩
   ·exfalso;have:kY n e0=0:=(af k1).trans (af k2);omega
 obtain⟨f,t,hpc,k1,k2,hD,la,lb⟩:=MS hN hn Ar hab h1 h2;have hP:=hpc.kK hN;have hZ:=VW cn.pos hP.pf hP.pt h1 h2 k1 k2 hD la lb;rw[<-hW,<-hY,<-hS] at hZ;obtain⟨r1,r2⟩:=V4 cn.pos hP hZ k1 k2;refine⟨f,t,ag ⟨hpc,?_,?_⟩,k1,k2,?_⟩
 ·unfold LL;have:PP (ae rg) (bf f t)=RR (ae rg) f t:=rfl;rw[this,r1,r2];exact ha
 ·rw[r1];exact hb
 ·have sI:0<(bK n (kW n e0) (kY n e0)).2.2:=aR cn.pos hZ.w;obtain⟨m1,m2⟩:=D7 (bK n (kW n e0) (kY n e0)) f n;have c0:cr (wv f t) (wv (bK n (kW n e0) (kY n e0)) f)=0:=by
   have:cr (wv f t) (wv f (bK n (kW n e0) (kY n e0)))=0:=by
    rcases hZ.zf with k|k
    ·rw[k];exact(zg _).2.1
    ·exact QO k
   rw[dU f,dP];omega
  have ezn:wv (bK n (kW n e0) (kY n e0)) n=(0, -(n.2.2*kY n e0)):=by
   unfold wv bK;exact bX (by simp only;grind) (by simp only;grind)
  have hpos:0<cr (wv f t) (wv (bK n (kW n e0) (kY n e0)) n):=by
   rw[ezn];unfold cr;simp only;have:=(neg_mul (z:=kY n e0) cn.pos).2 hT';have:=aR hD (show 0< -(n.2.2*kY n e0) by omega)
   omega
  have e:(bK n (kW n e0) (kY n e0)).2.2*cr (wv f t) (wv f n)=f.2.2*cr (wv f t) (wv (bK n (kW n e0) (kY n e0)) n)-n.2.2*cr (wv f t) (wv (bK n (kW n e0) (kY n e0)) f):=by
   have:(bK n (kW n e0) (kY n e0)).2.2*cr (wv f t) (wv f n)=(wv f t).1*((bK n (kW n e0) (kY n e0)).2.2*(wv f n).2)-(wv f t).2*((bK n (kW n e0) (kY n e0)).2.2*(wv f n).1):=by unfold cr;grind
   rw[this,m1,m2];unfold cr
   grind
  rw[c0] at e;have:=aR hP.pf hpos;exact(aQ sI).1 (by omega)
end Go.Proofs.YtkjhhooecopolaaGreatDoor.Ga
namespace Go.Proofs.YtkjhhooecopolaaGreatDoor
open Go.RowKit
def wj(x:PB)(wk:Bool)(ow:Option Addr):Array Value:=(x.cells++[Value.bool wk,Value.pointer ow]).toArray
def aL(bs:List Nat):List Value:=bs.map fun b=>.pointer (some ⟨b,0,none⟩)
theorem agu{w:World}{v:Value}{l:List PB}(h:qE w v l):∃so cap,v=.slice so l.length cap:=by
 rcases h.2 with⟨hv,h0⟩|⟨b,cap,cur,hv,_⟩
 ·exact⟨none,0,by rw[hv,h0]⟩
 ·exact⟨_,cap,hv⟩
theorem agv{w:World}{so:Option Addr}{n cap:Nat}{l:List PB}(h:qE w (.slice so n cap) l){k:Nat}{x:PB}(he:l[k]?=some x):
  ∃b,so=some ⟨b,0,none⟩/\b<w.heap.size/\w.cell? ⟨b,k*6,none⟩=some (.complex .f64 x.wa x.wb)/\w.cell? ⟨b,k*6+1,none⟩=some (.float .f64 x.sh)/\w.cell? ⟨b,k*6+2,none⟩=some (.complex .f64 (floatOfInt .f64 x.f.1) (floatOfInt .f64 x.f.2.1))/\w.cell? ⟨b,k*6+3,none⟩=some (.int .i64 x.f.2.2)/\w.cell? ⟨b,k*6+4,none⟩=some (.complex .f64 (floatOfInt .f64 x.t.1) (floatOfInt .f64 x.t.2.1))/\w.cell? ⟨b,k*6+5,none⟩=some (.int .i64 x.t.2.2):=by
 have g:=IH l k x he;obtain⟨b,c,hv,hb,hc⟩:=GZ h (g 0 (by omega))
 injection hv with hv;exact⟨b,hv,hb,hc _ _ (g 0 (by omega)),hc _ _ (g 1 (by omega)),hc _ _ (g 2 (by omega)),hc _ _ (g 3 (by omega)),hc _ _ (g 4 (by omega)),hc _ _ (g 5 (by omega))⟩
structure BS(w:World)(lv:Value)(bs:List Nat)(Xs:List PB)(wr:World):Prop where
 own:wr.ownsRow w.heap.size 175 1 lv bs.length (aL bs)
 len:bs.length=Xs.length
 lies:∀(i:Nat) b x,bs[i]?=some b->Xs[i]?=some x->w.heap.size<=b/\wr.heap[b]?=some (.cells (wj x false none) 177 (0,0))
 ne:∀b∈bs,lv.ownBlock≠some b
 nd:bs.Nodup
 below:Below w.heap.size w wr
theorem BS.keep{w:World}{lv:Value}{bs:List Nat}{Xs:List PB}{wr w':World}(h:BS w lv bs Xs wr)(hb:Below wr.heap.size wr w'):BS w lv bs Xs w':=
 ⟨aU h.own fun k hk=>hb.block k (aB h.own k hk).2,h.len,fun i b x h1 h2=>⟨(h.lies i b x h1 h2).1,(hb.block _ (lt_of_heap (h.lies i b x h1 h2).2)).trans (h.lies i b x h1 h2).2⟩,h.ne,h.nd,h.below.trans (hb.mono h.below.size)⟩
theorem BS.lt{w:World}{lv:Value}{bs:List Nat}{Xs:List PB}{wr:World}(h:BS w lv bs Xs wr){b:Nat}(hb:b∈bs):b<wr.heap.size:=by
 obtain⟨i,hi,rfl⟩:=iO.1 hb;have hx:i<Xs.length:=by rw[<-h.len];exact hi
 exact lt_of_heap (h.lies i _ _ (aC hi) (aC hx)).2
theorem BS.snoc{w:World}{lv:Value}{bs:List Nat}{Xs:List PB}{wr:World}(h:BS w lv bs Xs wr)(x:PB)(o:Obj){g cap:Nat}{w8:World}
  (bo:((wr.alloc (.cells (wj x false none) 177)).alloc o).grownBy w8 lv.ownBlock)
  (cU:w8.ownsRow w.heap.size 175 1 (.slice (some ⟨g,0,none⟩) (bs.length+1) cap) (bs.length+1) (aL bs++[.pointer (some ⟨wr.heap.size,0,none⟩)]))
  (hat:lv.ownBlock=some g\/g=wr.heap.size+2):BS w (.slice (some ⟨g,0,none⟩) (bs.length+1) cap) (bs++[wr.heap.size]) (Xs++[x]) w8:=by
 have hsz:((wr.alloc (.cells (wj x false none) 177)).alloc o).heap.size=wr.heap.size+2:=by simp
 have hsz1:(wr.alloc (.cells (wj x false none) 177)).heap.size=wr.heap.size+1:=by simp
 have hown:∀k,lv.ownBlock=some k->k<wr.heap.size:=fun k hk=>(aB h.own k hk).2
 have hold:∀b,b<wr.heap.size->lv.ownBlock≠some b->w8.heap[b]?=wr.heap[b]?:=fun b hb hne=>
  (bo.block b (by omega) (fun e=>hne e.symm)).trans ((Below.heap_alloc _ _ _ (by omega)).trans (Below.heap_alloc _ _ _ hb))
 refine⟨?_,by rw[aX,aX,h.len];rfl,fun i b y h1 h2=>?_,fun b hb=>?_,?_,?_⟩
 ·have e:aL (bs++[wr.heap.size])=aL bs++[.pointer (some ⟨wr.heap.size,0,none⟩)]:=by simp[aL]
  rw[e,aX];exact cU
 ·by_cases hi:i<bs.length
  ·rw[fC hi] at h1;rw[fC (by rw[<-h.len];exact hi)] at h2
   obtain⟨k1,k2⟩:=h.lies i b y h1 h2;exact⟨k1,(hold b (lt_of_heap k2) (h.ne b (aZ h1))).trans k2⟩
  ·have hi2:i=bs.length:=by
    have:=(bZ.1 h1).1;simp at this;omega
   subst hi2;have e1:b=wr.heap.size:=by simpa using h1.symm
   have e2:y=x:=by rw[h.len] at h2;simpa using h2.symm
   subst e1 e2;refine⟨h.below.size,(bo.block _ (by omega) (fun e=>abc _ (hown _ e.symm))).trans ((Below.heap_alloc _ _ _ (by omega)).trans (heap_alloc_new _ _))⟩
 ·intro he;have he':g=b:=by simpa[Value.ownBlock] using he
  subst he';rcases bQ.1 hb with hb|hb
  ·rcases hat with hat|hat
   ·exact h.ne g hb hat
   ·have:=h.lt hb;omega
  ·rw[bY] at hb;rcases hat with hat|hat
   ·have:=hown g hat;omega
   ·omega
 ·rw[KG];refine⟨h.nd,by simp,fun a ha b hb=>?_⟩
  rw[bY.1 hb];have:=h.lt ha;omega
 ·exact((h.below.alloc h.below.size _).alloc (by have:=h.below.size;omega) _).grown bo (by have:=h.below.size;omega) (fun k hk=>(aB h.own k hk).1)
theorem V5:∀{m:List Ge.Nd},m.Pairwise (fun a b=>Ge.lt (Ge.ax a) (Ge.ax b))->∀{q:Ge.Nd×Ge.Nd},q∈Ge.nexts m->Ge.lt (Ge.ax q.1) (Ge.ax q.2)
 |[],_,_,h=>by simp[Ge.nexts] at h
 |[_],_,_,h=>by simp[Ge.nexts] at h
 |a::b::r,hp,q,h=>by
  rcases aP.1 h with h|h
  ·rw[h];exact(fK.1 hp).1 b (by simp)
  ·exact V5 (fK.1 hp).2 h
theorem agw{es:List Ed}{l:List Ge.Nd}(hl:l.map Ge.ax=Ge.gV es)(e:Ed):(Ge.held e l).Pairwise (fun a b=>Ge.lt (Ge.ax a) (Ge.ax b)):=by
 have ha:Ge.rR (l.map Ge.ax):=by rw[hl];exact(Ge.xP es).2.1
 exact abk _ (lR.1 ha)
theorem I7{es:List Ed}{l:List Ge.Nd}{Ps:List PB}(h:nO es l Ps)(hl:l.map Ge.ax=Ge.gV es)(p:PB)(hp:p∈Ps):Ge.lt (Ge.ax p.f) (Ge.ax p.t):=by
 obtain⟨e,he⟩:=h.ap.mem p hp;have hq:=he.2.2;have hh:=agw hl e;generalize Ge.held e l=H at*;have k:=V5 hh hq;exact k
def fA(r:Int)(es:List Ed)(p:PB):List PB:=
 if Ge.takes r (pR es p.f p.t)=true/\Ge.takes r (nP es p.f p.t)=false then[p]
 else if Ge.takes r (nP es p.f p.t)=true/\Ge.takes r (pR es p.f p.t)=false then[p.rev] else[]
theorem ym:(Tryz.prog.info? 175).map (fun i=>(i.zero,i.size,i.bytes))=some (some (.pointer none),1,8):=by kernel_rfl
theorem agx(es:List Ed)(r:Int)(v:Value)(w:World)(hR:iW w v es)(hl:es.length<=402)(hs:∀e∈es,eO e)(hne:∀e∈es,e.1≠e.2)
  (Q:Value->World->Prop)
  (HS:Hid (∀Ps l,l.map Ge.ax=Ge.gV es->(∀n∈l,Ge.Can n)->nO es l Ps->∀w1 lv bs wr,Below w.heap.size w w1->BS w1 lv bs (Ps.flatMap (fA r es)) wr->bs.length<=85000000->Calls Tryz.prog 108 #[lv,.func (.func 109) #[] #[]] wr fun e w'=>e=.returned (.tuple #[])/\Q lv w')):
  Calls Tryz.prog 68 #[v,.int .u8 r] w fun e w'=>∃lv,e=.returned lv/\Q lv w':=by
 obtain⟨so,cap,rfl⟩:=Hc hR;obtain⟨i0,hi,hz0,hz1,hz2⟩:=info_parts ym;have HP:Hid (Calls Tryz.prog 104 #[.slice so es.length cap] w fun r w'=>∃v' Ps,r=.returned v'/\qE w' v' Ps/\Below w.heap.size w w'/\Ps.length<=85000000/\∃l,l.map Ge.ax=Ge.gV es/\(∀n∈l,Ge.Can n)/\nO es l Ps):=afP es _ w hR hl hs
 have HR:Hid (iW w (.slice so es.length cap) es):=hR;have I8:Hid (∀t w,Calls Tryz.prog 106 #[.int .u8 r,.int .i64 t] w fun e w'=>e=.returned (.bool (Ge.takes r t))/\w'=w):=fun t w=>aey r t w
 go_enter Tryz.func68,Tryz.ntmps68
 go_wp2_with fail
 refine HP.out.mono ?_;rintro r' w1 ⟨pv,Ps,rfl,MW,hb1,wm,l,mh,fZ,qN⟩;obtain⟨ps,pc,rfl⟩:=agu MW;have V6:Hid (qE w1 (.slice ps Ps.length pc) Ps):=MW;have yn:Hid (iW w1 (.slice so es.length cap) es):=UI HR.out hb1;have MX:Hid (∀p∈Ps,∀v w,iW w v es->Calls Tryz.prog 105 #[.agg p.cells.toArray,v] w fun r w'=>r=.returned (.tuple #[.int .i64 (pR es p.f p.t),.int .i64 (nP es p.f p.t)])/\Below w.heap.size w w'):=fun p hp=>afV p es l hne (qN.v p hp) (I7 qN mh p hp) (qN.ap.mem p hp) hl hs
 have V7:=HS.out Ps l mh fZ qN w1;have V8:Hid (∀lv bs wr,BS w1 lv bs (Ps.flatMap (fA r es)) wr->bs.length<=85000000->Calls Tryz.prog 108 #[lv,.func (.func 109) #[] #[]] wr fun e w'=>e=.returned (.tuple #[])/\Q lv w'):=fun lv bs wr h1 h2=>V7 lv bs wr hb1 h1 h2
 clear V7 HS qN fZ mh MW HP HR hR hs hne;have bW:Hid (∃bs,BS w1 (.slice none 0 0) bs ((Ps.take 0).flatMap (fA r es)) w1/\bs.length<=0):=⟨[],⟨World.ownsRow_nil _ _ _ _,by simp,fun i b x h=>by simp at h,fun b h=>by simp at h,by simp,Below.refl _ _⟩,by simp⟩
 go_wp2_with fail
 go_loopg [5,15] Ps.length (fun m lv iv wr=>∃k:Nat,k+m=Ps.length/\iv=.int .i64 k/\Hid (∃bs,BS w1 lv bs ((Ps.take k).flatMap (fA r es)) wr/\bs.length<=k))
 case atStart=>exact⟨0,by omega,rfl,bW⟩
 case round=>
  obtain⟨k,hkn,rfl,HE⟩:=hrel;clear bW;obtain⟨bs,jy,hbl⟩:=HE.out;have yo:Hid (BS w1 u5 bs ((Ps.take k).flatMap (fA r es)) wr):=jy;clear HE;by_cases hlt:k<Ps.length
  ·obtain⟨p,hpk⟩:∃p,Ps[k]?=some p:=⟨_,aC hlt⟩;obtain⟨b,rfl,hb,c0,c1,c2,c3,c4,c5⟩:=agv V6.out hpk;have aw:=jy.below;have r0:=(aw.cell (p:=⟨b,k*6,none⟩) hb).trans c0;have r1:=(aw.cell (p:=⟨b,k*6+1,none⟩) hb).trans c1;have r2:=(aw.cell (p:=⟨b,k*6+2,none⟩) hb).trans c2;have r3:=(aw.cell (p:=⟨b,k*6+3,none⟩) hb).trans c3;have r4:=(aw.cell (p:=⟨b,k*6+4,none⟩) hb).trans c4;have r5:=(aw.cell (p:=⟨b,k*6+5,none⟩) hb).trans c5;have hbr:b<wr.heap.size:=bu hb aw.size;have fN:(k:Int)<(Ps.length:Int):=by omega
   have MZ:=MX.out p (aZ hpk);have Az:Hid (∀w,Calls Tryz.prog 107 #[.agg p.cells.toArray] w fun e w'=>e=.returned (.agg p.rev.cells.toArray)/\Below w.heap.size w w'):=fun w=>aeY p w
   have I9:Hid ((Ps.take (k+1)).flatMap (fA r es)=(Ps.take k).flatMap (fA r es)++fA r es p):=by
    have htk:Ps.take (k+1)=Ps.take k++[p]:=by rw[jF,hpk];rfl
    show(Ps.take (k+1)).flatMap (fA r es)=_;rw[htk,abm,po,aaM,q9]
   have Ja:Hid (fA r es p=if Ge.takes r (pR es p.f p.t)=true/\Ge.takes r (nP es p.f p.t)=false then[p] else if Ge.takes r (nP es p.f p.t)=true/\Ge.takes r (pR es p.f p.t)=false then[p.rev] else[]):=rfl
   have M0:=I8.out (pR es p.f p.t);have DF:=I8.out (nP es p.f p.t);clear c0 c1 c2 c3 c4 c5 hpk jy;generalize pR es p.f p.t=TL at*;generalize nP es p.f p.t=TR at*;have sJ:Hid (p.cells=[.complex .f64 p.wa p.wb,.float .f64 p.sh,.complex .f64 (floatOfInt .f64 p.f.1) (floatOfInt .f64 p.f.2.1),.int .i64 p.f.2.2,.complex .f64 (floatOfInt .f64 p.t.1) (floatOfInt .f64 p.t.2.1),.int .i64 p.t.2.2]):=rfl;have M3:Hid (p.rev.cells=[.complex .f64 (Op.negFloat .f64 p.wa) (Op.negFloat .f64 p.wb),.float .f64 (Op.negFloat .f64 p.sh),.complex .f64 (floatOfInt .f64 p.t.1) (floatOfInt .f64 p.t.2.1),.int .i64 p.t.2.2,.complex .f64 (floatOfInt .f64 p.f.1) (floatOfInt .f64 p.f.2.1),.int .i64 p.f.2.2]):=rfl;have Jb:=Az.out;rw[sJ.out] at MZ Jb;rw[M3.out] at Jb;clear Az;generalize Op.negFloat .f64 p.wa=N1 at*;generalize Op.negFloat .f64 p.wb=N2 at*;generalize Op.negFloat .f64 p.sh=N3 at*;generalize p.wa=A1 at*;generalize p.wb=A2 at*;generalize p.sh=A3 at*;generalize floatOfInt .f64 p.f.1=A4 at*;generalize floatOfInt .f64 p.f.2.1=A5 at*;generalize p.f.2.2=A6 at*;generalize floatOfInt .f64 p.t.1=A7 at*;generalize floatOfInt .f64 p.t.2.1=A8 at*;generalize p.t.2.2=A9 at*;have V9:Hid (∀v w,iW w v es->Calls Tryz.prog 105 #[.agg #[.complex .f64 A1 A2,.float .f64 A3,.complex .f64 A4 A5,.int .i64 A6,.complex .f64 A7 A8,.int .i64 A9],v] w fun r w'=>r=.returned (.tuple #[.int .i64 TL,.int .i64 TR])/\Below w.heap.size w w'):=MZ
   have Az:Hid (∀w,Calls Tryz.prog 107 #[.agg #[.complex .f64 A1 A2,.float .f64 A3,.complex .f64 A4 A5,.int .i64 A6,.complex .f64 A7 A8,.int .i64 A9]] w fun e w'=>e=.returned (.agg #[.complex .f64 N1 N2,.float .f64 N3,.complex .f64 A7 A8,.int .i64 A9,.complex .f64 A4 A5,.int .i64 A6])/\Below w.heap.size w w'):=Jb
   have HSC:Hid (wj p false none= #[.complex .f64 A1 A2,.float .f64 A3,.complex .f64 A4 A5,.int .i64 A6,.complex .f64 A7 A8,.int .i64 A9,.bool false,.pointer none]):=by
    show(p.cells++[Value.bool false,Value.pointer none]).toArray=_;rw[sJ.out];rfl
   have HSR:Hid (wj p.rev false none= #[.complex .f64 N1 N2,.float .f64 N3,.complex .f64 A7 A8,.int .i64 A9,.complex .f64 A4 A5,.int .i64 A6,.bool false,.pointer none]):=by
    show(p.rev.cells++[Value.bool false,Value.pointer none]).toArray=_;rw[M3.out];rfl
   have HL:Hid (∀w,Calls Tryz.prog 106 #[.int .u8 r,.int .i64 TL] w fun e w'=>e=.returned (.bool (Ge.takes r TL))/\w'=w):=M0
   have Wa:Hid (∀w,Calls Tryz.prog 106 #[.int .u8 r,.int .i64 TR] w fun e w'=>e=.returned (.bool (Ge.takes r TR))/\w'=w):=DF
   have hb0:Below wr.heap.size wr (wr.alloc (.cells #[.complex .f64 A1 A2,.float .f64 A3,.complex .f64 A4 A5,.int .i64 A6,.complex .f64 A7 A8,.int .i64 A9] 171)):=(Below.refl _ _).alloc (ay _) _;have qF:=heap_alloc_new wr (.cells #[.complex .f64 A1 A2,.float .f64 A3,.complex .f64 A4 A5,.int .i64 A6,.complex .f64 A7 A8,.int .i64 A9] 171);have hz0':wr.heap.size<(wr.alloc (.cells #[.complex .f64 A1 A2,.float .f64 A3,.complex .f64 A4 A5,.int .i64 A6,.complex .f64 A7 A8,.int .i64 A9] 171)).heap.size:=by simp
   have Wb:Hid (iW (wr.alloc (.cells #[.complex .f64 A1 A2,.float .f64 A3,.complex .f64 A4 A5,.int .i64 A6,.complex .f64 A7 A8,.int .i64 A9] 171)) (.slice so es.length cap) es):=UI yn.out (aw.alloc aw.size _);clear MZ Jb M0 DF sJ M3 I8 MX;generalize Ge.takes r TL=bL at*;generalize Ge.takes r TR=bR at*
   go_wp2_with (simp only[fW,oD];go_simp)
   generalize wr.alloc (.cells #[.complex .f64 A1 A2,.float .f64 A3,.complex .f64 A4 A5,.int .i64 A6,.complex .f64 A7 A8,.int .i64 A9] 171)=W0 at*;refine(V9.out _ _ Wb.out).mono ?_;rintro r' w2 ⟨rfl,hb2⟩;have dC:=(hb2.block _ hz0').trans qF;have M4:Below wr.heap.size wr w2:=hb0.trans (hb2.mono (eJ hz0'));have gL:Hid (BS w1 u5 bs ((Ps.take k).flatMap (fA r es)) w2):=yo.out.keep M4;have e0:w2.cell? ⟨wr.heap.size,0,none⟩=some (.complex .f64 A1 A2):=cell_of dC 0;have e1:w2.cell? ⟨wr.heap.size,1,none⟩=some (.float .f64 A3):=cell_of dC 1;have e2:w2.cell? ⟨wr.heap.size,2,none⟩=some (.complex .f64 A4 A5):=cell_of dC 2;have e3:w2.cell? ⟨wr.heap.size,3,none⟩=some (.int .i64 A6):=cell_of dC 3;have e4:w2.cell? ⟨wr.heap.size,4,none⟩=some (.complex .f64 A7 A8):=cell_of dC 4;have e5:w2.cell? ⟨wr.heap.size,5,none⟩=some (.int .i64 A9):=cell_of dC 5;have agA:wr.heap.size<w2.heap.size:=lt_of_heap dC;clear r0 r1 r2 r3 r4 r5 V9 Wb yo qF hb0 hb2
   go_wp2_with fail
   refine(HL.out _).mono ?_;rintro r' w3 ⟨rfl,rfl⟩
   go_wp2_with fail
   refine(Wa.out _).mono ?_;rintro r' w3 ⟨rfl,rfl⟩;clear HL Wa;cases bL<;>cases bR
   ·have cI:Hid (∃bs,BS w1 u5 bs ((Ps.take (k+1)).flatMap (fA r es)) w3/\bs.length<=k+1):=by
     have e1:fA r es p=[]:=by rw[Ja.out];simp
     rw[I9.out,e1,q9];exact⟨bs,gL.out,by omega⟩
    clear gL
    go_wp2_with fail
    go_roundg (gk-1)
    case measure=>omega
    case rel=>exact⟨k+1,by omega,by go_num,cI⟩
   ·go_wp2_with fail
    refine(Az.out _).mono ?_;rintro r' w4 ⟨rfl,hb4⟩;have nQ:Hid (BS w1 u5 bs ((Ps.take k).flatMap (fA r es)) w4):=gL.out.keep hb4;have kT:=nQ.out.own;have hbz:=nQ.out.below.size;have hnb:((w4.alloc (.cells #[.complex .f64 N1 N2,.float .f64 N3,.complex .f64 A7 A8,.int .i64 A9,.complex .f64 A4 A5,.int .i64 A6,.bool false,.pointer none] 177)).alloc (.cells #[.pointer (some ⟨w4.heap.size,0,none⟩)] 175)).heap[w4.heap.size+1]?=some (.cells #[.pointer (some ⟨w4.heap.size,0,none⟩)] 175 (0,0)):=by
     have:=heap_alloc_new (w4.alloc (.cells #[.complex .f64 N1 N2,.float .f64 N3,.complex .f64 A7 A8,.int .i64 A9,.complex .f64 A4 A5,.int .i64 A6,.bool false,.pointer none] 177)) (.cells #[.pointer (some ⟨w4.heap.size,0,none⟩)] 175);simpa using this
    clear e0 e1 e2 e3 e4 e5 dC hb4 gL Az
    go_wp2_with (at_builtin;refine wpList_append_lies _ rfl (.tmp 47) (.tmp 52) 133 rfl w1.heap.size 175 i0 _ 1 8 Tryz.underlying133 hi hz0 hz1 hz2 rfl (by decide) u5 bs.length (aL bs) rfl (aU kT (fun k hk=>(Below.heap_alloc _ _ _ (by have:=(aB kT k hk).2;simp;omega)).trans (Below.heap_alloc _ _ _ (aB kT k hk).2))) ⟨w4.heap.size+1,0,none⟩ 1 1 [.pointer (some ⟨w4.heap.size,0,none⟩)] rfl rfl (World.news_of_block (cs:= #[.pointer (some ⟨w4.heap.size,0,none⟩)]) (t:=175) (fr:=(0,0)) hnb) (by simp[Value.oneCell']) (by decide) (by unfold maxLen;omega) (by omega) (by have:=hbz;simp;omega) (w4.heap.size+2) (by simp) ?_;intro g' cap' w8 cU bo gJ pP)
    have cI:Hid (∃bs',BS w1 (.slice (some ⟨g',0,none⟩) (bs.length+1) cap') bs' ((Ps.take (k+1)).flatMap (fA r es)) w8/\bs'.length<=k+1):=by
     have e1:fA r es p=[p.rev]:=by rw[Ja.out];simp
     rw[<-HSR.out] at bo;rw[I9.out,e1];exact⟨bs++[w4.heap.size],nQ.out.snoc p.rev _ bo cU gJ,by rw[aX];simp;omega⟩
    clear bo cU gJ hnb kT nQ
    go_wp2_with fail
    go_roundg (gk-1)
    case measure=>omega
    case rel=>exact⟨k+1,by omega,by go_num,cI⟩
   ·have kT:=gL.out.own;have nQ:=gL;have hbz:=gL.out.below.size;have hnb:((w3.alloc (.cells #[.complex .f64 A1 A2,.float .f64 A3,.complex .f64 A4 A5,.int .i64 A6,.complex .f64 A7 A8,.int .i64 A9,.bool false,.pointer none] 177)).alloc (.cells #[.pointer (some ⟨w3.heap.size,0,none⟩)] 175)).heap[w3.heap.size+1]?=some (.cells #[.pointer (some ⟨w3.heap.size,0,none⟩)] 175 (0,0)):=by
     have:=heap_alloc_new (w3.alloc (.cells #[.complex .f64 A1 A2,.float .f64 A3,.complex .f64 A4 A5,.int .i64 A6,.complex .f64 A7 A8,.int .i64 A9,.bool false,.pointer none] 177)) (.cells #[.pointer (some ⟨w3.heap.size,0,none⟩)] 175);simpa using this
    clear gL Az
    go_wp2_with (at_builtin;refine wpList_append_lies _ rfl (.tmp 36) (.tmp 40) 133 rfl w1.heap.size 175 i0 _ 1 8 Tryz.underlying133 hi hz0 hz1 hz2 rfl (by decide) u5 bs.length (aL bs) rfl (aU kT (fun k hk=>(Below.heap_alloc _ _ _ (by have:=(aB kT k hk).2;simp;omega)).trans (Below.heap_alloc _ _ _ (aB kT k hk).2))) ⟨w3.heap.size+1,0,none⟩ 1 1 [.pointer (some ⟨w3.heap.size,0,none⟩)] rfl rfl (World.news_of_block (cs:= #[.pointer (some ⟨w3.heap.size,0,none⟩)]) (t:=175) (fr:=(0,0)) hnb) (by simp[Value.oneCell']) (by decide) (by unfold maxLen;omega) (by omega) (by have:=hbz;simp;omega) (w3.heap.size+2) (by simp) ?_;intro g' cap' w8 cU bo gJ pP)
    have cI:Hid (∃bs',BS w1 (.slice (some ⟨g',0,none⟩) (bs.length+1) cap') bs' ((Ps.take (k+1)).flatMap (fA r es)) w8/\bs'.length<=k+1):=by
     have e1:fA r es p=[p]:=by rw[Ja.out];simp
     rw[<-HSC.out] at bo;rw[I9.out,e1];exact⟨bs++[w3.heap.size],nQ.out.snoc p _ bo cU gJ,by rw[aX];simp;omega⟩
    clear bo cU gJ hnb kT nQ
    go_wp2_with fail
    go_roundg (gk-1)
    case measure=>omega
    case rel=>exact⟨k+1,by omega,by go_num,cI⟩
   ·have cI:Hid (∃bs,BS w1 u5 bs ((Ps.take (k+1)).flatMap (fA r es)) w3/\bs.length<=k+1):=by
     have e1:fA r es p=[]:=by rw[Ja.out];simp
     rw[I9.out,e1,q9];exact⟨bs,gL.out,by omega⟩
    clear gL
    go_wp2_with fail
    go_roundg (gk-1)
    case measure=>omega
    case rel=>exact⟨k+1,by omega,by go_num,cI⟩
  ·have hk:k=Ps.length:=by omega
   subst hk;have h1:=yo.out;rw[gm] at h1;have HC:=V8.out _ bs _ h1 (by omega)
   have DM:Hid (Calls Tryz.prog 108 #[u5,.func (.func 109) #[] #[]] wr fun e w'=>e=.returned (.tuple #[])/\Q u5 w'):=HC
   clear HC h1 yo V8 MX V6 yn I8
   go_wp2_with fail
   refine DM.out.mono ?_;rintro e w5 ⟨rfl,hQ⟩;have HQ:Hid (Q u5 w5):=hQ;clear hQ DM
   go_wp2_with fail
   go_ret
   exact⟨_,rfl,HQ.out⟩
structure iK(w:World)(b:Nat)(x:PB):Prop where
 c0:w.cell? ⟨b,0,none⟩=some (.complex .f64 x.wa x.wb)
 c1:w.cell? ⟨b,1,none⟩=some (.float .f64 x.sh)
 c2:w.cell? ⟨b,2,none⟩=some (.complex .f64 (floatOfInt .f64 x.f.1) (floatOfInt .f64 x.f.2.1))
 c3:w.cell? ⟨b,3,none⟩=some (.int .i64 x.f.2.2)
 c4:w.cell? ⟨b,4,none⟩=some (.complex .f64 (floatOfInt .f64 x.t.1) (floatOfInt .f64 x.t.2.1))
 c5:w.cell? ⟨b,5,none⟩=some (.int .i64 x.t.2.2)
theorem iK.of{w:World}{b:Nat}{x:PB}{wk:Bool}{ow:Option Addr}(h:w.heap[b]?=some (.cells (wj x wk ow) 177 (0,0))):iK w b x:=
 ⟨cell_of h 0,cell_of h 1,cell_of h 2,cell_of h 3,cell_of h 4,cell_of h 5⟩
theorem M5(x y:PB)(hx:dh x)(hy:dh y)(b c:Nat)(w:World)(h1:iK w b x)(h2:iK w c y):
  Calls Tryz.prog 109 #[.pointer (some ⟨b,0,none⟩),.pointer (some ⟨c,0,none⟩)] w fun r w'=>r=.returned (.int .i64 (bn x.f y.f))/\Below w.heap.size w w'/\w.drawn<=w'.drawn:=by
 have HC:Hid (∀w,Calls Tryz.prog 125 #[.agg #[.complex .f64 (floatOfInt .f64 x.f.1) (floatOfInt .f64 x.f.2.1),.int .i64 x.f.2.2],.agg #[.complex .f64 (floatOfInt .f64 y.f.1) (floatOfInt .f64 y.f.2.1),.int .i64 y.f.2.2]] w fun r w'=>r=.returned (.int .i64 (bn x.f y.f))/\Below w.heap.size w w'/\w.drawn<=w'.drawn):=fun w=>Dd x.f y.f hx.f.inn hy.f.inn hx.cf hy.cf w
 have a2:=h1.c2;have a3:=h1.c3;have d2:=h2.c2;have d3:=h2.c3;clear h1 h2 hx hy;generalize floatOfInt .f64 x.f.1=X1 at*;generalize floatOfInt .f64 x.f.2.1=X2 at*;generalize floatOfInt .f64 y.f.1=Y1 at*;generalize floatOfInt .f64 y.f.2.1=Y2 at*;generalize bn x.f y.f=R at*;generalize x.f.2.2=X3 at*;generalize y.f.2.2=Y3 at*
 go_enter Tryz.func109,Tryz.ntmps109
 go_wp2_with fail
 have hzb:b<w.heap.size:=lt_of_cell a2;have lD:c<w.heap.size:=lt_of_cell d2
 go_region_held3 (fun w'=>w'.cell? ⟨b,2,none⟩=some (.complex .f64 X1 X2)/\w'.cell? ⟨b,3,none⟩=some (.int .i64 X3)/\w'.cell? ⟨c,2,none⟩=some (.complex .f64 Y1 Y2)/\w'.cell? ⟨c,3,none⟩=some (.int .i64 Y3)) (go_keep) (first
   |(go_at_call 125;refine(HC.out _).mono ?_;rintro e w5 ⟨rfl,az,D8⟩;have e0:=(az.cell (p:=⟨b,2,none⟩) hzb).trans a2;have e1:=(az.cell (p:=⟨b,3,none⟩) hzb).trans a3;have e2:=(az.cell (p:=⟨c,2,none⟩) lD).trans d2;have e3:=(az.cell (p:=⟨c,3,none⟩) lD).trans d3))
 all_goals
  have aw:Below w.heap.size w w5:=(Below.refl _ _).drew.trans az;have HD:Hid (w.drawn<=w5.drawn):=fg (ny _) D8;clear az D8
  go_wp2_with fail
  go_ret
  exact⟨rfl,aw,HD.out⟩
end Go.Proofs.YtkjhhooecopolaaGreatDoor
namespace Go.Proofs
open Go.Shelf
def Tryz.pdqSd_ren:Go.Shelf.Ren:=⟨fun |14=>163|20=>200|21=>201|22=>202|23=>203|24=>204|25=>205|26=>206|27=>207|46=>248|47=>249|48=>250|49=>251|50=>252|15=>164|57=>289|28=>208|29=>209|n=>n,fun |24=>175|22=>132|3=>3|25=>180|4=>4|0=>0|46=>274|45=>273|50=>70|66=>313|39=>238|55=>282|70=>317|76=>346|77=>172|53=>280|5=>5|9=>9|n=>n,fun |n=>n⟩
theorem Tryz.pdqSd:Go.Proofs.SlLaysF.n14 Tryz.prog Tryz.pdqSd_ren:={
 mixed:=by kernel_rfl
 f14:=⟨Tryz.f163.name,by decide,Tryz.func163.trans (au some (by kernel_rfl))⟩
 f15:=Tryz.func164.trans (au some (by kernel_rfl))
 f20:=⟨Tryz.f200.name,by decide,Tryz.func200.trans (au some (by kernel_rfl))⟩
 f21:=⟨Tryz.f201.name,by decide,Tryz.func201.trans (au some (by kernel_rfl))⟩
 f22:=⟨Tryz.f202.name,by decide,Tryz.func202.trans (au some (by kernel_rfl))⟩
 f23:=⟨Tryz.f203.name,by decide,Tryz.func203.trans (au some (by kernel_rfl))⟩
 f24:=⟨Tryz.f204.name,by decide,Tryz.func204.trans (au some (by kernel_rfl))⟩
 f25:=⟨Tryz.f205.name,by decide,Tryz.func205.trans (au some (by kernel_rfl))⟩
 f26:=⟨Tryz.f206.name,by decide,Tryz.func206.trans (au some (by kernel_rfl))⟩
 f27:=⟨Tryz.f207.name,by decide,Tryz.func207.trans (au some (by kernel_rfl))⟩
 f28:=Tryz.func208.trans (au some (by kernel_rfl))
 f29:=Tryz.func209.trans (au some (by kernel_rfl))
 f46:=⟨Tryz.f248.name,by decide,Tryz.func248.trans (au some (by kernel_rfl))⟩
 f47:=Tryz.func249.trans (au some (by kernel_rfl))
 f48:=Tryz.func250.trans (au some (by kernel_rfl))
 f49:=⟨Tryz.f251.name,by decide,Tryz.func251.trans (au some (by kernel_rfl))⟩
 f50:=⟨Tryz.f252.name,by decide,Tryz.func252.trans (au some (by kernel_rfl))⟩
 f57:=⟨Tryz.f289.name,by decide,Tryz.func289.trans (au some (by kernel_rfl))⟩
 t0:=Tryz.underlying0
 a0:=Tryz.isAgg0
 z0:=Tryz.sizeOf0
 v0:=Tryz.zeroValue0
 t3:=Tryz.underlying3
 a3:=Tryz.isAgg3
 z3:=Tryz.sizeOf3
 v3:=Tryz.zeroValue3
 t4:=Tryz.underlying4
 a4:=Tryz.isAgg4
 z4:=Tryz.sizeOf4
 v4:=Tryz.zeroValue4
 t5:=Tryz.underlying5
 a5:=Tryz.isAgg5
 z5:=Tryz.sizeOf5
 v5:=Tryz.zeroValue5
 t9:=Tryz.underlying9
 a9:=Tryz.isAgg9
 z9:=Tryz.sizeOf9
 v9:=Tryz.zeroValue9
 t22:=Tryz.underlying132
 a22:=Tryz.isAgg132
 z22:=Tryz.sizeOf132
 v22:=Tryz.zeroValue132
 a24:=Tryz.isAgg175
 z24:=Tryz.sizeOf175
 t25:=Tryz.underlying180
 a25:=Tryz.isAgg180
 z25:=Tryz.sizeOf180
 v25:=Tryz.zeroValue180
 t39:=Tryz.underlying238
 a39:=Tryz.isAgg238
 z39:=Tryz.sizeOf238
 v39:=Tryz.zeroValue238
 t45:=Tryz.underlying273
 a45:=Tryz.isAgg273
 z45:=Tryz.sizeOf273
 v45:=Tryz.zeroValue273
 t46:=Tryz.underlying274
 a46:=Tryz.isAgg274
 z46:=Tryz.sizeOf274
 v46:=Tryz.zeroValue274
 t50:=Tryz.underlying70
 a50:=Tryz.isAgg70
 z50:=Tryz.sizeOf70
 v50:=Tryz.zeroValue70
 t53:=Tryz.underlying280
 a53:=Tryz.isAgg280
 z53:=Tryz.sizeOf280
 v53:=Tryz.zeroValue280
 t55:=Tryz.underlying282
 a55:=Tryz.isAgg282
 z55:=Tryz.sizeOf282
 v55:=Tryz.zeroValue282
 t66:=Tryz.underlying313
 a66:=Tryz.isAgg313
 z66:=Tryz.sizeOf313
 v66:=Tryz.zeroValue313
 t70:=Tryz.underlying317
 a70:=Tryz.isAgg317
 z70:=Tryz.sizeOf317
 v70:=Tryz.zeroValue317
 t76:=Tryz.underlying346
 a76:=Tryz.isAgg346
 z76:=Tryz.sizeOf346
 v76:=Tryz.zeroValue346
 t77:=Tryz.underlying172
 a77:=Tryz.isAgg172
 z77:=Tryz.sizeOf172
 v77:=Tryz.zeroValue172}
end Go.Proofs
