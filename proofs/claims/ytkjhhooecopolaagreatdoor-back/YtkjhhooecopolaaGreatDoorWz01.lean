import Derived.Test.YtkjhhooecopolaaGreatDoorWz00
set_option maxRecDepth 100000
set_option maxHeartbeats 4000000
namespace Go.Proofs.YtkjhhooecopolaaGreatDoor.Ga
open Ge
theorem par{D r s:Pt}(hD:D≠(0,0))(h1:cr D r=0)(h2:cr D s=0):cr r s=0/\dt D r*dt D s=dt D D*dt r s:=by
 have e1:dt D D*cr r s=cr D s*dt D r-cr D r*dt D s:=by unfold cr dt;grind
 have e2:dt D r*dt D s=dt D D*dt r s-cr D r*cr D s:=by unfold cr dt;grind
 rw[h1,h2] at e1;rw[h1,h2] at e2;have p:=dE (z:=cr r s) (cP hD);constructor
 ·omega
 ·omega
theorem qo{D r s:Pt}(hD:D≠(0,0))(h1:cr D r=0)(h2:cr D s=0):on r s=true↔dt D r*dt D s<=0:=by
 obtain⟨a,b⟩:=par hD h1 h2;rw[jt,b];have p:=aQ (z:=dt r s) (cP hD);omega
theorem xj{a b:Int}(ha:0<a)(hb:0<b):¬a*b<=0:=by have:=aR ha hb;omega
theorem vh{a b:Int}(ha:a<0)(hb:b<0):¬a*b<=0:=by have:=Fx ha hb;omega
theorem rE{a b:Int}(ha:a<=0)(hb:0<=b):a*b<=0:=Fv ha hb
theorem Gc{a b:Int}(ha:0<=a)(hb:b<=0):a*b<=0:=amk ha hb
theorem place{f t:N3}(hf:0<f.2.2)(ht:0<t.2.2)(hr:aJ (wv f t)){z:Pt}(hC:mJ f t (wv f t) z)(hl:lam (wv f t) f z=0):
  (dt (wv f t) (rl f z)<=0/\dt (wv f t) (rl (bf f t) z)<0/\dt (wv f t) (rl t z)<0)\/(0<dt (wv f t) (rl f z)/\0<dt (wv f t) (rl (bf f t) z)/\0<=dt (wv f t) (rl t z)):=by
 have hD:=cP (kG hr);have a1:=kF f t z;have a2:=kF f (bf f t) z;rw[QS] at a2;have hq:(bf f t).2.2=f.2.2+t.2.2:=rfl;rw[hq] at a2;have k:=hC hl;generalize hDD:wv f t=D at*;have e1:f.2.2*dt D (rl t z)=t.2.2*dt D (rl f z)-dt D D:=by
  have:f.2.2*dt D (rl t z)=D.1*(f.2.2*(rl t z).1)+D.2*(f.2.2*(rl t z).2):=by unfold dt;grind
  rw[this,a1.1,a1.2];unfold dt
  grind
 have e2:f.2.2*dt D (rl (bf f t) z)=(f.2.2+t.2.2)*dt D (rl f z)-dt D D:=by
  have:f.2.2*dt D (rl (bf f t) z)=D.1*(f.2.2*(rl (bf f t) z).1)+D.2*(f.2.2*(rl (bf f t) z).2):=by unfold dt;grind
  rw[this,a2.1,a2.2];unfold dt
  grind
 have p1:=neg_mul (z:=dt D (rl t z)) hf;have p2:=aQ (z:=dt D (rl t z)) hf;have p3:=neg_mul (z:=dt D (rl (bf f t) z)) hf;have p4:=aQ (z:=dt D (rl (bf f t) z)) hf;have p5:=aQ (z:=dt D (rl f z)) ht;have p6:=aQ (z:=dt D (rl f z)) hf;have e3:(f.2.2+t.2.2)*dt D (rl f z)=f.2.2*dt D (rl f z)+t.2.2*dt D (rl f z):=by grind
 have p7:=neg_mul (z:=dt D (rl f z)) hf;have p8:=neg_mul (z:=dt D (rl f z)) ht;rcases k with k|k
 ·left;omega
 ·right;omega
theorem K0{f t:N3}(hf:0<f.2.2)(ht:0<t.2.2)(hr:aJ (wv f t)){u v:Pt}(hS:jS f t (wv f t) u v)(hn:¬(lam (wv f t) f u=0/\lam (wv f t) f v=0)):on (rl (bf f t) u) (rl (bf f t) v)=false:=by
 have hq:0<(bf f t).2.2:=by show 0<f.2.2+t.2.2;omega
 have b1:=F6 hr;obtain⟨k1,k2⟩:=ze hf ht hq hS b1 (KV hr);have su:=oh hf hq b1 u;have sv:=oh hf hq b1 v;cases h:on (rl (bf f t) u) (rl (bf f t) v)
 ·rfl
 ·exfalso;obtain⟨h1,h2⟩:=(jt _ _).1 h;have c1:=ve (D:=wv f t) h1;have c2:=F7 (D:=wv f t) h1;have c3:=ve (D:=wv f t) (ql h1);have c4:=F7 (D:=wv f t) (ql h1);rw[iR] at c3 c4;unfold lam at*;rcases eK (cr (wv f t) (rl (bf f t) u)) 0 with x|x|x
  ·exact k1 (by omega) ((c1 x).1 h2) (by have:=(c1 x).1 h2;omega) h1
  ·rcases eK (cr (wv f t) (rl (bf f t) v)) 0 with y|y|y
   ·exact k2 (by omega) (by omega) (by omega) h1
   ·exact hn ⟨by omega,by omega⟩
   ·exact k1 (by omega) (by omega) (by omega) h1
  ·exact k2 ((c2 x).1 h2) (by omega) (by have:=(c2 x).1 h2;omega) h1
theorem Gd{D r s:Pt}(ho:on r s=true)(hk:cr s D=0)(hs:s≠(0,0)):cr D r=0/\cr D s=0:=by
 have h1:=((jt _ _).1 ho).1;have e1:cr D s=0:=ql hk;have e:=pG (D:=D) (ql h1);rw[e1] at e;have p:=dE (z:=cr D r) (cP hs);rw[dX] at p;exact⟨p.1 (by omega),e1⟩
theorem vk(r s:Pt):on r s=on s r:=by
 unfold on;rw[bT r s,iR];congr 1;exact decide_eq_decide.2 (by omega)
theorem bA(z w:Pt):ai z w=true↔cr z w=0/\0<dt z w:=by unfold ai;simp
theorem qp{f t:N3}(hf:0<f.2.2)(ht:0<t.2.2)(hr:aJ (wv f t))(z:Pt):lam (wv f t) t z=0↔lam (wv f t) f z=0:=by
 have:=oh hf ht (xh hr) z;omega
theorem zh{f t:N3}(hf:0<f.2.2)(ht:0<t.2.2)(hr:aJ (wv f t))(z:Pt):lam (wv f t) (bf f t) z=0↔lam (wv f t) f z=0:=by
 have:=oh hf (show 0<(bf f t).2.2 by show 0<f.2.2+t.2.2;omega) (F6 hr) z
 omega
theorem QV{f t:N3}(hf:0<f.2.2)(ht:0<t.2.2)(hr:aJ (wv f t)){u v:Pt}(hS:jS f t (wv f t) u v)(hu:mJ f t (wv f t) u)(hv:mJ f t (wv f t) v):
  fb (bf f t) (wv f t) u v=arm (fun z=>ai z (wv f t)) f u v/\fb (bf f t) (wv f t) u v= -arm (fun z=>ai z (neg (wv f t))) t u v:=by
 have hq:0<(bf f t).2.2:=by show 0<f.2.2+t.2.2;omega
 have hD:=kG hr;by_cases hn:lam (wv f t) f u=0/\lam (wv f t) f v=0
 ·obtain⟨l1,l2⟩:=hn;have pu:=place hf ht hr hu l1;have pv:=place hf ht hr hv l2;have m1:=(zh hf ht hr u).2 l1;have m2:=(zh hf ht hr v).2 l2;have t1:=(qp hf ht hr u).2 l1;have t2:=(qp hf ht hr v).2 l2;have K1:(bf f t).2.2*((wv f t).1*(v.1-u.1)+(wv f t).2*(v.2-u.2))=dt (wv f t) (rl (bf f t) v)-dt (wv f t) (rl (bf f t) u):=by
   unfold dt rl rel
   grind
  have s1:=aQ (z:=(wv f t).1*(v.1-u.1)+(wv f t).2*(v.2-u.2)) hq;have s2:=neg_mul (z:=(wv f t).1*(v.1-u.1)+(wv f t).2*(v.2-u.2)) hq;rw[K1] at s1 s2;have oq:=qo hD m1 m2;have of:=qo hD l1 l2;have ot:=qo hD t1 t2;have ku:=bA (rl f u) (wv f t);have kv:=bA (rl f v) (wv f t);have tu:=bA (rl t u) (neg (wv f t));have tv:=bA (rl t v) (neg (wv f t));rw[dP,ju] at tu tv;rw[iR] at ku kv;rw[iR (rl t u)] at tu;rw[iR (rl t v)] at tv;have c1:cr (rl f u) (wv f t)=0:=ql l1;have c2:cr (rl f v) (wv f t)=0:=ql l2;have c3:cr (rl t u) (wv f t)=0:=ql t1;have c4:cr (rl t v) (wv f t)=0:=ql t2;unfold fb arm;dsimp only;generalize wv f t=D at*;rcases pu with⟨x1,x2,x3⟩|⟨x1,x2,x3⟩<;>rcases pv with⟨y1,y2,y3⟩|⟨y1,y2,y3⟩
  ·have o1:on (rl (bf f t) u) (rl (bf f t) v)=false:=by
    cases h:on (rl (bf f t) u) (rl (bf f t) v);rfl;exact absurd (oq.1 h) (vh x2 y2)
   have o2:on (rl t u) (rl t v)=false:=by
    cases h:on (rl t u) (rl t v);rfl;exact absurd (ot.1 h) (vh x3 y3)
   have b1:ai (rl f u) D=false:=by cases h:ai (rl f u) D;rfl;have:=ku.1 h;omega
   have b2:ai (rl f v) D=false:=by cases h:ai (rl f v) D;rfl;have:=kv.1 h;omega
   rw[o1,o2,b1,b2];simp
  ·have o1:=oq.2 (rE (dS x2) (dS y2));have o2:=of.2 (rE x1 (dS y1));have o3:=ot.2 (rE (dS x3) y3);have b1:ai (rl f u) D=false:=by cases h:ai (rl f u) D;rfl;have:=ku.1 h;omega
   have b2:ai (rl f v) D=true:=kv.2 ⟨c2,y1⟩;have b3:ai (rl t u) (neg D)=true:=tu.2 ⟨by omega,by omega⟩
   have b4:ai (rl t v) (neg D)=false:=by cases h:ai (rl t v) (neg D);rfl;have:=tv.1 h;omega
   have sg:(D.1*(v.1-u.1)+D.2*(v.2-u.2)).sign=1:=pq (by omega)
   rw[o1,o2,o3,b1,b2,b3,b4,sg];decide
  ·have o1:=oq.2 (Gc (dS x2) (dS y2));have o2:=of.2 (Gc (dS x1) y1);have o3:=ot.2 (Gc x3 (dS y3));have b1:ai (rl f u) D=true:=ku.2 ⟨c1,x1⟩;have b2:ai (rl f v) D=false:=by cases h:ai (rl f v) D;rfl;have:=kv.1 h;omega
   have b3:ai (rl t u) (neg D)=false:=by cases h:ai (rl t u) (neg D);rfl;have:=tu.1 h;omega
   have b4:ai (rl t v) (neg D)=true:=tv.2 ⟨by omega,by omega⟩
   have sg:(D.1*(v.1-u.1)+D.2*(v.2-u.2)).sign= -1:=Fy (by omega)
   rw[o1,o2,o3,b1,b2,b3,b4,sg];decide
  ·have o1:on (rl (bf f t) u) (rl (bf f t) v)=false:=by
    cases h:on (rl (bf f t) u) (rl (bf f t) v);rfl;exact absurd (oq.1 h) (xj x2 y2)
   have o2:on (rl f u) (rl f v)=false:=by
    cases h:on (rl f u) (rl f v);rfl;exact absurd (of.1 h) (xj x1 y1)
   have b3:ai (rl t u) (neg D)=false:=by cases h:ai (rl t u) (neg D);rfl;have:=tu.1 h;omega
   have b4:ai (rl t v) (neg D)=false:=by cases h:ai (rl t v) (neg D);rfl;have:=tv.1 h;omega
   rw[o1,o2,b3,b4];simp
 ·have o1:=K0 hf ht hr hS hn;have zf:arm (fun z=>ai z (wv f t)) f u v=0:=by
   unfold arm;dsimp only;cases ho:on (rl f u) (rl f v)
   ·rfl
   ·have b1:ai (rl f u) (wv f t)=false:=by
     cases h:ai (rl f u) (wv f t)
     ·rfl
     ·exfalso;obtain⟨k1,k2⟩:=(bA _ _).1 h;have:=Gd (by rw[vk];exact ho) k1 (tS (D:=wv f t) (by rw[iR];omega))
      exact hn ⟨this.2,this.1⟩
    have b2:ai (rl f v) (wv f t)=false:=by
     cases h:ai (rl f v) (wv f t)
     ·rfl
     ·exfalso;obtain⟨k1,k2⟩:=(bA _ _).1 h;have:=Gd ho k1 (tS (D:=wv f t) (by rw[iR];omega))
      exact hn ⟨this.1,this.2⟩
    rw[b1,b2];simp
  have zt:arm (fun z=>ai z (neg (wv f t))) t u v=0:=by
   have hn':¬(lam (wv f t) t u=0/\lam (wv f t) t v=0):=by rw[qp hf ht hr,qp hf ht hr];exact hn
   unfold arm;dsimp only;cases ho:on (rl t u) (rl t v)
   ·rfl
   ·have b1:ai (rl t u) (neg (wv f t))=false:=by
     cases h:ai (rl t u) (neg (wv f t))
     ·rfl
     ·exfalso;obtain⟨k1,k2⟩:=(bA _ _).1 h;rw[dP] at k1;rw[ju] at k2;have:=Gd (D:=wv f t) (by rw[vk];exact ho) (by omega) (tS (D:=wv f t) (by rw[iR];omega))
      exact hn' ⟨this.2,this.1⟩
    have b2:ai (rl t v) (neg (wv f t))=false:=by
     cases h:ai (rl t v) (neg (wv f t))
     ·rfl
     ·exfalso;obtain⟨k1,k2⟩:=(bA _ _).1 h;rw[dP] at k1;rw[ju] at k2;have:=Gd (D:=wv f t) ho (by omega) (tS (D:=wv f t) (by rw[iR];omega))
      exact hn' ⟨this.1,this.2⟩
    rw[b1,b2];simp
  rw[zf,zt];unfold fb;rw[o1];simp
structure rF(es:List (Pt×Pt))(f t:N3):Prop where
 pf:0<f.2.2
 pt:0<t.2.2
 r:aJ (wv f t)
 s:∀e∈es,jS f t (wv f t) e.1 e.2
 c:∀e∈es,mJ f t (wv f t) e.1/\mJ f t (wv f t) e.2
def RR(es:List (Pt×Pt))(f t:N3):Int:=PP es (bf f t)
def LL(es:List (Pt×Pt))(f t:N3):Int:=PP es (bf f t)+total (fb (bf f t) (wv f t)) es
theorem rG{rg:List (List Pt)}{f t:N3}(h:rF (ae rg) f t):RR (ae rg) f t=bg (ae rg) f (wv f t)/\LL (ae rg) f t=bH (ae rg) f (wv f t):=by
 have h1:=abO h.pf h.pt h.r h.s;have h2:total (fb (bf f t) (wv f t)) (ae rg)=AS (ae rg) f (fun z=>ai z (wv f t)):=nD fun e he=>(QV h.pf h.pt h.r (h.s e he) (h.c e he).1 (h.c e he).2).1
 have h3:AS (ae rg) f (fun z=>nz z&&ak z (wv f t))=AS (ae rg) f (fun z=>ak z (wv f t)):=F9 fun e _ _=>⟨QU h.r,QU h.r⟩
 unfold RR LL bg bH bg;rw[h2,h3];omega
theorem zi{rg:List (List Pt)}{f t:N3}(h:rF (ae rg) f t):RR (ae rg) f t=bH (ae rg) t (neg (wv f t))/\LL (ae rg) f t=bg (ae rg) t (neg (wv f t)):=by
 have h1:=abP h.pf h.pt h.r h.s;have h2:total (fb (bf f t) (wv f t)) (ae rg)= -AS (ae rg) t (fun z=>ai z (neg (wv f t))):=by
  unfold AS;rw[<-KY];exact nD fun e he=>(QV h.pf h.pt h.r (h.s e he) (h.c e he).1 (h.c e he).2).2
 have h3:=abR (rg:=rg) (n:=t) h.r;unfold RR LL bH bg;rw[h2];omega
theorem abS(x y z:Pt):cr x z*y.1=cr x y*z.1+cr y z*x.1:=by unfold cr;grind
theorem tU{x:Pt}(h:aJ x):0<=x.1:=by rcases h with h|⟨h,_⟩<;>omega
theorem QW{x y:Pt}(hx:aJ x)(hy:aJ y)(h:0<cr x y):0<x.1:=by
 rcases hx with h1|⟨h1,h2⟩
 ·exact h1
 ·exfalso;have:=iN (dS h2) (tU hy);unfold cr at h;rw[h1] at h;omega
theorem Gf{x y z:Pt}(hx:aJ x)(hy:aJ y)(hz:aJ z):(0<cr x y->0<=cr y z->0<cr x z)/\(0<=cr x y->0<cr y z->0<cr x z)/\(cr x y=0->cr y z=0->cr x z=0):=by
 have e:=abS x y z;have px:=tU hx;have py:=tU hy;have pz:=tU hz;refine⟨fun h1 h2=>?_,fun h1 h2=>?_,fun h1 h2=>?_⟩
 ·have p1:=QW hx hy h1;rcases hy with q|⟨q,q'⟩
  ·rcases hz with r|⟨r,r'⟩
   ·have k1:=aR h1 r;have k2:=iN h2 px;have k:=aQ (z:=cr x z) q;rw[dX] at k;omega
   ·have:0<x.1*z.2:=aR p1 r';unfold cr;rw[r];omega
  ·
   have h3:0<=y.1*z.2-y.2*z.1:=h2;rw[q] at h3;have hz1:z.1=0:=by
    rcases eK z.1 0 with h|h|h
    ·omega
    ·exact h
    ·have:=aR q' h;omega
   rcases hz with r|⟨r,r'⟩
   ·omega
   ·have:0<x.1*z.2:=aR p1 r';unfold cr;rw[r];omega
 ·have p1:=QW hy hz h2;have p2:0<x.1:=by
   rcases hx with q|⟨q,q'⟩
   ·exact q
   ·exfalso;have:0<x.2*y.1:=aR q' p1;unfold cr at h1;rw[q] at h1;omega
  have k1:=iN h1 pz;have k2:=aR h2 p2;have k:=aQ (z:=cr x z) p1;rw[dX] at k;omega
 ·rw[h1,h2] at e;rcases hy with q|⟨q,q'⟩
  ·have k:=dE (z:=cr x z) q;rw[dX] at k;omega
  ·unfold cr at h1 h2⊢;rw[q] at h1 h2;have a1:=dE (z:=x.1) q';have a2:=dE (z:=z.1) q';have b1:x.1=0:=a1.1 (by rw[dX];omega)
   have b2:z.1=0:=a2.1 (by omega)
   rw[b1,b2];omega
theorem kI{z w:Pt}:ak z w=true↔(aJ z/\¬aJ w)\/((aJ z↔aJ w)/\0<cr z w):=by
 have h1:=vg z;have h2:=vg w;unfold ak;cases h3:il z<;>cases h4:il w<;>rw[h3] at h1<;>rw[h4] at h2<;>simp at h1 h2⊢ <;>simp[h1,h2]
theorem gQ{x y z:Pt}(hx:x≠(0,0))(hy:y≠(0,0))(hz:z≠(0,0))(h1:ak x y=true)(h2:ak y z=true):ak x z=true:=by
 rw[kI] at*;by_cases rx:aJ x<;>by_cases ry:aJ y<;>by_cases rz:aJ z
 ·have:=Gf rx ry rz;simp only[rx,ry,rz,uT,wV,tH,qf] at*;exact this.1 h1 (dS h2)
 ·exact ag ⟨rx,rz⟩
 ·simp only[rx,ry,rz,uT,wV,qf,wW,tJ,Bu,true_iff,tK] at*
 ·exact ag ⟨rx,rz⟩
 ·simp[rx,ry] at h1
 ·simp[rx,ry] at h1
 ·simp[ry,rz] at h2
 ·have:=Gf (fM hx rx) (fM hy ry) (fM hz rz);simp only[dI,dP,Int.neg_neg] at this;simp only[rx,ry,rz,tJ,tH,qf] at*;exact this.1 h1 (dS h2)
theorem qq(x:Pt):ak x x=false:=by
 have:cr x x=0:=by unfold cr;grind
 unfold ak;rw[this];simp
theorem Gg{x y:Pt}(hx:x≠(0,0))(hy:y≠(0,0))(h:ak x y=true):ak y x=false:=by
 cases h1:ak y x
 ·rfl
 ·have:=gQ hx hy hx h h1;rw[qq] at this;cases this
def arms(es:List (Pt×Pt))(n:N3):List Pt:=((es.filter fun e=>on (rl n e.1) (rl n e.2)).flatMap fun e=>[rl n e.1,rl n e.2]).filter nz
theorem jG{es:List (Pt×Pt)}{n:N3}{z:Pt}:z∈arms es n↔z≠(0,0)/\∃e∈es,on (rl n e.1) (rl n e.2)=true/\(z=rl n e.1\/z=rl n e.2):=by
 unfold arms;rw[eY,nu];constructor
 ·rintro⟨⟨e,he,hz⟩,hn⟩;obtain⟨h1,h2⟩:=eY.1 he;exact⟨gh hn,e,h1,h2,by simpa using hz⟩
 ·rintro⟨hn,e,he,ho,hz⟩;exact⟨⟨e,eY.2 ⟨he,ho⟩,by simpa using hz⟩,eN hn⟩
theorem vo{es:List (Pt×Pt)}{n:N3}{Q Q':Pt->Bool}(h0:Q (0,0)=Q' (0,0))(h:∀z∈arms es n,Q z=Q' z):AS es n Q=AS es n Q':=by
 refine F9 fun e he ho=>?_
 have key:∀z,z=rl n e.1\/z=rl n e.2->Q z=Q' z:=fun z hz=>by
  by_cases hn:z=(0,0)
  ·rw[hn];exact h0
  ·exact h z (jG.2 ⟨hn,e,he,ho,hz⟩)
 exact⟨key _ (ag rfl),key _ (ah rfl)⟩
theorem Ca(es:List (Pt×Pt))(n:N3):AS es n (fun _=>false)=0:=vd fun e _=>by unfold arm;split<;>rfl
theorem vq{α:Type}{p q:α->Bool}:∀(l:List α),(∀x∈l,q x=true->p x=true)->(∃x∈l,p x=true/\q x=false)->l.countP q<l.countP p
 |[],_,h=>by obtain⟨x,hx,_⟩:=h;simp at hx
 |a::l,h1,h2=>by
  obtain⟨x,hx,hp,hq⟩:=h2;have hle:l.countP q<=l.countP p:=aml fun y hy=>h1 y (aT _ hy)
  rcases aP.1 hx with e|hx
  ·subst e;rw[amm hp,amn (by simp[hq])]
   omega
  ·have ih:=vq l (fun y hy=>h1 y (aT _ hy)) ⟨x,hx,hp,hq⟩
   rw[Qg,Qg];by_cases ha:q a=true
   ·rw[aj ha,aj (h1 a (by simp) ha)];omega
   ·rw[af ha];omega
def lT(d d' z:Pt):Bool:=ak d z&&ak z d'
theorem K2{es:List (Pt×Pt)}{n:N3}{d d':Pt}(hd:d≠(0,0))(hd':d'≠(0,0))(h:ak d d'=true)(hb:∀z∈arms es n,lT d d' z=false):bH es n d=bg es n d':=by
 have e:AS es n (fun z=>nz z&&ak z d')=AS es n (fun z=>nz z&&ak z d)+AS es n (fun z=>ai z d):=by
  have e1:AS es n (fun z=>nz z&&ak z d')=AS es n (fun z=>nz z&&(ak z d||ai z d)):=vo rfl fun z hz=>by
   have fh:=(jG.1 hz).1;have hzb:=hb z hz;have:nz z=true:=eN fh;rw[this,Bv,Bv];have k:=gG fh hd;unfold lT at hzb;cases h1:ak z d'
   ·have h2:ak z d=false:=by
     cases h2:ak z d
     ·rfl
     ·have:=gQ fh hd hd' h2 h;rw[h1] at this;cases this
    have h3:ai z d=false:=by
     cases h3:ai z d
     ·rfl
     ·exfalso;obtain⟨s1,s2⟩:=(bA z d).1 h3;have k2:=gG fh hd';rw[h1] at k2;have h4:ak d' z=true\/ai z d'=true:=by
       revert k2;cases ai z d'<;>cases ak d' z<;>decide
      rcases h4 with h4|h4
      ·have:=gQ hd hd' fh h h4;rw[this,h3,h2] at k;revert k;decide
      ·
       obtain⟨t1,t2⟩:=(bA z d').1 h4;have p1:cr d z=0:=by rw[bT];omega
       have hdd:cr d d'=0:=by
        have:=pG (D:=d) t1;rw[p1] at this;have q:=dE (z:=cr d d') (cP fh);rw[dX] at q;exact q.1 (by omega)
       have hpos:0<dt d d':=by
        have e2:dt d d'*dt z z=dt z d*dt z d'+cr z d*cr z d':=by unfold dt cr;grind
        rw[s1] at e2;have:=aR s2 t2;have q:=aQ (z:=dt d d') (cP fh);rw[dX] at q;exact q.1 (by omega)
       have k3:=gG hd hd';have h5:ai d d'=true:=(bA _ _).2 ⟨hdd,hpos⟩;rw[h,h5] at k3;revert k3;cases ak d' d<;>decide
    rw[h2,h3];rfl
   ·rw[h1,Bool.and_true] at hzb;rw[hzb] at k;revert k;cases ak z d<;>cases ai z d<;>decide
  have e2:AS es n (fun z=>nz z&&(ak z d||ai z d))=AS es n (fun z=>nz z&&ak z d)+AS es n (fun z=>ai z d):=by
   refine BZ fun z=>?_
   by_cases hz:z=(0,0)
   ·rw[hz,tT];rfl
   ·have k:=gG hz hd;have:nz z=true:=eN hz;rw[this];revert k;cases ak z d<;>cases ai z d<;>cases ak d z<;>decide
  rw[e1,e2]
 unfold bH bg;omega
theorem zj{d d' z:Pt}:lT d d' z=true↔ak d z=true/\ak z d'=true:=by unfold lT;simp
structure xk(es:List (Pt×Pt))(n:N3)(inn:Int->Bool)(z:Pt):Prop where
 mem:z∈arms es n
 out:inn (bg es n z)=false
 inn:inn (bH es n z)=true
theorem Gh{es:List (Pt×Pt)}{n:N3}{inn:Int->Bool}:∀(m:Nat)(d d':Pt),d≠(0,0)->d'≠(0,0)->ak d d'=true->(arms es n).countP (lT d d')<=m->inn (bH es n d)=false->inn (bg es n d')=true->∃z,xk es n inn z/\ak d z=true/\ak z d'=true:=by
 intro m;induction m with
 |zero=>
  intro d d' hd hd' h hc h1 h2;exfalso;rw[K2 hd hd' h fun z hz=>by
   cases hk:lT d d' z
   ·rfl
   ·have:=Fz.2 ⟨z,hz,hk⟩;omega] at h1
  rw[h1] at h2;cases h2
 |succ m ih=>
  intro d d' hd hd' h hc h1 h2;by_cases hb:∀z∈arms es n,lT d d' z=false
  ·exfalso;rw[K2 hd hd' h hb] at h1;rw[h1] at h2;cases h2
  ·have hb':∃z,z∈arms es n/\lT d d' z=true:=by
    apply fV;intro hk;apply hb;intro z hz;cases hk':lT d d' z
    ·rfl
    ·exact absurd ⟨z,hz,hk'⟩ hk
   obtain⟨z,hz,hk⟩:=hb';have fh:=(jG.1 hz).1;obtain⟨k1,k2⟩:=zj.1 hk;cases hbz:inn (bg es n z)
   ·cases dJ:inn (bH es n z)
    ·have hlt:(arms es n).countP (lT z d')<(arms es n).countP (lT d d'):=vq _ (fun x hx xm=>by
      obtain⟨x1,x2⟩:=zj.1 xm;exact zj.2 ⟨gQ hd fh (jG.1 hx).1 k1 x1,x2⟩) ⟨z,hz,hk,by unfold lT;rw[qq];rfl⟩
     obtain⟨y,hy,y1,y2⟩:=ih z d' fh hd' k2 (by omega) dJ h2
     exact⟨y,hy,gQ hd fh (jG.1 hy.mem).1 k1 y1,y2⟩
    ·exact⟨z,⟨hz,hbz,dJ⟩,k1,k2⟩
   ·have hlt:(arms es n).countP (lT d z)<(arms es n).countP (lT d d'):=vq _ (fun x hx xm=>by
      obtain⟨x1,x2⟩:=zj.1 xm;exact zj.2 ⟨x1,gQ (jG.1 hx).1 fh hd' x2 k2⟩) ⟨z,hz,hk,by unfold lT;rw[qq];simp⟩
    obtain⟨y,hy,y1,y2⟩:=ih d z hd fh k1 (by omega) h1 hbz
    exact⟨y,hy,y1,gQ (jG.1 hy.mem).1 fh hd' y2 k2⟩
theorem K3{es:List (Pt×Pt)}{n:N3}{inn:Int->Bool}:∀(m:Nat)(d':Pt),d'≠(0,0)->(arms es n).countP (fun z=>ak z d')<=m->inn (PP es n)=false->inn (bg es n d')=true->∃z,xk es n inn z/\ak z d'=true:=by
 have h0:∀d',(∀z∈arms es n,ak z d'=false)->bg es n d'=PP es n:=fun d' h=>by
  have e:AS es n (fun z=>nz z&&ak z d')=AS es n (fun _=>false):=vo (by unfold nz;simp) fun z hz=>by rw[h z hz];simp
  unfold bg;rw[e,Ca];omega
 intro m;induction m with
 |zero=>
  intro d' hd' hc h1 h2;exfalso;rw[h0 d' fun z hz=>by
   cases hk:ak z d'
   ·rfl
   ·have:0<(arms es n).countP (fun z=>ak z d'):=Fz.2 ⟨z,hz,hk⟩
    omega,h1] at h2
  cases h2
 |succ m ih=>
  intro d' hd' hc h1 h2;by_cases hb:∀z∈arms es n,ak z d'=false
  ·exfalso;rw[h0 d' hb,h1] at h2;cases h2
  ·have hb':∃z,z∈arms es n/\ak z d'=true:=by
    apply fV;intro hk;apply hb;intro z hz;cases hk':ak z d'
    ·rfl
    ·exact absurd ⟨z,hz,hk'⟩ hk
   obtain⟨z,hz,hk⟩:=hb';have fh:=(jG.1 hz).1;cases hbz:inn (bg es n z)
   ·cases dJ:inn (bH es n z)
    ·obtain⟨y,hy,_,y2⟩:=Gh _ z d' fh hd' hk (ay _) dJ h2;exact⟨y,hy,y2⟩
    ·exact⟨z,⟨hz,hbz,dJ⟩,hk⟩
   ·have hlt:(arms es n).countP (fun x=>ak x z)<(arms es n).countP (fun x=>ak x d'):=vq _ (fun x hx xm=>gQ (jG.1 hx).1 fh hd' xm hk) ⟨z,hz,hk,qq z⟩
    obtain⟨y,hy,y2⟩:=ih z fh (by omega) h1 hbz
    exact⟨y,hy,gQ (jG.1 hy.mem).1 fh hd' y2 hk⟩
theorem QX{rg:List (List Pt)}{n:N3}{inn:Int->Bool}:∀(m:Nat)(d:Pt),d≠(0,0)->(arms (ae rg) n).countP (fun z=>ak d z)<=m->inn (bH (ae rg) n d)=false->inn (PP (ae rg) n)=true->∃z,xk (ae rg) n inn z/\ak d z=true:=by
 have h0:∀d,d≠(0,0)->(∀z∈arms (ae rg) n,ak d z=false)->bH (ae rg) n d=PP (ae rg) n:=fun d hd h=>by
  have e:AS (ae rg) n nz=AS (ae rg) n (fun z=>nz z&&ak z d)+AS (ae rg) n (fun z=>ai z d):=by
   have e1:AS (ae rg) n nz=AS (ae rg) n (fun z=>nz z&&(ak z d||ai z d)):=vo (by unfold nz;simp) fun z hz=>by
    have fh:=(jG.1 hz).1;have k:=gG fh hd;have:nz z=true:=eN fh;rw[this];rw[h z hz] at k;revert k;cases ak z d<;>cases ai z d<;>decide
   have e2:AS (ae rg) n (fun z=>nz z&&(ak z d||ai z d))=AS (ae rg) n (fun z=>nz z&&ak z d)+AS (ae rg) n (fun z=>ai z d):=by
    refine BZ fun z=>?_
    by_cases hz:z=(0,0)
    ·rw[hz,tT];rfl
    ·have k:=gG hz hd;have:nz z=true:=eN hz;rw[this];revert k;cases ak z d<;>cases ai z d<;>cases ak d z<;>decide
   rw[e1,e2]
  have:=KZ rg n;unfold bH bg;omega
 intro m;induction m with
 |zero=>
  intro d hd hc h1 h2;exfalso;rw[h0 d hd fun z hz=>by
   cases hk:ak d z
   ·rfl
   ·have:0<(arms (ae rg) n).countP (fun z=>ak d z):=Fz.2 ⟨z,hz,hk⟩
    omega,h2] at h1
  cases h1
 |succ m ih=>
  intro d hd hc h1 h2;by_cases hb:∀z∈arms (ae rg) n,ak d z=false
  ·exfalso;rw[h0 d hd hb,h2] at h1;cases h1
  ·have hb':∃z,z∈arms (ae rg) n/\ak d z=true:=by
    apply fV;intro hk;apply hb;intro z hz;cases hk':ak d z
    ·rfl
    ·exact absurd ⟨z,hz,hk'⟩ hk
   obtain⟨z,hz,hk⟩:=hb';have fh:=(jG.1 hz).1;cases hbz:inn (bg (ae rg) n z)
   ·cases dJ:inn (bH (ae rg) n z)
    ·have hlt:(arms (ae rg) n).countP (fun x=>ak z x)<(arms (ae rg) n).countP (fun x=>ak d x):=vq _ (fun x hx xm=>gQ hd fh (jG.1 hx).1 hk xm) ⟨z,hz,hk,qq z⟩
     obtain⟨y,hy,y2⟩:=ih z fh (by omega) dJ h2
     exact⟨y,hy,gQ hd fh (jG.1 hy.mem).1 hk y2⟩
    ·exact⟨z,⟨hz,hbz,dJ⟩,hk⟩
   ·obtain⟨y,hy,y1,_⟩:=Gh _ d z hd fh hk (ay _) h1 hbz;exact⟨y,hy,y1⟩
theorem abT{rg:List (List Pt)}{n:N3}{inn:Int->Bool}{a:Pt}(ha:a≠(0,0))(h1:inn (bg (ae rg) n a)=true)(h2:inn (bH (ae rg) n a)=false):∃z,xk (ae rg) n inn z:=by
 cases h:inn (PP (ae rg) n)
 ·obtain⟨z,hz,_⟩:=K3 _ a ha (ay _) h h1;exact⟨z,hz⟩
 ·obtain⟨z,hz,_⟩:=QX _ a ha (ay _) h2 h;exact⟨z,hz⟩
def cw(a l l':Pt):Bool:=(ak l a&&ak l' a&&ak l' l)||(ak l a&&ak a l')||(ak a l&&ak a l'&&ak l' l)
theorem kJ{a l l':Pt}:cw a l l'=true↔(ak l a=true/\ak l' a=true/\ak l' l=true)\/(ak l a=true/\ak a l'=true)\/(ak a l=true/\ak a l'=true/\ak l' l=true):=by
 unfold cw;simp only[aaL,pj];constructor
 ·rintro((⟨⟨a,b⟩,c⟩|⟨a,b⟩)|⟨⟨a,b⟩,c⟩)
  ·exact ag ⟨a,b,c⟩
  ·exact ah (ag ⟨a,b⟩)
  ·exact ah (ah ⟨a,b,c⟩)
 ·rintro(⟨a,b,c⟩|⟨a,b⟩|⟨a,b,c⟩)
  ·exact ag (ag ⟨⟨a,b⟩,c⟩)
  ·exact ag (ah ⟨a,b⟩)
  ·exact ah ⟨⟨a,b⟩,c⟩
theorem QY{rg:List (List Pt)}{n:N3}{inn:Int->Bool}{a a' l:Pt}(ha:a≠(0,0))(ha':a'≠(0,0))(hne:ai a a'=false)
  (h1:inn (bg (ae rg) n a)=true)(h2:inn (bH (ae rg) n a)=false)(h1':inn (bg (ae rg) n a')=true)(h2':inn (bH (ae rg) n a')=false)
  (Cb:l≠(0,0))(lU:ai l a=false)(Gi:ai l a'=false):∃z,xk (ae rg) n inn z/\(cw a z l=true\/cw a' z l=true):=by
 have key:∀{a a':Pt},a≠(0,0)->a'≠(0,0)->ak a a'=true->inn (bg (ae rg) n a)=true->inn (bH (ae rg) n a)=false->inn (bg (ae rg) n a')=true->inn (bH (ae rg) n a')=false->ai l a=false->ai l a'=false->∃z,xk (ae rg) n inn z/\(cw a z l=true\/cw a' z l=true):=by
  intro a a' ha ha' hlt h1 h2 h1' h2' lU Gi;have t1:=gG Cb ha;have t2:=gG Cb ha';rw[lU] at t1;rw[Gi] at t2;cases p:ak l a
  ·rw[p] at t1;have q:ak a l=true:=by revert t1;cases ak a l<;>decide
   cases r:ak l a'
   ·rw[r] at t2;have q':ak a' l=true:=by revert t2;cases ak a' l<;>decide
    obtain⟨z,hz,z1,z2⟩:=Gh _ a a' ha ha' hlt (ay _) h2 h1';exact⟨z,hz,ah (kJ.2 (ah (ag ⟨z2,q'⟩)))⟩
   ·
    cases hp:inn (PP (ae rg) n)
    ·obtain⟨z,hz,z1⟩:=K3 _ a ha (ay _) hp h1;exact⟨z,hz,ag (kJ.2 (ah (ag ⟨z1,q⟩)))⟩
    ·obtain⟨z,hz,z1⟩:=QX _ a' ha' (ay _) h2' hp;have fh:=(jG.1 hz.mem).1;exact⟨z,hz,ag (kJ.2 (ah (ah ⟨gQ ha ha' fh hlt z1,q,gQ Cb ha' fh r z1⟩)))⟩
  ·
   obtain⟨z,hz,z1,z2⟩:=Gh _ a a' ha ha' hlt (ay _) h2 h1';have fh:=(jG.1 hz.mem).1;exact⟨z,hz,ah (kJ.2 (ag ⟨z2,gQ Cb ha ha' p hlt,gQ Cb ha fh p z1⟩))⟩
 have t:=gG ha ha';rw[hne] at t;cases p:ak a a'
 ·rw[p] at t;have q:ak a' a=true:=by revert t;cases ak a' a<;>decide
  obtain⟨z,hz,k⟩:=key ha' ha q h1' h2' h1 h2 Gi lU;exact⟨z,hz,k.symm⟩
 ·exact key ha ha' p h1 h2 h1' h2' lU Gi
def Tri(P Q R:Int):Prop:=
 (0<P->0<=Q->0<R)/\(0<=P->0<Q->0<R)/\(P=0->Q=0->R=0)/\(P<0->Q<=0->R<0)/\(P<=0->Q<0->R<0)
theorem vr{p q r:Pt}(hp:aJ p)(hq:aJ q)(hr:aJ r):Tri (cr p q) (cr q r) (cr p r):=by
 have a1:=Gf hp hq hr;have a2:=Gf hr hq hp;rw[bT p r,bT q r,bT p q] at a2;refine⟨a1.1,a1.2.1,a1.2.2,fun h1 h2=>?_,fun h1 h2=>?_⟩
 ·have:=a2.2.1 (by omega) (by omega);omega
 ·have:=a2.1 (by omega) (by omega);omega
def tC(u l l':Pt):Int:=if((cr u l').sign-(cr u l).sign).sign=0 then(cr l l').sign else((cr u l').sign-(cr u l).sign).sign
theorem sg(z:Int):(z<0/\z.sign= -1)\/(z=0/\z.sign=0)\/(0<z/\z.sign=1):=by
 rcases eK z 0 with h|h|h
 ·exact ag ⟨h,Fy h⟩
 ·exact ah (ag ⟨h,by rw[h];rfl⟩)
 ·exact ah (ah ⟨h,pq h⟩)
theorem abV(u l l':Pt):tC u l l'<0↔(cr u l').sign<(cr u l).sign\/((cr u l').sign=(cr u l).sign/\cr l l'<0):=by
 unfold tC;have h1:=sg ((cr u l').sign-(cr u l).sign);have h2:=sg (cr l l');split<;>omega
theorem K4{z w:Pt}(h:ai z w=false)(hc:cr z w=0):dt z w<=0:=by
 apply Bt.1;intro h';rw[(bA z w).2 ⟨hc,h'⟩] at h;cases h
theorem Cc{a l l':Pt}(ha:a≠(0,0))(hl:l≠(0,0))(hl':l'≠(0,0))(hs:ai l a=false)(hs':ai l' a=false):tC (neg a) l l'<0↔cw a l l'=true:=by
 rw[abV,kJ];have n1:=K4 hs;have n2:=K4 hs';rw[kI,kI,kI,kI,kI];have e1:cr (neg a) l= -cr a l:=dI a l;have e2:cr (neg a) l'= -cr a l':=dI a l';have s1:=sg (cr (neg a) l);have s2:=sg (cr (neg a) l');rw[e1] at s1⊢;rw[e2] at s2⊢;have w1:=bT a l;have w2:=bT a l';have w3:=bT l l';rw[w1] at n1⊢;rw[w2] at n2⊢;rw[w3];by_cases ra:aJ a<;>by_cases rl:aJ l<;>by_cases rl':aJ l'
 ·have t:=vr ra rl rl';have d1:=ko rl ra;have d2:=ko rl' ra;rw[w1] at d1;rw[w2] at d2;obtain⟨t1,t2,t3,t4,t5⟩:=t;simp only[ra,rl,rl',uT,wV,qf,tH,iff_self];rcases s1 with⟨s1,r1⟩|⟨s1,r1⟩|⟨s1,r1⟩<;>rcases s2 with⟨s2,r2⟩|⟨s2,r2⟩|⟨s2,r2⟩<;>rw[r1,r2]<;>omega
 ·have t:=vr ra rl (fM hl' rl');have d1:=ko rl ra;rw[w1] at d1;rw[dP,dP] at t;obtain⟨t1,t2,t3,t4,t5⟩:=t;simp only[ra,rl,rl',uT,wW,wV,tJ,tL,qf,tH,tK,Bu,FB,iff_self];rcases s1 with⟨s1,r1⟩|⟨s1,r1⟩|⟨s1,r1⟩<;>rcases s2 with⟨s2,r2⟩|⟨s2,r2⟩|⟨s2,r2⟩<;>rw[r1,r2]<;>omega
 ·have t:=vr ra (fM hl rl) rl';have d2:=ko rl' ra;rw[w2] at d2;rw[dP,dI] at t;obtain⟨t1,t2,t3,t4,t5⟩:=t;simp only[ra,rl,rl',uT,wW,wV,tJ,tL,qf,tH,tK,Bu,FB,iff_self];rcases s1 with⟨s1,r1⟩|⟨s1,r1⟩|⟨s1,r1⟩<;>rcases s2 with⟨s2,r2⟩|⟨s2,r2⟩|⟨s2,r2⟩<;>rw[r1,r2]<;>omega
 ·have t:=vr ra (fM hl rl) (fM hl' rl');rw[dP,dI,dP,dP] at t;obtain⟨t1,t2,t3,t4,t5⟩:=t;simp only[ra,rl,rl',uT,wW,wV,tJ,tL,qf,tH,tK,Bu,FB,iff_self];rcases s1 with⟨s1,r1⟩|⟨s1,r1⟩|⟨s1,r1⟩<;>rcases s2 with⟨s2,r2⟩|⟨s2,r2⟩|⟨s2,r2⟩<;>rw[r1,r2]<;>omega
 ·have t:=vr (fM ha ra) rl rl';rw[dI,dI] at t;obtain⟨t1,t2,t3,t4,t5⟩:=t;simp only[ra,rl,rl',uT,wW,wV,tJ,tL,qf,tH,tK,Bu,FB,iff_self];rcases s1 with⟨s1,r1⟩|⟨s1,r1⟩|⟨s1,r1⟩<;>rcases s2 with⟨s2,r2⟩|⟨s2,r2⟩|⟨s2,r2⟩<;>rw[r1,r2]<;>omega
 ·have t:=vr (fM ha ra) rl (fM hl' rl');have d2:=ko (fM hl' rl') (fM ha ra);rw[dI,dP,w2,lh,ju] at d2;rw[dI,dP,dI,dP] at t;obtain⟨t1,t2,t3,t4,t5⟩:=t;simp only[ra,rl,rl',uT,wW,wV,tJ,tL,qf,tH,tK,Bu,FB,iff_self];rcases s1 with⟨s1,r1⟩|⟨s1,r1⟩|⟨s1,r1⟩<;>rcases s2 with⟨s2,r2⟩|⟨s2,r2⟩|⟨s2,r2⟩<;>rw[r1,r2]<;>omega
 ·have t:=vr (fM ha ra) (fM hl rl) rl';have d1:=ko (fM hl rl) (fM ha ra);rw[dI,dP,w1,lh,ju] at d1;rw[dI,dP,dI,dI] at t;obtain⟨t1,t2,t3,t4,t5⟩:=t;simp only[ra,rl,rl',uT,wW,wV,tJ,tL,qf,tH,tK,Bu,FB,iff_self];rcases s1 with⟨s1,r1⟩|⟨s1,r1⟩|⟨s1,r1⟩<;>rcases s2 with⟨s2,r2⟩|⟨s2,r2⟩|⟨s2,r2⟩<;>rw[r1,r2]<;>omega
 ·have t:=vr (fM ha ra) (fM hl rl) (fM hl' rl');have d1:=ko (fM hl rl) (fM ha ra);rw[dI,dP,w1,lh,ju] at d1;have d2:=ko (fM hl' rl') (fM ha ra);rw[dI,dP,w2,lh,ju] at d2;rw[dI,dP,dI,dP,dI,dP] at t;obtain⟨t1,t2,t3,t4,t5⟩:=t;simp only[ra,rl,rl',wW,tL,qf,tH,iff_self];rcases s1 with⟨s1,r1⟩|⟨s1,r1⟩|⟨s1,r1⟩<;>rcases s2 with⟨s2,r2⟩|⟨s2,r2⟩|⟨s2,r2⟩<;>rw[r1,r2]<;>omega
end Go.Proofs.YtkjhhooecopolaaGreatDoor.Ga
namespace Go.Proofs.YtkjhhooecopolaaGreatDoor.Gb
open Ge Ga
abbrev Sg:=Pt×Pt
def n1(a:Pt):N3:=(a.1,a.2,1)
def dr(s:Sg):Pt:=(s.2.1-s.1.1,s.2.2-s.1.2)
def rv(s:Sg):Sg:=(s.2,s.1)
theorem cd(a z:Pt):rl (n1 a) z=dr (a,z):=by unfold rl rel n1 dr;simp
theorem jH(a b:Pt):wv (n1 a) (n1 b)=dr (a,b):=by unfold wv n1 dr;simp
theorem jT(s:Sg):dr (rv s)=neg (dr s):=by unfold dr rv neg;exact bX (by simp only;omega) (by simp only;omega)
theorem gS{s:Sg}:dr s=(0,0)↔s.1=s.2:=by
 unfold dr;constructor
 ·intro h;have h1:=au Prod.fst h;have h2:=au Prod.snd h;simp only at h1 h2;exact bX (by omega) (by omega)
 ·intro h;rw[h];exact bX (by simp) (by simp)
structure Pf(s u:Sg):Prop where
 fs:jS (n1 s.1) (n1 s.2) (dr s) u.1 u.2
 c1:mJ (n1 s.1) (n1 s.2) (dr s) u.1
 c2:mJ (n1 s.1) (n1 s.2) (dr s) u.2
theorem abW{f t:N3}{D u v:Pt}(h:jS f t D u v):jS f t D v u:=by
 refine⟨fun x y z=>?_,fun x y z=>?_⟩
 ·have:=h.2 x y z;rw[bT (rl f u) (rl f v),bT (rl t u) (rl t v)];omega
 ·have:=h.1 x y z;rw[bT (rl f u) (rl f v),bT (rl t u) (rl t v)];omega
theorem Pf.rv{s u:Sg}(h:Pf s u):Pf s (rv u):=⟨abW h.fs,h.c2,h.c1⟩
structure Wd(S:List Sg)(nx:Sg->Sg):Prop where
 ne:∀s∈S,s.1≠s.2
 pf:∀s∈S,∀u∈S,(aJ (dr s)->Pf s u)/\(¬aJ (dr s)->Pf (rv s) u)
 zk:∀s∈S,∀u∈S,on (dr (s.1,u.1)) (dr (s.1,u.2))=true->s.1=u.1\/s.1=u.2
 Gj:∀s∈S,∀u∈S,on (dr (s.2,u.1)) (dr (s.2,u.2))=true->s.2=u.1\/s.2=u.2
 one:∀s∈S,∀u∈S,s.1=u.1->ai (dr s) (dr u)=true->s=u
 one':∀s∈S,∀u∈S,s.2=u.2->ai (dr s) (dr u)=true->s=u
 two:∀s∈S,∀u∈S,s.1=u.2->ai (dr s) (neg (dr u))=false
 qs:∀s∈S,nx s∈S/\(nx s).1=s.2
 inj:∀s∈S,∀u∈S,nx s=nx u->s=u
 w1:∀s∈S,∀u∈S,u.1=s.2->cw (neg (dr s)) (dr u) (dr (nx s))=false
 w2:∀s∈S,∀u∈S,u.2=s.2->cw (neg (dr s)) (neg (dr u)) (dr (nx s))=false
def Cl(es:List Sg):Prop:=∃rg,ae rg=es
def In(S es:List Sg):Prop:=∀e∈es,e∈S\/rv e∈S
theorem Cl.append{a b:List Sg}(h:Cl a)(k:Cl b):Cl (a++b):=by
 obtain⟨x,rfl⟩:=h;obtain⟨y,rfl⟩:=k;exact⟨x++y,by simp[ae]⟩
theorem Cl.nil:Cl []:=⟨[],rfl⟩
def Lf(es:List Sg)(s:Sg):Int:=bH es (n1 s.1) (dr s)
def Rt(es:List Sg)(s:Sg):Int:=bg es (n1 s.1) (dr s)
section
variable{S:List Sg}{nx:Sg->Sg}{es:List Sg}
theorem Wd.dK(h:Wd S nx){s:Sg}(hs:s∈S):dr s≠(0,0):=fun e=>h.ne s hs (gS.1 e)
theorem Wd.kK(h:Wd S nx)(hi:In S es){s:Sg}(hs:s∈S):(aJ (dr s)->rF es (n1 s.1) (n1 s.2))/\(¬aJ (dr s)->rF es (n1 s.2) (n1 s.1)):=by
 refine⟨fun hr=>?_,fun hr=>?_⟩
 ·have hp:∀e∈es,Pf s e:=fun e he=>by
   rcases hi e he with k|k
   ·exact(h.pf s hs e k).1 hr
   ·exact((h.pf s hs _ k).1 hr).rv
  exact⟨by show(0:Int)<1;decide,by show(0:Int)<1;decide,by rw[jH];exact hr,fun e he=>by rw[jH];exact(hp e he).fs,fun e he=>by rw[jH];exact⟨(hp e he).c1,(hp e he).c2⟩⟩
 ·have hp:∀e∈es,Pf (rv s) e:=fun e he=>by
   rcases hi e he with k|k
   ·exact(h.pf s hs e k).2 hr
   ·exact((h.pf s hs _ k).2 hr).rv
  have hr':aJ (dr (rv s)):=by rw[jT];exact fM (h.dK hs) hr
  exact⟨by show(0:Int)<1;decide,by show(0:Int)<1;decide,by rw[jH];exact hr',fun e he=>by rw[jH];exact(hp e he).fs,fun e he=>by rw[jH];exact⟨(hp e he).c1,(hp e he).c2⟩⟩
theorem Wd.at_end(h:Wd S nx)(hc:Cl es)(hi:In S es){s:Sg}(hs:s∈S):Lf es s=bg es (n1 s.2) (neg (dr s))/\Rt es s=bH es (n1 s.2) (neg (dr s)):=by
 obtain⟨h1,h2⟩:=h.kK hi hs;obtain⟨rg,rfl⟩:=hc;by_cases hr:aJ (dr s)
 ·have a:=rG (h1 hr);have b:=zi (h1 hr);rw[jH] at a b;unfold Lf Rt;have e:dr (s.1,s.2)=dr s:=rfl;rw[e] at a b;exact⟨a.2.symm.trans b.2,a.1.symm.trans b.1⟩
 ·have a:=rG (h2 hr);have b:=zi (h2 hr);rw[jH] at a b;have e:dr (s.2,s.1)=neg (dr s):=jT s;rw[e] at a b;rw[neg_neg] at b;unfold Lf Rt;exact⟨b.1.symm.trans a.1,b.2.symm.trans a.2⟩
theorem Wd.arm(h:Wd S nx)(hi:In S es){s:Sg}(hs:s∈S){z:Pt}(hz:z∈arms es (n1 s.2)):∃u∈S,(u.1=s.2/\z=dr u)\/(u.2=s.2/\z=neg (dr u)):=by
 obtain⟨hz0,e,he,ho,om⟩:=jG.1 hz;rw[cd,cd] at ho om;have key:∀u∈S,on (dr (s.2,u.1)) (dr (s.2,u.2))=true->(z=dr (s.2,u.1)\/z=dr (s.2,u.2))->∃u∈S,(u.1=s.2/\z=dr u)\/(u.2=s.2/\z=neg (dr u)):=fun u hu qm QZ=>by
  rcases h.Gj s hs u hu qm with k|k
  ·rcases QZ with q|q
   ·rw[k] at q;exact absurd (q.trans (gS.2 rfl)) hz0
   ·exact⟨u,hu,ag ⟨k.symm,by rw[q,k]⟩⟩
  ·rcases QZ with q|q
   ·exact⟨u,hu,ah ⟨k.symm,by rw[q,k,<-jT];rfl⟩⟩
   ·rw[k] at q;exact absurd (q.trans (gS.2 rfl)) hz0
 rcases hi e he with k|k
 ·exact key e k ho om
 ·exact key (rv e) k (by rw[vk];exact ho) om.symm
theorem abX{n:N3}(hc:Cl es){a l:Pt}(ha:a≠(0,0))(hl:l≠(0,0))(hs:ai l a=false)(hw:∀z∈arms es n,cw a z l=false):bH es n l=bg es n a:=by
 have ht:=gG hl ha;rw[hs] at ht;by_cases lU:ak l a=true
 ·refine K2 hl ha lU fun z hz=>?_
  cases hb:lT l a z
  ·rfl
  ·have k:=hw z hz;obtain⟨k1,k2⟩:=zj.1 hb;have:cw a z l=true:=kJ.2 (ag ⟨k2,lU,k1⟩);rw[this] at k;cases k
 ·have hal:ak a l=true:=by
   cases hk:ak a l
   ·cases hk2:ak l a
    ·rw[hk,hk2] at ht;simp[bb] at ht
    ·exact absurd hk2 lU
   ·rfl
  have z1:∀z∈arms es n,ak z a=false:=fun z hz=>by
   cases hb:ak z a
   ·rfl
   ·have:cw a z l=true:=kJ.2 (ah (ag ⟨hb,hal⟩));rw[hw z hz] at this;cases this
  have z2:∀z∈arms es n,ak l z=false:=fun z hz=>by
   cases hb:ak l z
   ·rfl
   ·have:cw a z l=true:=kJ.2 (ah (ah ⟨gQ ha hl (jG.1 hz).1 hal hb,hal,hb⟩));rw[hw z hz] at this;cases this
  have e1:AS es n (fun z=>nz z&&ak z a)=0:=by
   rw[vo (Q':=fun _=>false) (by simp[nz]) (fun z hz=>by rw[z1 z hz];simp),Ca]
  have e2:AS es n (fun z=>nz z&&ak z l)+AS es n (fun z=>ai z l)=0:=by
   obtain⟨rg,rfl⟩:=hc;rw[<-KZ rg n,<-BZ (Q:=fun z=>(nz z&&ak z l)||ai z l)]
   ·refine(vo ?_ fun z hz=>?_)
    ·simp[nz,tT]
    ·have hz0:=(jG.1 hz).1;have t:=gG hz0 hl;rw[z2 z hz] at t;have hn:nz z=true:=by unfold nz;simpa using hz0
     rw[hn];cases h1:ak z l<;>cases h2:ai z l<;>rw[h1,h2] at t<;>simp[bb] at t⊢
   ·intro z;by_cases hz0:z=(0,0)
    ·subst hz0;simp[nz,tT,bb]
    ·have t:=gG hz0 hl;have hn:nz z=true:=by unfold nz;simpa using hz0
     simp only[hn,Bv];cases h1:ak z l<;>cases h2:ai z l<;>cases h3:ak l z<;>rw[h1,h2,h3] at t<;>simp[bb] at t⊢
  unfold bH bg;omega
theorem Wd.const(h:Wd S nx)(hc:Cl es)(hi:In S es){s:Sg}(hs:s∈S):Lf es (nx s)=Lf es s:=by
 obtain⟨hn,lV⟩:=h.qs s hs;rw[(h.at_end hc hi hs).1];show bH es (n1 (nx s).1) (dr (nx s))=_;rw[lV];refine abX hc (jc (h.dK hs)) (h.dK hn) (h.two _ hn _ hs lV) fun z hz=>?_
 obtain⟨u,hu,⟨k,rfl⟩|⟨k,rfl⟩⟩:=h.arm hi hs hz
 ·exact h.w1 s hs u hu k
 ·exact h.w2 s hs u hu k
def it(nx:Sg->Sg):Nat->Sg->Sg
 |0,s=>s
 |k+1,s=>nx (it nx k s)
def Ce(nx:Sg->Sg)(s u:Sg):Prop:=∃k,it nx k s=u
theorem Wd.iG(h:Wd S nx){s:Sg}(hs:s∈S):∀k,it nx k s∈S
 |0=>hs
 |k+1=>(h.qs _ (h.iG hs k)).1
theorem Wd.along(h:Wd S nx)(hc:Cl es)(hi:In S es){s u:Sg}(hs:s∈S)(hw:Ce nx s u):Lf es u=Lf es s:=by
 obtain⟨k,rfl⟩:=hw;induction k with
 |zero=>rfl
 |succ k ih=>exact(h.const hc hi (h.iG hs k)).trans ih
end
end Go.Proofs.YtkjhhooecopolaaGreatDoor.Gb
