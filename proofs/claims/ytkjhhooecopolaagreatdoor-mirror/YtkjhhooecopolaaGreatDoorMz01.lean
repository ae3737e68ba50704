import Derived.Test.YtkjhhooecopolaaGreatDoorMz00
set_option maxRecDepth 100000
set_option maxHeartbeats 4000000
namespace Go.Proofs.YtkjhhooecopolaaGreatDoor.Ga
open Ge
theorem kf{z d:Pt}(hz:aN z)(hd:aN d)(h:cr z d=0):0<dt z d:=by
 rcases hz with h1|⟨h1,h2⟩
 ·rcases hd with h3|⟨h3,h4⟩
  ·have e:dt z d*z.1=d.1*dt z z:=by unfold cr at h;unfold dt;grind
   have p:=aP h3 (ez (r:=z) (kC (Or.inl h1)));have k:=aO (z:=dt z d) h1;rw[dX] at k;omega
  ·exfalso;unfold cr at h;rw[h3] at h;have:=aP h1 h4;omega
 ·rcases hd with h3|⟨h3,h4⟩
  ·exfalso;unfold cr at h;rw[h1] at h;have:=aP h2 h3;omega
  ·unfold dt;rw[h1];have:=aP h2 h4;omega
theorem vJ(z:Pt):ij z=true↔aN z:=by unfold ij aN;simp
theorem fT{z:Pt}(hz:z≠(0,0))(h:¬aN z):aN (neg z):=by
 unfold aN neg at*;simp only;have:¬(z.1=0/\z.2=0):=fun k=>hz (dY k.1 k.2)
 omega
theorem jy{D:Pt}(h:D≠(0,0)):neg D≠(0,0):=fun e=>h (by
 unfold neg at e;have e1:=congrArg Prod.fst e;have e2:=congrArg Prod.snd e;simp only at e1 e2;exact dY (by omega) (by omega))
theorem neg_neg(D:Pt):neg (neg D)=D:=by unfold neg;exact dY (by simp) (by simp)
theorem fw(z d:Pt):cr (neg z) d= -cr z d:=by unfold cr neg;grind
theorem fF(z d:Pt):cr z (neg d)= -cr z d:=by unfold cr neg;grind
theorem rM(z d:Pt):dt (neg z) d= -dt z d:=by unfold dt neg;grind
theorem kU(z d:Pt):dt z (neg d)= -dt z d:=by unfold dt neg;grind
theorem iA{z d:Pt}(hz:z≠(0,0))(hd:d≠(0,0)):bb (ah z d)+bb (ak z d)+bb (ah d z)=1:=by
 have hs:ak z d=true↔cr z d=0/\0<dt z d:=by unfold ak;simp
 have e:=bU z d;by_cases h1:aN z
 ·have r1:=(vJ z).2 h1;by_cases h2:aN d
  ·have r2:=(vJ d).2 h2;have k:=kf h1 h2;have a1:ah z d=decide (0<cr z d):=by unfold ah;rw[r1,r2];simp
   have a2:ah d z=decide (0<cr d z):=by unfold ah;rw[r1,r2];simp
   rw[a1,a2];cases h3:ak z d<;>rw[h3] at hs<;>unfold bb<;>simp at* <;>repeat' split
   all_goals omega
  ·have r2:ij d=false:=by cases h:ij d;rfl;exact absurd ((vJ d).1 h) h2
   have k:=kf h1 (fT hd h2);rw[fF,kU] at k;have a1:ah z d=true:=by unfold ah;rw[r1,r2];rfl
   have a2:ah d z=false:=by unfold ah;rw[r1,r2];rfl
   have a3:ak z d=false:=by
    cases h3:ak z d
    ·rfl
    ·have:=hs.1 h3;have:=k (by omega)
     omega
   rw[a1,a2,a3];rfl
 ·have r1:ij z=false:=by cases h:ij z;rfl;exact absurd ((vJ z).1 h) h1
  by_cases h2:aN d
  ·have r2:=(vJ d).2 h2;have k:=kf (fT hz h1) h2;rw[fw,rM] at k;have a1:ah z d=false:=by unfold ah;rw[r1,r2];rfl
   have a2:ah d z=true:=by unfold ah;rw[r1,r2];rfl
   have a3:ak z d=false:=by
    cases h3:ak z d
    ·rfl
    ·have:=hs.1 h3;have:=k (by omega)
     omega
   rw[a1,a2,a3];rfl
  ·have r2:ij d=false:=by cases h:ij d;rfl;exact absurd ((vJ d).1 h) h2
   have k:=kf (fT hz h1) (fT hd h2);rw[fw,rM,fF,kU] at k;have a1:ah z d=decide (0<cr z d):=by unfold ah;rw[r1,r2];simp
   have a2:ah d z=decide (0<cr d z):=by unfold ah;rw[r1,r2];simp
   rw[a1,a2];cases h3:ak z d<;>rw[h3] at hs<;>unfold bb<;>simp at* <;>repeat' split
   all_goals omega
def nz(z:Pt):Bool:=decide (z≠(0,0))
theorem zC(z:Pt):cr (0,0) z=0/\cr z (0,0)=0/\dt (0,0) z=0/\dt z (0,0)=0:=by unfold cr dt;simp
theorem rN(r s:Pt)(h:r=(0,0)\/s=(0,0)):on r s=true:=by
 rw[kT];rcases h with h|h<;>rw[h]
 ·have:=zC s;omega
 ·have:=zC r;omega
theorem K4(rg:List (List Pt))(n:N3):AS (aa rg) n nz=0:=by
 refine KV _ (fun z=> -bb (nz (rl n z))) (fun a=>?_) rg fun e _=>?_
 ·unfold arm;split<;>omega
 ·unfold arm;cases h:on (rl n e.1) (rl n e.2)
  ·have h1:nz (rl n e.1)=true:=decide_eq_true fun k=>by rw[rN _ _ (Or.inl k)] at h;cases h
   have h2:nz (rl n e.2)=true:=decide_eq_true fun k=>by rw[rN _ _ (Or.inr k)] at h;cases h
   rw[h1,h2];simp
  ·simp only[reduceIte];omega
theorem Ck{es:List (Pt×Pt)}{n:N3}{Q Q1 Q2:Pt->Bool}(h:∀z,bb (Q z)=bb (Q1 z)+bb (Q2 z)):AS es n Q=AS es n Q1+AS es n Q2:=by
 unfold AS;rw[<-Gc];refine oO fun e _=>?_
 unfold arm;rw[h,h];split<;>omega
theorem Gh{es:List (Pt×Pt)}{n:N3}{Q Q':Pt->Bool}(h:∀e∈es,on (rl n e.1) (rl n e.2)=true->Q (rl n e.1)=Q' (rl n e.1)/\Q (rl n e.2)=Q' (rl n e.2)):AS es n Q=AS es n Q':=by
 refine oO fun e he=>?_
 unfold arm;cases h1:on (rl n e.1) (rl n e.2)
 ·rfl
 ·obtain⟨k1,k2⟩:=h e he h1;rw[k1,k2]
def dh(es:List (Pt×Pt))(n:N3)(d:Pt):Int:=PP es n+AS es n (fun z=>nz z&&ah z d)
def eA(es:List (Pt×Pt))(n:N3)(d:Pt):Int:=dh es n d+AS es n (fun z=>ak z d)
theorem RN{z d:Pt}(h:aN d):(nz z&&ah z d)=ah z d:=by
 unfold nz;by_cases hz:z=(0,0)
 ·have:ah z d=false:=by
   cases hk:ah z d
   ·rfl
   ·have:=(Gg h z).1 hk;rw[hz] at this;simp at this
  rw[this];simp
 ·simp[hz]
theorem zD(d:Pt):ak (0,0) d=false:=by
 unfold ak;rw[(zC d).2.2.1];simp
theorem acO{d:Pt}(h:aN d):ah (neg d) (0,0)=false:=by
 cases hk:ah (neg d) (0,0)
 ·rfl
 ·have:=(K2 h (0,0)).1 hk;have:=(zC d).2.1;omega
theorem acP{rg:List (List Pt)}{n:N3}{d:Pt}(h:aN d):
  AS (aa rg) n (fun z=>nz z&&ah z (neg d))+AS (aa rg) n (fun z=>ak z (neg d))= -AS (aa rg) n (fun z=>ah (neg d) z):=by
 have e1:AS (aa rg) n nz=AS (aa rg) n (fun z=>nz z&&(ah z (neg d)||ak z (neg d)))+AS (aa rg) n (fun z=>ah (neg d) z):=by
  refine Ck fun z=>?_
  by_cases hz:z=(0,0)
  ·rw[hz,acO h];rfl
  ·have k:=iA hz (jy (kC h));have:nz z=true:=decide_eq_true hz;rw[this];unfold bb at*;revert k;cases ah z (neg d)<;>cases ak z (neg d)<;>cases ah (neg d) z<;>decide
 have e2:AS (aa rg) n (fun z=>nz z&&(ah z (neg d)||ak z (neg d)))=AS (aa rg) n (fun z=>nz z&&ah z (neg d))+AS (aa rg) n (fun z=>ak z (neg d)):=by
  refine Ck fun z=>?_
  by_cases hz:z=(0,0)
  ·rw[hz,zD];rfl
  ·have k:=iA hz (jy (kC h));have:nz z=true:=decide_eq_true hz;rw[this];unfold bb at*;revert k;cases ah z (neg d)<;>cases ak z (neg d)<;>cases ah (neg d) z<;>decide
 have:=K4 rg n;omega
theorem par{D r s:Pt}(hD:D≠(0,0))(h1:cr D r=0)(h2:cr D s=0):cr r s=0/\dt D r*dt D s=dt D D*dt r s:=by
 have e1:dt D D*cr r s=cr D s*dt D r-cr D r*dt D s:=by unfold cr dt;grind
 have e2:dt D r*dt D s=dt D D*dt r s-cr D r*cr D s:=by unfold cr dt;grind
 rw[h1,h2] at e1;rw[h1,h2] at e2;have p:=dU (z:=cr r s) (ez hD);constructor
 ·omega
 ·omega
theorem vK{D r s:Pt}(hD:D≠(0,0))(h1:cr D r=0)(h2:cr D s=0):on r s=true↔dt D r*dt D s<=0:=by
 obtain⟨a,b⟩:=par hD h1 h2;rw[kT,b];have p:=aO (z:=dt r s) (ez hD);omega
theorem Gi{a b:Int}(ha:0<a)(hb:0<b):¬a*b<=0:=by have:=aP ha hb;omega
theorem Cm{a b:Int}(ha:a<0)(hb:b<0):¬a*b<=0:=by have:=QT ha hb;omega
theorem zE{a b:Int}(ha:a<=0)(hb:0<=b):a*b<=0:=FI ha hb
theorem Gj{a b:Int}(ha:0<=a)(hb:b<=0):a*b<=0:=ane ha hb
theorem place{f t:N3}(hf:0<f.2.2)(ht:0<t.2.2)(hr:aN (wv f t)){z:Pt}(hC:mQ f t (wv f t) z)(hl:lam (wv f t) f z=0):
  (dt (wv f t) (rl f z)<=0/\dt (wv f t) (rl (aU f t) z)<0/\dt (wv f t) (rl t z)<0)\/(0<dt (wv f t) (rl f z)/\0<dt (wv f t) (rl (aU f t) z)/\0<=dt (wv f t) (rl t z)):=by
 have hD:=ez (kC hr);have a1:=kB f t z;have a2:=kB f (aU f t) z;rw[RJ] at a2;have hq:(aU f t).2.2=f.2.2+t.2.2:=rfl;rw[hq] at a2;have k:=hC hl;generalize zF:wv f t=D at*;have e1:f.2.2*dt D (rl t z)=t.2.2*dt D (rl f z)-dt D D:=by
  have:f.2.2*dt D (rl t z)=D.1*(f.2.2*(rl t z).1)+D.2*(f.2.2*(rl t z).2):=by unfold dt;grind
  rw[this,a1.1,a1.2];unfold dt
  grind
 have e2:f.2.2*dt D (rl (aU f t) z)=(f.2.2+t.2.2)*dt D (rl f z)-dt D D:=by
  have:f.2.2*dt D (rl (aU f t) z)=D.1*(f.2.2*(rl (aU f t) z).1)+D.2*(f.2.2*(rl (aU f t) z).2):=by unfold dt;grind
  rw[this,a2.1,a2.2];unfold dt
  grind
 have p1:=neg_mul (z:=dt D (rl t z)) hf;have p2:=aO (z:=dt D (rl t z)) hf;have p3:=neg_mul (z:=dt D (rl (aU f t) z)) hf;have p4:=aO (z:=dt D (rl (aU f t) z)) hf;have p5:=aO (z:=dt D (rl f z)) ht;have p6:=aO (z:=dt D (rl f z)) hf;have e3:(f.2.2+t.2.2)*dt D (rl f z)=f.2.2*dt D (rl f z)+t.2.2*dt D (rl f z):=by grind
 have p7:=neg_mul (z:=dt D (rl f z)) hf;have p8:=neg_mul (z:=dt D (rl f z)) ht;rcases k with k|k
 ·left;omega
 ·right;omega
theorem K5{f t:N3}(hf:0<f.2.2)(ht:0<t.2.2)(hr:aN (wv f t)){u v:Pt}(hS:jK f t (wv f t) u v)(hn:¬(lam (wv f t) f u=0/\lam (wv f t) f v=0)):on (rl (aU f t) u) (rl (aU f t) v)=false:=by
 have hq:0<(aU f t).2.2:=by show 0<f.2.2+t.2.2;omega
 have b1:=Gf hr;obtain⟨k1,k2⟩:=Cj hf ht hq hS b1 (K0 hr);have su:=oN hf hq b1 u;have sv:=oN hf hq b1 v;cases h:on (rl (aU f t) u) (rl (aU f t) v)
 ·rfl
 ·exfalso;obtain⟨h1,h2⟩:=(kT _ _).1 h;have c1:=zB (D:=wv f t) h1;have c2:=RM (D:=wv f t) h1;have c3:=zB (D:=wv f t) (rL h1);have c4:=RM (D:=wv f t) (rL h1);rw[iR] at c3 c4;unfold lam at*;rcases fk (cr (wv f t) (rl (aU f t) u)) 0 with x|x|x
  ·exact k1 (by omega) ((c1 x).1 h2) (by have:=(c1 x).1 h2;omega) h1
  ·rcases fk (cr (wv f t) (rl (aU f t) v)) 0 with y|y|y
   ·exact k2 (by omega) (by omega) (by omega) h1
   ·exact hn ⟨by omega,by omega⟩
   ·exact k1 (by omega) (by omega) (by omega) h1
  ·exact k2 ((c2 x).1 h2) (by omega) (by have:=(c2 x).1 h2;omega) h1
theorem Gk{D r s:Pt}(ho:on r s=true)(hk:cr s D=0)(hs:s≠(0,0)):cr D r=0/\cr D s=0:=by
 have h1:=((kT _ _).1 ho).1;have e1:cr D s=0:=rL hk;have e:=ub (D:=D) (rL h1);rw[e1] at e;have p:=dU (z:=cr D r) (ez hs);rw[dX] at p;exact⟨p.1 (by omega),e1⟩
theorem vL(r s:Pt):on r s=on s r:=by
 unfold on;rw[bU r s,iR];congr 1;exact decide_eq_decide.2 (by omega)
theorem cV(z w:Pt):ak z w=true↔cr z w=0/\0<dt z w:=by unfold ak;simp
theorem qw{f t:N3}(hf:0<f.2.2)(ht:0<t.2.2)(hr:aN (wv f t))(z:Pt):lam (wv f t) t z=0↔lam (wv f t) f z=0:=by
 have:=oN hf ht (xA hr) z;omega
theorem zG{f t:N3}(hf:0<f.2.2)(ht:0<t.2.2)(hr:aN (wv f t))(z:Pt):lam (wv f t) (aU f t) z=0↔lam (wv f t) f z=0:=by
 have:=oN hf (show 0<(aU f t).2.2 by show 0<f.2.2+t.2.2;omega) (Gf hr) z
 omega
theorem RO{f t:N3}(hf:0<f.2.2)(ht:0<t.2.2)(hr:aN (wv f t)){u v:Pt}(hS:jK f t (wv f t) u v)(hu:mQ f t (wv f t) u)(hv:mQ f t (wv f t) v):
  fb (aU f t) (wv f t) u v=arm (fun z=>ak z (wv f t)) f u v/\fb (aU f t) (wv f t) u v= -arm (fun z=>ak z (neg (wv f t))) t u v:=by
 have hq:0<(aU f t).2.2:=by show 0<f.2.2+t.2.2;omega
 have hD:=kC hr;by_cases hn:lam (wv f t) f u=0/\lam (wv f t) f v=0
 ·obtain⟨l1,l2⟩:=hn;have pu:=place hf ht hr hu l1;have pv:=place hf ht hr hv l2;have m1:=(zG hf ht hr u).2 l1;have m2:=(zG hf ht hr v).2 l2;have t1:=(qw hf ht hr u).2 l1;have t2:=(qw hf ht hr v).2 l2;have K6:(aU f t).2.2*((wv f t).1*(v.1-u.1)+(wv f t).2*(v.2-u.2))=dt (wv f t) (rl (aU f t) v)-dt (wv f t) (rl (aU f t) u):=by
   unfold dt rl rel
   grind
  have s1:=aO (z:=(wv f t).1*(v.1-u.1)+(wv f t).2*(v.2-u.2)) hq;have s2:=neg_mul (z:=(wv f t).1*(v.1-u.1)+(wv f t).2*(v.2-u.2)) hq;rw[K6] at s1 s2;have oq:=vK hD m1 m2;have of:=vK hD l1 l2;have ot:=vK hD t1 t2;have ku:=cV (rl f u) (wv f t);have kv:=cV (rl f v) (wv f t);have tu:=cV (rl t u) (neg (wv f t));have tv:=cV (rl t v) (neg (wv f t));rw[fF,kU] at tu tv;rw[iR] at ku kv;rw[iR (rl t u)] at tu;rw[iR (rl t v)] at tv;have c1:cr (rl f u) (wv f t)=0:=rL l1;have c2:cr (rl f v) (wv f t)=0:=rL l2;have c3:cr (rl t u) (wv f t)=0:=rL t1;have c4:cr (rl t v) (wv f t)=0:=rL t2;unfold fb arm;dsimp only;generalize wv f t=D at*;rcases pu with⟨x1,x2,x3⟩|⟨x1,x2,x3⟩<;>rcases pv with⟨y1,y2,y3⟩|⟨y1,y2,y3⟩
  ·have o1:on (rl (aU f t) u) (rl (aU f t) v)=false:=by
    cases h:on (rl (aU f t) u) (rl (aU f t) v);rfl;exact absurd (oq.1 h) (Cm x2 y2)
   have o2:on (rl t u) (rl t v)=false:=by
    cases h:on (rl t u) (rl t v);rfl;exact absurd (ot.1 h) (Cm x3 y3)
   have b1:ak (rl f u) D=false:=by cases h:ak (rl f u) D;rfl;have:=ku.1 h;omega
   have b2:ak (rl f v) D=false:=by cases h:ak (rl f v) D;rfl;have:=kv.1 h;omega
   rw[o1,o2,b1,b2];simp
  ·have o1:=oq.2 (zE (dH x2) (dH y2));have o2:=of.2 (zE x1 (dH y1));have o3:=ot.2 (zE (dH x3) y3);have b1:ak (rl f u) D=false:=by cases h:ak (rl f u) D;rfl;have:=ku.1 h;omega
   have b2:ak (rl f v) D=true:=kv.2 ⟨c2,y1⟩;have b3:ak (rl t u) (neg D)=true:=tu.2 ⟨by omega,by omega⟩
   have b4:ak (rl t v) (neg D)=false:=by cases h:ak (rl t v) (neg D);rfl;have:=tv.1 h;omega
   have sg:(D.1*(v.1-u.1)+D.2*(v.2-u.2)).sign=1:=pM (by omega)
   rw[o1,o2,o3,b1,b2,b3,b4,sg];decide
  ·have o1:=oq.2 (Gj (dH x2) (dH y2));have o2:=of.2 (Gj (dH x1) y1);have o3:=ot.2 (Gj x3 (dH y3));have b1:ak (rl f u) D=true:=ku.2 ⟨c1,x1⟩;have b2:ak (rl f v) D=false:=by cases h:ak (rl f v) D;rfl;have:=kv.1 h;omega
   have b3:ak (rl t u) (neg D)=false:=by cases h:ak (rl t u) (neg D);rfl;have:=tu.1 h;omega
   have b4:ak (rl t v) (neg D)=true:=tv.2 ⟨by omega,by omega⟩
   have sg:(D.1*(v.1-u.1)+D.2*(v.2-u.2)).sign= -1:=FL (by omega)
   rw[o1,o2,o3,b1,b2,b3,b4,sg];decide
  ·have o1:on (rl (aU f t) u) (rl (aU f t) v)=false:=by
    cases h:on (rl (aU f t) u) (rl (aU f t) v);rfl;exact absurd (oq.1 h) (Gi x2 y2)
   have o2:on (rl f u) (rl f v)=false:=by
    cases h:on (rl f u) (rl f v);rfl;exact absurd (of.1 h) (Gi x1 y1)
   have b3:ak (rl t u) (neg D)=false:=by cases h:ak (rl t u) (neg D);rfl;have:=tu.1 h;omega
   have b4:ak (rl t v) (neg D)=false:=by cases h:ak (rl t v) (neg D);rfl;have:=tv.1 h;omega
   rw[o1,o2,b3,b4];simp
 ·have o1:=K5 hf ht hr hS hn;have zf:arm (fun z=>ak z (wv f t)) f u v=0:=by
   unfold arm;dsimp only;cases ho:on (rl f u) (rl f v)
   ·rfl
   ·have b1:ak (rl f u) (wv f t)=false:=by
     cases h:ak (rl f u) (wv f t)
     ·rfl
     ·exfalso;obtain⟨k1,k2⟩:=(cV _ _).1 h;have:=Gk (by rw[vL];exact ho) k1 (ua (D:=wv f t) (by rw[iR];omega))
      exact hn ⟨this.2,this.1⟩
    have b2:ak (rl f v) (wv f t)=false:=by
     cases h:ak (rl f v) (wv f t)
     ·rfl
     ·exfalso;obtain⟨k1,k2⟩:=(cV _ _).1 h;have:=Gk ho k1 (ua (D:=wv f t) (by rw[iR];omega))
      exact hn ⟨this.1,this.2⟩
    rw[b1,b2];simp
  have zt:arm (fun z=>ak z (neg (wv f t))) t u v=0:=by
   have hn':¬(lam (wv f t) t u=0/\lam (wv f t) t v=0):=by rw[qw hf ht hr,qw hf ht hr];exact hn
   unfold arm;dsimp only;cases ho:on (rl t u) (rl t v)
   ·rfl
   ·have b1:ak (rl t u) (neg (wv f t))=false:=by
     cases h:ak (rl t u) (neg (wv f t))
     ·rfl
     ·exfalso;obtain⟨k1,k2⟩:=(cV _ _).1 h;rw[fF] at k1;rw[kU] at k2;have:=Gk (D:=wv f t) (by rw[vL];exact ho) (by omega) (ua (D:=wv f t) (by rw[iR];omega))
      exact hn' ⟨this.2,this.1⟩
    have b2:ak (rl t v) (neg (wv f t))=false:=by
     cases h:ak (rl t v) (neg (wv f t))
     ·rfl
     ·exfalso;obtain⟨k1,k2⟩:=(cV _ _).1 h;rw[fF] at k1;rw[kU] at k2;have:=Gk (D:=wv f t) ho (by omega) (ua (D:=wv f t) (by rw[iR];omega))
      exact hn' ⟨this.1,this.2⟩
    rw[b1,b2];simp
  rw[zf,zt];unfold fb;rw[o1];simp
structure ud(es:List (Pt×Pt))(f t:N3):Prop where
 pf:0<f.2.2
 pt:0<t.2.2
 r:aN (wv f t)
 s:∀e∈es,jK f t (wv f t) e.1 e.2
 c:∀e∈es,mQ f t (wv f t) e.1/\mQ f t (wv f t) e.2
def RR(es:List (Pt×Pt))(f t:N3):Int:=PP es (aU f t)
def LL(es:List (Pt×Pt))(f t:N3):Int:=PP es (aU f t)+total (fb (aU f t) (wv f t)) es
theorem vM{rg:List (List Pt)}{f t:N3}(h:ud (aa rg) f t):RR (aa rg) f t=dh (aa rg) f (wv f t)/\LL (aa rg) f t=eA (aa rg) f (wv f t):=by
 have h1:=acM h.pf h.pt h.r h.s;have h2:total (fb (aU f t) (wv f t)) (aa rg)=AS (aa rg) f (fun z=>ak z (wv f t)):=oO fun e he=>(RO h.pf h.pt h.r (h.s e he) (h.c e he).1 (h.c e he).2).1
 have h3:AS (aa rg) f (fun z=>nz z&&ah z (wv f t))=AS (aa rg) f (fun z=>ah z (wv f t)):=Gh fun e _ _=>⟨RN h.r,RN h.r⟩
 unfold RR LL dh eA dh;rw[h2,h3];omega
theorem Cn{rg:List (List Pt)}{f t:N3}(h:ud (aa rg) f t):RR (aa rg) f t=eA (aa rg) t (neg (wv f t))/\LL (aa rg) f t=dh (aa rg) t (neg (wv f t)):=by
 have h1:=acN h.pf h.pt h.r h.s;have h2:total (fb (aU f t) (wv f t)) (aa rg)= -AS (aa rg) t (fun z=>ak z (neg (wv f t))):=by
  unfold AS;rw[<-K3];exact oO fun e he=>(RO h.pf h.pt h.r (h.s e he) (h.c e he).1 (h.c e he).2).2
 have h3:=acP (rg:=rg) (n:=t) h.r;unfold RR LL eA dh;rw[h2];omega
theorem acQ(x y z:Pt):cr x z*y.1=cr x y*z.1+cr y z*x.1:=by unfold cr;grind
theorem zH{x:Pt}(h:aN x):0<=x.1:=by rcases h with h|⟨h,_⟩<;>omega
theorem RQ{x y:Pt}(hx:aN x)(hy:aN y)(h:0<cr x y):0<x.1:=by
 rcases hx with h1|⟨h1,h2⟩
 ·exact h1
 ·exfalso;have:=iO (dH h2) (zH hy);unfold cr at h;rw[h1] at h;omega
theorem Gm{x y z:Pt}(hx:aN x)(hy:aN y)(hz:aN z):(0<cr x y->0<=cr y z->0<cr x z)/\(0<=cr x y->0<cr y z->0<cr x z)/\(cr x y=0->cr y z=0->cr x z=0):=by
 have e:=acQ x y z;have px:=zH hx;have py:=zH hy;have pz:=zH hz;refine⟨fun h1 h2=>?_,fun h1 h2=>?_,fun h1 h2=>?_⟩
 ·have p1:=RQ hx hy h1;rcases hy with q|⟨q,q'⟩
  ·rcases hz with r|⟨r,r'⟩
   ·have k1:=aP h1 r;have k2:=iO h2 px;have k:=aO (z:=cr x z) q;rw[dX] at k;omega
   ·have:0<x.1*z.2:=aP p1 r';unfold cr;rw[r];omega
  ·
   have h3:0<=y.1*z.2-y.2*z.1:=h2;rw[q] at h3;have hz1:z.1=0:=by
    rcases fk z.1 0 with h|h|h
    ·omega
    ·exact h
    ·have:=aP q' h;omega
   rcases hz with r|⟨r,r'⟩
   ·omega
   ·have:0<x.1*z.2:=aP p1 r';unfold cr;rw[r];omega
 ·have p1:=RQ hy hz h2;have p2:0<x.1:=by
   rcases hx with q|⟨q,q'⟩
   ·exact q
   ·exfalso;have:0<x.2*y.1:=aP q' p1;unfold cr at h1;rw[q] at h1;omega
  have k1:=iO h1 pz;have k2:=aP h2 p2;have k:=aO (z:=cr x z) p1;rw[dX] at k;omega
 ·rw[h1,h2] at e;rcases hy with q|⟨q,q'⟩
  ·have k:=dU (z:=cr x z) q;rw[dX] at k;omega
  ·unfold cr at h1 h2⊢;rw[q] at h1 h2;have a1:=dU (z:=x.1) q';have a2:=dU (z:=z.1) q';have b1:x.1=0:=a1.1 (by rw[dX];omega)
   have b2:z.1=0:=a2.1 (by omega)
   rw[b1,b2];omega
theorem nN{z w:Pt}:ah z w=true↔(aN z/\¬aN w)\/((aN z↔aN w)/\0<cr z w):=by
 have h1:=vJ z;have h2:=vJ w;unfold ah;cases h3:ij z<;>cases h4:ij w<;>rw[h3] at h1<;>rw[h4] at h2<;>simp at h1 h2⊢ <;>simp[h1,h2]
theorem gM{x y z:Pt}(hx:x≠(0,0))(hy:y≠(0,0))(hz:z≠(0,0))(h1:ah x y=true)(h2:ah y z=true):ah x z=true:=by
 rw[nN] at*;by_cases rx:aN x<;>by_cases ry:aN y<;>by_cases rz:aN z
 ·have:=Gm rx ry rz;simp only[rx,ry,rz,not_true_eq_false,and_false,false_or,true_and] at*;exact this.1 h1 (dH h2)
 ·exact Or.inl ⟨rx,rz⟩
 ·simp only[rx,ry,rz,not_true_eq_false,and_false,true_and,not_false_eq_true,false_and,iff_true,true_iff,or_false] at*
 ·exact Or.inl ⟨rx,rz⟩
 ·simp[rx,ry] at h1
 ·simp[rx,ry] at h1
 ·simp[ry,rz] at h2
 ·have:=Gm (fT hx rx) (fT hy ry) (fT hz rz);simp only[fw,fF,Kr] at this;simp only[rx,ry,rz,false_and,false_or,true_and] at*;exact this.1 h1 (dH h2)
theorem qx(x:Pt):ah x x=false:=by
 have:cr x x=0:=by unfold cr;grind
 unfold ah;rw[this];simp
theorem Gn{x y:Pt}(hx:x≠(0,0))(hy:y≠(0,0))(h:ah x y=true):ah y x=false:=by
 cases h1:ah y x
 ·rfl
 ·have:=gM hx hy hx h h1;rw[qx] at this;cases this
def arms(es:List (Pt×Pt))(n:N3):List Pt:=((es.filter fun e=>on (rl n e.1) (rl n e.2)).flatMap fun e=>[rl n e.1,rl n e.2]).filter nz
theorem jL{es:List (Pt×Pt)}{n:N3}{z:Pt}:z∈arms es n↔z≠(0,0)/\∃e∈es,on (rl n e.1) (rl n e.2)=true/\(z=rl n e.1\/z=rl n e.2):=by
 unfold arms;rw[jw,tW];constructor
 ·rintro⟨⟨e,he,hz⟩,hn⟩;obtain⟨h1,h2⟩:=jw.1 he;exact⟨of_decide_eq_true hn,e,h1,h2,by simpa using hz⟩
 ·rintro⟨hn,e,he,ho,hz⟩;exact⟨⟨e,jw.2 ⟨he,ho⟩,by simpa using hz⟩,decide_eq_true hn⟩
theorem zI{es:List (Pt×Pt)}{n:N3}{Q Q':Pt->Bool}(h0:Q (0,0)=Q' (0,0))(h:∀z∈arms es n,Q z=Q' z):AS es n Q=AS es n Q':=by
 refine Gh fun e he ho=>?_
 have key:∀z,z=rl n e.1\/z=rl n e.2->Q z=Q' z:=fun z hz=>by
  by_cases hn:z=(0,0)
  ·rw[hn];exact h0
  ·exact h z (jL.2 ⟨hn,e,he,ho,hz⟩)
 exact⟨key _ (Or.inl rfl),key _ (Or.inr rfl)⟩
theorem K7(es:List (Pt×Pt))(n:N3):AS es n (fun _=>false)=0:=vI fun e _=>by unfold arm;split<;>rfl
theorem xB{α:Type}{p q:α->Bool}:∀(l:List α),(∀x∈l,q x=true->p x=true)->(∃x∈l,p x=true/\q x=false)->l.countP q<l.countP p
 |[],_,h=>by obtain⟨x,hx,_⟩:=h;simp at hx
 |a::l,h1,h2=>by
  obtain⟨x,hx,hp,hq⟩:=h2;have hle:l.countP q<=l.countP p:=anf fun y hy=>h1 y (bn _ hy)
  rcases aQ.1 hx with e|hx
  ·subst e;rw[anh hp,ani (by simp[hq])]
   omega
  ·have ih:=xB l (fun y hy=>h1 y (bn _ hy)) ⟨x,hx,hp,hq⟩
   rw[QU,QU];by_cases ha:q a=true
   ·rw[if_pos ha,if_pos (h1 a (by simp) ha)];omega
   ·rw[if_neg ha];omega
def lR(d d' z:Pt):Bool:=ah d z&&ah z d'
theorem K8{es:List (Pt×Pt)}{n:N3}{d d':Pt}(hd:d≠(0,0))(hd':d'≠(0,0))(h:ah d d'=true)(hb:∀z∈arms es n,lR d d' z=false):eA es n d=dh es n d':=by
 have e:AS es n (fun z=>nz z&&ah z d')=AS es n (fun z=>nz z&&ah z d)+AS es n (fun z=>ak z d):=by
  have e1:AS es n (fun z=>nz z&&ah z d')=AS es n (fun z=>nz z&&(ah z d||ak z d)):=zI rfl fun z hz=>by
   have eW:=(jL.1 hz).1;have hzb:=hb z hz;have:nz z=true:=decide_eq_true eW;rw[this,FM,FM];have k:=iA eW hd;unfold lR at hzb;cases h1:ah z d'
   ·have h2:ah z d=false:=by
     cases h2:ah z d
     ·rfl
     ·have:=gM eW hd hd' h2 h;rw[h1] at this;cases this
    have h3:ak z d=false:=by
     cases h3:ak z d
     ·rfl
     ·exfalso;obtain⟨s1,s2⟩:=(cV z d).1 h3;have k2:=iA eW hd';rw[h1] at k2;have h4:ah d' z=true\/ak z d'=true:=by
       revert k2;cases ak z d'<;>cases ah d' z<;>decide
      rcases h4 with h4|h4
      ·have:=gM hd hd' eW h h4;rw[this,h3,h2] at k;revert k;decide
      ·
       obtain⟨t1,t2⟩:=(cV z d').1 h4;have p1:cr d z=0:=by rw[bU];omega
       have hdd:cr d d'=0:=by
        have:=ub (D:=d) t1;rw[p1] at this;have q:=dU (z:=cr d d') (ez eW);rw[dX] at q;exact q.1 (by omega)
       have hpos:0<dt d d':=by
        have e2:dt d d'*dt z z=dt z d*dt z d'+cr z d*cr z d':=by unfold dt cr;grind
        rw[s1] at e2;have:=aP s2 t2;have q:=aO (z:=dt d d') (ez eW);rw[dX] at q;exact q.1 (by omega)
       have k3:=iA hd hd';have h5:ak d d'=true:=(cV _ _).2 ⟨hdd,hpos⟩;rw[h,h5] at k3;revert k3;cases ah d' d<;>decide
    rw[h2,h3];rfl
   ·rw[h1,Bool.and_true] at hzb;rw[hzb] at k;revert k;cases ah z d<;>cases ak z d<;>decide
  have e2:AS es n (fun z=>nz z&&(ah z d||ak z d))=AS es n (fun z=>nz z&&ah z d)+AS es n (fun z=>ak z d):=by
   refine Ck fun z=>?_
   by_cases hz:z=(0,0)
   ·rw[hz,zD];rfl
   ·have k:=iA hz hd;have:nz z=true:=decide_eq_true hz;rw[this];revert k;cases ah z d<;>cases ak z d<;>cases ah d z<;>decide
  rw[e1,e2]
 unfold eA dh;omega
theorem zJ{d d' z:Pt}:lR d d' z=true↔ah d z=true/\ah z d'=true:=by unfold lR;simp
structure xC(es:List (Pt×Pt))(n:N3)(az:Int->Bool)(z:Pt):Prop where
 mem:z∈arms es n
 out:az (dh es n z)=false
 az:az (eA es n z)=true
theorem Gp{es:List (Pt×Pt)}{n:N3}{az:Int->Bool}:∀(m:Nat)(d d':Pt),d≠(0,0)->d'≠(0,0)->ah d d'=true->(arms es n).countP (lR d d')<=m->az (eA es n d)=false->az (dh es n d')=true->∃z,xC es n az z/\ah d z=true/\ah z d'=true:=by
 intro m;induction m with
 |zero=>
  intro d d' hd hd' h hc h1 h2;exfalso;rw[K8 hd hd' h fun z hz=>by
   cases hk:lR d d' z
   ·rfl
   ·have:=Ks.2 ⟨z,hz,hk⟩;omega] at h1
  rw[h1] at h2;cases h2
 |succ m ih=>
  intro d d' hd hd' h hc h1 h2;by_cases hb:∀z∈arms es n,lR d d' z=false
  ·exfalso;rw[K8 hd hd' h hb] at h1;rw[h1] at h2;cases h2
  ·have hb':∃z,z∈arms es n/\lR d d' z=true:=by
    apply mL;intro hk;apply hb;intro z hz;cases hk':lR d d' z
    ·rfl
    ·exact absurd ⟨z,hz,hk'⟩ hk
   obtain⟨z,hz,hk⟩:=hb';have eW:=(jL.1 hz).1;obtain⟨k1,k2⟩:=zJ.1 hk;cases hbz:az (dh es n z)
   ·cases dA:az (eA es n z)
    ·have hlt:(arms es n).countP (lR z d')<(arms es n).countP (lR d d'):=xB _ (fun x hx xD=>by
      obtain⟨x1,x2⟩:=zJ.1 xD;exact zJ.2 ⟨gM hd eW (jL.1 hx).1 k1 x1,x2⟩) ⟨z,hz,hk,by unfold lR;rw[qx];rfl⟩
     obtain⟨y,hy,y1,y2⟩:=ih z d' eW hd' k2 (by omega) dA h2
     exact⟨y,hy,gM hd eW (jL.1 hy.mem).1 k1 y1,y2⟩
    ·exact⟨z,⟨hz,hbz,dA⟩,k1,k2⟩
   ·have hlt:(arms es n).countP (lR d z)<(arms es n).countP (lR d d'):=xB _ (fun x hx xD=>by
      obtain⟨x1,x2⟩:=zJ.1 xD;exact zJ.2 ⟨x1,gM (jL.1 hx).1 eW hd' x2 k2⟩) ⟨z,hz,hk,by unfold lR;rw[qx];simp⟩
    obtain⟨y,hy,y1,y2⟩:=ih d z hd eW k1 (by omega) h1 hbz
    exact⟨y,hy,y1,gM (jL.1 hy.mem).1 eW hd' y2 k2⟩
theorem K9{es:List (Pt×Pt)}{n:N3}{az:Int->Bool}:∀(m:Nat)(d':Pt),d'≠(0,0)->(arms es n).countP (fun z=>ah z d')<=m->az (PP es n)=false->az (dh es n d')=true->∃z,xC es n az z/\ah z d'=true:=by
 have h0:∀d',(∀z∈arms es n,ah z d'=false)->dh es n d'=PP es n:=fun d' h=>by
  have e:AS es n (fun z=>nz z&&ah z d')=AS es n (fun _=>false):=zI (by unfold nz;simp) fun z hz=>by rw[h z hz];simp
  unfold dh;rw[e,K7];omega
 intro m;induction m with
 |zero=>
  intro d' hd' hc h1 h2;exfalso;rw[h0 d' fun z hz=>by
   cases hk:ah z d'
   ·rfl
   ·have:0<(arms es n).countP (fun z=>ah z d'):=Ks.2 ⟨z,hz,hk⟩
    omega,h1] at h2
  cases h2
 |succ m ih=>
  intro d' hd' hc h1 h2;by_cases hb:∀z∈arms es n,ah z d'=false
  ·exfalso;rw[h0 d' hb,h1] at h2;cases h2
  ·have hb':∃z,z∈arms es n/\ah z d'=true:=by
    apply mL;intro hk;apply hb;intro z hz;cases hk':ah z d'
    ·rfl
    ·exact absurd ⟨z,hz,hk'⟩ hk
   obtain⟨z,hz,hk⟩:=hb';have eW:=(jL.1 hz).1;cases hbz:az (dh es n z)
   ·cases dA:az (eA es n z)
    ·obtain⟨y,hy,_,y2⟩:=Gp _ z d' eW hd' hk (ae _) dA h2;exact⟨y,hy,y2⟩
    ·exact⟨z,⟨hz,hbz,dA⟩,hk⟩
   ·have hlt:(arms es n).countP (fun x=>ah x z)<(arms es n).countP (fun x=>ah x d'):=xB _ (fun x hx xD=>gM (jL.1 hx).1 eW hd' xD hk) ⟨z,hz,hk,qx z⟩
    obtain⟨y,hy,y2⟩:=ih z eW (by omega) h1 hbz
    exact⟨y,hy,gM (jL.1 hy.mem).1 eW hd' y2 hk⟩
theorem RS{rg:List (List Pt)}{n:N3}{az:Int->Bool}:∀(m:Nat)(d:Pt),d≠(0,0)->(arms (aa rg) n).countP (fun z=>ah d z)<=m->az (eA (aa rg) n d)=false->az (PP (aa rg) n)=true->∃z,xC (aa rg) n az z/\ah d z=true:=by
 have h0:∀d,d≠(0,0)->(∀z∈arms (aa rg) n,ah d z=false)->eA (aa rg) n d=PP (aa rg) n:=fun d hd h=>by
  have e:AS (aa rg) n nz=AS (aa rg) n (fun z=>nz z&&ah z d)+AS (aa rg) n (fun z=>ak z d):=by
   have e1:AS (aa rg) n nz=AS (aa rg) n (fun z=>nz z&&(ah z d||ak z d)):=zI (by unfold nz;simp) fun z hz=>by
    have eW:=(jL.1 hz).1;have k:=iA eW hd;have:nz z=true:=decide_eq_true eW;rw[this];rw[h z hz] at k;revert k;cases ah z d<;>cases ak z d<;>decide
   have e2:AS (aa rg) n (fun z=>nz z&&(ah z d||ak z d))=AS (aa rg) n (fun z=>nz z&&ah z d)+AS (aa rg) n (fun z=>ak z d):=by
    refine Ck fun z=>?_
    by_cases hz:z=(0,0)
    ·rw[hz,zD];rfl
    ·have k:=iA hz hd;have:nz z=true:=decide_eq_true hz;rw[this];revert k;cases ah z d<;>cases ak z d<;>cases ah d z<;>decide
   rw[e1,e2]
  have:=K4 rg n;unfold eA dh;omega
 intro m;induction m with
 |zero=>
  intro d hd hc h1 h2;exfalso;rw[h0 d hd fun z hz=>by
   cases hk:ah d z
   ·rfl
   ·have:0<(arms (aa rg) n).countP (fun z=>ah d z):=Ks.2 ⟨z,hz,hk⟩
    omega,h2] at h1
  cases h1
 |succ m ih=>
  intro d hd hc h1 h2;by_cases hb:∀z∈arms (aa rg) n,ah d z=false
  ·exfalso;rw[h0 d hd hb,h2] at h1;cases h1
  ·have hb':∃z,z∈arms (aa rg) n/\ah d z=true:=by
    apply mL;intro hk;apply hb;intro z hz;cases hk':ah d z
    ·rfl
    ·exact absurd ⟨z,hz,hk'⟩ hk
   obtain⟨z,hz,hk⟩:=hb';have eW:=(jL.1 hz).1;cases hbz:az (dh (aa rg) n z)
   ·cases dA:az (eA (aa rg) n z)
    ·have hlt:(arms (aa rg) n).countP (fun x=>ah z x)<(arms (aa rg) n).countP (fun x=>ah d x):=xB _ (fun x hx xD=>gM hd eW (jL.1 hx).1 hk xD) ⟨z,hz,hk,qx z⟩
     obtain⟨y,hy,y2⟩:=ih z eW (by omega) dA h2
     exact⟨y,hy,gM hd eW (jL.1 hy.mem).1 hk y2⟩
    ·exact⟨z,⟨hz,hbz,dA⟩,hk⟩
   ·obtain⟨y,hy,y1,_⟩:=Gp _ d z hd eW hk (ae _) h1 hbz;exact⟨y,hy,y1⟩
theorem acR{rg:List (List Pt)}{n:N3}{az:Int->Bool}{a:Pt}(ha:a≠(0,0))(h1:az (dh (aa rg) n a)=true)(h2:az (eA (aa rg) n a)=false):∃z,xC (aa rg) n az z:=by
 cases h:az (PP (aa rg) n)
 ·obtain⟨z,hz,_⟩:=K9 _ a ha (ae _) h h1;exact⟨z,hz⟩
 ·obtain⟨z,hz,_⟩:=RS _ a ha (ae _) h2 h;exact⟨z,hz⟩
def cw(a l l':Pt):Bool:=(ah l a&&ah l' a&&ah l' l)||(ah l a&&ah a l')||(ah a l&&ah a l'&&ah l' l)
theorem lS{a l l':Pt}:cw a l l'=true↔(ah l a=true/\ah l' a=true/\ah l' l=true)\/(ah l a=true/\ah a l'=true)\/(ah a l=true/\ah a l'=true/\ah l' l=true):=by
 unfold cw;simp only[QV,qq];constructor
 ·rintro((⟨⟨a,b⟩,c⟩|⟨a,b⟩)|⟨⟨a,b⟩,c⟩)
  ·exact Or.inl ⟨a,b,c⟩
  ·exact Or.inr (Or.inl ⟨a,b⟩)
  ·exact Or.inr (Or.inr ⟨a,b,c⟩)
 ·rintro(⟨a,b,c⟩|⟨a,b⟩|⟨a,b,c⟩)
  ·exact Or.inl (Or.inl ⟨⟨a,b⟩,c⟩)
  ·exact Or.inl (Or.inr ⟨a,b⟩)
  ·exact Or.inr ⟨⟨a,b⟩,c⟩
theorem RU{rg:List (List Pt)}{n:N3}{az:Int->Bool}{a a' l:Pt}(ha:a≠(0,0))(ha':a'≠(0,0))(hne:ak a a'=false)
  (h1:az (dh (aa rg) n a)=true)(h2:az (eA (aa rg) n a)=false)(h1':az (dh (aa rg) n a')=true)(h2':az (eA (aa rg) n a')=false)
  (Co:l≠(0,0))(lT:ak l a=false)(Gq:ak l a'=false):∃z,xC (aa rg) n az z/\(cw a z l=true\/cw a' z l=true):=by
 have key:∀{a a':Pt},a≠(0,0)->a'≠(0,0)->ah a a'=true->az (dh (aa rg) n a)=true->az (eA (aa rg) n a)=false->az (dh (aa rg) n a')=true->az (eA (aa rg) n a')=false->ak l a=false->ak l a'=false->∃z,xC (aa rg) n az z/\(cw a z l=true\/cw a' z l=true):=by
  intro a a' ha ha' hlt h1 h2 h1' h2' lT Gq;have t1:=iA Co ha;have t2:=iA Co ha';rw[lT] at t1;rw[Gq] at t2;cases p:ah l a
  ·rw[p] at t1;have q:ah a l=true:=by revert t1;cases ah a l<;>decide
   cases r:ah l a'
   ·rw[r] at t2;have q':ah a' l=true:=by revert t2;cases ah a' l<;>decide
    obtain⟨z,hz,z1,z2⟩:=Gp _ a a' ha ha' hlt (ae _) h2 h1';exact⟨z,hz,Or.inr (lS.2 (Or.inr (Or.inl ⟨z2,q'⟩)))⟩
   ·
    cases hp:az (PP (aa rg) n)
    ·obtain⟨z,hz,z1⟩:=K9 _ a ha (ae _) hp h1;exact⟨z,hz,Or.inl (lS.2 (Or.inr (Or.inl ⟨z1,q⟩)))⟩
    ·obtain⟨z,hz,z1⟩:=RS _ a' ha' (ae _) h2' hp;have eW:=(jL.1 hz.mem).1;exact⟨z,hz,Or.inl (lS.2 (Or.inr (Or.inr ⟨gM ha ha' eW hlt z1,q,gM Co ha' eW r z1⟩)))⟩
  ·
   obtain⟨z,hz,z1,z2⟩:=Gp _ a a' ha ha' hlt (ae _) h2 h1';have eW:=(jL.1 hz.mem).1;exact⟨z,hz,Or.inr (lS.2 (Or.inl ⟨z2,gM Co ha ha' p hlt,gM Co ha eW p z1⟩))⟩
 have t:=iA ha ha';rw[hne] at t;cases p:ah a a'
 ·rw[p] at t;have q:ah a' a=true:=by revert t;cases ah a' a<;>decide
  obtain⟨z,hz,k⟩:=key ha' ha q h1' h2' h1 h2 Gq lT;exact⟨z,hz,k.symm⟩
 ·exact key ha ha' p h1 h2 h1' h2' lT Gq
def Tri(P Q R:Int):Prop:=
 (0<P->0<=Q->0<R)/\(0<=P->0<Q->0<R)/\(P=0->Q=0->R=0)/\(P<0->Q<=0->R<0)/\(P<=0->Q<0->R<0)
theorem vN{p q r:Pt}(hp:aN p)(hq:aN q)(hr:aN r):Tri (cr p q) (cr q r) (cr p r):=by
 have a1:=Gm hp hq hr;have a2:=Gm hr hq hp;rw[bU p r,bU q r,bU p q] at a2;refine⟨a1.1,a1.2.1,a1.2.2,fun h1 h2=>?_,fun h1 h2=>?_⟩
 ·have:=a2.2.1 (by omega) (by omega);omega
 ·have:=a2.1 (by omega) (by omega);omega
def tC(u l l':Pt):Int:=if((cr u l').sign-(cr u l).sign).sign=0 then(cr l l').sign else((cr u l').sign-(cr u l).sign).sign
theorem sg(z:Int):(z<0/\z.sign= -1)\/(z=0/\z.sign=0)\/(0<z/\z.sign=1):=by
 rcases fk z 0 with h|h|h
 ·exact Or.inl ⟨h,FL h⟩
 ·exact Or.inr (Or.inl ⟨h,by rw[h];rfl⟩)
 ·exact Or.inr (Or.inr ⟨h,pM h⟩)
theorem acT(u l l':Pt):tC u l l'<0↔(cr u l').sign<(cr u l).sign\/((cr u l').sign=(cr u l).sign/\cr l l'<0):=by
 unfold tC;have h1:=sg ((cr u l').sign-(cr u l).sign);have h2:=sg (cr l l');split<;>omega
theorem La{z w:Pt}(h:ak z w=false)(hc:cr z w=0):dt z w<=0:=by
 apply BI.1;intro h';rw[(cV z w).2 ⟨hc,h'⟩] at h;cases h
theorem Cq{a l l':Pt}(ha:a≠(0,0))(hl:l≠(0,0))(hl':l'≠(0,0))(hs:ak l a=false)(hs':ak l' a=false):tC (neg a) l l'<0↔cw a l l'=true:=by
 rw[acT,lS];have n1:=La hs;have n2:=La hs';rw[nN,nN,nN,nN,nN];have e1:cr (neg a) l= -cr a l:=fw a l;have e2:cr (neg a) l'= -cr a l':=fw a l';have s1:=sg (cr (neg a) l);have s2:=sg (cr (neg a) l');rw[e1] at s1⊢;rw[e2] at s2⊢;have w1:=bU a l;have w2:=bU a l';have w3:=bU l l';rw[w1] at n1⊢;rw[w2] at n2⊢;rw[w3];by_cases ra:aN a<;>by_cases rl:aN l<;>by_cases rl':aN l'
 ·have t:=vN ra rl rl';have d1:=kf rl ra;have d2:=kf rl' ra;rw[w1] at d1;rw[w2] at d2;obtain⟨t1,t2,t3,t4,t5⟩:=t;simp only[ra,rl,rl',not_true_eq_false,and_false,true_and,false_or,iff_self];rcases s1 with⟨s1,r1⟩|⟨s1,r1⟩|⟨s1,r1⟩<;>rcases s2 with⟨s2,r2⟩|⟨s2,r2⟩|⟨s2,r2⟩<;>rw[r1,r2]<;>omega
 ·have t:=vN ra rl (fT hl' rl');have d1:=kf rl ra;rw[w1] at d1;rw[fF,fF] at t;obtain⟨t1,t2,t3,t4,t5⟩:=t;simp only[ra,rl,rl',not_true_eq_false,not_false_eq_true,and_false,false_and,and_true,true_and,false_or,or_false,iff_true,iff_false,iff_self];rcases s1 with⟨s1,r1⟩|⟨s1,r1⟩|⟨s1,r1⟩<;>rcases s2 with⟨s2,r2⟩|⟨s2,r2⟩|⟨s2,r2⟩<;>rw[r1,r2]<;>omega
 ·have t:=vN ra (fT hl rl) rl';have d2:=kf rl' ra;rw[w2] at d2;rw[fF,fw] at t;obtain⟨t1,t2,t3,t4,t5⟩:=t;simp only[ra,rl,rl',not_true_eq_false,not_false_eq_true,and_false,false_and,and_true,true_and,false_or,or_false,iff_true,iff_false,iff_self];rcases s1 with⟨s1,r1⟩|⟨s1,r1⟩|⟨s1,r1⟩<;>rcases s2 with⟨s2,r2⟩|⟨s2,r2⟩|⟨s2,r2⟩<;>rw[r1,r2]<;>omega
 ·have t:=vN ra (fT hl rl) (fT hl' rl');rw[fF,fw,fF,fF] at t;obtain⟨t1,t2,t3,t4,t5⟩:=t;simp only[ra,rl,rl',not_true_eq_false,not_false_eq_true,and_false,false_and,and_true,true_and,false_or,or_false,iff_true,iff_false,iff_self];rcases s1 with⟨s1,r1⟩|⟨s1,r1⟩|⟨s1,r1⟩<;>rcases s2 with⟨s2,r2⟩|⟨s2,r2⟩|⟨s2,r2⟩<;>rw[r1,r2]<;>omega
 ·have t:=vN (fT ha ra) rl rl';rw[fw,fw] at t;obtain⟨t1,t2,t3,t4,t5⟩:=t;simp only[ra,rl,rl',not_true_eq_false,not_false_eq_true,and_false,false_and,and_true,true_and,false_or,or_false,iff_true,iff_false,iff_self];rcases s1 with⟨s1,r1⟩|⟨s1,r1⟩|⟨s1,r1⟩<;>rcases s2 with⟨s2,r2⟩|⟨s2,r2⟩|⟨s2,r2⟩<;>rw[r1,r2]<;>omega
 ·have t:=vN (fT ha ra) rl (fT hl' rl');have d2:=kf (fT hl' rl') (fT ha ra);rw[fw,fF,w2,rM,kU] at d2;rw[fw,fF,fw,fF] at t;obtain⟨t1,t2,t3,t4,t5⟩:=t;simp only[ra,rl,rl',not_true_eq_false,not_false_eq_true,and_false,false_and,and_true,true_and,false_or,or_false,iff_true,iff_false,iff_self];rcases s1 with⟨s1,r1⟩|⟨s1,r1⟩|⟨s1,r1⟩<;>rcases s2 with⟨s2,r2⟩|⟨s2,r2⟩|⟨s2,r2⟩<;>rw[r1,r2]<;>omega
 ·have t:=vN (fT ha ra) (fT hl rl) rl';have d1:=kf (fT hl rl) (fT ha ra);rw[fw,fF,w1,rM,kU] at d1;rw[fw,fF,fw,fw] at t;obtain⟨t1,t2,t3,t4,t5⟩:=t;simp only[ra,rl,rl',not_true_eq_false,not_false_eq_true,and_false,false_and,and_true,true_and,false_or,or_false,iff_true,iff_false,iff_self];rcases s1 with⟨s1,r1⟩|⟨s1,r1⟩|⟨s1,r1⟩<;>rcases s2 with⟨s2,r2⟩|⟨s2,r2⟩|⟨s2,r2⟩<;>rw[r1,r2]<;>omega
 ·have t:=vN (fT ha ra) (fT hl rl) (fT hl' rl');have d1:=kf (fT hl rl) (fT ha ra);rw[fw,fF,w1,rM,kU] at d1;have d2:=kf (fT hl' rl') (fT ha ra);rw[fw,fF,w2,rM,kU] at d2;rw[fw,fF,fw,fF,fw,fF] at t;obtain⟨t1,t2,t3,t4,t5⟩:=t;simp only[ra,rl,rl',not_false_eq_true,and_true,true_and,false_or,iff_self];rcases s1 with⟨s1,r1⟩|⟨s1,r1⟩|⟨s1,r1⟩<;>rcases s2 with⟨s2,r2⟩|⟨s2,r2⟩|⟨s2,r2⟩<;>rw[r1,r2]<;>omega
end Go.Proofs.YtkjhhooecopolaaGreatDoor.Ga
