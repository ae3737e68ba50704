import Derived.Test.YtkjhhooecopolaaGreatDoorZz00
set_option maxRecDepth 100000
set_option maxHeartbeats 4000000
namespace Go.Proofs.YtkjhhooecopolaaGreatDoor.Ga
open Ge
theorem par{D r s:Pt}(hD:D≠(0,0))(h1:cr D r=0)(h2:cr D s=0):cr r s=0/\dt D r*dt D s=dt D D*dt r s:=by
 have e1:dt D D*cr r s=cr D s*dt D r-cr D r*dt D s:=by unfold cr dt;grind
 have e2:dt D r*dt D s=dt D D*dt r s-cr D r*cr D s:=by unfold cr dt;grind
 rw[h1,h2] at e1;rw[h1,h2] at e2;have p:=dJ (z:=cr r s) (dO hD);constructor
 ·omega
 ·omega
theorem um{D r s:Pt}(hD:D≠(0,0))(h1:cr D r=0)(h2:cr D s=0):on r s=true↔dt D r*dt D s<=0:=by
 obtain⟨a,b⟩:=par hD h1 h2;rw[j5,b];have p:=aN (z:=dt r s) (dO hD);omega
theorem ED{a b:Int}(ha:0<a)(hb:0<b):¬a*b<=0:=by have:=aR ha hb;omega
theorem Ay{a b:Int}(ha:a<0)(hb:b<0):¬a*b<=0:=by have:=OG ha hb;omega
theorem x8{a b:Int}(ha:a<=0)(hb:0<=b):a*b<=0:=Ea ha hb
theorem EE{a b:Int}(ha:0<=a)(hb:b<=0):a*b<=0:=akb ha hb
theorem place{f t:N3}(hf:0<f.2.2)(ht:0<t.2.2)(hr:aM (wv f t)){z:Pt}(hC:lI f t (wv f t) z)(hl:lam (wv f t) f z=0):
  (dt (wv f t) (rl f z)<=0/\dt (wv f t) (rl (aW f t) z)<0/\dt (wv f t) (rl t z)<0)\/(0<dt (wv f t) (rl f z)/\0<dt (wv f t) (rl (aW f t) z)/\0<=dt (wv f t) (rl t z)):=by
 have hD:=dO (jS hr);have a1:=jR f t z;have a2:=jR f (aW f t) z;rw[Pv] at a2;have hq:(aW f t).2.2=f.2.2+t.2.2:=rfl;rw[hq] at a2;have k:=hC hl;generalize hDD:wv f t=D at*;have e1:f.2.2*dt D (rl t z)=t.2.2*dt D (rl f z)-dt D D:=by
  have:f.2.2*dt D (rl t z)=D.1*(f.2.2*(rl t z).1)+D.2*(f.2.2*(rl t z).2):=by unfold dt;grind
  rw[this,a1.1,a1.2];unfold dt
  grind
 have e2:f.2.2*dt D (rl (aW f t) z)=(f.2.2+t.2.2)*dt D (rl f z)-dt D D:=by
  have:f.2.2*dt D (rl (aW f t) z)=D.1*(f.2.2*(rl (aW f t) z).1)+D.2*(f.2.2*(rl (aW f t) z).2):=by unfold dt;grind
  rw[this,a2.1,a2.2];unfold dt
  grind
 have p1:=neg_mul (z:=dt D (rl t z)) hf;have p2:=aN (z:=dt D (rl t z)) hf;have p3:=neg_mul (z:=dt D (rl (aW f t) z)) hf;have p4:=aN (z:=dt D (rl (aW f t) z)) hf;have p5:=aN (z:=dt D (rl f z)) ht;have p6:=aN (z:=dt D (rl f z)) hf;have e3:(f.2.2+t.2.2)*dt D (rl f z)=f.2.2*dt D (rl f z)+t.2.2*dt D (rl f z):=by grind
 have p7:=neg_mul (z:=dt D (rl f z)) hf;have p8:=neg_mul (z:=dt D (rl f z)) ht;rcases k with k|k
 ·left;omega
 ·right;omega
theorem JJ{f t:N3}(hf:0<f.2.2)(ht:0<t.2.2)(hr:aM (wv f t)){u v:Pt}(hS:ju f t (wv f t) u v)(hn:¬(lam (wv f t) f u=0/\lam (wv f t) f v=0)):on (rl (aW f t) u) (rl (aW f t) v)=false:=by
 have hq:0<(aW f t).2.2:=by show 0<f.2.2+t.2.2;omega
 have b1:=Ez hr;obtain⟨k1,k2⟩:=Aw hf ht hq hS b1 (JE hr);have su:=nr hf hq b1 u;have sv:=nr hf hq b1 v;cases h:on (rl (aW f t) u) (rl (aW f t) v)
 ·rfl
 ·exfalso;obtain⟨h1,h2⟩:=(j5 _ _).1 h;have c1:=xY (D:=wv f t) h1;have c2:=Px (D:=wv f t) h1;have c3:=xY (D:=wv f t) (qu h1);have c4:=Px (D:=wv f t) (qu h1);rw[iF] at c3 c4;unfold lam at*;rcases eD (cr (wv f t) (rl (aW f t) u)) 0 with x|x|x
  ·exact k1 (by omega) ((c1 x).1 h2) (by have:=(c1 x).1 h2;omega) h1
  ·rcases eD (cr (wv f t) (rl (aW f t) v)) 0 with y|y|y
   ·exact k2 (by omega) (by omega) (by omega) h1
   ·exact hn ⟨by omega,by omega⟩
   ·exact k1 (by omega) (by omega) (by omega) h1
  ·exact k2 ((c2 x).1 h2) (by omega) (by have:=(c2 x).1 h2;omega) h1
theorem EF{D r s:Pt}(ho:on r s=true)(hk:cr s D=0)(hs:s≠(0,0)):cr D r=0/\cr D s=0:=by
 have h1:=((j5 _ _).1 ho).1;have e1:cr D s=0:=qu hk;have e:=rY (D:=D) (qu h1);rw[e1] at e;have p:=dJ (z:=cr D r) (dO hs);rw[dM] at p;exact⟨p.1 (by omega),e1⟩
theorem vO(r s:Pt):on r s=on s r:=by
 unfold on;rw[bV r s,iF];congr 1;exact decide_eq_decide.2 (by omega)
theorem cQ(z w:Pt):ay z w=true↔cr z w=0/\0<dt z w:=by unfold ay;simp
theorem oX{f t:N3}(hf:0<f.2.2)(ht:0<t.2.2)(hr:aM (wv f t))(z:Pt):lam (wv f t) t z=0↔lam (wv f t) f z=0:=by
 have:=nr hf ht (vN hr) z;omega
theorem x9{f t:N3}(hf:0<f.2.2)(ht:0<t.2.2)(hr:aM (wv f t))(z:Pt):lam (wv f t) (aW f t) z=0↔lam (wv f t) f z=0:=by
 have:=nr hf (show 0<(aW f t).2.2 by show 0<f.2.2+t.2.2;omega) (Ez hr) z
 omega
theorem Pz{f t:N3}(hf:0<f.2.2)(ht:0<t.2.2)(hr:aM (wv f t)){u v:Pt}(hS:ju f t (wv f t) u v)(hu:lI f t (wv f t) u)(hv:lI f t (wv f t) v):
  fb (aW f t) (wv f t) u v=arm (fun z=>ay z (wv f t)) f u v/\fb (aW f t) (wv f t) u v= -arm (fun z=>ay z (neg (wv f t))) t u v:=by
 have hq:0<(aW f t).2.2:=by show 0<f.2.2+t.2.2;omega
 have hD:=jS hr;by_cases hn:lam (wv f t) f u=0/\lam (wv f t) f v=0
 ·obtain⟨l1,l2⟩:=hn;have pu:=place hf ht hr hu l1;have pv:=place hf ht hr hv l2;have m1:=(x9 hf ht hr u).2 l1;have m2:=(x9 hf ht hr v).2 l2;have t1:=(oX hf ht hr u).2 l1;have t2:=(oX hf ht hr v).2 l2;have JK:(aW f t).2.2*((wv f t).1*(v.1-u.1)+(wv f t).2*(v.2-u.2))=dt (wv f t) (rl (aW f t) v)-dt (wv f t) (rl (aW f t) u):=by
   unfold dt rl rel
   grind
  have s1:=aN (z:=(wv f t).1*(v.1-u.1)+(wv f t).2*(v.2-u.2)) hq;have s2:=neg_mul (z:=(wv f t).1*(v.1-u.1)+(wv f t).2*(v.2-u.2)) hq;rw[JK] at s1 s2;have oq:=um hD m1 m2;have of:=um hD l1 l2;have ot:=um hD t1 t2;have ku:=cQ (rl f u) (wv f t);have kv:=cQ (rl f v) (wv f t);have tu:=cQ (rl t u) (neg (wv f t));have tv:=cQ (rl t v) (neg (wv f t));rw[fh,j6] at tu tv;rw[iF] at ku kv;rw[iF (rl t u)] at tu;rw[iF (rl t v)] at tv;have c1:cr (rl f u) (wv f t)=0:=qu l1;have c2:cr (rl f v) (wv f t)=0:=qu l2;have c3:cr (rl t u) (wv f t)=0:=qu t1;have c4:cr (rl t v) (wv f t)=0:=qu t2;unfold fb arm;dsimp only;generalize wv f t=D at*;rcases pu with⟨x1,x2,x3⟩|⟨x1,x2,x3⟩<;>rcases pv with⟨y1,y2,y3⟩|⟨y1,y2,y3⟩
  ·have o1:on (rl (aW f t) u) (rl (aW f t) v)=false:=by
    cases h:on (rl (aW f t) u) (rl (aW f t) v);rfl;exact absurd (oq.1 h) (Ay x2 y2)
   have o2:on (rl t u) (rl t v)=false:=by
    cases h:on (rl t u) (rl t v);rfl;exact absurd (ot.1 h) (Ay x3 y3)
   have b1:ay (rl f u) D=false:=by cases h:ay (rl f u) D;rfl;have:=ku.1 h;omega
   have b2:ay (rl f v) D=false:=by cases h:ay (rl f v) D;rfl;have:=kv.1 h;omega
   rw[o1,o2,b1,b2];simp
  ·have o1:=oq.2 (x8 (dB x2) (dB y2));have o2:=of.2 (x8 x1 (dB y1));have o3:=ot.2 (x8 (dB x3) y3);have b1:ay (rl f u) D=false:=by cases h:ay (rl f u) D;rfl;have:=ku.1 h;omega
   have b2:ay (rl f v) D=true:=kv.2 ⟨c2,y1⟩;have b3:ay (rl t u) (neg D)=true:=tu.2 ⟨by omega,by omega⟩
   have b4:ay (rl t v) (neg D)=false:=by cases h:ay (rl t v) (neg D);rfl;have:=tv.1 h;omega
   have sg:(D.1*(v.1-u.1)+D.2*(v.2-u.2)).sign=1:=nX (by omega)
   rw[o1,o2,o3,b1,b2,b3,b4,sg];decide
  ·have o1:=oq.2 (EE (dB x2) (dB y2));have o2:=of.2 (EE (dB x1) y1);have o3:=ot.2 (EE x3 (dB y3));have b1:ay (rl f u) D=true:=ku.2 ⟨c1,x1⟩;have b2:ay (rl f v) D=false:=by cases h:ay (rl f v) D;rfl;have:=kv.1 h;omega
   have b3:ay (rl t u) (neg D)=false:=by cases h:ay (rl t u) (neg D);rfl;have:=tu.1 h;omega
   have b4:ay (rl t v) (neg D)=true:=tv.2 ⟨by omega,by omega⟩
   have sg:(D.1*(v.1-u.1)+D.2*(v.2-u.2)).sign= -1:=Ec (by omega)
   rw[o1,o2,o3,b1,b2,b3,b4,sg];decide
  ·have o1:on (rl (aW f t) u) (rl (aW f t) v)=false:=by
    cases h:on (rl (aW f t) u) (rl (aW f t) v);rfl;exact absurd (oq.1 h) (ED x2 y2)
   have o2:on (rl f u) (rl f v)=false:=by
    cases h:on (rl f u) (rl f v);rfl;exact absurd (of.1 h) (ED x1 y1)
   have b3:ay (rl t u) (neg D)=false:=by cases h:ay (rl t u) (neg D);rfl;have:=tu.1 h;omega
   have b4:ay (rl t v) (neg D)=false:=by cases h:ay (rl t v) (neg D);rfl;have:=tv.1 h;omega
   rw[o1,o2,b3,b4];simp
 ·have o1:=JJ hf ht hr hS hn;have zf:arm (fun z=>ay z (wv f t)) f u v=0:=by
   unfold arm;dsimp only;cases ho:on (rl f u) (rl f v)
   ·rfl
   ·have b1:ay (rl f u) (wv f t)=false:=by
     cases h:ay (rl f u) (wv f t)
     ·rfl
     ·exfalso;obtain⟨k1,k2⟩:=(cQ _ _).1 h;have:=EF (by rw[vO];exact ho) k1 (rX (D:=wv f t) (by rw[iF];omega))
      exact hn ⟨this.2,this.1⟩
    have b2:ay (rl f v) (wv f t)=false:=by
     cases h:ay (rl f v) (wv f t)
     ·rfl
     ·exfalso;obtain⟨k1,k2⟩:=(cQ _ _).1 h;have:=EF ho k1 (rX (D:=wv f t) (by rw[iF];omega))
      exact hn ⟨this.1,this.2⟩
    rw[b1,b2];simp
  have zt:arm (fun z=>ay z (neg (wv f t))) t u v=0:=by
   have hn':¬(lam (wv f t) t u=0/\lam (wv f t) t v=0):=by rw[oX hf ht hr,oX hf ht hr];exact hn
   unfold arm;dsimp only;cases ho:on (rl t u) (rl t v)
   ·rfl
   ·have b1:ay (rl t u) (neg (wv f t))=false:=by
     cases h:ay (rl t u) (neg (wv f t))
     ·rfl
     ·exfalso;obtain⟨k1,k2⟩:=(cQ _ _).1 h;rw[fh] at k1;rw[j6] at k2;have:=EF (D:=wv f t) (by rw[vO];exact ho) (by omega) (rX (D:=wv f t) (by rw[iF];omega))
      exact hn' ⟨this.2,this.1⟩
    have b2:ay (rl t v) (neg (wv f t))=false:=by
     cases h:ay (rl t v) (neg (wv f t))
     ·rfl
     ·exfalso;obtain⟨k1,k2⟩:=(cQ _ _).1 h;rw[fh] at k1;rw[j6] at k2;have:=EF (D:=wv f t) ho (by omega) (rX (D:=wv f t) (by rw[iF];omega))
      exact hn' ⟨this.1,this.2⟩
    rw[b1,b2];simp
  rw[zf,zt];unfold fb;rw[o1];simp
structure rZ(es:List (Pt×Pt))(f t:N3):Prop where
 pf:0<f.2.2
 pt:0<t.2.2
 r:aM (wv f t)
 s:∀e∈es,ju f t (wv f t) e.1 e.2
 c:∀e∈es,lI f t (wv f t) e.1/\lI f t (wv f t) e.2
def RR(es:List (Pt×Pt))(f t:N3):Int:=PP es (aW f t)
def LL(es:List (Pt×Pt))(f t:N3):Int:=PP es (aW f t)+total (fb (aW f t) (wv f t)) es
theorem uo{rg:List (List Pt)}{f t:N3}(h:rZ (ag rg) f t):RR (ag rg) f t=cV (ag rg) f (wv f t)/\LL (ag rg) f t=dP (ag rg) f (wv f t):=by
 have h1:=aaf h.pf h.pt h.r h.s;have h2:total (fb (aW f t) (wv f t)) (ag rg)=AS (ag rg) f (fun z=>ay z (wv f t)):=ny fun e he=>(Pz h.pf h.pt h.r (h.s e he) (h.c e he).1 (h.c e he).2).1
 have h3:AS (ag rg) f (fun z=>nz z&&ak z (wv f t))=AS (ag rg) f (fun z=>ak z (wv f t)):=EC fun e _ _=>⟨Py h.r,Py h.r⟩
 unfold RR LL cV dP cV;rw[h2,h3];omega
theorem Az{rg:List (List Pt)}{f t:N3}(h:rZ (ag rg) f t):RR (ag rg) f t=dP (ag rg) t (neg (wv f t))/\LL (ag rg) f t=cV (ag rg) t (neg (wv f t)):=by
 have h1:=aag h.pf h.pt h.r h.s;have h2:total (fb (aW f t) (wv f t)) (ag rg)= -AS (ag rg) t (fun z=>ay z (neg (wv f t))):=by
  unfold AS;rw[<-JH];exact ny fun e he=>(Pz h.pf h.pt h.r (h.s e he) (h.c e he).1 (h.c e he).2).2
 have h3:=aai (rg:=rg) (n:=t) h.r;unfold RR LL dP cV;rw[h2];omega
theorem aaj(x y z:Pt):cr x z*y.1=cr x y*z.1+cr y z*x.1:=by unfold cr;grind
theorem yg{x:Pt}(h:aM x):0<=x.1:=by rcases h with h|⟨h,_⟩<;>omega
theorem PA{x y:Pt}(hx:aM x)(hy:aM y)(h:0<cr x y):0<x.1:=by
 rcases hx with h1|⟨h1,h2⟩
 ·exact h1
 ·exfalso;have:=iB (dB h2) (yg hy);unfold cr at h;rw[h1] at h;omega
theorem EG{x y z:Pt}(hx:aM x)(hy:aM y)(hz:aM z):(0<cr x y->0<=cr y z->0<cr x z)/\(0<=cr x y->0<cr y z->0<cr x z)/\(cr x y=0->cr y z=0->cr x z=0):=by
 have e:=aaj x y z;have px:=yg hx;have py:=yg hy;have pz:=yg hz;refine⟨fun h1 h2=>?_,fun h1 h2=>?_,fun h1 h2=>?_⟩
 ·have p1:=PA hx hy h1;rcases hy with q|⟨q,q'⟩
  ·rcases hz with r|⟨r,r'⟩
   ·have k1:=aR h1 r;have k2:=iB h2 px;have k:=aN (z:=cr x z) q;rw[dM] at k;omega
   ·have:0<x.1*z.2:=aR p1 r';unfold cr;rw[r];omega
  ·
   have h3:0<=y.1*z.2-y.2*z.1:=h2;rw[q] at h3;have hz1:z.1=0:=by
    rcases eD z.1 0 with h|h|h
    ·omega
    ·exact h
    ·have:=aR q' h;omega
   rcases hz with r|⟨r,r'⟩
   ·omega
   ·have:0<x.1*z.2:=aR p1 r';unfold cr;rw[r];omega
 ·have p1:=PA hy hz h2;have p2:0<x.1:=by
   rcases hx with q|⟨q,q'⟩
   ·exact q
   ·exfalso;have:0<x.2*y.1:=aR q' p1;unfold cr at h1;rw[q] at h1;omega
  have k1:=iB h1 pz;have k2:=aR h2 p2;have k:=aN (z:=cr x z) p1;rw[dM] at k;omega
 ·rw[h1,h2] at e;rcases hy with q|⟨q,q'⟩
  ·have k:=dJ (z:=cr x z) q;rw[dM] at k;omega
  ·unfold cr at h1 h2⊢;rw[q] at h1 h2;have a1:=dJ (z:=x.1) q';have a2:=dJ (z:=z.1) q';have b1:x.1=0:=a1.1 (by rw[dM];omega)
   have b2:z.1=0:=a2.1 (by omega)
   rw[b1,b2];omega
theorem mg{z w:Pt}:ak z w=true↔(aM z/\¬aM w)\/((aM z↔aM w)/\0<cr z w):=by
 have h1:=uk z;have h2:=uk w;unfold ak;cases h3:gI z<;>cases h4:gI w<;>rw[h3] at h1<;>rw[h4] at h2<;>simp at h1 h2⊢ <;>simp[h1,h2]
theorem gf{x y z:Pt}(hx:x≠(0,0))(hy:y≠(0,0))(hz:z≠(0,0))(h1:ak x y=true)(h2:ak y z=true):ak x z=true:=by
 rw[mg] at*;by_cases rx:aM x<;>by_cases ry:aM y<;>by_cases rz:aM z
 ·have:=EG rx ry rz;simp only[rx,ry,rz,ua,vA,rO,oQ] at*;exact this.1 h1 (dB h2)
 ·exact ae ⟨rx,rz⟩
 ·simp only[rx,ry,rz,ua,vA,oQ,vB,rP,zX,true_iff,rQ] at*
 ·exact ae ⟨rx,rz⟩
 ·simp[rx,ry] at h1
 ·simp[rx,ry] at h1
 ·simp[ry,rz] at h2
 ·have:=EG (fF hx rx) (fF hy ry) (fF hz rz);simp only[eI,fh,Int.neg_neg] at this;simp only[rx,ry,rz,rP,rO,oQ] at*;exact this.1 h1 (dB h2)
theorem oY(x:Pt):ak x x=false:=by
 have:cr x x=0:=by unfold cr;grind
 unfold ak;rw[this];simp
theorem EH{x y:Pt}(hx:x≠(0,0))(hy:y≠(0,0))(h:ak x y=true):ak y x=false:=by
 cases h1:ak y x
 ·rfl
 ·have:=gf hx hy hx h h1;rw[oY] at this;cases this
def arms(es:List (Pt×Pt))(n:N3):List Pt:=((es.filter fun e=>on (rl n e.1) (rl n e.2)).flatMap fun e=>[rl n e.1,rl n e.2]).filter nz
theorem jw{es:List (Pt×Pt)}{n:N3}{z:Pt}:z∈arms es n↔z≠(0,0)/\∃e∈es,on (rl n e.1) (rl n e.2)=true/\(z=rl n e.1\/z=rl n e.2):=by
 unfold arms;rw[ik,qf];constructor
 ·rintro⟨⟨e,he,hz⟩,hn⟩;obtain⟨h1,h2⟩:=ik.1 he;exact⟨fO hn,e,h1,h2,by simpa using hz⟩
 ·rintro⟨hn,e,he,ho,hz⟩;exact⟨⟨e,ik.2 ⟨he,ho⟩,by simpa using hz⟩,gD hn⟩
theorem yh{es:List (Pt×Pt)}{n:N3}{Q Q':Pt->Bool}(h0:Q (0,0)=Q' (0,0))(h:∀z∈arms es n,Q z=Q' z):AS es n Q=AS es n Q':=by
 refine EC fun e he ho=>?_
 have key:∀z,z=rl n e.1\/z=rl n e.2->Q z=Q' z:=fun z hz=>by
  by_cases hn:z=(0,0)
  ·rw[hn];exact h0
  ·exact h z (jw.2 ⟨hn,e,he,ho,hz⟩)
 exact⟨key _ (ae rfl),key _ (af rfl)⟩
theorem JL(es:List (Pt×Pt))(n:N3):AS es n (fun _=>false)=0:=uj fun e _=>by unfold arm;split<;>rfl
theorem vP{α:Type}{p q:α->Bool}:∀(l:List α),(∀x∈l,q x=true->p x=true)->(∃x∈l,p x=true/\q x=false)->l.countP q<l.countP p
 |[],_,h=>by obtain⟨x,hx,_⟩:=h;simp at hx
 |a::l,h1,h2=>by
  obtain⟨x,hx,hp,hq⟩:=h2;have hle:l.countP q<=l.countP p:=akc fun y hy=>h1 y (bo _ hy)
  rcases aP.1 hx with e|hx
  ·subst e;rw[akd hp,ake (by simp[hq])]
   omega
  ·have ih:=vP l (fun y hy=>h1 y (bo _ hy)) ⟨x,hx,hp,hq⟩
   rw[OH,OH];by_cases ha:q a=true
   ·rw[ah ha,ah (h1 a (by simp) ha)];omega
   ·rw[aa ha];omega
def kJ(d d' z:Pt):Bool:=ak d z&&ak z d'
theorem JM{es:List (Pt×Pt)}{n:N3}{d d':Pt}(hd:d≠(0,0))(hd':d'≠(0,0))(h:ak d d'=true)(hb:∀z∈arms es n,kJ d d' z=false):dP es n d=cV es n d':=by
 have e:AS es n (fun z=>nz z&&ak z d')=AS es n (fun z=>nz z&&ak z d)+AS es n (fun z=>ay z d):=by
  have e1:AS es n (fun z=>nz z&&ak z d')=AS es n (fun z=>nz z&&(ak z d||ay z d)):=yh rfl fun z hz=>by
   have dZ:=(jw.1 hz).1;have hzb:=hb z hz;have:nz z=true:=gD dZ;rw[this,Ee,Ee];have k:=gZ dZ hd;unfold kJ at hzb;cases h1:ak z d'
   ·have h2:ak z d=false:=by
     cases h2:ak z d
     ·rfl
     ·have:=gf dZ hd hd' h2 h;rw[h1] at this;cases this
    have h3:ay z d=false:=by
     cases h3:ay z d
     ·rfl
     ·exfalso;obtain⟨s1,s2⟩:=(cQ z d).1 h3;have k2:=gZ dZ hd';rw[h1] at k2;have h4:ak d' z=true\/ay z d'=true:=by
       revert k2;cases ay z d'<;>cases ak d' z<;>decide
      rcases h4 with h4|h4
      ·have:=gf hd hd' dZ h h4;rw[this,h3,h2] at k;revert k;decide
      ·
       obtain⟨t1,t2⟩:=(cQ z d').1 h4;have p1:cr d z=0:=by rw[bV];omega
       have hdd:cr d d'=0:=by
        have:=rY (D:=d) t1;rw[p1] at this;have q:=dJ (z:=cr d d') (dO dZ);rw[dM] at q;exact q.1 (by omega)
       have hpos:0<dt d d':=by
        have e2:dt d d'*dt z z=dt z d*dt z d'+cr z d*cr z d':=by unfold dt cr;grind
        rw[s1] at e2;have:=aR s2 t2;have q:=aN (z:=dt d d') (dO dZ);rw[dM] at q;exact q.1 (by omega)
       have k3:=gZ hd hd';have h5:ay d d'=true:=(cQ _ _).2 ⟨hdd,hpos⟩;rw[h,h5] at k3;revert k3;cases ak d' d<;>decide
    rw[h2,h3];rfl
   ·rw[h1,Bool.and_true] at hzb;rw[hzb] at k;revert k;cases ak z d<;>cases ay z d<;>decide
  have e2:AS es n (fun z=>nz z&&(ak z d||ay z d))=AS es n (fun z=>nz z&&ak z d)+AS es n (fun z=>ay z d):=by
   refine Ax fun z=>?_
   by_cases hz:z=(0,0)
   ·rw[hz,x7];rfl
   ·have k:=gZ hz hd;have:nz z=true:=gD hz;rw[this];revert k;cases ak z d<;>cases ay z d<;>cases ak d z<;>decide
  rw[e1,e2]
 unfold dP cV;omega
theorem yi{d d' z:Pt}:kJ d d' z=true↔ak d z=true/\ak z d'=true:=by unfold kJ;simp
structure vQ(es:List (Pt×Pt))(n:N3)(aF:Int->Bool)(z:Pt):Prop where
 mem:z∈arms es n
 out:aF (cV es n z)=false
 aF:aF (dP es n z)=true
theorem EI{es:List (Pt×Pt)}{n:N3}{aF:Int->Bool}:∀(m:Nat)(d d':Pt),d≠(0,0)->d'≠(0,0)->ak d d'=true->(arms es n).countP (kJ d d')<=m->aF (dP es n d)=false->aF (cV es n d')=true->∃z,vQ es n aF z/\ak d z=true/\ak z d'=true:=by
 intro m;induction m with
 |zero=>
  intro d d' hd hd' h hc h1 h2;exfalso;rw[JM hd hd' h fun z hz=>by
   cases hk:kJ d d' z
   ·rfl
   ·have:=Ja.2 ⟨z,hz,hk⟩;omega] at h1
  rw[h1] at h2;cases h2
 |succ m ih=>
  intro d d' hd hd' h hc h1 h2;by_cases hb:∀z∈arms es n,kJ d d' z=false
  ·exfalso;rw[JM hd hd' h hb] at h1;rw[h1] at h2;cases h2
  ·have hb':∃z,z∈arms es n/\kJ d d' z=true:=by
    apply lD;intro hk;apply hb;intro z hz;cases hk':kJ d d' z
    ·rfl
    ·exact absurd ⟨z,hz,hk'⟩ hk
   obtain⟨z,hz,hk⟩:=hb';have dZ:=(jw.1 hz).1;obtain⟨k1,k2⟩:=yi.1 hk;cases hbz:aF (cV es n z)
   ·cases dm:aF (dP es n z)
    ·have hlt:(arms es n).countP (kJ z d')<(arms es n).countP (kJ d d'):=vP _ (fun x hx vR=>by
      obtain⟨x1,x2⟩:=yi.1 vR;exact yi.2 ⟨gf hd dZ (jw.1 hx).1 k1 x1,x2⟩) ⟨z,hz,hk,by unfold kJ;rw[oY];rfl⟩
     obtain⟨y,hy,y1,y2⟩:=ih z d' dZ hd' k2 (by omega) dm h2
     exact⟨y,hy,gf hd dZ (jw.1 hy.mem).1 k1 y1,y2⟩
    ·exact⟨z,⟨hz,hbz,dm⟩,k1,k2⟩
   ·have hlt:(arms es n).countP (kJ d z)<(arms es n).countP (kJ d d'):=vP _ (fun x hx vR=>by
      obtain⟨x1,x2⟩:=yi.1 vR;exact yi.2 ⟨x1,gf (jw.1 hx).1 dZ hd' x2 k2⟩) ⟨z,hz,hk,by unfold kJ;rw[oY];simp⟩
    obtain⟨y,hy,y1,y2⟩:=ih d z hd dZ k1 (by omega) h1 hbz
    exact⟨y,hy,y1,gf (jw.1 hy.mem).1 dZ hd' y2 k2⟩
theorem JN{es:List (Pt×Pt)}{n:N3}{aF:Int->Bool}:∀(m:Nat)(d':Pt),d'≠(0,0)->(arms es n).countP (fun z=>ak z d')<=m->aF (PP es n)=false->aF (cV es n d')=true->∃z,vQ es n aF z/\ak z d'=true:=by
 have h0:∀d',(∀z∈arms es n,ak z d'=false)->cV es n d'=PP es n:=fun d' h=>by
  have e:AS es n (fun z=>nz z&&ak z d')=AS es n (fun _=>false):=yh (by unfold nz;simp) fun z hz=>by rw[h z hz];simp
  unfold cV;rw[e,JL];omega
 intro m;induction m with
 |zero=>
  intro d' hd' hc h1 h2;exfalso;rw[h0 d' fun z hz=>by
   cases hk:ak z d'
   ·rfl
   ·have:0<(arms es n).countP (fun z=>ak z d'):=Ja.2 ⟨z,hz,hk⟩
    omega,h1] at h2
  cases h2
 |succ m ih=>
  intro d' hd' hc h1 h2;by_cases hb:∀z∈arms es n,ak z d'=false
  ·exfalso;rw[h0 d' hb,h1] at h2;cases h2
  ·have hb':∃z,z∈arms es n/\ak z d'=true:=by
    apply lD;intro hk;apply hb;intro z hz;cases hk':ak z d'
    ·rfl
    ·exact absurd ⟨z,hz,hk'⟩ hk
   obtain⟨z,hz,hk⟩:=hb';have dZ:=(jw.1 hz).1;cases hbz:aF (cV es n z)
   ·cases dm:aF (dP es n z)
    ·obtain⟨y,hy,_,y2⟩:=EI _ z d' dZ hd' hk (ax _) dm h2;exact⟨y,hy,y2⟩
    ·exact⟨z,⟨hz,hbz,dm⟩,hk⟩
   ·have hlt:(arms es n).countP (fun x=>ak x z)<(arms es n).countP (fun x=>ak x d'):=vP _ (fun x hx vR=>gf (jw.1 hx).1 dZ hd' vR hk) ⟨z,hz,hk,oY z⟩
    obtain⟨y,hy,y2⟩:=ih z dZ (by omega) h1 hbz
    exact⟨y,hy,gf (jw.1 hy.mem).1 dZ hd' y2 hk⟩
theorem PC{rg:List (List Pt)}{n:N3}{aF:Int->Bool}:∀(m:Nat)(d:Pt),d≠(0,0)->(arms (ag rg) n).countP (fun z=>ak d z)<=m->aF (dP (ag rg) n d)=false->aF (PP (ag rg) n)=true->∃z,vQ (ag rg) n aF z/\ak d z=true:=by
 have h0:∀d,d≠(0,0)->(∀z∈arms (ag rg) n,ak d z=false)->dP (ag rg) n d=PP (ag rg) n:=fun d hd h=>by
  have e:AS (ag rg) n nz=AS (ag rg) n (fun z=>nz z&&ak z d)+AS (ag rg) n (fun z=>ay z d):=by
   have e1:AS (ag rg) n nz=AS (ag rg) n (fun z=>nz z&&(ak z d||ay z d)):=yh (by unfold nz;simp) fun z hz=>by
    have dZ:=(jw.1 hz).1;have k:=gZ dZ hd;have:nz z=true:=gD dZ;rw[this];rw[h z hz] at k;revert k;cases ak z d<;>cases ay z d<;>decide
   have e2:AS (ag rg) n (fun z=>nz z&&(ak z d||ay z d))=AS (ag rg) n (fun z=>nz z&&ak z d)+AS (ag rg) n (fun z=>ay z d):=by
    refine Ax fun z=>?_
    by_cases hz:z=(0,0)
    ·rw[hz,x7];rfl
    ·have k:=gZ hz hd;have:nz z=true:=gD hz;rw[this];revert k;cases ak z d<;>cases ay z d<;>cases ak d z<;>decide
   rw[e1,e2]
  have:=JI rg n;unfold dP cV;omega
 intro m;induction m with
 |zero=>
  intro d hd hc h1 h2;exfalso;rw[h0 d hd fun z hz=>by
   cases hk:ak d z
   ·rfl
   ·have:0<(arms (ag rg) n).countP (fun z=>ak d z):=Ja.2 ⟨z,hz,hk⟩
    omega,h2] at h1
  cases h1
 |succ m ih=>
  intro d hd hc h1 h2;by_cases hb:∀z∈arms (ag rg) n,ak d z=false
  ·exfalso;rw[h0 d hd hb,h2] at h1;cases h1
  ·have hb':∃z,z∈arms (ag rg) n/\ak d z=true:=by
    apply lD;intro hk;apply hb;intro z hz;cases hk':ak d z
    ·rfl
    ·exact absurd ⟨z,hz,hk'⟩ hk
   obtain⟨z,hz,hk⟩:=hb';have dZ:=(jw.1 hz).1;cases hbz:aF (cV (ag rg) n z)
   ·cases dm:aF (dP (ag rg) n z)
    ·have hlt:(arms (ag rg) n).countP (fun x=>ak z x)<(arms (ag rg) n).countP (fun x=>ak d x):=vP _ (fun x hx vR=>gf hd dZ (jw.1 hx).1 hk vR) ⟨z,hz,hk,oY z⟩
     obtain⟨y,hy,y2⟩:=ih z dZ (by omega) dm h2
     exact⟨y,hy,gf hd dZ (jw.1 hy.mem).1 hk y2⟩
    ·exact⟨z,⟨hz,hbz,dm⟩,hk⟩
   ·obtain⟨y,hy,y1,_⟩:=EI _ d z hd dZ hk (ax _) h1 hbz;exact⟨y,hy,y1⟩
theorem aak{rg:List (List Pt)}{n:N3}{aF:Int->Bool}{a:Pt}(ha:a≠(0,0))(h1:aF (cV (ag rg) n a)=true)(h2:aF (dP (ag rg) n a)=false):∃z,vQ (ag rg) n aF z:=by
 cases h:aF (PP (ag rg) n)
 ·obtain⟨z,hz,_⟩:=JN _ a ha (ax _) h h1;exact⟨z,hz⟩
 ·obtain⟨z,hz,_⟩:=PC _ a ha (ax _) h2 h;exact⟨z,hz⟩
def cw(a l l':Pt):Bool:=(ak l a&&ak l' a&&ak l' l)||(ak l a&&ak a l')||(ak a l&&ak a l'&&ak l' l)
theorem kK{a l l':Pt}:cw a l l'=true↔(ak l a=true/\ak l' a=true/\ak l' l=true)\/(ak l a=true/\ak a l'=true)\/(ak a l=true/\ak a l'=true/\ak l' l=true):=by
 unfold cw;simp only[OI,oU];constructor
 ·rintro((⟨⟨a,b⟩,c⟩|⟨a,b⟩)|⟨⟨a,b⟩,c⟩)
  ·exact ae ⟨a,b,c⟩
  ·exact af (ae ⟨a,b⟩)
  ·exact af (af ⟨a,b,c⟩)
 ·rintro(⟨a,b,c⟩|⟨a,b⟩|⟨a,b,c⟩)
  ·exact ae (ae ⟨⟨a,b⟩,c⟩)
  ·exact ae (af ⟨a,b⟩)
  ·exact af ⟨⟨a,b⟩,c⟩
theorem PD{rg:List (List Pt)}{n:N3}{aF:Int->Bool}{a a' l:Pt}(ha:a≠(0,0))(ha':a'≠(0,0))(hne:ay a a'=false)
  (h1:aF (cV (ag rg) n a)=true)(h2:aF (dP (ag rg) n a)=false)(h1':aF (cV (ag rg) n a')=true)(h2':aF (dP (ag rg) n a')=false)
  (AA:l≠(0,0))(kL:ay l a=false)(EJ:ay l a'=false):∃z,vQ (ag rg) n aF z/\(cw a z l=true\/cw a' z l=true):=by
 have key:∀{a a':Pt},a≠(0,0)->a'≠(0,0)->ak a a'=true->aF (cV (ag rg) n a)=true->aF (dP (ag rg) n a)=false->aF (cV (ag rg) n a')=true->aF (dP (ag rg) n a')=false->ay l a=false->ay l a'=false->∃z,vQ (ag rg) n aF z/\(cw a z l=true\/cw a' z l=true):=by
  intro a a' ha ha' hlt h1 h2 h1' h2' kL EJ;have t1:=gZ AA ha;have t2:=gZ AA ha';rw[kL] at t1;rw[EJ] at t2;cases p:ak l a
  ·rw[p] at t1;have q:ak a l=true:=by revert t1;cases ak a l<;>decide
   cases r:ak l a'
   ·rw[r] at t2;have q':ak a' l=true:=by revert t2;cases ak a' l<;>decide
    obtain⟨z,hz,z1,z2⟩:=EI _ a a' ha ha' hlt (ax _) h2 h1';exact⟨z,hz,af (kK.2 (af (ae ⟨z2,q'⟩)))⟩
   ·
    cases hp:aF (PP (ag rg) n)
    ·obtain⟨z,hz,z1⟩:=JN _ a ha (ax _) hp h1;exact⟨z,hz,ae (kK.2 (af (ae ⟨z1,q⟩)))⟩
    ·obtain⟨z,hz,z1⟩:=PC _ a' ha' (ax _) h2' hp;have dZ:=(jw.1 hz.mem).1;exact⟨z,hz,ae (kK.2 (af (af ⟨gf ha ha' dZ hlt z1,q,gf AA ha' dZ r z1⟩)))⟩
  ·
   obtain⟨z,hz,z1,z2⟩:=EI _ a a' ha ha' hlt (ax _) h2 h1';have dZ:=(jw.1 hz.mem).1;exact⟨z,hz,af (kK.2 (ae ⟨z2,gf AA ha ha' p hlt,gf AA ha dZ p z1⟩))⟩
 have t:=gZ ha ha';rw[hne] at t;cases p:ak a a'
 ·rw[p] at t;have q:ak a' a=true:=by revert t;cases ak a' a<;>decide
  obtain⟨z,hz,k⟩:=key ha' ha q h1' h2' h1 h2 EJ kL;exact⟨z,hz,k.symm⟩
 ·exact key ha ha' p h1 h2 h1' h2' kL EJ
def Tri(P Q R:Int):Prop:=
 (0<P->0<=Q->0<R)/\(0<=P->0<Q->0<R)/\(P=0->Q=0->R=0)/\(P<0->Q<=0->R<0)/\(P<=0->Q<0->R<0)
theorem uq{p q r:Pt}(hp:aM p)(hq:aM q)(hr:aM r):Tri (cr p q) (cr q r) (cr p r):=by
 have a1:=EG hp hq hr;have a2:=EG hr hq hp;rw[bV p r,bV q r,bV p q] at a2;refine⟨a1.1,a1.2.1,a1.2.2,fun h1 h2=>?_,fun h1 h2=>?_⟩
 ·have:=a2.2.1 (by omega) (by omega);omega
 ·have:=a2.1 (by omega) (by omega);omega
def tC(u l l':Pt):Int:=if((cr u l').sign-(cr u l).sign).sign=0 then(cr l l').sign else((cr u l').sign-(cr u l).sign).sign
theorem sg(z:Int):(z<0/\z.sign= -1)\/(z=0/\z.sign=0)\/(0<z/\z.sign=1):=by
 rcases eD z 0 with h|h|h
 ·exact ae ⟨h,Ec h⟩
 ·exact af (ae ⟨h,by rw[h];rfl⟩)
 ·exact af (af ⟨h,nX h⟩)
theorem aam(u l l':Pt):tC u l l'<0↔(cr u l').sign<(cr u l).sign\/((cr u l').sign=(cr u l).sign/\cr l l'<0):=by
 unfold tC;have h1:=sg ((cr u l').sign-(cr u l).sign);have h2:=sg (cr l l');split<;>omega
theorem JO{z w:Pt}(h:ay z w=false)(hc:cr z w=0):dt z w<=0:=by
 apply zV.1;intro h';rw[(cQ z w).2 ⟨hc,h'⟩] at h;cases h
theorem AB{a l l':Pt}(ha:a≠(0,0))(hl:l≠(0,0))(hl':l'≠(0,0))(hs:ay l a=false)(hs':ay l' a=false):tC (neg a) l l'<0↔cw a l l'=true:=by
 rw[aam,kK];have n1:=JO hs;have n2:=JO hs';rw[mg,mg,mg,mg,mg];have e1:cr (neg a) l= -cr a l:=eI a l;have e2:cr (neg a) l'= -cr a l':=eI a l';have s1:=sg (cr (neg a) l);have s2:=sg (cr (neg a) l');rw[e1] at s1⊢;rw[e2] at s2⊢;have w1:=bV a l;have w2:=bV a l';have w3:=bV l l';rw[w1] at n1⊢;rw[w2] at n2⊢;rw[w3];by_cases ra:aM a<;>by_cases rl:aM l<;>by_cases rl':aM l'
 ·have t:=uq ra rl rl';have d1:=jN rl ra;have d2:=jN rl' ra;rw[w1] at d1;rw[w2] at d2;obtain⟨t1,t2,t3,t4,t5⟩:=t;simp only[ra,rl,rl',ua,vA,oQ,rO,iff_self];rcases s1 with⟨s1,r1⟩|⟨s1,r1⟩|⟨s1,r1⟩<;>rcases s2 with⟨s2,r2⟩|⟨s2,r2⟩|⟨s2,r2⟩<;>rw[r1,r2]<;>omega
 ·have t:=uq ra rl (fF hl' rl');have d1:=jN rl ra;rw[w1] at d1;rw[fh,fh] at t;obtain⟨t1,t2,t3,t4,t5⟩:=t;simp only[ra,rl,rl',ua,vB,vA,rP,rR,oQ,rO,rQ,zX,Ef,iff_self];rcases s1 with⟨s1,r1⟩|⟨s1,r1⟩|⟨s1,r1⟩<;>rcases s2 with⟨s2,r2⟩|⟨s2,r2⟩|⟨s2,r2⟩<;>rw[r1,r2]<;>omega
 ·have t:=uq ra (fF hl rl) rl';have d2:=jN rl' ra;rw[w2] at d2;rw[fh,eI] at t;obtain⟨t1,t2,t3,t4,t5⟩:=t;simp only[ra,rl,rl',ua,vB,vA,rP,rR,oQ,rO,rQ,zX,Ef,iff_self];rcases s1 with⟨s1,r1⟩|⟨s1,r1⟩|⟨s1,r1⟩<;>rcases s2 with⟨s2,r2⟩|⟨s2,r2⟩|⟨s2,r2⟩<;>rw[r1,r2]<;>omega
 ·have t:=uq ra (fF hl rl) (fF hl' rl');rw[fh,eI,fh,fh] at t;obtain⟨t1,t2,t3,t4,t5⟩:=t;simp only[ra,rl,rl',ua,vB,vA,rP,rR,oQ,rO,rQ,zX,Ef,iff_self];rcases s1 with⟨s1,r1⟩|⟨s1,r1⟩|⟨s1,r1⟩<;>rcases s2 with⟨s2,r2⟩|⟨s2,r2⟩|⟨s2,r2⟩<;>rw[r1,r2]<;>omega
 ·have t:=uq (fF ha ra) rl rl';rw[eI,eI] at t;obtain⟨t1,t2,t3,t4,t5⟩:=t;simp only[ra,rl,rl',ua,vB,vA,rP,rR,oQ,rO,rQ,zX,Ef,iff_self];rcases s1 with⟨s1,r1⟩|⟨s1,r1⟩|⟨s1,r1⟩<;>rcases s2 with⟨s2,r2⟩|⟨s2,r2⟩|⟨s2,r2⟩<;>rw[r1,r2]<;>omega
 ·have t:=uq (fF ha ra) rl (fF hl' rl');have d2:=jN (fF hl' rl') (fF ha ra);rw[eI,fh,w2,qw,j6] at d2;rw[eI,fh,eI,fh] at t;obtain⟨t1,t2,t3,t4,t5⟩:=t;simp only[ra,rl,rl',ua,vB,vA,rP,rR,oQ,rO,rQ,zX,Ef,iff_self];rcases s1 with⟨s1,r1⟩|⟨s1,r1⟩|⟨s1,r1⟩<;>rcases s2 with⟨s2,r2⟩|⟨s2,r2⟩|⟨s2,r2⟩<;>rw[r1,r2]<;>omega
 ·have t:=uq (fF ha ra) (fF hl rl) rl';have d1:=jN (fF hl rl) (fF ha ra);rw[eI,fh,w1,qw,j6] at d1;rw[eI,fh,eI,eI] at t;obtain⟨t1,t2,t3,t4,t5⟩:=t;simp only[ra,rl,rl',ua,vB,vA,rP,rR,oQ,rO,rQ,zX,Ef,iff_self];rcases s1 with⟨s1,r1⟩|⟨s1,r1⟩|⟨s1,r1⟩<;>rcases s2 with⟨s2,r2⟩|⟨s2,r2⟩|⟨s2,r2⟩<;>rw[r1,r2]<;>omega
 ·have t:=uq (fF ha ra) (fF hl rl) (fF hl' rl');have d1:=jN (fF hl rl) (fF ha ra);rw[eI,fh,w1,qw,j6] at d1;have d2:=jN (fF hl' rl') (fF ha ra);rw[eI,fh,w2,qw,j6] at d2;rw[eI,fh,eI,fh,eI,fh] at t;obtain⟨t1,t2,t3,t4,t5⟩:=t;simp only[ra,rl,rl',vB,rR,oQ,rO,iff_self];rcases s1 with⟨s1,r1⟩|⟨s1,r1⟩|⟨s1,r1⟩<;>rcases s2 with⟨s2,r2⟩|⟨s2,r2⟩|⟨s2,r2⟩<;>rw[r1,r2]<;>omega
end Go.Proofs.YtkjhhooecopolaaGreatDoor.Ga
namespace Go.Proofs.YtkjhhooecopolaaGreatDoor.Gb
open Ge Ga
abbrev Sg:=Pt×Pt
def n1(a:Pt):N3:=(a.1,a.2,1)
def dr(s:Sg):Pt:=(s.2.1-s.1.1,s.2.2-s.1.2)
def rv(s:Sg):Sg:=(s.2,s.1)
theorem dK(a z:Pt):rl (n1 a) z=dr (a,z):=by unfold rl rel n1 dr;simp
theorem lJ(a b:Pt):wv (n1 a) (n1 b)=dr (a,b):=by unfold wv n1 dr;simp
theorem vS(s:Sg):dr (rv s)=neg (dr s):=by unfold dr rv neg;exact dC (by simp only;omega) (by simp only;omega)
theorem oZ{s:Sg}:dr s=(0,0)↔s.1=s.2:=by
 unfold dr;constructor
 ·intro h;have h1:=aw Prod.fst h;have h2:=aw Prod.snd h;simp only at h1 h2;exact dC (by omega) (by omega)
 ·intro h;rw[h];exact dC (by simp) (by simp)
structure Pf(s u:Sg):Prop where
 fs:ju (n1 s.1) (n1 s.2) (dr s) u.1 u.2
 c1:lI (n1 s.1) (n1 s.2) (dr s) u.1
 c2:lI (n1 s.1) (n1 s.2) (dr s) u.2
theorem aan{f t:N3}{D u v:Pt}(h:ju f t D u v):ju f t D v u:=by
 refine⟨fun x y z=>?_,fun x y z=>?_⟩
 ·have:=h.2 x y z;rw[bV (rl f u) (rl f v),bV (rl t u) (rl t v)];omega
 ·have:=h.1 x y z;rw[bV (rl f u) (rl f v),bV (rl t u) (rl t v)];omega
theorem Pf.rv{s u:Sg}(h:Pf s u):Pf s (rv u):=⟨aan h.fs,h.c2,h.c1⟩
structure Wd(S:List Sg)(nx:Sg->Sg):Prop where
 ne:∀s∈S,s.1≠s.2
 pf:∀s∈S,∀u∈S,(aM (dr s)->Pf s u)/\(¬aM (dr s)->Pf (rv s) u)
 PE:∀s∈S,∀u∈S,on (dr (s.1,u.1)) (dr (s.1,u.2))=true->s.1=u.1\/s.1=u.2
 JP:∀s∈S,∀u∈S,on (dr (s.2,u.1)) (dr (s.2,u.2))=true->s.2=u.1\/s.2=u.2
 one:∀s∈S,∀u∈S,s.1=u.1->ay (dr s) (dr u)=true->s=u
 one':∀s∈S,∀u∈S,s.2=u.2->ay (dr s) (dr u)=true->s=u
 two:∀s∈S,∀u∈S,s.1=u.2->ay (dr s) (neg (dr u))=false
 yj:∀s∈S,nx s∈S/\(nx s).1=s.2
 inj:∀s∈S,∀u∈S,nx s=nx u->s=u
 w1:∀s∈S,∀u∈S,u.1=s.2->cw (neg (dr s)) (dr u) (dr (nx s))=false
 w2:∀s∈S,∀u∈S,u.2=s.2->cw (neg (dr s)) (neg (dr u)) (dr (nx s))=false
def Cl(es:List Sg):Prop:=∃rg,ag rg=es
def In(S es:List Sg):Prop:=∀e∈es,e∈S\/rv e∈S
def Lf(es:List Sg)(s:Sg):Int:=dP es (n1 s.1) (dr s)
def Rt(es:List Sg)(s:Sg):Int:=cV es (n1 s.1) (dr s)
section
variable{S:List Sg}{nx:Sg->Sg}{es:List Sg}
theorem Wd.gh(h:Wd S nx){s:Sg}(hs:s∈S):dr s≠(0,0):=fun e=>h.ne s hs (oZ.1 e)
theorem Wd.nB(h:Wd S nx)(hi:In S es){s:Sg}(hs:s∈S):(aM (dr s)->rZ es (n1 s.1) (n1 s.2))/\(¬aM (dr s)->rZ es (n1 s.2) (n1 s.1)):=by
 refine⟨fun hr=>?_,fun hr=>?_⟩
 ·have hp:∀e∈es,Pf s e:=fun e he=>by
   rcases hi e he with k|k
   ·exact(h.pf s hs e k).1 hr
   ·exact((h.pf s hs _ k).1 hr).rv
  exact⟨by show(0:Int)<1;decide,by show(0:Int)<1;decide,by rw[lJ];exact hr,fun e he=>by rw[lJ];exact(hp e he).fs,fun e he=>by rw[lJ];exact⟨(hp e he).c1,(hp e he).c2⟩⟩
 ·have hp:∀e∈es,Pf (rv s) e:=fun e he=>by
   rcases hi e he with k|k
   ·exact(h.pf s hs e k).2 hr
   ·exact((h.pf s hs _ k).2 hr).rv
  have hr':aM (dr (rv s)):=by rw[vS];exact fF (h.gh hs) hr
  exact⟨by show(0:Int)<1;decide,by show(0:Int)<1;decide,by rw[lJ];exact hr',fun e he=>by rw[lJ];exact(hp e he).fs,fun e he=>by rw[lJ];exact⟨(hp e he).c1,(hp e he).c2⟩⟩
theorem Wd.at_end(h:Wd S nx)(hc:Cl es)(hi:In S es){s:Sg}(hs:s∈S):Lf es s=cV es (n1 s.2) (neg (dr s))/\Rt es s=dP es (n1 s.2) (neg (dr s)):=by
 obtain⟨h1,h2⟩:=h.nB hi hs;obtain⟨rg,rfl⟩:=hc;by_cases hr:aM (dr s)
 ·have a:=uo (h1 hr);have b:=Az (h1 hr);rw[lJ] at a b;unfold Lf Rt;have e:dr (s.1,s.2)=dr s:=rfl;rw[e] at a b;exact⟨a.2.symm.trans b.2,a.1.symm.trans b.1⟩
 ·have a:=uo (h2 hr);have b:=Az (h2 hr);rw[lJ] at a b;have e:dr (s.2,s.1)=neg (dr s):=vS s;rw[e] at a b;rw[neg_neg] at b;unfold Lf Rt;exact⟨b.1.symm.trans a.1,b.2.symm.trans a.2⟩
theorem Wd.arm(h:Wd S nx)(hi:In S es){s:Sg}(hs:s∈S){z:Pt}(hz:z∈arms es (n1 s.2)):∃u∈S,(u.1=s.2/\z=dr u)\/(u.2=s.2/\z=neg (dr u)):=by
 obtain⟨hz0,e,he,ho,r9⟩:=jw.1 hz;rw[dK,dK] at ho r9;have key:∀u∈S,on (dr (s.2,u.1)) (dr (s.2,u.2))=true->(z=dr (s.2,u.1)\/z=dr (s.2,u.2))->∃u∈S,(u.1=s.2/\z=dr u)\/(u.2=s.2/\z=neg (dr u)):=fun u hu lH PF=>by
  rcases h.JP s hs u hu lH with k|k
  ·rcases PF with q|q
   ·rw[k] at q;exact absurd (q.trans (oZ.2 rfl)) hz0
   ·exact⟨u,hu,ae ⟨k.symm,by rw[q,k]⟩⟩
  ·rcases PF with q|q
   ·exact⟨u,hu,af ⟨k.symm,by rw[q,k,<-vS];rfl⟩⟩
   ·rw[k] at q;exact absurd (q.trans (oZ.2 rfl)) hz0
 rcases hi e he with k|k
 ·exact key e k ho r9
 ·exact key (rv e) k (by rw[vO];exact ho) r9.symm
theorem aao{n:N3}(hc:Cl es){a l:Pt}(ha:a≠(0,0))(hl:l≠(0,0))(hs:ay l a=false)(hw:∀z∈arms es n,cw a z l=false):dP es n l=cV es n a:=by
 have ht:=gZ hl ha;rw[hs] at ht;by_cases kL:ak l a=true
 ·refine JM hl ha kL fun z hz=>?_
  cases hb:kJ l a z
  ·rfl
  ·have k:=hw z hz;obtain⟨k1,k2⟩:=yi.1 hb;have:cw a z l=true:=kK.2 (ae ⟨k2,kL,k1⟩);rw[this] at k;cases k
 ·have hal:ak a l=true:=by
   cases hk:ak a l
   ·cases hk2:ak l a
    ·rw[hk,hk2] at ht;simp[bb] at ht
    ·exact absurd hk2 kL
   ·rfl
  have z1:∀z∈arms es n,ak z a=false:=fun z hz=>by
   cases hb:ak z a
   ·rfl
   ·have:cw a z l=true:=kK.2 (af (ae ⟨hb,hal⟩));rw[hw z hz] at this;cases this
  have z2:∀z∈arms es n,ak l z=false:=fun z hz=>by
   cases hb:ak l z
   ·rfl
   ·have:cw a z l=true:=kK.2 (af (af ⟨gf ha hl (jw.1 hz).1 hal hb,hal,hb⟩));rw[hw z hz] at this;cases this
  have e1:AS es n (fun z=>nz z&&ak z a)=0:=by
   rw[yh (Q':=fun _=>false) (by simp[nz]) (fun z hz=>by rw[z1 z hz];simp),JL]
  have e2:AS es n (fun z=>nz z&&ak z l)+AS es n (fun z=>ay z l)=0:=by
   obtain⟨rg,rfl⟩:=hc;rw[<-JI rg n,<-Ax (Q:=fun z=>(nz z&&ak z l)||ay z l)]
   ·refine(yh ?_ fun z hz=>?_)
    ·simp[nz,x7]
    ·have hz0:=(jw.1 hz).1;have t:=gZ hz0 hl;rw[z2 z hz] at t;have hn:nz z=true:=by unfold nz;simpa using hz0
     rw[hn];cases h1:ak z l<;>cases h2:ay z l<;>rw[h1,h2] at t<;>simp[bb] at t⊢
   ·intro z;by_cases hz0:z=(0,0)
    ·subst hz0;simp[nz,x7,bb]
    ·have t:=gZ hz0 hl;have hn:nz z=true:=by unfold nz;simpa using hz0
     simp only[hn,Ee];cases h1:ak z l<;>cases h2:ay z l<;>cases h3:ak l z<;>rw[h1,h2,h3] at t<;>simp[bb] at t⊢
  unfold dP cV;omega
theorem Wd.const(h:Wd S nx)(hc:Cl es)(hi:In S es){s:Sg}(hs:s∈S):Lf es (nx s)=Lf es s:=by
 obtain⟨hn,kM⟩:=h.yj s hs;rw[(h.at_end hc hi hs).1];show dP es (n1 (nx s).1) (dr (nx s))=_;rw[kM];refine aao hc (ji (h.gh hs)) (h.gh hn) (h.two _ hn _ hs kM) fun z hz=>?_
 obtain⟨u,hu,⟨k,rfl⟩|⟨k,rfl⟩⟩:=h.arm hi hs hz
 ·exact h.w1 s hs u hu k
 ·exact h.w2 s hs u hu k
def it(nx:Sg->Sg):Nat->Sg->Sg
 |0,s=>s
 |k+1,s=>nx (it nx k s)
def AE(nx:Sg->Sg)(s u:Sg):Prop:=∃k,it nx k s=u
theorem Wd.mh(h:Wd S nx){s:Sg}(hs:s∈S):∀k,it nx k s∈S
 |0=>hs
 |k+1=>(h.yj _ (h.mh hs k)).1
theorem Wd.along(h:Wd S nx)(hc:Cl es)(hi:In S es){s u:Sg}(hs:s∈S)(hw:AE nx s u):Lf es u=Lf es s:=by
 obtain⟨k,rfl⟩:=hw;induction k with
 |zero=>rfl
 |succ k ih=>exact(h.const hc hi (h.mh hs k)).trans ih
end
end Go.Proofs.YtkjhhooecopolaaGreatDoor.Gb
