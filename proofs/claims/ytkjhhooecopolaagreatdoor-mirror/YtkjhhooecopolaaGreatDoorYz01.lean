import Derived.Test.YtkjhhooecopolaaGreatDoorYz00
set_option maxRecDepth 100000
set_option maxHeartbeats 4000000
namespace Go.Proofs.YtkjhhooecopolaaGreatDoor.Ga
open Ge
theorem par{D r s:Pt}(hD:D≠(0,0))(h1:cr D r=0)(h2:cr D s=0):cr r s=0/\dt D r*dt D s=dt D D*dt r s:=by
 have e1:dt D D*cr r s=cr D s*dt D r-cr D r*dt D s:=by unfold cr dt;grind
 have e2:dt D r*dt D s=dt D D*dt r s-cr D r*cr D s:=by unfold cr dt;grind
 rw[h1,h2] at e1;rw[h1,h2] at e2;have p:=dZ (z:=cr r s) (eG hD);constructor
 ·omega
 ·omega
theorem wD{D r s:Pt}(hD:D≠(0,0))(h1:cr D r=0)(h2:cr D s=0):on r s=true↔dt D r*dt D s<=0:=by
 obtain⟨a,b⟩:=par hD h1 h2;rw[lD,b];have p:=aT (z:=dt r s) (eG hD);omega
theorem GR{a b:Int}(ha:0<a)(hb:0<b):¬a*b<=0:=by have:=aU ha hb;omega
theorem CR{a b:Int}(ha:a<0)(hb:b<0):¬a*b<=0:=by have:=Rp ha hb;omega
theorem Ab{a b:Int}(ha:a<=0)(hb:0<=b):a*b<=0:=Gi ha hb
theorem GS{a b:Int}(ha:0<=a)(hb:b<=0):a*b<=0:=anI ha hb
theorem place{f t:N3}(hf:0<f.2.2)(ht:0<t.2.2)(hr:aS (wv f t)){z:Pt}(hC:nu f t (wv f t) z)(hl:lam (wv f t) f z=0):
  (dt (wv f t) (rl f z)<=0/\dt (wv f t) (rl (aZ f t) z)<0/\dt (wv f t) (rl t z)<0)\/(0<dt (wv f t) (rl f z)/\0<dt (wv f t) (rl (aZ f t) z)/\0<=dt (wv f t) (rl t z)):=by
 have hD:=eG (kM hr);have a1:=kL f t z;have a2:=kL f (aZ f t) z;rw[Sz] at a2;have hq:(aZ f t).2.2=f.2.2+t.2.2:=rfl;rw[hq] at a2;have k:=hC hl;generalize Ac:wv f t=D at*;have e1:f.2.2*dt D (rl t z)=t.2.2*dt D (rl f z)-dt D D:=by
  have:f.2.2*dt D (rl t z)=D.1*(f.2.2*(rl t z).1)+D.2*(f.2.2*(rl t z).2):=by unfold dt;grind
  rw[this,a1.1,a1.2];unfold dt
  grind
 have e2:f.2.2*dt D (rl (aZ f t) z)=(f.2.2+t.2.2)*dt D (rl f z)-dt D D:=by
  have:f.2.2*dt D (rl (aZ f t) z)=D.1*(f.2.2*(rl (aZ f t) z).1)+D.2*(f.2.2*(rl (aZ f t) z).2):=by unfold dt;grind
  rw[this,a2.1,a2.2];unfold dt
  grind
 have p1:=neg_mul (z:=dt D (rl t z)) hf;have p2:=aT (z:=dt D (rl t z)) hf;have p3:=neg_mul (z:=dt D (rl (aZ f t) z)) hf;have p4:=aT (z:=dt D (rl (aZ f t) z)) hf;have p5:=aT (z:=dt D (rl f z)) ht;have p6:=aT (z:=dt D (rl f z)) hf;have e3:(f.2.2+t.2.2)*dt D (rl f z)=f.2.2*dt D (rl f z)+t.2.2*dt D (rl f z):=by grind
 have p7:=neg_mul (z:=dt D (rl f z)) hf;have p8:=neg_mul (z:=dt D (rl f z)) ht;rcases k with k|k
 ·left;omega
 ·right;omega
theorem LF{f t:N3}(hf:0<f.2.2)(ht:0<t.2.2)(hr:aS (wv f t)){u v:Pt}(hS:jU f t (wv f t) u v)(hn:¬(lam (wv f t) f u=0/\lam (wv f t) f v=0)):on (rl (aZ f t) u) (rl (aZ f t) v)=false:=by
 have hq:0<(aZ f t).2.2:=by show 0<f.2.2+t.2.2;omega
 have b1:=GM hr;obtain⟨k1,k2⟩:=CP hf ht hq hS b1 (Lx hr);have su:=o8 hf hq b1 u;have sv:=o8 hf hq b1 v;cases h:on (rl (aZ f t) u) (rl (aZ f t) v)
 ·rfl
 ·exfalso;obtain⟨h1,h2⟩:=(lD _ _).1 h;have c1:=zZ (D:=wv f t) h1;have c2:=SB (D:=wv f t) h1;have c3:=zZ (D:=wv f t) (rZ h1);have c4:=SB (D:=wv f t) (rZ h1);rw[jb] at c3 c4;unfold lam at*;rcases fD (cr (wv f t) (rl (aZ f t) u)) 0 with x|x|x
  ·exact k1 (by omega) ((c1 x).1 h2) (by have:=(c1 x).1 h2;omega) h1
  ·rcases fD (cr (wv f t) (rl (aZ f t) v)) 0 with y|y|y
   ·exact k2 (by omega) (by omega) (by omega) h1
   ·exact hn ⟨by omega,by omega⟩
   ·exact k1 (by omega) (by omega) (by omega) h1
  ·exact k2 ((c2 x).1 h2) (by omega) (by have:=(c2 x).1 h2;omega) h1
theorem GU{D r s:Pt}(ho:on r s=true)(hk:cr s D=0)(hs:s≠(0,0)):cr D r=0/\cr D s=0:=by
 have h1:=((lD _ _).1 ho).1;have e1:cr D s=0:=rZ hk;have e:=uA (D:=D) (rZ h1);rw[e1] at e;have p:=dZ (z:=cr D r) (eG hs);rw[eA] at p;exact⟨p.1 (by omega),e1⟩
theorem wE(r s:Pt):on r s=on s r:=by
 unfold on;rw[bZ r s,jb];congr 1;exact decide_eq_decide.2 (by omega)
theorem dm(z w:Pt):az z w=true↔cr z w=0/\0<dt z w:=by unfold az;simp
theorem qI{f t:N3}(hf:0<f.2.2)(ht:0<t.2.2)(hr:aS (wv f t))(z:Pt):lam (wv f t) t z=0↔lam (wv f t) f z=0:=by
 have:=o8 hf ht (x8 hr) z;omega
theorem Ad{f t:N3}(hf:0<f.2.2)(ht:0<t.2.2)(hr:aS (wv f t))(z:Pt):lam (wv f t) (aZ f t) z=0↔lam (wv f t) f z=0:=by
 have:=o8 hf (show 0<(aZ f t).2.2 by show 0<f.2.2+t.2.2;omega) (GM hr) z
 omega
theorem SD{f t:N3}(hf:0<f.2.2)(ht:0<t.2.2)(hr:aS (wv f t)){u v:Pt}(hS:jU f t (wv f t) u v)(hu:nu f t (wv f t) u)(hv:nu f t (wv f t) v):
  fb (aZ f t) (wv f t) u v=arm (fun z=>az z (wv f t)) f u v/\fb (aZ f t) (wv f t) u v= -arm (fun z=>az z (neg (wv f t))) t u v:=by
 have hq:0<(aZ f t).2.2:=by show 0<f.2.2+t.2.2;omega
 have hD:=kM hr;by_cases hn:lam (wv f t) f u=0/\lam (wv f t) f v=0
 ·obtain⟨l1,l2⟩:=hn;have pu:=place hf ht hr hu l1;have pv:=place hf ht hr hv l2;have m1:=(Ad hf ht hr u).2 l1;have m2:=(Ad hf ht hr v).2 l2;have t1:=(qI hf ht hr u).2 l1;have t2:=(qI hf ht hr v).2 l2;have LG:(aZ f t).2.2*((wv f t).1*(v.1-u.1)+(wv f t).2*(v.2-u.2))=dt (wv f t) (rl (aZ f t) v)-dt (wv f t) (rl (aZ f t) u):=by
   unfold dt rl rel
   grind
  have s1:=aT (z:=(wv f t).1*(v.1-u.1)+(wv f t).2*(v.2-u.2)) hq;have s2:=neg_mul (z:=(wv f t).1*(v.1-u.1)+(wv f t).2*(v.2-u.2)) hq;rw[LG] at s1 s2;have oq:=wD hD m1 m2;have of:=wD hD l1 l2;have ot:=wD hD t1 t2;have ku:=dm (rl f u) (wv f t);have kv:=dm (rl f v) (wv f t);have tu:=dm (rl t u) (neg (wv f t));have tv:=dm (rl t v) (neg (wv f t));rw[fK,lF] at tu tv;rw[jb] at ku kv;rw[jb (rl t u)] at tu;rw[jb (rl t v)] at tv;have c1:cr (rl f u) (wv f t)=0:=rZ l1;have c2:cr (rl f v) (wv f t)=0:=rZ l2;have c3:cr (rl t u) (wv f t)=0:=rZ t1;have c4:cr (rl t v) (wv f t)=0:=rZ t2;unfold fb arm;dsimp only;generalize wv f t=D at*;rcases pu with⟨x1,x2,x3⟩|⟨x1,x2,x3⟩<;>rcases pv with⟨y1,y2,y3⟩|⟨y1,y2,y3⟩
  ·have o1:on (rl (aZ f t) u) (rl (aZ f t) v)=false:=by
    cases h:on (rl (aZ f t) u) (rl (aZ f t) v);rfl;exact absurd (oq.1 h) (CR x2 y2)
   have o2:on (rl t u) (rl t v)=false:=by
    cases h:on (rl t u) (rl t v);rfl;exact absurd (ot.1 h) (CR x3 y3)
   have b1:az (rl f u) D=false:=by cases h:az (rl f u) D;rfl;have:=ku.1 h;omega
   have b2:az (rl f v) D=false:=by cases h:az (rl f v) D;rfl;have:=kv.1 h;omega
   rw[o1,o2,b1,b2];simp
  ·have o1:=oq.2 (Ab (dM x2) (dM y2));have o2:=of.2 (Ab x1 (dM y1));have o3:=ot.2 (Ab (dM x3) y3);have b1:az (rl f u) D=false:=by cases h:az (rl f u) D;rfl;have:=ku.1 h;omega
   have b2:az (rl f v) D=true:=kv.2 ⟨c2,y1⟩;have b3:az (rl t u) (neg D)=true:=tu.2 ⟨by omega,by omega⟩
   have b4:az (rl t v) (neg D)=false:=by cases h:az (rl t v) (neg D);rfl;have:=tv.1 h;omega
   have sg:(D.1*(v.1-u.1)+D.2*(v.2-u.2)).sign=1:=pX (by omega)
   rw[o1,o2,o3,b1,b2,b3,b4,sg];decide
  ·have o1:=oq.2 (GS (dM x2) (dM y2));have o2:=of.2 (GS (dM x1) y1);have o3:=ot.2 (GS x3 (dM y3));have b1:az (rl f u) D=true:=ku.2 ⟨c1,x1⟩;have b2:az (rl f v) D=false:=by cases h:az (rl f v) D;rfl;have:=kv.1 h;omega
   have b3:az (rl t u) (neg D)=false:=by cases h:az (rl t u) (neg D);rfl;have:=tu.1 h;omega
   have b4:az (rl t v) (neg D)=true:=tv.2 ⟨by omega,by omega⟩
   have sg:(D.1*(v.1-u.1)+D.2*(v.2-u.2)).sign= -1:=Gm (by omega)
   rw[o1,o2,o3,b1,b2,b3,b4,sg];decide
  ·have o1:on (rl (aZ f t) u) (rl (aZ f t) v)=false:=by
    cases h:on (rl (aZ f t) u) (rl (aZ f t) v);rfl;exact absurd (oq.1 h) (GR x2 y2)
   have o2:on (rl f u) (rl f v)=false:=by
    cases h:on (rl f u) (rl f v);rfl;exact absurd (of.1 h) (GR x1 y1)
   have b3:az (rl t u) (neg D)=false:=by cases h:az (rl t u) (neg D);rfl;have:=tu.1 h;omega
   have b4:az (rl t v) (neg D)=false:=by cases h:az (rl t v) (neg D);rfl;have:=tv.1 h;omega
   rw[o1,o2,b3,b4];simp
 ·have o1:=LF hf ht hr hS hn;have zf:arm (fun z=>az z (wv f t)) f u v=0:=by
   unfold arm;dsimp only;cases ho:on (rl f u) (rl f v)
   ·rfl
   ·have b1:az (rl f u) (wv f t)=false:=by
     cases h:az (rl f u) (wv f t)
     ·rfl
     ·exfalso;obtain⟨k1,k2⟩:=(dm _ _).1 h;have:=GU (by rw[wE];exact ho) k1 (uz (D:=wv f t) (by rw[jb];omega))
      exact hn ⟨this.2,this.1⟩
    have b2:az (rl f v) (wv f t)=false:=by
     cases h:az (rl f v) (wv f t)
     ·rfl
     ·exfalso;obtain⟨k1,k2⟩:=(dm _ _).1 h;have:=GU ho k1 (uz (D:=wv f t) (by rw[jb];omega))
      exact hn ⟨this.1,this.2⟩
    rw[b1,b2];simp
  have zt:arm (fun z=>az z (neg (wv f t))) t u v=0:=by
   have hn':¬(lam (wv f t) t u=0/\lam (wv f t) t v=0):=by rw[qI hf ht hr,qI hf ht hr];exact hn
   unfold arm;dsimp only;cases ho:on (rl t u) (rl t v)
   ·rfl
   ·have b1:az (rl t u) (neg (wv f t))=false:=by
     cases h:az (rl t u) (neg (wv f t))
     ·rfl
     ·exfalso;obtain⟨k1,k2⟩:=(dm _ _).1 h;rw[fK] at k1;rw[lF] at k2;have:=GU (D:=wv f t) (by rw[wE];exact ho) (by omega) (uz (D:=wv f t) (by rw[jb];omega))
      exact hn' ⟨this.2,this.1⟩
    have b2:az (rl t v) (neg (wv f t))=false:=by
     cases h:az (rl t v) (neg (wv f t))
     ·rfl
     ·exfalso;obtain⟨k1,k2⟩:=(dm _ _).1 h;rw[fK] at k1;rw[lF] at k2;have:=GU (D:=wv f t) ho (by omega) (uz (D:=wv f t) (by rw[jb];omega))
      exact hn' ⟨this.1,this.2⟩
    rw[b1,b2];simp
  rw[zf,zt];unfold fb;rw[o1];simp
structure uB(es:List (Pt×Pt))(f t:N3):Prop where
 pf:0<f.2.2
 pt:0<t.2.2
 r:aS (wv f t)
 s:∀e∈es,jU f t (wv f t) e.1 e.2
 c:∀e∈es,nu f t (wv f t) e.1/\nu f t (wv f t) e.2
def RR(es:List (Pt×Pt))(f t:N3):Int:=PP es (aZ f t)
def LL(es:List (Pt×Pt))(f t:N3):Int:=PP es (aZ f t)+total (fb (aZ f t) (wv f t)) es
theorem wF{rg:List (List Pt)}{f t:N3}(h:uB (ag rg) f t):RR (ag rg) f t=dA (ag rg) f (wv f t)/\LL (ag rg) f t=eI (ag rg) f (wv f t):=by
 have h1:=adh h.pf h.pt h.r h.s;have h2:total (fb (aZ f t) (wv f t)) (ag rg)=AS (ag rg) f (fun z=>az z (wv f t)):=o9 fun e he=>(SD h.pf h.pt h.r (h.s e he) (h.c e he).1 (h.c e he).2).1
 have h3:AS (ag rg) f (fun z=>nz z&&au z (wv f t))=AS (ag rg) f (fun z=>au z (wv f t)):=GQ fun e _ _=>⟨SC h.r,SC h.r⟩
 unfold RR LL dA eI dA;rw[h2,h3];omega
theorem CS{rg:List (List Pt)}{f t:N3}(h:uB (ag rg) f t):RR (ag rg) f t=eI (ag rg) t (neg (wv f t))/\LL (ag rg) f t=dA (ag rg) t (neg (wv f t)):=by
 have h1:=adi h.pf h.pt h.r h.s;have h2:total (fb (aZ f t) (wv f t)) (ag rg)= -AS (ag rg) t (fun z=>az z (neg (wv f t))):=by
  unfold AS;rw[<-LB];exact o9 fun e he=>(SD h.pf h.pt h.r (h.s e he) (h.c e he).1 (h.c e he).2).2
 have h3:=adk (rg:=rg) (n:=t) h.r;unfold RR LL eI dA;rw[h2];omega
theorem adl(x y z:Pt):cr x z*y.1=cr x y*z.1+cr y z*x.1:=by unfold cr;grind
theorem Ae{x:Pt}(h:aS x):0<=x.1:=by rcases h with h|⟨h,_⟩<;>omega
theorem SE{x y:Pt}(hx:aS x)(hy:aS y)(h:0<cr x y):0<x.1:=by
 rcases hx with h1|⟨h1,h2⟩
 ·exact h1
 ·exfalso;have:=iY (dM h2) (Ae hy);unfold cr at h;rw[h1] at h;omega
theorem GV{x y z:Pt}(hx:aS x)(hy:aS y)(hz:aS z):(0<cr x y->0<=cr y z->0<cr x z)/\(0<=cr x y->0<cr y z->0<cr x z)/\(cr x y=0->cr y z=0->cr x z=0):=by
 have e:=adl x y z;have px:=Ae hx;have py:=Ae hy;have pz:=Ae hz;refine⟨fun h1 h2=>?_,fun h1 h2=>?_,fun h1 h2=>?_⟩
 ·have p1:=SE hx hy h1;rcases hy with q|⟨q,q'⟩
  ·rcases hz with r|⟨r,r'⟩
   ·have k1:=aU h1 r;have k2:=iY h2 px;have k:=aT (z:=cr x z) q;rw[eA] at k;omega
   ·have:0<x.1*z.2:=aU p1 r';unfold cr;rw[r];omega
  ·
   have h3:0<=y.1*z.2-y.2*z.1:=h2;rw[q] at h3;have hz1:z.1=0:=by
    rcases fD z.1 0 with h|h|h
    ·omega
    ·exact h
    ·have:=aU q' h;omega
   rcases hz with r|⟨r,r'⟩
   ·omega
   ·have:0<x.1*z.2:=aU p1 r';unfold cr;rw[r];omega
 ·have p1:=SE hy hz h2;have p2:0<x.1:=by
   rcases hx with q|⟨q,q'⟩
   ·exact q
   ·exfalso;have:0<x.2*y.1:=aU q' p1;unfold cr at h1;rw[q] at h1;omega
  have k1:=iY h1 pz;have k2:=aU h2 p2;have k:=aT (z:=cr x z) p1;rw[eA] at k;omega
 ·rw[h1,h2] at e;rcases hy with q|⟨q,q'⟩
  ·have k:=dZ (z:=cr x z) q;rw[eA] at k;omega
  ·unfold cr at h1 h2⊢;rw[q] at h1 h2;have a1:=dZ (z:=x.1) q';have a2:=dZ (z:=z.1) q';have b1:x.1=0:=a1.1 (by rw[eA];omega)
   have b2:z.1=0:=a2.1 (by omega)
   rw[b1,b2];omega
theorem nY{z w:Pt}:au z w=true↔(aS z/\¬aS w)\/((aS z↔aS w)/\0<cr z w):=by
 have h1:=wC z;have h2:=wC w;unfold au;cases h3:iA z<;>cases h4:iA w<;>rw[h3] at h1<;>rw[h4] at h2<;>simp at h1 h2⊢ <;>simp[h1,h2]
theorem gZ{x y z:Pt}(hx:x≠(0,0))(hy:y≠(0,0))(hz:z≠(0,0))(h1:au x y=true)(h2:au y z=true):au x z=true:=by
 rw[nY] at*;by_cases rx:aS x<;>by_cases ry:aS y<;>by_cases rz:aS z
 ·have:=GV rx ry rz;simp only[rx,ry,rz,vW,xM,uk,qE] at*;exact this.1 h1 (dM h2)
 ·exact ae ⟨rx,rz⟩
 ·simp only[rx,ry,rz,vW,xM,qE,xN,um,Cs,true_iff,uo] at*
 ·exact ae ⟨rx,rz⟩
 ·simp[rx,ry] at h1
 ·simp[rx,ry] at h1
 ·simp[ry,rz] at h2
 ·have:=GV (gb hx rx) (gb hy ry) (gb hz rz);simp only[fF,fK,KW] at this;simp only[rx,ry,rz,um,uk,qE] at*;exact this.1 h1 (dM h2)
theorem qJ(x:Pt):au x x=false:=by
 have:cr x x=0:=by unfold cr;grind
 unfold au;rw[this];simp
theorem GW{x y:Pt}(hx:x≠(0,0))(hy:y≠(0,0))(h:au x y=true):au y x=false:=by
 cases h1:au y x
 ·rfl
 ·have:=gZ hx hy hx h h1;rw[qJ] at this;cases this
def arms(es:List (Pt×Pt))(n:N3):List Pt:=((es.filter fun e=>on (rl n e.1) (rl n e.2)).flatMap fun e=>[rl n e.1,rl n e.2]).filter nz
theorem jV{es:List (Pt×Pt)}{n:N3}{z:Pt}:z∈arms es n↔z≠(0,0)/\∃e∈es,on (rl n e.1) (rl n e.2)=true/\(z=rl n e.1\/z=rl n e.2):=by
 unfold arms;rw[jF,uq];constructor
 ·rintro⟨⟨e,he,hz⟩,hn⟩;obtain⟨h1,h2⟩:=jF.1 he;exact⟨eW hn,e,h1,h2,by simpa using hz⟩
 ·rintro⟨hn,e,he,ho,hz⟩;exact⟨⟨e,jF.2 ⟨he,ho⟩,by simpa using hz⟩,iu hn⟩
theorem Af{es:List (Pt×Pt)}{n:N3}{Q Q':Pt->Bool}(h0:Q (0,0)=Q' (0,0))(h:∀z∈arms es n,Q z=Q' z):AS es n Q=AS es n Q':=by
 refine GQ fun e he ho=>?_
 have key:∀z,z=rl n e.1\/z=rl n e.2->Q z=Q' z:=fun z hz=>by
  by_cases hn:z=(0,0)
  ·rw[hn];exact h0
  ·exact h z (jV.2 ⟨hn,e,he,ho,hz⟩)
 exact⟨key _ (ae rfl),key _ (af rfl)⟩
theorem LH(es:List (Pt×Pt))(n:N3):AS es n (fun _=>false)=0:=wz fun e _=>by unfold arm;split<;>rfl
theorem x9{α:Type}{p q:α->Bool}:∀(l:List α),(∀x∈l,q x=true->p x=true)->(∃x∈l,p x=true/\q x=false)->l.countP q<l.countP p
 |[],_,h=>by obtain⟨x,hx,_⟩:=h;simp at hx
 |a::l,h1,h2=>by
  obtain⟨x,hx,hp,hq⟩:=h2;have hle:l.countP q<=l.countP p:=anJ fun y hy=>h1 y (bz _ hy)
  rcases aV.1 hx with e|hx
  ·subst e;rw[anK hp,anL (by simp[hq])]
   omega
  ·have ih:=x9 l (fun y hy=>h1 y (bz _ hy)) ⟨x,hx,hp,hq⟩
   rw[Rq,Rq];by_cases ha:q a=true
   ·rw[ah ha,ah (h1 a (by simp) ha)];omega
   ·rw[aa ha];omega
def mb(d d' z:Pt):Bool:=au d z&&au z d'
theorem LI{es:List (Pt×Pt)}{n:N3}{d d':Pt}(hd:d≠(0,0))(hd':d'≠(0,0))(h:au d d'=true)(hb:∀z∈arms es n,mb d d' z=false):eI es n d=dA es n d':=by
 have e:AS es n (fun z=>nz z&&au z d')=AS es n (fun z=>nz z&&au z d)+AS es n (fun z=>az z d):=by
  have e1:AS es n (fun z=>nz z&&au z d')=AS es n (fun z=>nz z&&(au z d||az z d)):=Af rfl fun z hz=>by
   have fw:=(jV.1 hz).1;have hzb:=hb z hz;have:nz z=true:=iu fw;rw[this,Gn,Gn];have k:=iJ fw hd;unfold mb at hzb;cases h1:au z d'
   ·have h2:au z d=false:=by
     cases h2:au z d
     ·rfl
     ·have:=gZ fw hd hd' h2 h;rw[h1] at this;cases this
    have h3:az z d=false:=by
     cases h3:az z d
     ·rfl
     ·exfalso;obtain⟨s1,s2⟩:=(dm z d).1 h3;have k2:=iJ fw hd';rw[h1] at k2;have h4:au d' z=true\/az z d'=true:=by
       revert k2;cases az z d'<;>cases au d' z<;>decide
      rcases h4 with h4|h4
      ·have:=gZ hd hd' fw h h4;rw[this,h3,h2] at k;revert k;decide
      ·
       obtain⟨t1,t2⟩:=(dm z d').1 h4;have p1:cr d z=0:=by rw[bZ];omega
       have hdd:cr d d'=0:=by
        have:=uA (D:=d) t1;rw[p1] at this;have q:=dZ (z:=cr d d') (eG fw);rw[eA] at q;exact q.1 (by omega)
       have hpos:0<dt d d':=by
        have e2:dt d d'*dt z z=dt z d*dt z d'+cr z d*cr z d':=by unfold dt cr;grind
        rw[s1] at e2;have:=aU s2 t2;have q:=aT (z:=dt d d') (eG fw);rw[eA] at q;exact q.1 (by omega)
       have k3:=iJ hd hd';have h5:az d d'=true:=(dm _ _).2 ⟨hdd,hpos⟩;rw[h,h5] at k3;revert k3;cases au d' d<;>decide
    rw[h2,h3];rfl
   ·rw[h1,Bool.and_true] at hzb;rw[hzb] at k;revert k;cases au z d<;>cases az z d<;>decide
  have e2:AS es n (fun z=>nz z&&(au z d||az z d))=AS es n (fun z=>nz z&&au z d)+AS es n (fun z=>az z d):=by
   refine CQ fun z=>?_
   by_cases hz:z=(0,0)
   ·rw[hz,Aa];rfl
   ·have k:=iJ hz hd;have:nz z=true:=iu hz;rw[this];revert k;cases au z d<;>cases az z d<;>cases au d z<;>decide
  rw[e1,e2]
 unfold eI dA;omega
theorem Ag{d d' z:Pt}:mb d d' z=true↔au d z=true/\au z d'=true:=by unfold mb;simp
structure yg(es:List (Pt×Pt))(n:N3)(aF:Int->Bool)(z:Pt):Prop where
 mem:z∈arms es n
 out:aF (dA es n z)=false
 aF:aF (eI es n z)=true
theorem GX{es:List (Pt×Pt)}{n:N3}{aF:Int->Bool}:∀(m:Nat)(d d':Pt),d≠(0,0)->d'≠(0,0)->au d d'=true->(arms es n).countP (mb d d')<=m->aF (eI es n d)=false->aF (dA es n d')=true->∃z,yg es n aF z/\au d z=true/\au z d'=true:=by
 intro m;induction m with
 |zero=>
  intro d d' hd hd' h hc h1 h2;exfalso;rw[LI hd hd' h fun z hz=>by
   cases hk:mb d d' z
   ·rfl
   ·have:=KX.2 ⟨z,hz,hk⟩;omega] at h1
  rw[h1] at h2;cases h2
 |succ m ih=>
  intro d d' hd hd' h hc h1 h2;by_cases hb:∀z∈arms es n,mb d d' z=false
  ·exfalso;rw[LI hd hd' h hb] at h1;rw[h1] at h2;cases h2
  ·have hb':∃z,z∈arms es n/\mb d d' z=true:=by
    apply mW;intro hk;apply hb;intro z hz;cases hk':mb d d' z
    ·rfl
    ·exact absurd ⟨z,hz,hk'⟩ hk
   obtain⟨z,hz,hk⟩:=hb';have fw:=(jV.1 hz).1;obtain⟨k1,k2⟩:=Ag.1 hk;cases hbz:aF (dA es n z)
   ·cases dF:aF (eI es n z)
    ·have hlt:(arms es n).countP (mb z d')<(arms es n).countP (mb d d'):=x9 _ (fun x hx yh=>by
      obtain⟨x1,x2⟩:=Ag.1 yh;exact Ag.2 ⟨gZ hd fw (jV.1 hx).1 k1 x1,x2⟩) ⟨z,hz,hk,by unfold mb;rw[qJ];rfl⟩
     obtain⟨y,hy,y1,y2⟩:=ih z d' fw hd' k2 (by omega) dF h2
     exact⟨y,hy,gZ hd fw (jV.1 hy.mem).1 k1 y1,y2⟩
    ·exact⟨z,⟨hz,hbz,dF⟩,k1,k2⟩
   ·have hlt:(arms es n).countP (mb d z)<(arms es n).countP (mb d d'):=x9 _ (fun x hx yh=>by
      obtain⟨x1,x2⟩:=Ag.1 yh;exact Ag.2 ⟨x1,gZ (jV.1 hx).1 fw hd' x2 k2⟩) ⟨z,hz,hk,by unfold mb;rw[qJ];simp⟩
    obtain⟨y,hy,y1,y2⟩:=ih d z hd fw k1 (by omega) h1 hbz
    exact⟨y,hy,y1,gZ (jV.1 hy.mem).1 fw hd' y2 k2⟩
theorem LJ{es:List (Pt×Pt)}{n:N3}{aF:Int->Bool}:∀(m:Nat)(d':Pt),d'≠(0,0)->(arms es n).countP (fun z=>au z d')<=m->aF (PP es n)=false->aF (dA es n d')=true->∃z,yg es n aF z/\au z d'=true:=by
 have h0:∀d',(∀z∈arms es n,au z d'=false)->dA es n d'=PP es n:=fun d' h=>by
  have e:AS es n (fun z=>nz z&&au z d')=AS es n (fun _=>false):=Af (by unfold nz;simp) fun z hz=>by rw[h z hz];simp
  unfold dA;rw[e,LH];omega
 intro m;induction m with
 |zero=>
  intro d' hd' hc h1 h2;exfalso;rw[h0 d' fun z hz=>by
   cases hk:au z d'
   ·rfl
   ·have:0<(arms es n).countP (fun z=>au z d'):=KX.2 ⟨z,hz,hk⟩
    omega,h1] at h2
  cases h2
 |succ m ih=>
  intro d' hd' hc h1 h2;by_cases hb:∀z∈arms es n,au z d'=false
  ·exfalso;rw[h0 d' hb,h1] at h2;cases h2
  ·have hb':∃z,z∈arms es n/\au z d'=true:=by
    apply mW;intro hk;apply hb;intro z hz;cases hk':au z d'
    ·rfl
    ·exact absurd ⟨z,hz,hk'⟩ hk
   obtain⟨z,hz,hk⟩:=hb';have fw:=(jV.1 hz).1;cases hbz:aF (dA es n z)
   ·cases dF:aF (eI es n z)
    ·obtain⟨y,hy,_,y2⟩:=GX _ z d' fw hd' hk (ai _) dF h2;exact⟨y,hy,y2⟩
    ·exact⟨z,⟨hz,hbz,dF⟩,hk⟩
   ·have hlt:(arms es n).countP (fun x=>au x z)<(arms es n).countP (fun x=>au x d'):=x9 _ (fun x hx yh=>gZ (jV.1 hx).1 fw hd' yh hk) ⟨z,hz,hk,qJ z⟩
    obtain⟨y,hy,y2⟩:=ih z fw (by omega) h1 hbz
    exact⟨y,hy,gZ (jV.1 hy.mem).1 fw hd' y2 hk⟩
theorem SF{rg:List (List Pt)}{n:N3}{aF:Int->Bool}:∀(m:Nat)(d:Pt),d≠(0,0)->(arms (ag rg) n).countP (fun z=>au d z)<=m->aF (eI (ag rg) n d)=false->aF (PP (ag rg) n)=true->∃z,yg (ag rg) n aF z/\au d z=true:=by
 have h0:∀d,d≠(0,0)->(∀z∈arms (ag rg) n,au d z=false)->eI (ag rg) n d=PP (ag rg) n:=fun d hd h=>by
  have e:AS (ag rg) n nz=AS (ag rg) n (fun z=>nz z&&au z d)+AS (ag rg) n (fun z=>az z d):=by
   have e1:AS (ag rg) n nz=AS (ag rg) n (fun z=>nz z&&(au z d||az z d)):=Af (by unfold nz;simp) fun z hz=>by
    have fw:=(jV.1 hz).1;have k:=iJ fw hd;have:nz z=true:=iu fw;rw[this];rw[h z hz] at k;revert k;cases au z d<;>cases az z d<;>decide
   have e2:AS (ag rg) n (fun z=>nz z&&(au z d||az z d))=AS (ag rg) n (fun z=>nz z&&au z d)+AS (ag rg) n (fun z=>az z d):=by
    refine CQ fun z=>?_
    by_cases hz:z=(0,0)
    ·rw[hz,Aa];rfl
    ·have k:=iJ hz hd;have:nz z=true:=iu hz;rw[this];revert k;cases au z d<;>cases az z d<;>cases au d z<;>decide
   rw[e1,e2]
  have:=LC rg n;unfold eI dA;omega
 intro m;induction m with
 |zero=>
  intro d hd hc h1 h2;exfalso;rw[h0 d hd fun z hz=>by
   cases hk:au d z
   ·rfl
   ·have:0<(arms (ag rg) n).countP (fun z=>au d z):=KX.2 ⟨z,hz,hk⟩
    omega,h2] at h1
  cases h1
 |succ m ih=>
  intro d hd hc h1 h2;by_cases hb:∀z∈arms (ag rg) n,au d z=false
  ·exfalso;rw[h0 d hd hb,h2] at h1;cases h1
  ·have hb':∃z,z∈arms (ag rg) n/\au d z=true:=by
    apply mW;intro hk;apply hb;intro z hz;cases hk':au d z
    ·rfl
    ·exact absurd ⟨z,hz,hk'⟩ hk
   obtain⟨z,hz,hk⟩:=hb';have fw:=(jV.1 hz).1;cases hbz:aF (dA (ag rg) n z)
   ·cases dF:aF (eI (ag rg) n z)
    ·have hlt:(arms (ag rg) n).countP (fun x=>au z x)<(arms (ag rg) n).countP (fun x=>au d x):=x9 _ (fun x hx yh=>gZ hd fw (jV.1 hx).1 hk yh) ⟨z,hz,hk,qJ z⟩
     obtain⟨y,hy,y2⟩:=ih z fw (by omega) dF h2
     exact⟨y,hy,gZ hd fw (jV.1 hy.mem).1 hk y2⟩
    ·exact⟨z,⟨hz,hbz,dF⟩,hk⟩
   ·obtain⟨y,hy,y1,_⟩:=GX _ d z hd fw hk (ai _) h1 hbz;exact⟨y,hy,y1⟩
theorem adm{rg:List (List Pt)}{n:N3}{aF:Int->Bool}{a:Pt}(ha:a≠(0,0))(h1:aF (dA (ag rg) n a)=true)(h2:aF (eI (ag rg) n a)=false):∃z,yg (ag rg) n aF z:=by
 cases h:aF (PP (ag rg) n)
 ·obtain⟨z,hz,_⟩:=LJ _ a ha (ai _) h h1;exact⟨z,hz⟩
 ·obtain⟨z,hz,_⟩:=SF _ a ha (ai _) h2 h;exact⟨z,hz⟩
def cw(a l l':Pt):Bool:=(au l a&&au l' a&&au l' l)||(au l a&&au a l')||(au a l&&au a l'&&au l' l)
theorem mf{a l l':Pt}:cw a l l'=true↔(au l a=true/\au l' a=true/\au l' l=true)\/(au l a=true/\au a l'=true)\/(au a l=true/\au a l'=true/\au l' l=true):=by
 unfold cw;simp only[Ru,qF];constructor
 ·rintro((⟨⟨a,b⟩,c⟩|⟨a,b⟩)|⟨⟨a,b⟩,c⟩)
  ·exact ae ⟨a,b,c⟩
  ·exact af (ae ⟨a,b⟩)
  ·exact af (af ⟨a,b,c⟩)
 ·rintro(⟨a,b,c⟩|⟨a,b⟩|⟨a,b,c⟩)
  ·exact ae (ae ⟨⟨a,b⟩,c⟩)
  ·exact ae (af ⟨a,b⟩)
  ·exact af ⟨⟨a,b⟩,c⟩
theorem SH{rg:List (List Pt)}{n:N3}{aF:Int->Bool}{a a' l:Pt}(ha:a≠(0,0))(ha':a'≠(0,0))(hne:az a a'=false)
  (h1:aF (dA (ag rg) n a)=true)(h2:aF (eI (ag rg) n a)=false)(h1':aF (dA (ag rg) n a')=true)(h2':aF (eI (ag rg) n a')=false)
  (CT:l≠(0,0))(mg:az l a=false)(GY:az l a'=false):∃z,yg (ag rg) n aF z/\(cw a z l=true\/cw a' z l=true):=by
 have key:∀{a a':Pt},a≠(0,0)->a'≠(0,0)->au a a'=true->aF (dA (ag rg) n a)=true->aF (eI (ag rg) n a)=false->aF (dA (ag rg) n a')=true->aF (eI (ag rg) n a')=false->az l a=false->az l a'=false->∃z,yg (ag rg) n aF z/\(cw a z l=true\/cw a' z l=true):=by
  intro a a' ha ha' hlt h1 h2 h1' h2' mg GY;have t1:=iJ CT ha;have t2:=iJ CT ha';rw[mg] at t1;rw[GY] at t2;cases p:au l a
  ·rw[p] at t1;have q:au a l=true:=by revert t1;cases au a l<;>decide
   cases r:au l a'
   ·rw[r] at t2;have q':au a' l=true:=by revert t2;cases au a' l<;>decide
    obtain⟨z,hz,z1,z2⟩:=GX _ a a' ha ha' hlt (ai _) h2 h1';exact⟨z,hz,af (mf.2 (af (ae ⟨z2,q'⟩)))⟩
   ·
    cases hp:aF (PP (ag rg) n)
    ·obtain⟨z,hz,z1⟩:=LJ _ a ha (ai _) hp h1;exact⟨z,hz,ae (mf.2 (af (ae ⟨z1,q⟩)))⟩
    ·obtain⟨z,hz,z1⟩:=SF _ a' ha' (ai _) h2' hp;have fw:=(jV.1 hz.mem).1;exact⟨z,hz,ae (mf.2 (af (af ⟨gZ ha ha' fw hlt z1,q,gZ CT ha' fw r z1⟩)))⟩
  ·
   obtain⟨z,hz,z1,z2⟩:=GX _ a a' ha ha' hlt (ai _) h2 h1';have fw:=(jV.1 hz.mem).1;exact⟨z,hz,af (mf.2 (ae ⟨z2,gZ CT ha ha' p hlt,gZ CT ha fw p z1⟩))⟩
 have t:=iJ ha ha';rw[hne] at t;cases p:au a a'
 ·rw[p] at t;have q:au a' a=true:=by revert t;cases au a' a<;>decide
  obtain⟨z,hz,k⟩:=key ha' ha q h1' h2' h1 h2 GY mg;exact⟨z,hz,k.symm⟩
 ·exact key ha ha' p h1 h2 h1' h2' mg GY
def Tri(P Q R:Int):Prop:=
 (0<P->0<=Q->0<R)/\(0<=P->0<Q->0<R)/\(P=0->Q=0->R=0)/\(P<0->Q<=0->R<0)/\(P<=0->Q<0->R<0)
theorem wG{p q r:Pt}(hp:aS p)(hq:aS q)(hr:aS r):Tri (cr p q) (cr q r) (cr p r):=by
 have a1:=GV hp hq hr;have a2:=GV hr hq hp;rw[bZ p r,bZ q r,bZ p q] at a2;refine⟨a1.1,a1.2.1,a1.2.2,fun h1 h2=>?_,fun h1 h2=>?_⟩
 ·have:=a2.2.1 (by omega) (by omega);omega
 ·have:=a2.1 (by omega) (by omega);omega
def tC(u l l':Pt):Int:=if((cr u l').sign-(cr u l).sign).sign=0 then(cr l l').sign else((cr u l').sign-(cr u l).sign).sign
theorem sg(z:Int):(z<0/\z.sign= -1)\/(z=0/\z.sign=0)\/(0<z/\z.sign=1):=by
 rcases fD z 0 with h|h|h
 ·exact ae ⟨h,Gm h⟩
 ·exact af (ae ⟨h,by rw[h];rfl⟩)
 ·exact af (af ⟨h,pX h⟩)
theorem ado(u l l':Pt):tC u l l'<0↔(cr u l').sign<(cr u l).sign\/((cr u l').sign=(cr u l).sign/\cr l l'<0):=by
 unfold tC;have h1:=sg ((cr u l').sign-(cr u l).sign);have h2:=sg (cr l l');split<;>omega
theorem LK{z w:Pt}(h:az z w=false)(hc:cr z w=0):dt z w<=0:=by
 apply Cr.1;intro h';rw[(dm z w).2 ⟨hc,h'⟩] at h;cases h
theorem CU{a l l':Pt}(ha:a≠(0,0))(hl:l≠(0,0))(hl':l'≠(0,0))(hs:az l a=false)(hs':az l' a=false):tC (neg a) l l'<0↔cw a l l'=true:=by
 rw[ado,mf];have n1:=LK hs;have n2:=LK hs';rw[nY,nY,nY,nY,nY];have e1:cr (neg a) l= -cr a l:=fF a l;have e2:cr (neg a) l'= -cr a l':=fF a l';have s1:=sg (cr (neg a) l);have s2:=sg (cr (neg a) l');rw[e1] at s1⊢;rw[e2] at s2⊢;have w1:=bZ a l;have w2:=bZ a l';have w3:=bZ l l';rw[w1] at n1⊢;rw[w2] at n2⊢;rw[w3];by_cases ra:aS a<;>by_cases rl:aS l<;>by_cases rl':aS l'
 ·have t:=wG ra rl rl';have d1:=kE rl ra;have d2:=kE rl' ra;rw[w1] at d1;rw[w2] at d2;obtain⟨t1,t2,t3,t4,t5⟩:=t;simp only[ra,rl,rl',vW,xM,qE,uk,iff_self];rcases s1 with⟨s1,r1⟩|⟨s1,r1⟩|⟨s1,r1⟩<;>rcases s2 with⟨s2,r2⟩|⟨s2,r2⟩|⟨s2,r2⟩<;>rw[r1,r2]<;>omega
 ·have t:=wG ra rl (gb hl' rl');have d1:=kE rl ra;rw[w1] at d1;rw[fK,fK] at t;obtain⟨t1,t2,t3,t4,t5⟩:=t;simp only[ra,rl,rl',vW,xN,xM,um,ur,qE,uk,uo,Cs,Gp,iff_self];rcases s1 with⟨s1,r1⟩|⟨s1,r1⟩|⟨s1,r1⟩<;>rcases s2 with⟨s2,r2⟩|⟨s2,r2⟩|⟨s2,r2⟩<;>rw[r1,r2]<;>omega
 ·have t:=wG ra (gb hl rl) rl';have d2:=kE rl' ra;rw[w2] at d2;rw[fK,fF] at t;obtain⟨t1,t2,t3,t4,t5⟩:=t;simp only[ra,rl,rl',vW,xN,xM,um,ur,qE,uk,uo,Cs,Gp,iff_self];rcases s1 with⟨s1,r1⟩|⟨s1,r1⟩|⟨s1,r1⟩<;>rcases s2 with⟨s2,r2⟩|⟨s2,r2⟩|⟨s2,r2⟩<;>rw[r1,r2]<;>omega
 ·have t:=wG ra (gb hl rl) (gb hl' rl');rw[fK,fF,fK,fK] at t;obtain⟨t1,t2,t3,t4,t5⟩:=t;simp only[ra,rl,rl',vW,xN,xM,um,ur,qE,uk,uo,Cs,Gp,iff_self];rcases s1 with⟨s1,r1⟩|⟨s1,r1⟩|⟨s1,r1⟩<;>rcases s2 with⟨s2,r2⟩|⟨s2,r2⟩|⟨s2,r2⟩<;>rw[r1,r2]<;>omega
 ·have t:=wG (gb ha ra) rl rl';rw[fF,fF] at t;obtain⟨t1,t2,t3,t4,t5⟩:=t;simp only[ra,rl,rl',vW,xN,xM,um,ur,qE,uk,uo,Cs,Gp,iff_self];rcases s1 with⟨s1,r1⟩|⟨s1,r1⟩|⟨s1,r1⟩<;>rcases s2 with⟨s2,r2⟩|⟨s2,r2⟩|⟨s2,r2⟩<;>rw[r1,r2]<;>omega
 ·have t:=wG (gb ha ra) rl (gb hl' rl');have d2:=kE (gb hl' rl') (gb ha ra);rw[fF,fK,w2,r7,lF] at d2;rw[fF,fK,fF,fK] at t;obtain⟨t1,t2,t3,t4,t5⟩:=t;simp only[ra,rl,rl',vW,xN,xM,um,ur,qE,uk,uo,Cs,Gp,iff_self];rcases s1 with⟨s1,r1⟩|⟨s1,r1⟩|⟨s1,r1⟩<;>rcases s2 with⟨s2,r2⟩|⟨s2,r2⟩|⟨s2,r2⟩<;>rw[r1,r2]<;>omega
 ·have t:=wG (gb ha ra) (gb hl rl) rl';have d1:=kE (gb hl rl) (gb ha ra);rw[fF,fK,w1,r7,lF] at d1;rw[fF,fK,fF,fF] at t;obtain⟨t1,t2,t3,t4,t5⟩:=t;simp only[ra,rl,rl',vW,xN,xM,um,ur,qE,uk,uo,Cs,Gp,iff_self];rcases s1 with⟨s1,r1⟩|⟨s1,r1⟩|⟨s1,r1⟩<;>rcases s2 with⟨s2,r2⟩|⟨s2,r2⟩|⟨s2,r2⟩<;>rw[r1,r2]<;>omega
 ·have t:=wG (gb ha ra) (gb hl rl) (gb hl' rl');have d1:=kE (gb hl rl) (gb ha ra);rw[fF,fK,w1,r7,lF] at d1;have d2:=kE (gb hl' rl') (gb ha ra);rw[fF,fK,w2,r7,lF] at d2;rw[fF,fK,fF,fK,fF,fK] at t;obtain⟨t1,t2,t3,t4,t5⟩:=t;simp only[ra,rl,rl',xN,ur,qE,uk,iff_self];rcases s1 with⟨s1,r1⟩|⟨s1,r1⟩|⟨s1,r1⟩<;>rcases s2 with⟨s2,r2⟩|⟨s2,r2⟩|⟨s2,r2⟩<;>rw[r1,r2]<;>omega
end Go.Proofs.YtkjhhooecopolaaGreatDoor.Ga
namespace Go.Proofs.YtkjhhooecopolaaGreatDoor.Gb
open Ge Ga
abbrev Sg:=Pt×Pt
def n1(a:Pt):N3:=(a.1,a.2,1)
def dr(s:Sg):Pt:=(s.2.1-s.1.1,s.2.2-s.1.2)
def rv(s:Sg):Sg:=(s.2,s.1)
theorem eo(a z:Pt):rl (n1 a) z=dr (a,z):=by unfold rl rel n1 dr;simp
theorem ny(a b:Pt):wv (n1 a) (n1 b)=dr (a,b):=by unfold wv n1 dr;simp
theorem yi(s:Sg):dr (rv s)=neg (dr s):=by unfold dr rv neg;exact eB (by simp only;omega) (by simp only;omega)
theorem qK{s:Sg}:dr s=(0,0)↔s.1=s.2:=by
 unfold dr;constructor
 ·intro h;have h1:=aw Prod.fst h;have h2:=aw Prod.snd h;simp only at h1 h2;exact eB (by omega) (by omega)
 ·intro h;rw[h];exact eB (by simp) (by simp)
structure Pf(s u:Sg):Prop where
 fs:jU (n1 s.1) (n1 s.2) (dr s) u.1 u.2
 c1:nu (n1 s.1) (n1 s.2) (dr s) u.1
 c2:nu (n1 s.1) (n1 s.2) (dr s) u.2
theorem adp{f t:N3}{D u v:Pt}(h:jU f t D u v):jU f t D v u:=by
 refine⟨fun x y z=>?_,fun x y z=>?_⟩
 ·have:=h.2 x y z;rw[bZ (rl f u) (rl f v),bZ (rl t u) (rl t v)];omega
 ·have:=h.1 x y z;rw[bZ (rl f u) (rl f v),bZ (rl t u) (rl t v)];omega
theorem Pf.rv{s u:Sg}(h:Pf s u):Pf s (rv u):=⟨adp h.fs,h.c2,h.c1⟩
structure Wd(S:List Sg)(nx:Sg->Sg):Prop where
 ne:∀s∈S,s.1≠s.2
 pf:∀s∈S,∀u∈S,(aS (dr s)->Pf s u)/\(¬aS (dr s)->Pf (rv s) u)
 SJ:∀s∈S,∀u∈S,on (dr (s.1,u.1)) (dr (s.1,u.2))=true->s.1=u.1\/s.1=u.2
 LM:∀s∈S,∀u∈S,on (dr (s.2,u.1)) (dr (s.2,u.2))=true->s.2=u.1\/s.2=u.2
 one:∀s∈S,∀u∈S,s.1=u.1->az (dr s) (dr u)=true->s=u
 one':∀s∈S,∀u∈S,s.2=u.2->az (dr s) (dr u)=true->s=u
 two:∀s∈S,∀u∈S,s.1=u.2->az (dr s) (neg (dr u))=false
 Ah:∀s∈S,nx s∈S/\(nx s).1=s.2
 inj:∀s∈S,∀u∈S,nx s=nx u->s=u
 w1:∀s∈S,∀u∈S,u.1=s.2->cw (neg (dr s)) (dr u) (dr (nx s))=false
 w2:∀s∈S,∀u∈S,u.2=s.2->cw (neg (dr s)) (neg (dr u)) (dr (nx s))=false
def Cl(es:List Sg):Prop:=∃rg,ag rg=es
def In(S es:List Sg):Prop:=∀e∈es,e∈S\/rv e∈S
def Lf(es:List Sg)(s:Sg):Int:=eI es (n1 s.1) (dr s)
def Rt(es:List Sg)(s:Sg):Int:=dA es (n1 s.1) (dr s)
section
variable{S:List Sg}{nx:Sg->Sg}{es:List Sg}
theorem Wd.ia(h:Wd S nx){s:Sg}(hs:s∈S):dr s≠(0,0):=fun e=>h.ne s hs (qK.1 e)
theorem Wd.pj(h:Wd S nx)(hi:In S es){s:Sg}(hs:s∈S):(aS (dr s)->uB es (n1 s.1) (n1 s.2))/\(¬aS (dr s)->uB es (n1 s.2) (n1 s.1)):=by
 refine⟨fun hr=>?_,fun hr=>?_⟩
 ·have hp:∀e∈es,Pf s e:=fun e he=>by
   rcases hi e he with k|k
   ·exact(h.pf s hs e k).1 hr
   ·exact((h.pf s hs _ k).1 hr).rv
  exact⟨by show(0:Int)<1;decide,by show(0:Int)<1;decide,by rw[ny];exact hr,fun e he=>by rw[ny];exact(hp e he).fs,fun e he=>by rw[ny];exact⟨(hp e he).c1,(hp e he).c2⟩⟩
 ·have hp:∀e∈es,Pf (rv s) e:=fun e he=>by
   rcases hi e he with k|k
   ·exact(h.pf s hs e k).2 hr
   ·exact((h.pf s hs _ k).2 hr).rv
  have hr':aS (dr (rv s)):=by rw[yi];exact gb (h.ia hs) hr
  exact⟨by show(0:Int)<1;decide,by show(0:Int)<1;decide,by rw[ny];exact hr',fun e he=>by rw[ny];exact(hp e he).fs,fun e he=>by rw[ny];exact⟨(hp e he).c1,(hp e he).c2⟩⟩
theorem Wd.at_end(h:Wd S nx)(hc:Cl es)(hi:In S es){s:Sg}(hs:s∈S):Lf es s=dA es (n1 s.2) (neg (dr s))/\Rt es s=eI es (n1 s.2) (neg (dr s)):=by
 obtain⟨h1,h2⟩:=h.pj hi hs;obtain⟨rg,rfl⟩:=hc;by_cases hr:aS (dr s)
 ·have a:=wF (h1 hr);have b:=CS (h1 hr);rw[ny] at a b;unfold Lf Rt;have e:dr (s.1,s.2)=dr s:=rfl;rw[e] at a b;exact⟨a.2.symm.trans b.2,a.1.symm.trans b.1⟩
 ·have a:=wF (h2 hr);have b:=CS (h2 hr);rw[ny] at a b;have e:dr (s.2,s.1)=neg (dr s):=yi s;rw[e] at a b;rw[neg_neg] at b;unfold Lf Rt;exact⟨b.1.symm.trans a.1,b.2.symm.trans a.2⟩
theorem Wd.arm(h:Wd S nx)(hi:In S es){s:Sg}(hs:s∈S){z:Pt}(hz:z∈arms es (n1 s.2)):∃u∈S,(u.1=s.2/\z=dr u)\/(u.2=s.2/\z=neg (dr u)):=by
 obtain⟨hz0,e,he,ho,uC⟩:=jV.1 hz;rw[eo,eo] at ho uC;have key:∀u∈S,on (dr (s.2,u.1)) (dr (s.2,u.2))=true->(z=dr (s.2,u.1)\/z=dr (s.2,u.2))->∃u∈S,(u.1=s.2/\z=dr u)\/(u.2=s.2/\z=neg (dr u)):=fun u hu nr SK=>by
  rcases h.LM s hs u hu nr with k|k
  ·rcases SK with q|q
   ·rw[k] at q;exact absurd (q.trans (qK.2 rfl)) hz0
   ·exact⟨u,hu,ae ⟨k.symm,by rw[q,k]⟩⟩
  ·rcases SK with q|q
   ·exact⟨u,hu,af ⟨k.symm,by rw[q,k,<-yi];rfl⟩⟩
   ·rw[k] at q;exact absurd (q.trans (qK.2 rfl)) hz0
 rcases hi e he with k|k
 ·exact key e k ho uC
 ·exact key (rv e) k (by rw[wE];exact ho) uC.symm
theorem adq{n:N3}(hc:Cl es){a l:Pt}(ha:a≠(0,0))(hl:l≠(0,0))(hs:az l a=false)(hw:∀z∈arms es n,cw a z l=false):eI es n l=dA es n a:=by
 have ht:=iJ hl ha;rw[hs] at ht;by_cases mg:au l a=true
 ·refine LI hl ha mg fun z hz=>?_
  cases hb:mb l a z
  ·rfl
  ·have k:=hw z hz;obtain⟨k1,k2⟩:=Ag.1 hb;have:cw a z l=true:=mf.2 (ae ⟨k2,mg,k1⟩);rw[this] at k;cases k
 ·have hal:au a l=true:=by
   cases hk:au a l
   ·cases hk2:au l a
    ·rw[hk,hk2] at ht;simp[bb] at ht
    ·exact absurd hk2 mg
   ·rfl
  have z1:∀z∈arms es n,au z a=false:=fun z hz=>by
   cases hb:au z a
   ·rfl
   ·have:cw a z l=true:=mf.2 (af (ae ⟨hb,hal⟩));rw[hw z hz] at this;cases this
  have z2:∀z∈arms es n,au l z=false:=fun z hz=>by
   cases hb:au l z
   ·rfl
   ·have:cw a z l=true:=mf.2 (af (af ⟨gZ ha hl (jV.1 hz).1 hal hb,hal,hb⟩));rw[hw z hz] at this;cases this
  have e1:AS es n (fun z=>nz z&&au z a)=0:=by
   rw[Af (Q':=fun _=>false) (by simp[nz]) (fun z hz=>by rw[z1 z hz];simp),LH]
  have e2:AS es n (fun z=>nz z&&au z l)+AS es n (fun z=>az z l)=0:=by
   obtain⟨rg,rfl⟩:=hc;rw[<-LC rg n,<-CQ (Q:=fun z=>(nz z&&au z l)||az z l)]
   ·refine(Af ?_ fun z hz=>?_)
    ·simp[nz,Aa]
    ·have hz0:=(jV.1 hz).1;have t:=iJ hz0 hl;rw[z2 z hz] at t;have hn:nz z=true:=by unfold nz;simpa using hz0
     rw[hn];cases h1:au z l<;>cases h2:az z l<;>rw[h1,h2] at t<;>simp[bb] at t⊢
   ·intro z;by_cases hz0:z=(0,0)
    ·subst hz0;simp[nz,Aa,bb]
    ·have t:=iJ hz0 hl;have hn:nz z=true:=by unfold nz;simpa using hz0
     simp only[hn,Gn];cases h1:au z l<;>cases h2:az z l<;>cases h3:au l z<;>rw[h1,h2,h3] at t<;>simp[bb] at t⊢
  unfold eI dA;omega
theorem Wd.const(h:Wd S nx)(hc:Cl es)(hi:In S es){s:Sg}(hs:s∈S):Lf es (nx s)=Lf es s:=by
 obtain⟨hn,mh⟩:=h.Ah s hs;rw[(h.at_end hc hi hs).1];show eI es (n1 (nx s).1) (dr (nx s))=_;rw[mh];refine adq hc (jI (h.ia hs)) (h.ia hn) (h.two _ hn _ hs mh) fun z hz=>?_
 obtain⟨u,hu,⟨k,rfl⟩|⟨k,rfl⟩⟩:=h.arm hi hs hz
 ·exact h.w1 s hs u hu k
 ·exact h.w2 s hs u hu k
def it(nx:Sg->Sg):Nat->Sg->Sg
 |0,s=>s
 |k+1,s=>nx (it nx k s)
def CV(nx:Sg->Sg)(s u:Sg):Prop:=∃k,it nx k s=u
theorem Wd.nZ(h:Wd S nx){s:Sg}(hs:s∈S):∀k,it nx k s∈S
 |0=>hs
 |k+1=>(h.Ah _ (h.nZ hs k)).1
theorem Wd.along(h:Wd S nx)(hc:Cl es)(hi:In S es){s u:Sg}(hs:s∈S)(hw:CV nx s u):Lf es u=Lf es s:=by
 obtain⟨k,rfl⟩:=hw;induction k with
 |zero=>rfl
 |succ k ih=>exact(h.const hc hi (h.nZ hs k)).trans ih
end
end Go.Proofs.YtkjhhooecopolaaGreatDoor.Gb
