import Derived.Test.YtkjhhooecopolaaGreatDoorWz19
set_option maxRecDepth 100000
set_option maxHeartbeats 4000000
namespace Go.Proofs.YtkjhhooecopolaaGreatDoor.Gb
open Ge Ga
def aa:List Nd->Int
 |[]=>1
 |n::l=>n.2.2*aa l
theorem VL:∀{l:List Nd},(∀n∈l,0<n.2.2)->0<aa l
 |[],_=>by show(0:Int)<1;decide
 |n::l,h=>aR (h n (by simp)) (VL fun m hm=>h m (aT _ hm))
theorem VM:∀{l:List Nd}{n:Nd},n∈l->n.2.2∣aa l
 |[],_,h=>by simp at h
 |m::l,n,h=>by
  rcases aP.1 h with e|e
  ·rw[e];exact⟨aa l,rfl⟩
  ·exact BH (VM e) ⟨m.2.2,dX _ _⟩
def PM(M:Int)(n:Nd):Pt:=(n.1*(M/n.2.2),n.2.1*(M/n.2.2))
theorem D5{M:Int}(hM:0<M){n:Nd}(hn:0<n.2.2)(hd:n.2.2∣M):∃k,0<k/\n.2.2*k=M/\PM M n=(n.1*k,n.2.1*k):=by
 obtain⟨k,e⟩:=hd;have hk:M/n.2.2=k:=by rw[e];exact Int.mul_ediv_cancel_left k (by omega)
 refine⟨k,?_,e.symm,by unfold PM;rw[hk]⟩
 exact(aQ hn).1 (by omega)
def Pm(u v:Pt):Prop:=∃p q:Int,0<p/\0<q/\p*u.1=q*v.1/\p*u.2=q*v.2
theorem iJ{p q x y:Int}(hp:0<p)(hq:0<q)(h:p*x=q*y):(0<x↔0<y)/\(x<0↔y<0)/\(x=0↔y=0):=by
 have a:=aQ (z:=x) hp;have b:=aQ (z:=y) hq;have c:=neg_mul (z:=x) hp;have d:=neg_mul (z:=y) hq;have e:=dE (z:=x) hp;have f:=dE (z:=y) hq;rw[h] at a c e;exact⟨a.symm.trans b,c.symm.trans d,e.symm.trans f⟩
theorem Pm.cr{u u' v v':Pt}(h:Pm u u')(k:Pm v v'):(0<Ge.cr u v↔0<Ge.cr u' v')/\(Ge.cr u v<0↔Ge.cr u' v'<0)/\(Ge.cr u v=0↔Ge.cr u' v'=0):=by
 obtain⟨p,q,hp,hq,e1,e2⟩:=h;obtain⟨r,s,hr,hs,e3,e4⟩:=k;refine iJ (p:=p*r) (q:=q*s) (aR hp hr) (aR hq hs) ?_;have a:p*r*Ge.cr u v=(p*u.1)*(r*v.2)-(p*u.2)*(r*v.1):=by unfold Ge.cr;grind
 rw[a,e1,e2,e3,e4];unfold Ge.cr
 grind
theorem Pm.dt{u u' v v':Pt}(h:Pm u u')(k:Pm v v'):(0<Ge.dt u v↔0<Ge.dt u' v')/\(Ge.dt u v<0↔Ge.dt u' v'<0)/\(Ge.dt u v=0↔Ge.dt u' v'=0):=by
 obtain⟨p,q,hp,hq,e1,e2⟩:=h;obtain⟨r,s,hr,hs,e3,e4⟩:=k;refine iJ (p:=p*r) (q:=q*s) (aR hp hr) (aR hq hs) ?_;have a:p*r*Ge.dt u v=(p*u.1)*(r*v.1)+(p*u.2)*(r*v.2):=by unfold Ge.dt;grind
 rw[a,e1,e2,e3,e4];unfold Ge.dt
 grind
theorem Pm.neg{u v:Pt}(h:Pm u v):Pm (Ga.neg u) (Ga.neg v):=by
 obtain⟨p,q,hp,hq,e1,e2⟩:=h;refine⟨p,q,hp,hq,?_,?_⟩
 ·show p*(-u.1)=q*(-v.1);rw[wU,wU,e1]
 ·show p*(-u.2)=q*(-v.2);rw[wU,wU,e2]
theorem Pm.aJ{u v:Pt}(h:Pm u v):Ga.aJ u↔Ga.aJ v:=by
 obtain⟨p,q,hp,hq,e1,e2⟩:=h;have a:=iJ hp hq e1;have b:=iJ hp hq e2;unfold Ga.aJ;omega
theorem Pm.zero{u v:Pt}(h:Pm u v):u=(0,0)↔v=(0,0):=by
 obtain⟨p,q,hp,hq,e1,e2⟩:=h;have a:=iJ hp hq e1;have b:=iJ hp hq e2;rw[Prod.ext_iff,Prod.ext_iff];simp only;omega
theorem Pm.ai{u u' v v':Pt}(h:Pm u u')(k:Pm v v'):Ga.ai u v=Ga.ai u' v':=by
 refine lg.2 ?_;rw[bA,bA,(h.cr k).2.2,(h.dt k).1]
theorem Pm.ak{u u' v v':Pt}(h:Pm u u')(k:Pm v v'):Ga.ak u v=Ga.ak u' v':=by
 refine lg.2 ?_;rw[kI,kI,h.aJ,k.aJ,(h.cr k).1]
theorem Pm.cw{a a' u u' v v':Pt}(g:Pm a a')(h:Pm u u')(k:Pm v v'):Ga.cw a u v=Ga.cw a' u' v':=by
 unfold Ga.cw;rw[h.ak g,k.ak g,k.ak h,g.ak k,g.ak h]
theorem Pm.on{u u' v v':Pt}(h:Pm u u')(k:Pm v v'):Ge.on u v=Ge.on u' v':=by
 refine lg.2 ?_;rw[jt,jt,(h.cr k).2.2];have:=(h.dt k).1;constructor<;>(rintro⟨x,y⟩;exact⟨x,by omega⟩)
theorem Pm.symm{u v:Pt}(h:Pm u v):Pm v u:=by
 obtain⟨p,q,hp,hq,e1,e2⟩:=h;exact⟨q,p,hq,hp,e1.symm,e2.symm⟩
section
variable{M:Int}
structure OK(M:Int)(n:Nd):Prop where
 p:0<n.2.2
 d:n.2.2∣M
theorem VO(x:Pt):0<=dt x x:=by
 by_cases h:x=(0,0)
 ·rw[h];decide
 ·have:=cP h;omega
theorem fO(hM:0<M){a b:Nd}(ha:OK M a)(hb:OK M b):Pm (dr (PM M a,PM M b)) (wv a b):=by
 obtain⟨k,hk,e,e1⟩:=D5 hM ha.p ha.d;obtain⟨j,hj,f,f1⟩:=D5 hM hb.p hb.d;refine⟨a.2.2*b.2.2,M,aR ha.p hb.p,hM,?_,?_⟩
 ·rw[e1,f1];show a.2.2*b.2.2*(b.1*j-a.1*k)=M*(a.2.2*b.1-b.2.2*a.1);have:a.2.2*b.2.2*(b.1*j-a.1*k)=a.2.2*b.1*(b.2.2*j)-b.2.2*a.1*(a.2.2*k):=by grind
  rw[this,e,f]
  grind
 ·rw[e1,f1];show a.2.2*b.2.2*(b.2.1*j-a.2.1*k)=M*(a.2.2*b.2.1-b.2.2*a.2.1);have:a.2.2*b.2.2*(b.2.1*j-a.2.1*k)=a.2.2*b.2.1*(b.2.2*j)-b.2.2*a.2.1*(a.2.2*k):=by grind
  rw[this,e,f]
  grind
def aD(M:Int)(u:Pt):Pt:=(M*u.1,M*u.2)
theorem IZ(hM:0<M){a:Nd}(ha:OK M a):∃k,0<k/\∀u,dr (PM M a,aD M u)=Ga.sc k (rl a u):=by
 obtain⟨k,hk,e,e1⟩:=D5 hM ha.p ha.d;refine⟨k,hk,fun u=>?_⟩
 rw[e1];unfold dr aD Ga.sc rl rel;refine bX ?_ ?_
 ·show M*u.1-a.1*k=k*(a.2.2*u.1-a.1);rw[<-e];grind
 ·show M*u.2-a.2.1*k=k*(a.2.2*u.2-a.2.1);rw[<-e];grind
theorem uz{k:Int}(hk:0<k)(u:Pt):Pm (Ga.sc k u) u:=⟨1,k,by decide,hk,by unfold Ga.sc;simp,by unfold Ga.sc;simp⟩
theorem D6(u:Pt):Pm u u:=⟨1,1,by decide,by decide,rfl,rfl⟩
theorem I0{p q x y x' y':Int}(hp:0<p)(hq:0<q)(h:p*x=q*x')(k:p*y=q*y'):x<y↔x'<y':=by
 have:=(iJ hp hq (x:=y-x) (y:=y'-x') (by rw[mI,mI,h,k])).1
 omega
theorem VQ(hM:0<M){f t:Nd}(hf:OK M f)(ht:OK M t){u v:Pt}(h:jS f t (wv f t) u v):jS (n1 (PM M f)) (n1 (PM M t)) (dr (PM M f,PM M t)) (aD M u) (aD M v):=by
 obtain⟨k,hk,ek⟩:=IZ hM hf;obtain⟨j,hj,ej⟩:=IZ hM ht;obtain⟨p,q,hp,hq,e1,e2⟩:=fO hM hf ht;have hl:∀z,p*lam (dr (PM M f,PM M t)) (n1 (PM M f)) (aD M z)=(q*k)*lam (wv f t) f z:=fun z=>by
  unfold lam;rw[cd,ek];have:p*cr (dr (PM M f,PM M t)) (Ga.sc k (rl f z))=k*((p*(dr (PM M f,PM M t)).1)*(rl f z).2-(p*(dr (PM M f,PM M t)).2)*(rl f z).1):=by unfold cr Ga.sc;grind
  rw[this,e1,e2];unfold cr
  grind
 have I1:0<q*k:=aR hq hk;have su:=iJ hp I1 (hl u);have sv:=iJ hp I1 (hl v);have l1:=I0 hp I1 (hl u) (hl v);have l2:=I0 hp I1 (hl v) (hl u);have c1:=(uz hk (rl f u)).cr (uz hk (rl f v));have c2:=(uz hj (rl t u)).cr (uz hj (rl t v));rw[<-ek,<-ek] at c1;rw[<-ej,<-ej] at c2;unfold jS at h⊢;rw[cd,cd,cd,cd];omega
theorem aga{F T D u v A B:Pt}{N α β:Int}(hN:0<N)(ha0:0<=α)(MN:α<=N)(hb0:0<=β)(uu:β<=N)(a1:N*(A.1-u.1)=α*(v.1-u.1))(a2:N*(A.2-u.2)=α*(v.2-u.2))(b1:N*(B.1-u.1)=β*(v.1-u.1))(b2:N*(B.2-u.2)=β*(v.2-u.2))
  (h:jS (n1 F) (n1 T) D u v):jS (n1 F) (n1 T) D A B:=by
 have la:N*lam D (n1 F) A=(N-α)*lam D (n1 F) u+α*lam D (n1 F) v:=by
  unfold lam;rw[cd,cd,cd];unfold cr dr;simp only;have:N*(D.1*(A.2-F.2)-D.2*(A.1-F.1))=D.1*(N*(A.2-u.2)+N*(u.2-F.2))-D.2*(N*(A.1-u.1)+N*(u.1-F.1)):=by grind
  rw[this,a1,a2];grind
 have lb:N*lam D (n1 F) B=(N-β)*lam D (n1 F) u+β*lam D (n1 F) v:=by
  unfold lam;rw[cd,cd,cd];unfold cr dr;simp only;have:N*(D.1*(B.2-F.2)-D.2*(B.1-F.1))=D.1*(N*(B.2-u.2)+N*(u.2-F.2))-D.2*(N*(B.1-u.1)+N*(u.1-F.1)):=by grind
  rw[this,b1,b2];grind
 have cc:∀G:Pt,N*N*cr (dr (G,A)) (dr (G,B))=N*((β-α)*cr (dr (G,u)) (dr (G,v))):=fun G=>by
  unfold cr dr;simp only;have:N*N*((A.1-G.1)*(B.2-G.2)-(A.2-G.2)*(B.1-G.1))=(N*(A.1-u.1)+N*(u.1-G.1))*(N*(B.2-u.2)+N*(u.2-G.2))-(N*(A.2-u.2)+N*(u.2-G.2))*(N*(B.1-u.1)+N*(u.1-G.1)):=by grind
  rw[this,a1,a2,b1,b2];grind
 have cF:=iJ (aR hN hN) hN (cc F);have cT:=iJ (aR hN hN) hN (cc T);unfold jS at h⊢;rw[cd,cd,cd,cd] at h⊢;generalize lam D (n1 F) u=lu at*;generalize lam D (n1 F) v=lv at*;generalize lam D (n1 F) A=lA at*;generalize lam D (n1 F) B=lB at*;generalize cr (dr (F,A)) (dr (F,B))=X at*;generalize cr (dr (T,A)) (dr (T,B))=Y at*;generalize cr (dr (F,u)) (dr (F,v))=x at*;generalize cr (dr (T,u)) (dr (T,v))=y at*;have key:∀{α β lA lB X Y:Int},0<=α->α<=N->0<=β->β<=N->N*lA=(N-α)*lu+α*lv->N*lB=(N-β)*lu+β*lv->((0<X↔0<(β-α)*x)/\(X<0↔(β-α)*x<0)/\(X=0↔(β-α)*x=0))->((0<Y↔0<(β-α)*y)/\(Y<0↔(β-α)*y<0)/\(Y=0↔(β-α)*y=0))->lA<=0->0<=lB->lA<lB->X<=0\/0<=Y:=by
  intro α β lA lB X Y ha0 MN hb0 uu la lb cF cT h1 h2 h3;have hd:N*(lB-lA)=(β-α)*(lv-lu):=by rw[mI,la,lb];grind
  have hpos:0<(β-α)*(lv-lu):=by rw[<-hd];exact aR hN (by omega)
  rcases eK α β with q|q|q
  ·have hvu:0<lv-lu:=(aQ (show 0<β-α by omega)).1 hpos
   have e1:N*(lA-lu)=α*(lv-lu):=by rw[mI,la];grind
   have e2:N*(lv-lB)=(N-β)*(lv-lu):=by rw[mI,lb];grind
   have g1:0<=α*(lv-lu):=iN ha0 (by omega)
   have g2:0<=(N-β)*(lv-lu):=iN (by omega) (by omega)
   have n1:¬lA-lu<0:=fun w=>by have:=(neg_mul (z:=lA-lu) hN).2 w;omega
   have n2:¬lv-lB<0:=fun w=>by have:=(neg_mul (z:=lv-lB) hN).2 w;omega
   have r:=h.1 (by omega) (by omega) (by omega)
   have px:=aQ (z:=x) (show 0<β-α by omega)
   have py:=neg_mul (z:=y) (show 0<β-α by omega)
   omega
  ·subst q;simp at hpos
  ·have hvu:lv-lu<0:=by
    have e:(β-α)*(lv-lu)=(α-β)*(lu-lv):=by grind
    rw[e] at hpos;have:=(aQ (show 0<α-β by omega)).1 hpos
    omega
   have e1:N*(lA-lv)=(N-α)*(lu-lv):=by rw[mI,la];grind
   have e2:N*(lu-lB)=β*(lu-lv):=by rw[mI,lb];grind
   have g1:0<=(N-α)*(lu-lv):=iN (by omega) (by omega)
   have g2:0<=β*(lu-lv):=iN hb0 (by omega)
   have n1:¬lA-lv<0:=fun w=>by have:=(neg_mul (z:=lA-lv) hN).2 w;omega
   have n2:¬lu-lB<0:=fun w=>by have:=(neg_mul (z:=lu-lB) hN).2 w;omega
   have r:=h.2 (by omega) (by omega) (by omega)
   have ex:(β-α)*x= -((α-β)*x):=by grind
   have ey:(β-α)*y= -((α-β)*y):=by grind
   have px:=neg_mul (z:=x) (show 0<α-β by omega)
   have py:=aQ (z:=y) (show 0<α-β by omega)
   omega
 refine⟨fun h1 h2 h3=>key ha0 MN hb0 uu la lb cF cT h1 h2 h3,fun h1 h2 h3=>?_⟩
 have e1:∀z:Int,(α-β)*z= -((β-α)*z):=fun z=>by grind
 have r:=key (X:= -X) (Y:= -Y) hb0 uu ha0 MN lb la (by rw[e1];omega) (by rw[e1];omega) h1 h2 h3
 omega
theorem VS(hM:0<M){a:Nd}(ha:OK M a){e:Pt×Pt}(_hne:e.1≠e.2)(ho:on (rl a e.1) (rl a e.2)=true):∃α,0<=α/\α<=dt (dr (aD M e.1,aD M e.2)) (dr (aD M e.1,aD M e.2))/\
  dt (dr (aD M e.1,aD M e.2)) (dr (aD M e.1,aD M e.2))*((PM M a).1-(aD M e.1).1)=α*((aD M e.2).1-(aD M e.1).1)/\dt (dr (aD M e.1,aD M e.2)) (dr (aD M e.1,aD M e.2))*((PM M a).2-(aD M e.1).2)=α*((aD M e.2).2-(aD M e.1).2):=by
 obtain⟨k,hk,ek⟩:=IZ hM ha;have ho':on (dr (PM M a,aD M e.1)) (dr (PM M a,aD M e.2))=true:=by
  rw[ek,ek,(uz hk _).on (uz hk _)];exact ho
 rw[jt] at ho';obtain⟨h1,h2⟩:=ho';generalize PM M a=A at*;generalize aD M e.1=u at*;generalize aD M e.2=v at*;refine⟨dt (dr (u,v)) (dr (u,A)),?_,?_,?_,?_⟩
 ·have:dt (dr (u,v)) (dr (u,A))=dt (dr (A,u)) (dr (A,u))-dt (dr (A,u)) (dr (A,v)):=by unfold dt dr;grind
  have s:=VO (dr (A,u));omega
 ·have:dt (dr (u,v)) (dr (u,v))-dt (dr (u,v)) (dr (u,A))=dt (dr (A,v)) (dr (A,v))-dt (dr (A,u)) (dr (A,v)):=by unfold dt dr;grind
  have s:=VO (dr (A,v));omega
 ·have c:cr (dr (u,v)) (dr (u,A))=0:=by
   have:cr (dr (u,v)) (dr (u,A))=cr (dr (A,u)) (dr (A,v)):=by unfold cr dr;grind
   omega
  have:dt (dr (u,v)) (dr (u,v))*(A.1-u.1)=dt (dr (u,v)) (dr (u,A))*(v.1-u.1)-cr (dr (u,v)) (dr (u,A))*(v.2-u.2):=by unfold dt cr dr;grind
  rw[this,c];simp
 ·have c:cr (dr (u,v)) (dr (u,A))=0:=by
   have:cr (dr (u,v)) (dr (u,A))=cr (dr (A,u)) (dr (A,v)):=by unfold cr dr;grind
   omega
  have:dt (dr (u,v)) (dr (u,v))*(A.2-u.2)=dt (dr (u,v)) (dr (u,A))*(v.2-u.2)+cr (dr (u,v)) (dr (u,A))*(v.1-u.1):=by unfold dt cr dr;grind
  rw[this,c];simp
end
theorem MO{es:List (Pt×Pt)}{l:List Nd}{M:Int}(hM:0<M)(hO:∀n∈l,OK M n)(hN:bC es l){f t a b:Nd}(h:cL es l f t)(h':cL es l a b\/cL es l b a):Pf (PM M f,PM M t) (PM M a,PM M b):=by
 obtain⟨hfl,htl,hr⟩:=h.facts hN;obtain⟨_,hal,hbl⟩:=eF hN h';have hP:=h.kK hN;have cc:∀n∈l,mJ (n1 (PM M f)) (n1 (PM M t)) (dr (PM M f,PM M t)) (PM M n):=fun n hn hl=>by
  have p0:=fO hM (hO f hfl) (hO t htl);have p1:=fO hM (hO f hfl) (hO n hn);have p2:=fO hM (hO n hn) (hO t htl);unfold lam at hl;rw[cd] at hl⊢;rw[cd];have c1:=((p0.cr p1).2.2).1 hl;apply fV;intro hk;have k1:0<dt (dr (PM M f,PM M t)) (dr (PM M f,PM M n)):=by omega
  have k2:0<dt (dr (PM M f,PM M t)) (dr (PM M n,PM M t)):=by
   have e:dr (PM M t,PM M n)=neg (dr (PM M n,PM M t)):=jT (PM M n,PM M t);rw[e,ju] at hk;omega
  have c2:cr (wv f t) (wv n t)=0:=by
   refine((p0.cr p2).2.2).1 ?_;have:cr (dr (PM M f,PM M t)) (dr (PM M n,PM M t))= -cr (dr (PM M f,PM M t)) (dr (PM M f,PM M n)):=by unfold cr dr;grind
   omega
  exact h.gap hN hn ⟨kQ hr c1 ((p0.dt p1).1.1 k1),kQ hr c2 ((p0.dt p2).1.1 k2)⟩
 refine⟨?_,cc a hal,cc b hbl⟩;obtain⟨e,he,hea,heb⟩:∃e∈es,on (rl a e.1) (rl a e.2)=true/\on (rl b e.1) (rl b e.2)=true:=by
  rcases h' with⟨e,he,hq⟩|⟨e,he,hq⟩
  ·have:=qK hq;exact⟨e,he,(ic.1 this.1).2,(ic.1 this.2).2⟩
  ·have:=qK hq;exact⟨e,he,(ic.1 this.2).2,(ic.1 this.1).2⟩
 have hne:=hN.ne e he;obtain⟨α,q1,q2,q3,q4⟩:=VS hM (hO a hal) hne hea;obtain⟨β,r1,r2,r3,r4⟩:=VS hM (hO b hbl) hne heb;refine aga ?_ q1 q2 r1 r2 q3 q4 r3 r4 (VQ hM (hO f hfl) (hO t htl) (hP.s e he));refine cP fun e0=>hne ?_
 have:=gS.1 e0;unfold aD at this;have x1:=au Prod.fst this;have x2:=au Prod.snd this;simp only at x1 x2;exact bX (yZ (by omega) x1) (yZ (by omega) x2)
end Go.Proofs.YtkjhhooecopolaaGreatDoor.Gb
namespace Go.Proofs.YtkjhhooecopolaaGreatDoor.Ga
open Ge
def bV{α:Type}(w:α->Int)(p:α->Bool)(l:List α):Int:=(l.map fun x=>if p x then w x else 0).sum
theorem qL{α:Type}(w:α->Int)(p:α->Bool)(x:α)(l:List α):bV w p (x::l)=(if p x then w x else 0)+bV w p l:=by simp[bV]
theorem yl{α:Type}(w:α->Int){p:α->Bool}:∀{l:List α},(∀x∈l,p x=false)->bV w p l=0
 |[],_=>rfl
 |x::l,h=>by rw[qL,h x (by simp),yl w fun y hy=>h y (aT _ hy)];rfl
theorem I2{α:Type}(w:α->Int){p q:α->Bool}:∀{l:List α},(∀x∈l,p x=q x)->bV w p l=bV w q l
 |[],_=>rfl
 |x::l,h=>by rw[qL,qL,h x (by simp),I2 w fun y hy=>h y (aT _ hy)]
theorem vZ{α:Type}(w:α->Int){p q r:α->Bool}:∀{l:List α},(∀x∈l,bb (p x)=bb (q x)+bb (r x))->bV w p l=bV w q l+bV w r l
 |[],_=>rfl
 |x::l,h=>by
  have ih:=vZ w (l:=l) fun y hy=>h y (aT _ hy)
  have hx:=h x (by simp)
  rw[qL,qL,qL,ih];revert hx;unfold bb;cases p x<;>cases q x<;>cases r x<;>simp<;>omega
theorem I3{α:Type}{lt:α->α->Bool}(ht:∀x y z,lt x y=true->lt y z=true->lt x z=true)(hi:∀x,lt x x=false)(T:α->Bool)(l:List α):∀(m:Nat)(z:α),z∈l->T z=true->(l.countP fun y=>T y&&lt z y)<=m->∃z∈l,T z=true/\∀y∈l,T y=true->lt z y=false:=by
 intro m;induction m with
 |zero=>
  intro z hz hT hc;refine⟨z,hz,hT,fun y hy Aw=>?_⟩
  cases h:lt z y
  ·rfl
  ·have:0<l.countP (fun y=>T y&&lt z y):=Fz.2 ⟨y,hy,by simp[Aw,h]⟩
   omega
 |succ m ih=>
  intro z hz hT hc;by_cases hb:∀y∈l,T y=true->lt z y=false
  ·exact⟨z,hz,hT,hb⟩
  ·have hb':∃y∈l,T y=true/\lt z y=true:=by
    apply fV;intro hk;apply hb;intro y hy Aw;cases h:lt z y
    ·rfl
    ·exact absurd ⟨y,hy,Aw,h⟩ hk
   obtain⟨y,hy,Aw,hlt⟩:=hb';have:(l.countP fun x=>T x&&lt y x)<(l.countP fun x=>T x&&lt z x):=vq l (fun x _ hx=>by
    simp only[pj] at hx⊢;exact⟨hx.1,ht z y x hlt hx.2⟩) ⟨y,hy,by simp[Aw,hlt],by simp[hi y]⟩
   exact ih y hy Aw (by omega)
theorem VT{α:Type}{lt:α->α->Bool}(ht:∀x y z,lt x y=true->lt y z=true->lt x z=true)(hi:∀x,lt x x=false)(hw:∀x y z,lt x y=true->lt z y=true\/lt x z=true)(w:α->Int)(inn:Int->Bool)(h0:inn 0=false)(l:List α):
  ∀(m:Nat)(T:α->Bool),(∀x y,T y=true->lt y x=false->T x=true)->l.countP T<=m->inn (bV w T l)=true->∃z∈l,T z=true/\inn (bV w (fun y=>lt y z) l)=false/\inn (bV w (fun y=>lt y z) l+bV w (fun y=> !lt y z&& !lt z y) l)=true:=by
 intro m;induction m with
 |zero=>
  intro T hT hc h;exfalso;rw[yl w fun x hx=>by
   cases hk:T x
   ·rfl
   ·have:=Fz.2 ⟨x,hx,hk⟩;omega,h0] at h
  cases h
 |succ m ih=>
  intro T hT hc h;by_cases hb:∀x∈l,T x=false
  ·exfalso;rw[yl w hb,h0] at h;cases h
  ·have hb':∃x∈l,T x=true:=by
    apply fV;intro hk;apply hb;intro x hx;cases h:T x
    ·rfl
    ·exact absurd ⟨x,hx,h⟩ hk
   obtain⟨x,hx,MQ⟩:=hb';obtain⟨z,hz,lI,hmax⟩:=I3 ht hi T l _ x hx MQ (ay _);have asym:∀a b,lt a b=true->lt b a=false:=fun a b h1=>by
    cases h2:lt b a
    ·rfl
    ·have:=ht a b a h1 h2;rw[hi] at this;cases this
   have e:bV w T l=bV w (fun y=>lt y z) l+bV w (fun y=> !lt y z&& !lt z y) l:=vZ w fun y hy=>by
    cases hy1:lt y z
    ·cases hy2:lt z y
     ·have:T y=true:=hT y z lI hy2;rw[this];rfl
     ·have:T y=false:=by
       cases hk:T y
       ·rfl
       ·rw[hmax y hy hk] at hy2;cases hy2
      rw[this];rfl
    ·have:T y=true:=hT y z lI (asym y z hy1);rw[this];rfl
   cases hbz:inn (bV w (fun y=>lt y z) l)
   ·exact⟨z,hz,lI,hbz,by rw[<-e];exact h⟩
   ·have hlt:l.countP (fun y=>lt y z)<l.countP T:=vq l (fun y _ hy=>hT y z lI (asym y z hy)) ⟨z,hz,lI,hi z⟩
    obtain⟨z',hz',k1,k2,k3⟩:=ih (fun y=>lt y z) (fun a b hb hab=>by
     rcases hw b z a hb with k|k
     ·exact k
     ·rw[hab] at k;cases k) (by omega) hbz
    exact⟨z',hz',hT z' z lI (asym z' z k1),k2,k3⟩
def kW(n:N3)(e:Pt×Pt):Int:=if(rl n e.1).1<=0/\0<(rl n e.2).1 then(rl n e.2).1-(rl n e.1).1 else if(rl n e.2).1<=0/\0<(rl n e.1).1 then(rl n e.1).1-(rl n e.2).1 else 1
def kY(n:N3)(e:Pt×Pt):Int:=if(rl n e.1).1<=0/\0<(rl n e.2).1 then -cr (rl n e.1) (rl n e.2) else if(rl n e.2).1<=0/\0<(rl n e.1).1 then -cr (rl n e.2) (rl n e.1) else 0
def kS(n:N3)(e:Pt×Pt):Int:=if(rl n e.1).1<=0/\0<(rl n e.2).1 then(rl n e.2).2-(rl n e.1).2 else if(rl n e.2).1<=0/\0<(rl n e.1).1 then(rl n e.1).2-(rl n e.2).2 else 0
def wt(n:N3)(e:Pt×Pt):Int:=if(rl n e.1).1<=0/\0<(rl n e.2).1 then 1 else if(rl n e.2).1<=0/\0<(rl n e.1).1 then -1 else 0
theorem sG(n:N3)(e:Pt×Pt):0<kW n e:=by
 unfold kW
 repeat' split
 all_goals omega
def aO(n:N3)(e e':Pt×Pt):Bool:=decide (kY n e*kW n e'<kY n e'*kW n e\/(kY n e*kW n e'=kY n e'*kW n e/\kS n e*kW n e'<kS n e'*kW n e))
theorem Ax{n:N3}{e e':Pt×Pt}:aO n e e'=true↔kY n e*kW n e'<kY n e'*kW n e\/(kY n e*kW n e'=kY n e'*kW n e/\kS n e*kW n e'<kS n e'*kW n e):=by unfold aO;simp
theorem qM(n:N3)(e:Pt×Pt):aO n e e=false:=by
 unfold aO;simp
theorem wh(n:N3)(x y z:Pt×Pt)(h1:aO n x y=true)(h2:aO n y z=true):aO n x z=true:=by
 rw[Ax] at*;have px:=sG n x;have py:=sG n y;have pz:=sG n z;rcases h1 with h1|⟨h1,h1'⟩
 ·rcases h2 with h2|⟨h2,_⟩
  ·exact ag (vJ px py pz h1 (dS h2))
  ·exact ag (vJ px py pz h1 (Kz h2))
 ·rcases h2 with h2|⟨h2,h2'⟩
  ·exact ag (LQ px py pz (Kz h1) h2)
  ·exact ah ⟨LS py h1 h2,vJ px py pz h1' (dS h2')⟩
theorem uA(n:N3)(x y z:Pt×Pt)(h:aO n x y=true):aO n z y=true\/aO n x z=true:=by
 have px:=sG n x;have py:=sG n y;have pz:=sG n z;cases h1:aO n z y
 ·right;have h1':¬_:=fun k=>by rw[Ax.2 k] at h1;cases h1
  rw[Ax] at h⊢;have e1:kY n y*kW n z<=kY n z*kW n y:=by omega
  rcases h with h|⟨h,h'⟩
  ·exact ag (vJ px py pz h e1)
  ·rcases Int.lt_or_eq_of_le e1 with e2|e2
   ·exact ag (LQ px py pz (Kz h) e2)
   ·refine ah ⟨LS py h e2,vJ px py pz h' ?_⟩;omega
 ·exact ag rfl
def bK(n:N3)(W Y:Int):N3:=(n.1*W,n.2.1*W+Y,n.2.2*W)
theorem sH(n:N3)(W Y:Int)(p:Pt):rl (bK n W Y) p=(W*(rl n p).1,W*(rl n p).2-Y):=by
 unfold rl rel bK;exact bX (by simp only;grind) (by simp only;grind)
theorem agd(n:N3)(W Y:Int)(u v:Pt):cr (rl (bK n W Y) u) (rl (bK n W Y) v)=W*(W*cr (rl n u) (rl n v)+Y*((rl n v).1-(rl n u).1)):=by
 rw[sH,sH];unfold cr;simp only
 grind
theorem VU{n:N3}{W Y S:Int}{D:Pt}(hW:0<W)(hD:0<D.1)(hDS:D.1*S=D.2*W){u v:Pt}(h1:(rl n u).1<=0)(h2:0<(rl n v).1):
  right (rl (bK n W Y) u) (rl (bK n W Y) v)+cA (bK n W Y) D u v=bb (decide (-cr (rl n u) (rl n v)*W<Y*((rl n v).1-(rl n u).1)\/(-cr (rl n u) (rl n v)*W=Y*((rl n v).1-(rl n u).1)/\((rl n v).2-(rl n u).2)*W<S*((rl n v).1-(rl n u).1)))):=by
 have hc:=agd n W Y u v;have lv:cr D (rl (bK n W Y) v)=D.1*(W*(rl n v).2-Y-S*(rl n v).1):=by
  rw[sH];unfold cr;simp only
  grind
 have lu:cr D (rl (bK n W Y) u)=D.1*(W*(rl n u).2-Y-S*(rl n u).1):=by
  rw[sH];unfold cr;simp only
  grind
 have xu:(rl (bK n W Y) u).1=W*(rl n u).1:=by rw[sH]
 have xv:(rl (bK n W Y) v).1=W*(rl n v).1:=by rw[sH]
 unfold right cA;rw[hc,lv,lu,xu,xv];have e1: -cr (rl n u) (rl n v)*W= -(W*cr (rl n u) (rl n v)):=by grind
 rw[e1];have eu:((rl n v).1-(rl n u).1)*(W*(rl n u).2-Y-S*(rl n u).1)= -(W*cr (rl n u) (rl n v)+Y*((rl n v).1-(rl n u).1))+(((rl n v).2-(rl n u).2)*W-S*((rl n v).1-(rl n u).1))*(rl n u).1:=by unfold cr;grind
 have ev:((rl n v).1-(rl n u).1)*(W*(rl n v).2-Y-S*(rl n v).1)= -(W*cr (rl n u) (rl n v)+Y*((rl n v).1-(rl n u).1))+(((rl n v).2-(rl n u).2)*W-S*((rl n v).1-(rl n u).1))*(rl n v).1:=by unfold cr;grind
 generalize hC:W*cr (rl n u) (rl n v)+Y*((rl n v).1-(rl n u).1)=C at*;generalize hE:((rl n v).2-(rl n u).2)*W-S*((rl n v).1-(rl n u).1)=E at*;generalize W*(rl n u).2-Y-S*(rl n u).1=A at*;generalize W*(rl n v).2-Y-S*(rl n v).1=B at*;have pw:0<(rl n v).1-(rl n u).1:=by omega
 generalize(rl n u).1=a at*;generalize(rl n v).1=b at*;have p1:=aQ (z:=C) hW;have p2:=dE (z:=C) hW;have p3:=neg_mul (z:=C) hW;have q1:=neg_mul (z:=B) hD;have q2:=neg_mul (z:=A) hD;have r1:=aQ (z:=b) hW;have r2:=aQ (z:=a) hW;have s1:=neg_mul (z:=B) pw;have s2:=neg_mul (z:=A) pw;have t1:=neg_mul (z:=E) h2;rw[dX b E] at t1;have t2:E<0->0<=E*a:=fun h=>qZ (by omega) h1
 have c1:(-(W*cr (rl n u) (rl n v))<Y*(b-a))↔0<C:=by omega
 have c2:(-(W*cr (rl n u) (rl n v))=Y*(b-a))↔C=0:=by omega
 have c3:((rl n v).2-(rl n u).2)*W<S*(b-a)↔E<0:=by omega
 rw[af (show ¬(0<W*a/\W*b<=0/\W*C<0) by omega)]
 rw[af (show ¬(W*C=0/\0<W*a/\D.1*A<0/\0<=D.1*B) by omega)]
 simp only[c1,c2,c3];clear c1 c2 c3 hC hE lv lu xu xv hc e1 hDS;rcases eK C 0 with h|h|h
 ·rw[af (by omega),af (by omega)]
  have:decide (0<C\/C=0/\E<0)=false:=gv (by omega)
  rw[this];rfl
 ·rw[h] at eu ev⊢;rw[af (by omega)]
  by_cases hE:E<0
  ·have:=t2 hE;rw[aj (by omega)]
   have:decide ((0:Int)<0\/(0:Int)=0/\E<0)=true:=eN (by omega)
   rw[this];rfl
  ·rw[af (by omega)]
   have:decide ((0:Int)<0\/(0:Int)=0/\E<0)=false:=gv (by omega)
   rw[this];rfl
 ·rw[aj (by omega),af (by omega)]
  have:decide (0<C\/C=0/\E<0)=true:=eN (by omega)
  rw[this];rfl
theorem agf(n:N3)(D u v:Pt):cA n D v u= -cA n D u v:=by
 unfold cA;rw[bT (rl n u) (rl n v)]
 repeat' split
 all_goals omega
theorem agh{n:N3}{W Y:Int}{D:Pt}(hW:0<W){u v:Pt}(h:¬((rl n u).1<=0/\0<(rl n v).1))(h':¬((rl n v).1<=0/\0<(rl n u).1)):
  right (rl (bK n W Y) u) (rl (bK n W Y) v)+cA (bK n W Y) D u v=0:=by
 have xu:(rl (bK n W Y) u).1=W*(rl n u).1:=by rw[sH]
 have xv:(rl (bK n W Y) v).1=W*(rl n v).1:=by rw[sH]
 have r1:=aQ (z:=(rl n v).1) hW;have r2:=aQ (z:=(rl n u).1) hW;have e0:cr (rl (bK n W Y) u) (rl (bK n W Y) v)=0->cr D (rl (bK n W Y) u)*(rl (bK n W Y) v).1=(rl (bK n W Y) u).1*cr D (rl (bK n W Y) v):=fun hc=>by
  unfold cr at*
  grind
 unfold right cA;rw[af (by rw[xu,xv];omega),af (by rw[xu,xv];omega)]
 have k:¬(cr (rl (bK n W Y) u) (rl (bK n W Y) v)=0/\0<(rl (bK n W Y) v).1/\cr D (rl (bK n W Y) v)<0/\0<=cr D (rl (bK n W Y) u)):=by
  rintro⟨a,b,c,d⟩;have e:=e0 a;have hu:0<(rl (bK n W Y) u).1:=by omega
  have:=wT hu c;have:=iN d (dS b);omega
 have k':¬(cr (rl (bK n W Y) u) (rl (bK n W Y) v)=0/\0<(rl (bK n W Y) u).1/\cr D (rl (bK n W Y) u)<0/\0<=cr D (rl (bK n W Y) v)):=by
  rintro⟨a,b,c,d⟩;have e:=e0 a;have hv:0<(rl (bK n W Y) v).1:=by omega
  have:=Br c hv;have:=iN (dS b) d;omega
 rw[af k,af k'];rfl
theorem VV{P:Nd->Prop}:∀{m:List Nd},yh m->(∀x∈m,∀y∈m,lt (ax x) (ax y)->P y->P x)->∀{a b:Nd},a∈m->P a->b∈m->¬P b->∃f t,(f,t)∈nexts m/\P f/\¬P t
 |[],_,_,_,_,h,_,_,_=>by simp at h
 |[x],_,_,a,b,h,h1,h',h2=>by
  have e1:a=x:=by simpa using h
  have e2:b=x:=by simpa using h'
  rw[e1] at h1;rw[e2] at h2;exact absurd h1 h2
 |x::y::r,hp,hm,a,b,ha,MR,hb,Ai=>by
  obtain⟨p1,p2⟩:=fK.1 hp;by_cases hy:P y
  ·have hx:P x:=hm x (by simp) y (by simp) (p1 y (by simp)) hy
   have hb':b∈y::r:=by
    rcases aP.1 hb with e|h
    ·rw[e] at Ai;exact absurd hx Ai
    ·exact h
   obtain⟨f,t,h1,h2,h3⟩:=VV p2 (fun u hu v hv=>hm u (aT _ hu) v (aT _ hv)) (FT ..) hy hb' Ai
   exact⟨f,t,aT _ h1,h2,h3⟩
  ·have hx:P x:=by
    rcases aP.1 ha with e|h
    ·rw[<-e];exact MR
    ·exfalso;apply hy;rcases aP.1 h with e|h
     ·rw[<-e];exact MR
     ·exact hm y (by simp) a (by simp[h]) ((fK.1 p2).1 a h) MR
   exact⟨x,y,by simp[nexts],hx,hy⟩
theorem D7(n x y:N3):n.2.2*(wv x y).1=x.2.2*(wv n y).1-y.2.2*(wv n x).1/\n.2.2*(wv x y).2=x.2.2*(wv n y).2-y.2.2*(wv n x).2:=by
 unfold wv;constructor<;>(simp only;grind)
theorem MS{es:List (Pt×Pt)}{l:List Nd}(hN:bC es l){n:Nd}(hn:n∈l){e:Pt×Pt}(he:e∈es){a b:Pt}(hab:(a=e.1/\b=e.2)\/(a=e.2/\b=e.1))(h1:(rl n a).1<=0)(h2:0<(rl n b).1):
  ∃f t,cL es l f t/\(wv n f).1<=0/\0<(wv n t).1/\0<(wv f t).1/\lam (wv f t) f a=0/\lam (wv f t) f b=0:=by
 have cn:=hN.can n hn;have h0:∀p:Pt,rl (p.1,p.2,1) p=(0,0):=fun p=>by unfold rl rel;exact bX (by simp only;omega) (by simp only;omega)
 have hend:(a.1,a.2,1)∈held e l/\(b.1,b.2,1)∈held e l:=by
  have k:=hN.Aq he;rcases hab with⟨ha,hb⟩|⟨ha,hb⟩<;>rw[ha,hb]
  ·exact⟨ic.2 ⟨k.1,lj _ _ (ag (h0 _))⟩,ic.2 ⟨k.2,lj _ _ (ah (h0 _))⟩⟩
  ·exact⟨ic.2 ⟨k.2,lj _ _ (ah (h0 _))⟩,ic.2 ⟨k.1,lj _ _ (ag (h0 _))⟩⟩
 obtain⟨f,t,hft,hf,ht⟩:=VV (P:=fun x=>(wv n x).1<=0) (hN.DU e) (fun x hx y hy hlt hy'=>by
   have cx:=hN.can x (ic.1 hx).1;have cy:=hN.can y (ic.1 hy).1;have hr:=tU ((mU cx cy).1 hlt);have m:=(D7 n x y).1;have k1:=iN (dS cn.pos) hr;have k2:=aQ (z:=(wv n y).1) cx.pos;have k3:=aQ (z:=(wv n x).1) cy.pos;show(wv n x).1<=0
   change(wv n y).1<=0 at hy'
   omega) hend.1 (by show(wv n (a.1,a.2,1)).1<=0;rw[DY];exact h1) hend.2 (by show ¬(wv n (b.1,b.2,1)).1<=0;rw[DY];omega)
 have hpc:cL es l f t:=⟨e,he,hft⟩;obtain⟨hfl,htl,hr⟩:=hpc.facts hN;have cf:=hN.can f hfl;have ct:=hN.can t htl;have hD:0<(wv f t).1:=by
  have m:=(D7 n f t).1;have k1:=aQ (z:=(wv n t).1) cf.pos;have k2:=aQ (z:=(wv n f).1) ct.pos;have k3:=aQ (z:=(wv f t).1) cn.pos;omega
 have hL:=DV ct.pos hr (ic.1 (qK hft).1).2 (ic.1 (qK hft).2).2;refine⟨f,t,hpc,hf,by omega,hD,?_,?_⟩
 ·rcases hab with⟨ha,_⟩|⟨ha,_⟩<;>rw[ha]
  ·exact hL.1
  ·exact hL.2
 ·rcases hab with⟨_,hb⟩|⟨_,hb⟩<;>rw[hb]
  ·exact hL.2
  ·exact hL.1
structure ZP(n f t:N3)(W Y S:Int):Prop where
 w:0<W
 d:0<(wv f t).1
 s:(wv f t).1*S=(wv f t).2*W
 zf:wv f (bK n W Y)=(0,0)\/Behind f (bK n W Y) (wv f t)
 zt:Behind (bK n W Y) t (wv f t)
 lz:∀p,lam (wv f t) f p=0↔lam (wv f t) (bK n W Y) p=0
theorem VW{n f t:N3}(hn:0<n.2.2)(hf:0<f.2.2)(ht:0<t.2.2){a b:Pt}(h1:(rl n a).1<=0)(h2:0<(rl n b).1)(k1:(wv n f).1<=0)(k2:0<(wv n t).1)(hD:0<(wv f t).1)(la:lam (wv f t) f a=0)(lb:lam (wv f t) f b=0):
    ZP n f t ((rl n b).1-(rl n a).1) (-cr (rl n a) (rl n b)) ((rl n b).2-(rl n a).2):=by
  have hr:aJ (wv f t):=ag hD;have hW:0<(rl n b).1-(rl n a).1:=by omega
  have hs:(wv f t).1*((rl n b).2-(rl n a).2)=(wv f t).2*((rl n b).1-(rl n a).1):=by
    have e1:f.2.2*((wv f t).1*(b.2-a.2)-(wv f t).2*(b.1-a.1))=lam (wv f t) f b-lam (wv f t) f a:=by unfold lam cr rl rel;simp only;grind
    rw[la,lb] at e1;have e2:=(dE hf).1 (e1.trans (by decide))
    have e3:(wv f t).1*((rl n b).2-(rl n a).2)-(wv f t).2*((rl n b).1-(rl n a).1)=n.2.2*((wv f t).1*(b.2-a.2)-(wv f t).2*(b.1-a.1)):=by unfold rl rel;simp only;grind
    rw[e2] at e3;omega
  have cZ:lam (wv f t) (bK n ((rl n b).1-(rl n a).1) (-cr (rl n a) (rl n b))) a=0:=by
    unfold lam;rw[sH];unfold cr at*;simp only;have e:((rl n b).1-(rl n a).1)*(rl n a).2- -((rl n a).1*(rl n b).2-(rl n a).2*(rl n b).1)=((rl n b).2-(rl n a).2)*(rl n a).1:=by grind
    rw[e];have e':(wv f t).1*(((rl n b).2-(rl n a).2)*(rl n a).1)-(wv f t).2*(((rl n b).1-(rl n a).1)*(rl n a).1)=((wv f t).1*((rl n b).2-(rl n a).2)-(wv f t).2*((rl n b).1-(rl n a).1))*(rl n a).1:=by grind
    rw[e',hs]
    grind
  generalize hz:bK n ((rl n b).1-(rl n a).1) (-cr (rl n a) (rl n b))=z at*;have hz1:z.1=n.1*((rl n b).1-(rl n a).1):=by rw[<-hz];rfl
  have hz3:z.2.2=n.2.2*((rl n b).1-(rl n a).1):=by rw[<-hz];rfl
  have sI:0<z.2.2:=by rw[hz3];exact aR hn hW
  have VX:cr (wv f t) (wv f z)=0:=by
    obtain⟨e1,e2⟩:=kF f z a;have k:f.2.2*lam (wv f t) z a=z.2.2*lam (wv f t) f a-cr (wv f t) (wv f z):=by
      have:f.2.2*lam (wv f t) z a=(wv f t).1*(f.2.2*(rl z a).2)-(wv f t).2*(f.2.2*(rl z a).1):=by unfold lam cr;grind
      rw[this,e1,e2];unfold lam cr
      grind
    rw[cZ,la] at k;omega
  have lta:=(qp hf ht hr a).2 la;have czt:cr (wv f t) (wv z t)=0:=by
    obtain⟨e1,e2⟩:=kF z t a;have k:z.2.2*lam (wv f t) t a=t.2.2*lam (wv f t) z a-cr (wv f t) (wv z t):=by
      have:z.2.2*lam (wv f t) t a=(wv f t).1*(z.2.2*(rl t a).2)-(wv f t).2*(z.2.2*(rl t a).1):=by unfold lam cr;grind
      rw[this,e1,e2];unfold lam cr
      grind
    rw[cZ,lta] at k;omega
  have VY:(wv f z).1= -(((rl n b).1-(rl n a).1)*(wv n f).1):=by
    unfold wv;simp only;rw[hz1,hz3]
    grind
  have xzt:(wv z t).1=((rl n b).1-(rl n a).1)*(wv n t).1:=by
    unfold wv;simp only;rw[hz1,hz3]
    grind
  have I4:Behind z t (wv f t):=ag ⟨hD,by rw[xzt];exact aR hW k2,czt⟩
  have key:(wv f z=(0,0)\/Behind f z (wv f t))/\Behind z t (wv f t)/\∀p,lam (wv f t) f p=0↔lam (wv f t) z p=0:=by
   refine⟨?_,I4,fun p=>?_⟩
   · by_cases h0:(wv n f).1=0
     · left;have x0:(wv f z).1=0:=by rw[VY,h0];omega
       refine bX x0 ?_;have k:(wv f t).1*(wv f z).2-(wv f t).2*(wv f z).1=0:=VX;rw[x0] at k;exact(dE hD).1 (by omega)
     · right;have:=(neg_mul (z:=(wv n f).1) hW).2 (by omega)
       exact ag ⟨hD,by rw[VY];omega,VX⟩
   · have s1:=oh sI ht I4 p;have s2:=oh hf ht (xh hr) p;omega
  exact⟨hW,hD,hs,by rw[hz];exact key.1,by rw[hz];exact key.2.1,by rw[hz];exact key.2.2⟩
theorem agl{f z:N3}(hf:0<f.2.2)(hz:0<z.2.2)(h:wv f z=(0,0))(u v:Pt):right (rl z u) (rl z v)=right (rl f u) (rl f v):=by
 have k:∀p,sc f.2.2 (rl z p)=sc z.2.2 (rl f p):=fun p=>by
  obtain⟨e1,e2⟩:=kF f z p;rw[h] at e1 e2;unfold sc;exact bX (by simp only;omega) (by simp only;omega)
 rw[<-y9 hf (rl z u) (rl z v),k,k,y9 hz]
theorem agm{f z:N3}(hf:0<f.2.2)(hz:0<z.2.2)(h:wv f z=(0,0))(D u v:Pt):cA z D u v=cA f D u v:=by
 obtain⟨a1,a2⟩:=kF f z u;obtain⟨b1,b2⟩:=kF f z v;rw[h] at a1 a2 b1 b2;have l1:f.2.2*cr D (rl z u)=z.2.2*cr D (rl f u):=by
  have:f.2.2*cr D (rl z u)=D.1*(f.2.2*(rl z u).2)-D.2*(f.2.2*(rl z u).1):=by unfold cr;grind
  rw[this,a1,a2];unfold cr
  grind
 have l2:f.2.2*cr D (rl z v)=z.2.2*cr D (rl f v):=by
  have:f.2.2*cr D (rl z v)=D.1*(f.2.2*(rl z v).2)-D.2*(f.2.2*(rl z v).1):=by unfold cr;grind
  rw[this,b1,b2];unfold cr
  grind
 have l3:f.2.2*f.2.2*cr (rl z u) (rl z v)=z.2.2*z.2.2*cr (rl f u) (rl f v):=by
  have:f.2.2*f.2.2*cr (rl z u) (rl z v)=(f.2.2*(rl z u).1)*(f.2.2*(rl z v).2)-(f.2.2*(rl z u).2)*(f.2.2*(rl z v).1):=by unfold cr;grind
  rw[this,a1,a2,b1,b2];unfold cr
  grind
 have p1:=dE (z:=cr (rl z u) (rl z v)) (aR hf hf);have p2:=dE (z:=cr (rl f u) (rl f v)) (aR hz hz);have p3:=aQ (z:=(rl z u).1) hf;have p4:=aQ (z:=(rl f u).1) hz;have p5:=aQ (z:=(rl z v).1) hf;have p6:=aQ (z:=(rl f v).1) hz;have p7:=neg_mul (z:=cr D (rl z u)) hf;have p8:=neg_mul (z:=cr D (rl f u)) hz;have p9:=neg_mul (z:=cr D (rl z v)) hf;have p0:=neg_mul (z:=cr D (rl f v)) hz;simp only[yQ] at a1 b1;have c1:(cr (rl z u) (rl z v)=0)↔(cr (rl f u) (rl f v)=0):=by omega
 have c2:(0<(rl z u).1)↔(0<(rl f u).1):=by omega
 have c3:(0<(rl z v).1)↔(0<(rl f v).1):=by omega
 have c4:(cr D (rl z u)<0)↔(cr D (rl f u)<0):=by omega
 have c5:(cr D (rl z v)<0)↔(cr D (rl f v)<0):=by omega
 have c6:(0<=cr D (rl z u))↔(0<=cr D (rl f u)):=by omega
 have c7:(0<=cr D (rl z v))↔(0<=cr D (rl f v)):=by omega
 unfold cA;simp only[c1,c2,c3,c4,c5,c6,c7]
theorem agn{rg:List (List Pt)}{n f t:N3}{W Y S:Int}(hn:0<n.2.2)(h:rF (ae rg) f t)(hz:ZP n f t W Y S):
  RR (ae rg) f t=PP (ae rg) (bK n W Y)+total (cA (bK n W Y) (wv f t)) (ae rg):=by
 have sI:0<(bK n W Y).2.2:=aR hn hz.w;have k:=QT h.pf h.pt h.r h.s;unfold RR;rcases hz.zf with h0|hb
 ·rw[k];have e1:PP (ae rg) (bK n W Y)=PP (ae rg) f:=nD fun e _=>agl h.pf sI h0 e.1 e.2
  have e2:total (cA (bK n W Y) (wv f t)) (ae rg)=total (cA f (wv f t)) (ae rg):=nD fun e _=>agm h.pf sI h0 (wv f t) e.1 e.2
  rw[e1,e2]
 ·have a:=along h.pf sI hb (rg:=rg) fun e he=>KU h.pf h.pt h.pf sI (h.s e he) (ag rfl) hb (ah hz.zt)
  have z1:total (cB (bK n W Y) (wv f t)) (ae rg)=0:=vd fun e he=>by
   obtain⟨k1,k2⟩:=ze h.pf h.pt sI (h.s e he) hb hz.zt;unfold cB;rw[af (fun⟨x1,_,x2,x3⟩=>k1 (dS x2) x3 (by unfold lam;omega) x1),af (fun⟨x1,_,x2,x3⟩=>k2 (dS x2) x3 (by unfold lam;omega) x1)]
  have z2:total (cA (bK n W Y) (wv f t)) (ae rg)=0:=vd fun e he=>by
   obtain⟨k1,k2⟩:=ze h.pf h.pt sI (h.s e he) hb hz.zt;unfold cA;rw[af (fun⟨x1,_,x2,x3⟩=>k2 (dS x2) x3 (by unfold lam;omega) x1),af (fun⟨x1,_,x2,x3⟩=>k1 (dS x2) x3 (by unfold lam;omega) x1)]
  omega
end Go.Proofs.YtkjhhooecopolaaGreatDoor.Ga
