import Derived.Test.YtkjhhooecopolaaGreatDoorSz16
import Derived.Test.YtkjhhooecopolaaGreatDoorRows
set_option maxRecDepth 100000
set_option maxHeartbeats 4000000
namespace Go.Proofs.YtkjhhooecopolaaGreatDoor
open Go.Proofs.Tryz
open Value renaming int->az,complex->aA,float->aB,agg->aC,bool->aD,string->aF,slice->aG,pointer->aH,tuple->aI
open IntKind renaming i64->aJ
open FloatKind renaming f64->aK
open Ending renaming returned->aL
open Go renaming World->aM,Value->aN,floatOfInt->aO
section
open Ge
namespace Gb
open Ga
theorem agp{A B C D:Pt}(h1:0<cr (dr (A,B)) (dr (A,C)))(h2:cr (dr (A,B)) (dr (A,D))<0)(h3:cr (dr (C,D)) (dr (C,A))*cr (dr (C,D)) (dr (C,B))<0):∃n:N3,0<n.2.2/\Ins n (A,B)/\Ins n (C,D):=by
 have l1:dr (A,B)≠(0,0):=λe=>by rw[e] at h1;simp[cr] at h1
 have l2:dr (C,D)≠(0,0):=λe=>by rw[e] at h3;simp[cr] at h3
 have d1:=Ga.dC l1;have d2:=Ga.dC l2;obtain⟨P,hP⟩:∃P,P=cr (dr (A,B)) (dr (A,C)):=⟨_,rfl⟩;obtain⟨Q,hQ⟩:∃Q,Q=cr (dr (A,B)) (dr (A,D)):=⟨_,rfl⟩;refine⟨((P-Q)*C.1+P*(D.1-C.1),(P-Q)*C.2+P*(D.2-C.2),P-Q),?_,?_,?_⟩
 .show 0<P-Q;omega
 .have e1:rl ((P-Q)*C.1+P*(D.1-C.1),(P-Q)*C.2+P*(D.2-C.2),P-Q) A=Ga.sc (cr (dr (C,D)) (dr (C,A))) (dr (A,B)):=by
   rw[hP,hQ];unfold rl rel Ga.sc dr cr;exact dN (by simp only;grind) (by simp only;grind)
  have e2:rl ((P-Q)*C.1+P*(D.1-C.1),(P-Q)*C.2+P*(D.2-C.2),P-Q) B=Ga.sc (cr (dr (C,D)) (dr (C,B))) (dr (A,B)):=by
   rw[hP,hQ];unfold rl rel Ga.sc dr cr;exact dN (by simp only;grind) (by simp only;grind)
  have c:∀(k:Int)(u:Pt),cr u (Ga.sc k u)=0/\dt u (Ga.sc k u)=k*dt u u:=λk u=>by unfold cr dt Ga.sc;simp only;constructor<;>grind
  refine Nb (D:=dr (A,B)) ?_ ?_ ?_
  .show cr _ (rl _ A)=0;rw[e1];exact(c _ _).1
  .show cr _ (rl _ B)=0;rw[e2];exact(c _ _).1
  .show dt _ (rl _ A)*dt _ (rl _ B)<0;rw[e1,e2,(c _ _).2,(c _ _).2];have e:cr (dr (C,D)) (dr (C,A))*dt (dr (A,B)) (dr (A,B))*(cr (dr (C,D)) (dr (C,B))*dt (dr (A,B)) (dr (A,B)))=(cr (dr (C,D)) (dr (C,A))*cr (dr (C,D)) (dr (C,B)))*(dt (dr (A,B)) (dr (A,B))*dt (dr (A,B)) (dr (A,B))):=by grind
   rw[e];exact uR h3 (bJ d1 d1)
 .have e1:rl ((P-Q)*C.1+P*(D.1-C.1),(P-Q)*C.2+P*(D.2-C.2),P-Q) C=Ga.sc (-P) (dr (C,D)):=by
   unfold rl rel Ga.sc dr;exact dN (by simp only;grind) (by simp only;grind)
  have e2:rl ((P-Q)*C.1+P*(D.1-C.1),(P-Q)*C.2+P*(D.2-C.2),P-Q) D=Ga.sc (-Q) (dr (C,D)):=by
   unfold rl rel Ga.sc dr;exact dN (by simp only;grind) (by simp only;grind)
  have c:∀(k:Int)(u:Pt),cr u (Ga.sc k u)=0/\dt u (Ga.sc k u)=k*dt u u:=λk u=>by unfold cr dt Ga.sc;simp only;constructor<;>grind
  refine Nb (D:=dr (C,D)) ?_ ?_ ?_
  .show cr _ (rl _ C)=0;rw[e1];exact(c _ _).1
  .show cr _ (rl _ D)=0;rw[e2];exact(c _ _).1
  .show dt _ (rl _ C)*dt _ (rl _ D)<0;rw[e1,e2,(c _ _).2,(c _ _).2];exact uR (uR aa d2) (bJ aa d2)
theorem OZ{D v:Pt}(h:bz D)(hc:cr D v=0)(hv:bz v):0<dt D v:=by
 unfold cr at hc;unfold dt;rcases h with h|⟨h,k⟩<;>rcases hv with w|⟨w,z⟩
 .refine(bT h).1 ?_;have e:D.1*(D.1*v.1+D.2*v.2)=(D.1*D.1+D.2*D.2)*v.1:=by
   have:D.1*v.2=D.2*v.1:=aa
   grind
  rw[e];exact bJ (Ga.dC (r:=D) λq=>by rw[q] at h;simp at h) w
 .rw[w] at hc;have:=bJ h z;simp at hc;omega
 .rw[h] at hc;have:=bJ k w;simp at hc;omega
 .rw[h,w];have:=bJ k z;omega
theorem O0{lo hi fr to:Pt}(h0:bz (dr (lo,hi)))(h1:bz (dr (fr,to)))(c1:cr (dr (lo,hi)) (dr (lo,fr))=0)(c2:cr (dr (lo,hi)) (dr (lo,to))=0)(h2:bz (dr (fr,hi)))(h3:bz (dr (lo,to))):∃n:N3,0<n.2.2/\Ins n (lo,hi)/\Ins n (fr,to):=by
 obtain⟨D,hD⟩:∃D,D=dr (lo,hi):=⟨_,rfl⟩;rw[<-hD] at h0 c1 c2;have cD:cr D (dr (lo,hi))=0:=by rw[hD];unfold cr;grind
 have sub:∀a b:Pt,cr D (dr (a,b))=cr D (dr (lo,b))-cr D (dr (lo,a))/\dt D (dr (a,b))=dt D (dr (lo,b))-dt D (dr (lo,a)):=λa b=>by
  unfold cr dt dr;simp only;constructor<;>grind
 have z0:dt D (dr (lo,lo))=0/\cr D (dr (lo,lo))=0:=by unfold dt cr dr;simp
 have p0:=OZ h0 cD (hD▸h0);have p1:=OZ h0 (by rw[(sub fr to).1];omega) h1
 have p2:=OZ h0 (by rw[(sub fr hi).1];omega) h2
 have p3:=OZ h0 c2 h3;rw[(sub fr to).2] at p1;rw[(sub fr hi).2] at p2;have mid:∀x y z:Pt,cr D (dr (lo,x))=0->cr D (dr (lo,y))=0->cr D (dr (lo,z))=0->cr D (rl (x.1+y.1,x.2+y.2,2) z)=0/\dt D (rl (x.1+y.1,x.2+y.2,2) z)=2*dt D (dr (lo,z))-dt D (dr (lo,x))-dt D (dr (lo,y)):=λx y z q1 q2 q3=>by
  have e:cr D (rl (x.1+y.1,x.2+y.2,2) z)=2*cr D (dr (lo,z))-cr D (dr (lo,x))-cr D (dr (lo,y)):=by unfold cr dr rl rel;simp only;grind
  refine⟨aa,?_⟩
  unfold dt dr rl rel;simp only
  grind
 have go:∀x y:Pt,cr D (dr (lo,x))=0->cr D (dr (lo,y))=0->dt D (dr (lo,x))<dt D (dr (lo,y))->0<=dt D (dr (lo,x))->dt D (dr (lo,fr))<=dt D (dr (lo,x))->dt D (dr (lo,y))<=dt D (dr (lo,hi))->dt D (dr (lo,y))<=dt D (dr (lo,to))->∃n:N3,0<n.2.2/\Ins n (lo,hi)/\Ins n (fr,to):=λx y q1 q2 lt k1 k2 k3 k4=>by
  refine⟨(x.1+y.1,x.2+y.2,2),by show(0:Int)<2;decide,Nb (D:=D) (mid x y lo q1 q2 z0.2).1 (mid x y hi q1 q2 cD).1 ?_,Nb (D:=D) (mid x y fr q1 q2 c1).1 (mid x y to q1 q2 c2).1 ?_⟩
  .have m1:=(mid x y lo q1 q2 z0.2).2;have m2:=(mid x y hi q1 q2 cD).2;show dt D (rl _ lo)*dt D (rl _ hi)<0;exact uR aa aa
  .have m1:=(mid x y fr q1 q2 c1).2;have m2:=(mid x y to q1 q2 c2).2;show dt D (rl _ fr)*dt D (rl _ to)<0;exact uR aa aa
 rcases Aq (dt D (dr (lo,fr))) 0 with q|q<;>rcases Aq (dt D (dr (lo,hi))) (dt D (dr (lo,to))) with w|w
 .exact go lo hi z0.2 cD aa aa aa aa aa
 .exact go lo to z0.2 c2 aa aa aa aa aa
 .exact go fr hi c1 cD aa aa aa aa aa
 .exact go fr to c1 c2 aa aa aa aa aa
theorem JK{M:Int}(hM:0<M){a:Nd}(ha:OK M a):0<(aU a).1.2/\0<(aU a).2.2/\(PM M a).1*(aU a).1.2=(aU a).1.1*M/\(PM M a).2*(aU a).2.2=(aU a).2.1*M:=by
 obtain⟨k,_,e1,e2⟩:=EI hM ha.p ha.d;obtain⟨g,_,g1,g2,g3⟩:=vt (n:=a.1) (d:=a.2.2) (by have:=ha.p;omega)
 obtain⟨g',_,g1',g2',g3'⟩:=vt (n:=a.2.1) (d:=a.2.2) (by have:=ha.p;omega)
 have p1:=(se (n:=a.1) (d:=a.2.2) (by have:=ha.p;omega)).pos
 have p2:=(se (n:=a.2.1) (d:=a.2.2) (by have:=ha.p;omega)).pos
 refine⟨p1,p2,?_,?_⟩
 .rw[e2];show a.1*k*(bO a.1 a.2.2).2=(bO a.1 a.2.2).1*M;rw[<-e1]
  grind
 .rw[e2];show a.2.1*k*(bO a.2.1 a.2.2).2=(bO a.2.1 a.2.2).1*M;rw[<-e1]
  grind
theorem Gz{x:Int}:(0<x.sign↔0<x)/\(x.sign<0↔x<0)/\(x.sign=0↔x=0):=by
 rcases gf x 0 with q|q|q
 .rw[yI q];omega
 .subst q;simp
 .rw[nV q];omega
theorem C0{M:Int}(hM:0<M){a b c:Nd}(ha:OK M a)(hb:OK M b)(hc:OK M c):(0<lS (aU a) (aU b) (aU c)↔0<cr (dr (PM M a,PM M b)) (dr (PM M a,PM M c)))/\(lS (aU a) (aU b) (aU c)<0↔cr (dr (PM M a,PM M b)) (dr (PM M a,PM M c))<0)/\(lS (aU a) (aU b) (aU c)=0↔cr (dr (PM M a,PM M b)) (dr (PM M a,PM M c))=0):=by
 obtain⟨a1,a2,a3,a4⟩:=JK hM ha;obtain⟨b1,b2,b3,b4⟩:=JK hM hb;obtain⟨c1,c2,c3,c4⟩:=JK hM hc;unfold lS;generalize aU a=a' at*;generalize aU b=b' at*;generalize aU c=c' at*;generalize PM M a=A at*;generalize PM M b=B at*;generalize PM M c=C at*;obtain⟨⟨ax,ad⟩,ay,ae⟩:=a';obtain⟨⟨bx,bd⟩,by',be⟩:=b'
 obtain⟨⟨cx,cd⟩,cy,ce⟩:=c';simp only at*;have K:0<(ad*bd*cd)*(ae*be*ce):=bJ (bJ (bJ a1 b1) c1) (bJ (bJ a2 b2) c2);have M2:0<M*M:=bJ hM hM;have u:M*(bx*ad-ax*bd)=(B.1-A.1)*(ad*bd):=by grind
 have v:M*(cy*ae-ay*ce)=(C.2-A.2)*(ae*ce):=by grind
 have w:M*(by'*ae-ay*be)=(B.2-A.2)*(ae*be):=by grind
 have x:M*(cx*ad-ax*cd)=(C.1-A.1)*(ad*cd):=by grind
 generalize bx*ad-ax*bd=U at*;generalize cy*ae-ay*ce=V at*;generalize by'*ae-ay*be=Y at*
 generalize cx*ad-ax*cd=X at*;have e:(M*M)*(U*V*(be*cd)-Y*X*(bd*ce))=((ad*bd*cd)*(ae*be*ce))*cr (dr (A,B)) (dr (A,C)):=by
  have i1:(M*M)*(U*V*(be*cd)-Y*X*(bd*ce))=(M*U)*(M*V)*(be*cd)-(M*Y)*(M*X)*(bd*ce):=by grind
  rw[i1,u,v,w,x];unfold cr dr;simp only
  grind
 have s:=kX M2 K e;have t:=Gz (x:=U*V*(be*cd)-Y*X*(bd*ce));exact⟨t.1.trans s.1,t.2.1.trans s.2.1,t.2.2.trans s.2.2⟩
theorem agq{M x y A B p q:Int}(hM:0<M)(hp:0<p)(hq:0<q)(h1:A*p=x*M)(h2:B*q=y*M):(0<fc (x,p) (y,q)↔B<A)/\(fc (x,p) (y,q)<0↔A<B)/\(fc (x,p) (y,q)=0↔A=B):=by
 unfold fc;simp only;have e:M*(x*q-y*p)=(p*q)*(A-B):=by grind
 have s:=kX hM (bJ hp hq) e;have t:=Gz (x:=x*q-y*p);refine⟨t.1.trans (s.1.trans aa),t.2.1.trans (s.2.1.trans aa),t.2.2.trans (s.2.2.trans aa)⟩
theorem nU{M:Int}(hM:0<M){a b:Nd}(ha:OK M a)(hb:OK M b):(0<pc (aU a) (aU b)↔bz (dr (PM M b,PM M a)))/\(pc (aU a) (aU b)=0↔PM M a=PM M b):=by
 obtain⟨a1,a2,a3,a4⟩:=JK hM ha;obtain⟨b1,b2,b3,b4⟩:=JK hM hb;obtain⟨x1,x2,x3⟩:=agq hM a1 b1 a3 b3;obtain⟨y1,y2,y3⟩:=agq hM a2 b2 a4 b4;have e1:fc ((aU a).1.1,(aU a).1.2) ((aU b).1.1,(aU b).1.2)=fc (aU a).1 (aU b).1:=rfl;have e2:fc ((aU a).2.1,(aU a).2.2) ((aU b).2.1,(aU b).2.2)=fc (aU a).2 (aU b).2:=rfl;rw[e1] at x1 x2 x3;rw[e2] at y1 y2 y3;unfold pc bz dr;simp only;by_cases q:fc (aU a).1 (aU b).1=0
 .rw[aV q];have:=x3.1 q;refine⟨by rw[y1];omega,by rw[y3];exact⟨λz=>dN this z,λz=>by rw[z]⟩⟩
 .rw[aP q];have:(PM M a).1≠(PM M b).1:=λz=>q (x3.2 z)
  refine⟨by rw[x1];omega,⟨λz=>absurd z q,λz=>absurd (by rw[z]) this⟩⟩
end Gb
theorem agr(g:List Pt):dH g=closing g:=by cases g<;>rfl
theorem VK:∀a b:List Nd,gD a b<0->jP (a.map aU) (b.map aU)<0
 |[],[],h=>absurd h (by show ¬(0:Int)<0;omega)
 |[],b::s,_=>by simp[jP]<;>omega
 |a::r,[],h=>absurd h (by show ¬(1:Int)<0;omega)
 |a::r,b::s,h=>by
  have h':(if cE a b=0 then gD r s else cE a b)<0:=h
  show(if pc (aU a) (aU b)=0 then jP (r.map aU) (s.map aU) else pc (aU a) (aU b))<0
  by_cases q:pc (aU a) (aU b)=0
  .rw[aV q];rw[aV (show cE a b=0 from q)] at h'
   exact VK r s h'
  .rw[aP q];rw[aP (show ¬cE a b=0 from q)] at h'
   exact h'
namespace Gb
open Ga
theorem VL{W:Pt->Bool}:∀(T:List Sg)(b:Sg)(p c e:Pt),Path c T e->bg (dr (p,c)) (dr b)=true->(∀s∈T,s.1≠s.2)->ID W b T->
  (∀(k:Nat) s t,(gp W p T e)[k]?=some s->(gp W p T e)[k+1]?=some t->∃(j:Nat)(x y:Sg),(b::T)[j]?=some x/\(b::T)[j+1]?=some y/\W y.1=true/\bg (dr s) (dr x)=true/\bg (dr t) (dr y)=true)/\(∃g,(gp W p T e).head?=some g/\bg (dr g) (dr b)=true)/\∃g,(gp W p T e).getLast?=some g/\bg (dr g) (dr (T.getLastD b))=true
 |[],b,p,c,e,hp,hd,_,_=>by
  have:c=e:=hp;subst this;exact⟨λk s t _ q=>by simp[gp] at q,⟨(p,c),rfl,hd⟩,(p,c),rfl,hd⟩
 |s::T,b,p,c,e,hp,hd,hn,hs=>by
  obtain⟨e1,hp'⟩:=hp;subst e1;have hn':∀s∈T,s.1≠s.2:=λx hx=>hn x (bV _ hx)
  have ds:dr s≠(0,0):=λq=>hn s af (lZ.1 q)
  unfold gp;rw[List.getLastD_cons];cases hW:W s.1
  .rw[aP af]
   have hk:=hs.1 hW;have hd2:bg (dr (p,s.1)) (dr s)=true:=ve hd hk;obtain⟨i1,⟨g,i2,i3⟩,i4⟩:=VL T s p s.2 e hp' (by rw[KM p s.1 s.2];exact KJ hd2 (qK ds)) hn' hs.2
   refine⟨λk x y hx hy=>?_,⟨g,i2,ve i3 (Bh hk)⟩,i4⟩
   obtain⟨j,u,v,q1,q2,q3⟩:=i1 k x y hx hy;exact⟨j+1,u,v,by simpa using q1,by simpa using q2,q3⟩
  .rw[aV rfl];obtain⟨i1,⟨g,i2,i3⟩,g',i4,i5⟩:=VL T s s.1 s.2 e hp' (qK ds) hn' hs.2;refine⟨λk x y hx hy=>?_,⟨_,rfl,hd⟩,g',by rw[FK,i4];rfl,i5⟩
   cases k with
   |zero=>
    obtain rfl:(p,s.1)=x:=by simpa using hx
    have hy':(gp W s.1 T e)[0]?=some y:=by simpa using hy
    rw[<-wO,i2] at hy';rw[<-jt hy'];exact⟨0,b,s,rfl,rfl,hW,hd,i3⟩
   |succ k=>
    obtain⟨j,u,v,q1,q2,q3⟩:=i1 k x y (by simpa using hx) (by simpa using hy)
    exact⟨j+1,u,v,by simpa using q1,by simpa using q2,q3⟩
theorem asl{g:List Pt}{i:Nat}{a b c:Pt}(ha:g[(i+g.length-1)%g.length]?=some a)(hb:g[i]?=some b)(hc:g[(i+1)%g.length]?=some c):mL (closing g) (a,b) (b,c)/\(i=0->(closing g).getLast?=some (a,b)/\(closing g).head?=some (b,c)):=by
 have hi:=(cG.1 hb).1;have n1:rW g i=some c:=by
  unfold rW;by_cases q:i+1<g.length
  .rw[aV q,<-hc,Di q]
  .rw[aP q,<-hc,show i+1=g.length by omega,ahf]
 have e2:=GA hb n1;by_cases q:i=0
 .subst q;rw[show 0+g.length-1=g.length-1 by omega,Di aa] at ha
  have e1:=GA ha (q:=b) (by unfold rW;rw[aP aa];exact hb)
  have e3:(closing g).getLast?=some (a,b):=by rw[nX,QK];exact e1
  have e4:(closing g).head?=some (b,c):=by rw[wO];exact e2
  exact⟨aR ⟨e3,e4⟩,λ_=>⟨e3,e4⟩⟩
 .have e0:(i+g.length-1)%g.length=i-1:=by
   rw[show i+g.length-1=(i-1)+g.length by omega,Nat.add_mod_right,Di aa]
  rw[e0] at ha;have e1:=GA ha (q:=b) (by unfold rW;rw[aV aa,show i-1+1=i by omega];exact hb)
  exact⟨aS ⟨i-1,e1,by rw[show i-1+1=i by omega];exact e2⟩,λw=>absurd w q⟩
section
variable{S:List Sg}{nx:Sg->Sg}{RL:List (List Sg)}
theorem Rs.turns(r:Rs S nx RL)(h:Wd S nx){a:Sg}{T:List Sg}(hR:a::T∈RL):(∀s t,mL (closing (cM (a::T))) s t->cr (dr s) (dr t)≠0)/\∀s t,(closing (cM (a::T))).getLast?=some s->(closing (cM (a::T))).head?=some t->(0<cr (dr s) (dr t)↔shl (a::T)):=by
 have k:=r.lr _ hR;obtain⟨g1,g2⟩:=r.gpC h hR;have hne:∀s∈a::T,s.1≠s.2:=λs hs=>h.ne s (k.ring.mem s hs)
 obtain⟨i1,⟨g,i2,i3⟩,g',i4,i5⟩:=VL T a a.1 a.2 a.1 (k.ring.path rfl).2 (qK λq=>hne a af (lZ.1 q)) (λs hs=>hne s (bV _ hs)) g2
 rw[<-g1] at i1 i2 i4;have ht:=k.turn h;have key:=(M7 i5).cr (M7 i3);have hl:(a::T).getLast?=some (T.getLastD a):=by rw[FK,nG]
 have last:∀s t,(closing (cM (a::T))).getLast?=some s->(closing (cM (a::T))).head?=some t->s=g'/\t=g:=λs t q w=>⟨jt (q.symm.trans i4),jt (w.symm.trans i2)⟩
 refine⟨λs t f=>?_,λs t q w=>?_⟩
 .rcases f with⟨j,q,w⟩|⟨q,w⟩
  .obtain⟨j,x,y,q1,q2,q3,q4,q5⟩:=i1 j s t q w;have:=((k.ring.M9 ht).2 j x y q1 q2).1 q3;exact λz=>this (((M7 q4).cr (M7 q5)).2.2.1 z)
  .obtain⟨rfl,rfl⟩:=last s t q w;exact λz=>ht (key.2.2.1 z)
 .obtain⟨rfl,rfl⟩:=last s t q w;rw[key.1];constructor
  .exact λz=>⟨a,_,rfl,hl,z⟩
  .rintro⟨a',z',e1,e2,z⟩;obtain rfl:a=a':=by simpa using e1
   rw[hl] at e2;rw[jt e2];exact z
theorem Rs.ags(r:Rs S nx RL)(h:Wd S nx){a:Sg}{T:List Sg}(hR:a::T∈RL):(cM (a::T)).Nodup/\(cM (a::T))[0]?=some a.1/\∀p∈cM (a::T),ge a.1 p:=by
 have k:=r.lr _ hR;have e:=(k.ring.M9 (k.turn h)).1;have hd:=gN.1 k.ring.o6;rw[e];refine⟨gN.2 ⟨λp hp=>?_,?_⟩,rfl,λp hp=>?_⟩
 .obtain⟨s,hs,rfl⟩:=bQ.1 hp;exact hd.1 s (jr.1 hs).1
 .rw[lF];exact hd.2.filter _
 .rcases bU.1 hp with q|q
  .rw[q];exact Gi _
  .obtain⟨s,hs,rfl⟩:=bQ.1 q;exact k.least a rfl s (bV _ (jr.1 hs).1)
theorem Rs.rk(r:Rs S nx RL)(h:Wd S nx){M:Int}(hM:0<M){c:List Nd}(hc:∀n∈c,OK M n){R:List Sg}(hR:R∈RL)(e:c.map (PM M)=cM R){sh:Bool}(hs:sh=true↔shl R):Rk (c.map aU) sh:=by
 have k3:=(r.lr R hR).agf h;cases R with
 |nil=>simp[cM,tG] at k3
 |cons a T=>
 obtain⟨t1,t2⟩:=r.turns h hR;obtain⟨f1,f2,f3⟩:=r.ags h hR;have hl:c.length=(cM (a::T)).length:=by rw[<-e,gG]
 have nd:∀{i:Nat}{q:Qt},(c.map aU)[i]?=some q->∃n,OK M n/\aU n=q/\(cM (a::T))[i]?=some (PM M n):=λ{i q} z=>by
  rw[iy] at z;cases z2:c[i]? with
  |none=>rw[z2] at z;cases z
  |some n=>
   rw[z2] at z;refine⟨n,hc n (bA z2),jt z,?_⟩;rw[<-e,iy,z2];rfl
 refine⟨by rw[gG,hl];exact k3,λi x y z hx hy hz=>?_,λi j x y hij hx hy=>?_⟩
 .rw[gG,hl] at hx hz;obtain⟨n1,o1,rfl,g1⟩:=nd hx;obtain⟨n2,o2,rfl,g2⟩:=nd hy;obtain⟨n3,o3,rfl,g3⟩:=nd hz;obtain⟨u1,u2⟩:=asl g1 g2 g3;obtain⟨k1,k2,k3⟩:=C0 hM o1 o2 o3;have e3:cr (dr (PM M n1,PM M n2)) (dr (PM M n1,PM M n3))=cr (dr (PM M n1,PM M n2)) (dr (PM M n2,PM M n3)):=by unfold cr dr;simp only;grind
  rw[e3] at k1 k2 k3;refine⟨λq=>t1 _ _ u1 (k3.1 q),λq=>?_⟩
  obtain⟨v1,v2⟩:=u2 q;rw[k1,hs];exact t2 _ _ v1 v2
 .obtain⟨n1,o1,rfl,g1⟩:=nd hx;obtain⟨n2,o2,rfl,g2⟩:=nd hy;obtain⟨k1,k2⟩:=nU hM o1 o2;refine⟨λq=>?_,λq=>?_⟩
  .rw[k2.1 q] at g1;have:=M8 f1 g1 g2;omega
  .subst q;rw[f2] at g1;have w:=f3 _ (bA g2);rw[jt g1] at w;have:=mt k1.1 λz:bz (dr (PM M n2,PM M n1))=>by
    unfold ge dr at w;unfold bz dr at z;simp only at w z;omega
   omega
theorem Ins.rv{n:N3}{a b:Pt}(h:Ins n (a,b)):Ins n (b,a):=⟨by rw[uZ];exact h.1,h.2.2,h.2.1⟩
theorem agt{x y:Int}(h:x*y<0):(0<x/\y<0)\/(x<0/\0<y):=by
 rcases gf x 0 with q|q|q
 .right;refine⟨q,?_⟩;apply iV;intro w;have:=uQ (fA q) (show y<=0 by omega)
  omega
 .rw[q] at h;simp at h
 .left;refine⟨q,?_⟩;apply iV;intro w;have:=jF (fA q) (show 0<=y by omega)
  omega
theorem asm{M:Int}(hM:0<M){a b c d:Nd}(ha:OK M a)(hb:OK M b)(hc:OK M c)(hd:OK M d)(hab:PM M a≠PM M b)(Bg:PM M c≠PM M d)(no:∀n:N3,0<n.2.2->Ins n (PM M a,PM M b)->Ins n (PM M c,PM M d)->False):E4 (aU a) (aU b) (aU c) (aU d):=by
 have sw:∀A B C:Pt,cr (dr (B,A)) (dr (B,C))= -cr (dr (A,B)) (dr (A,C)):=λA B C=>by unfold cr dr;simp only;grind
 constructor
 .rintro⟨h1,h2⟩;have o1:=C0 hM ha hb hc;have o2:=C0 hM ha hb hd;have o3:=C0 hM hc hd ha;have o4:=C0 hM hc hd hb;have p:cr (dr (PM M c,PM M d)) (dr (PM M c,PM M a))*cr (dr (PM M c,PM M d)) (dr (PM M c,PM M b))<0:=by
   rcases agt h2 with⟨q,w⟩|⟨q,w⟩
   .exact wK (o3.1.1 q) (o4.2.1.1 w)
   .exact uR (o3.2.1.1 q) (o4.1.1 w)
  rcases agt h1 with⟨q,w⟩|⟨q,w⟩
  .obtain⟨n,n1,n2,n3⟩:=agp (o1.1.1 q) (o2.2.1.1 w) p;exact no n n1 n2 n3
  .obtain⟨n,n1,n2,n3⟩:=agp (o2.1.1 w) (o1.2.1.1 q) (by rw[sw,sw (PM M c)];rw[AH];exact p)
   exact no n n1 n2 n3.rv
 .intro h1 h2;have c1:=(C0 hM ha hb hc).2.2.1 h1;have c2:=(C0 hM ha hb hd).2.2.1 h2;apply iV;intro q;have q1:0<pc (pH (aU a) (aU b)) (pG (aU c) (aU d)):=aa
  have q2:0<pc (pH (aU c) (aU d)) (pG (aU a) (aU b)):=aa
  have ne:∀A B:Pt,A≠B->¬bz (dr (B,A))->bz (dr (A,B)):=λA B hne hr=>by
   have:dr (A,B)=neg (dr (B,A)):=rR (B,A);rw[this];exact ie (λq=>hne (lZ.1 q).symm) hr
  have c3:=sw (PM M a) (PM M b) (PM M c);have c4:=sw (PM M a) (PM M b) (PM M d);rw[c1] at c3;rw[c2] at c4;unfold pH pG at q1 q2;by_cases x:0<pc (aU a) (aU b)<;>by_cases y:0<pc (aU c) (aU d)
  .rw[aV x,aV y] at q1 q2;obtain⟨n,n1,n2,n3⟩:=O0 ((nU hM ha hb).1.1 x) ((nU hM hc hd).1.1 y) c4 c3 ((nU hM ha hd).1.1 q1) ((nU hM hc hb).1.1 q2);exact no n n1 n2.rv n3.rv
  .rw[aV x,aP y] at q1 q2;obtain⟨n,n1,n2,n3⟩:=O0 ((nU hM ha hb).1.1 x) (ne _ _ Bg (mt (nU hM hc hd).1.2 y)) c3 c4 ((nU hM ha hc).1.1 q1) ((nU hM hd hb).1.1 q2);exact no n n1 n2.rv n3
  .rw[aP x,aV y] at q1 q2;obtain⟨n,n1,n2,n3⟩:=O0 (ne _ _ hab (mt (nU hM ha hb).1.2 x)) ((nU hM hc hd).1.1 y) c2 c1 ((nU hM hb hd).1.1 q1) ((nU hM hc ha).1.1 q2);exact no n n1 n2 n3.rv
  .rw[aP x,aP y] at q1 q2;obtain⟨n,n1,n2,n3⟩:=O0 (ne _ _ hab (mt (nU hM ha hb).1.2 x)) (ne _ _ Bg (mt (nU hM hc hd).1.2 y)) c1 c2 ((nU hM hb hc).1.1 q1) ((nU hM hd ha).1.1 q2);exact no n n1 n2 n3
end
end Gb
theorem JL{α β:Type}{f:α->β}{L:List α}{i:Nat}{y:β}(h:(L.map f)[i]?=some y):∃x,L[i]?=some x/\f x=y:=by
 rw[iy] at h;cases e:L[i]? with
 |none=>rw[e] at h;cases h
 |some x=>rw[e] at h;exact⟨x,rfl,jt h⟩
namespace Gb
open Ga
theorem FC{M:Int}{g:List Nd}{e:Nd×Nd}(h:e∈dH g):(PM M e.1,PM M e.2)∈closing (g.map (PM M)):=by
 rw[<-agr,Np];exact bQ.2 ⟨e,h,rfl⟩
section
variable{rg:List (List Pt)}{l:List Nd}{r:Int}{Xs:List PB}
theorem asn(h:SX rg l r Xs)(hB:BD Xs):Io ((fin Xs).map oq):=by
 have hW:=SX.wd h hB;obtain⟨hM,hO⟩:=di.ok h.nl;obtain⟨RL,hr,hp⟩:=SX.rsF h hB;have c:=SX.canon h hB;have ring:∀g∈yF (fin Xs),(∀n∈g,OK (aW l) n)/\∃R∈RL,g.map (PM (aW l))=cM R:=λg hg=>by
  refine⟨λn hn=>hO n ?_,?_⟩
  .obtain⟨p,hp,hg⟩:=oW.1 hg;rcases bU.1 hg with q|q
   .exact(c.nd p hp).1 n (q▸hn)
   .exact(c.nd p hp).2 g q n hn
  .obtain⟨R,hR,e⟩:=bQ.1 (hp.mem_iff.1 (bQ.2 ⟨g,hg,rfl⟩));exact⟨R,hR,e.symm⟩
 have inr:∀p∈fin Xs,∀(k:Nat)(g:List Nd),(p.1::p.2)[k]?=some g->g∈yF (fin Xs):=λp hp k g hg=>oW.2 ⟨p,hp,bA hg⟩
 have agu:∀R∈RL,∀e∈closing (cM R),e.1≠e.2:=λR hR e he q=>by
  cases R with
  |nil=>simp[cM,tG,closing] at he
  |cons a T=>
   obtain⟨⟨t,f⟩,_⟩:=ank he;refine(hr.turns hW hR).1 e t f ?_;rw[lZ.2 q];simp[cr]
 have ap:∀g∈yF (fin Xs),∀g'∈yF (fin Xs),∀x∈dH g,∀y∈dH g',(∀n:N3,0<n.2.2->Ins n (PM (aW l) y.1,PM (aW l) y.2)->Ins n (PM (aW l) x.1,PM (aW l) x.2)->False)->E4 (aU y.1) (aU y.2) (aU x.1) (aU x.2):=λg hg g' hg' x hx y hy no=>by
  obtain⟨o1,R,hR,e1⟩:=ring g hg;obtain⟨o2,R',hR',e2⟩:=ring g' hg';have mx:=TJ hx;have my:=TJ hy;exact asm hM (o2 _ my.1) (o2 _ my.2) (o1 _ mx.1) (o1 _ mx.2) (agu R' hR' _ (e2▸FC hy)) (agu R hR _ (e1▸FC hx)) no
 constructor
 .intro p hp k g hg;obtain⟨p,hp1,rfl⟩:=bQ.1 hp;obtain⟨g,hg1,rfl⟩:=JL hg;obtain⟨o1,R,hR,e1⟩:=ring g (inr p hp1 k g hg1);refine hr.rk hW hM o1 hR e1 ?_;obtain⟨R0,r1,r2,r3,r4⟩:=c.c1 p hp1;cases k with
  |zero=>
   obtain rfl:p.1=g:=by simpa using hg1
   have:=r1.Gt hW (hr.lr R hR) (r3.symm.trans e1);rw[<-this];simp[r2]
  |succ k=>
   have hg':p.2[k]?=some g:=by simpa using hg1
   obtain⟨H,h1,h2,h3,_⟩:=r4 g (bA hg');have:=h1.Gt hW (hr.lr R hR) (h3.symm.trans e1);rw[<-this];simp[h2]
 .intro p hp k x y hx hy;obtain⟨p,hp1,rfl⟩:=bQ.1 hp;obtain⟨x,hx1,rfl⟩:=JL hx;obtain⟨y,hy1,rfl⟩:=JL hy;exact VK x y (TM (c.s2 p hp1) (show k<k+1 by omega) (by simpa using hx1) (by simpa using hy1))
 .intro i p q hp hq x y hx hy;obtain⟨p,hp1,rfl⟩:=JL hp;obtain⟨q,hq1,rfl⟩:=JL hq;obtain rfl:p.1.map aU=x:=by simpa[oq] using hx
  obtain rfl:q.1.map aU=y:=by simpa[oq] using hy
  exact VK _ _ (TM c.s1 (show i<i+1 by omega) hp1 hq1)
 .have ef:((fin Xs).map oq).flatMap (λp=>p.flatMap dH)=(yF (fin Xs)).flatMap λg=>dH (g.map aU):=by
   unfold yF oq;rw[WK,List.flatMap_assoc];congr 1;funext p;rw[WK]
  have hnd:RL.Pairwise λR R'=>R≠R':=by
   have Cg:=hr.per.nodup_iff.2 (SX.nodup h);refine(ahA.1 Cg).2.imp_of_mem λ{R R'} hR _ k e=>?_
   subst e;obtain⟨a,z,ha,_⟩:=mE (hr.lr R hR).ring.ne;exact k a (rQ ha) a (rQ ha) rfl
  have hQ:(RL.map cM).Pairwise λg g'=>∀e∈closing g,∀f∈closing g',∀n:N3,0<n.2.2->Ins n e->Ins n f->False:=
   lF.2 (hnd.imp_of_mem λhR hR' k e he f hf n hn i1 i2=>hr.acq hW hR hR' he hf (aS k) hn i1 i2)
  have LP:=lF.1 ((hp.pairwise_iff λ{x y} q e he f hf n hn i1 i2=>q f hf e he n hn i2 i1).2 hQ)
  rw[ef,aty];refine⟨λg hg=>?_,LP.imp_of_mem λ{g g'} hg hg' k x hx y hy=>?_⟩
  .obtain⟨o1,R,hR,e1⟩:=ring g hg;have nd:((closing (g.map (PM (aW l)))).map Prod.fst).Nodup:=by
    rw[asb,e1];cases R with
    |nil=>simp[cM,tG]
    |cons a T=>exact(hr.ags hW hR).1
   rw[<-agr,Np,gq,List.Nodup,lF] at nd;rw[Np,lF];refine nd.imp_of_mem λ{x y} hx hy k=>ap g hg g hg x hx y hy λn hn i1 i2=>?_
   exact hr.acq hW hR hR (e1▸FC hx) (e1▸FC hy) (aR k) hn i2 i1
  .rw[Np] at hx hy;obtain⟨x,hx1,rfl⟩:=bQ.1 hx;obtain⟨y,hy1,rfl⟩:=bQ.1 hy;exact ap g hg g' hg' x hx1 y hy1 λn hn i1 i2=>k _ (FC hx1) _ (FC hy1) n hn i2 i1
end
end Gb
end
section
open Go.RowKit
variable{b k n cap X base:Nat}{w w' wr:aM}{lv v v':aN}
def Q4(w:aM)(b k:Nat)(e:Ge.Qt):Prop:=w.cell? ⟨b,k*4,none⟩=some (az aJ e.1.1)/\w.cell? ⟨b,k*4+1,none⟩=some (az aJ e.1.2)/\w.cell? ⟨b,k*4+2,none⟩=some (az aJ e.2.1)/\w.cell? ⟨b,k*4+3,none⟩=some (az aJ e.2.2)
theorem Q4.below{e:Ge.Qt}(h:Q4 w b k e)(hb:Below n w w')(hn:b<n):Q4 w' b k e:=
 ⟨(aQ hb h.1 hn),(aQ hb h.2.1 hn),(aQ hb h.2.2.1 hn),(aQ hb h.2.2.2 hn)⟩
theorem agv{so:Option Addr}{g:List Ge.Qt}(h:nK w (aG so n cap) g)(hg:0<g.length):∃b,so=some ⟨b,0,none⟩/\b<w.heap.size/\∀k e,g[k]?=some e->Q4 w b k e:=by
 obtain⟨b,rfl,hb,_⟩:=zA h (bo hg);refine⟨b,rfl,hb,λk e he=>?_⟩
 obtain⟨b',hb',_,c⟩:=zA h he;injection hb' with hb';injection hb' with hb';subst hb';exact c
theorem aso(g:List Ge.Qt)(sh:Bool)(v:aN)(w:aM)(hR:nK w v g)(hq:∀q∈g,fY q)(hl:g.length<=20000000402)(hk:Rk g sh):
  ak 50 #[v,aD sh] w λe w'=>e=aL (aD true)/\aj w w':=by
 obtain⟨so,cap,rfl⟩:=zz hR;have h3:=hk.len;obtain⟨X,rfl,hX,hc⟩:=agv hR aa
 have HC:Hid (∀k e,g[k]?=some e->Q4 w X k e):=hc;have HK:Hid (Rk g sh):=hk;have HQ:Hid (∀q∈g,fY q):=hq;have HX:Hid (X<w.heap.size):=hX;obtain⟨n,hn⟩:∃n,n=g.length:=⟨_,rfl⟩;rw[<-hn] at hl h3⊢;have HL:Hid (n=g.length):=hn;clear hR hc hk hq hX hn
 go_enter func50,ntmps50
 go_wp2_with fail
 go_loopg [6] n (λm iv wr=>∃i:Nat,i+m=n/\iv=az aJ i/\Hid (aj w wr))
 case atStart=>exact⟨0,aa,rfl,Below.refl _ _⟩
 case round=>
  obtain⟨i,hm,rfl,HB⟩:=hrel;by_cases hlt:i<n
  .have m1:(i:Int)<(n:Int):=aa
   have hn:=HL.out;obtain⟨j1,tV⟩:∃j1,j1=(i+n-1)%n:=⟨_,rfl⟩;obtain⟨j2,vN⟩:∃j2,j2=(i+1)%n:=⟨_,rfl⟩;have l1:j1<n:=tV▸uU _ aa
   have l2:j2<n:=vN▸uU _ aa
   obtain⟨p,hp⟩:∃p,g[j1]?=some p:=⟨_,bo aa⟩
   obtain⟨q,hq⟩:∃q,g[i]?=some q:=⟨_,bo aa⟩
   obtain⟨r,hr⟩:∃r,g[j2]?=some r:=⟨_,bo aa⟩
   obtain⟨x0,x1,x2,x3⟩:=(HC.out j1 p hp).below HB.out HX.out;obtain⟨y0,y1,y2,y3⟩:=(HC.out i q hq).below HB.out HX.out;obtain⟨z0,z1,z2,z3⟩:=(HC.out j2 r hr).below HB.out HX.out;have HT:Hid (lS p q r≠0/\(i=0->(0<lS p q r↔sh=true))):=HK.out.trn i p q r (by rw[<-hn,<-tV];exact hp) hq (by rw[<-hn,<-vN];exact hr)
   have HO:Hid (∀w1,ak 48 #[aC (qA p),aC (qA q),aC (qA r)] w1 λe w'=>e=aL (az aJ (lS p q r))/\aj w1 w'):=λw1=>IP p q r w1 (HQ.out p (bA hp)) (HQ.out q (bA hq)) (HQ.out r (bA hr))
   obtain⟨s,hs⟩:∃s,s=i+n:=⟨_,rfl⟩;obtain⟨t,ht⟩:∃t,t=i+n-1:=⟨_,rfl⟩;obtain⟨u,hu⟩:∃u,u=i+1:=⟨_,rfl⟩;have k1:IntKind.i64.wrap ((i:Int)+(n:Int))=(s:Int):=by rw[IntKind.wrap_i64];omega
   have k2:IntKind.i64.wrap ((s:Int)-1)=(t:Int):=by rw[IntKind.wrap_i64];omega
   have k3:(t:Int).tmod (n:Int)=(j1:Int):=by rw[tV,ht];rfl
   have k4:IntKind.i64.wrap ((i:Int)+1)=(u:Int):=by rw[IntKind.wrap_i64];omega
   have k5:(u:Int).tmod (n:Int)=(j2:Int):=by rw[vN,hu];rfl
   have k6:t%n=j1:=by rw[tV,ht]
   have k7:u%n=j2:=by rw[vN,hu]
   have n3:¬n=0:=aa
   have n1:(j1:Int)<(n:Int):=aa
   have n2:(j2:Int)<(n:Int):=aa
   have n0:¬((n:Int)=0):=aa
   have HN:Hid (n=g.length/\i<n/\i+gk=n/\3<=n/\n<=20000000402):=⟨hn,aa,aa,aa,aa⟩
   have hXr:X<wr.heap.size:=bW HX.out HB.out.size;clear hs ht hu tV vN hp hq hr hlt hm hl h3 hn l1 l2
   go_wp2_with fail
   go_region_held3 (λw'=>w'.cell? ⟨X,j1*4,none⟩=some (az aJ p.1.1)/\w'.cell? ⟨X,j1*4+1,none⟩=some (az aJ p.1.2)/\w'.cell? ⟨X,j1*4+2,none⟩=some (az aJ p.2.1)/\w'.cell? ⟨X,j1*4+3,none⟩=some (az aJ p.2.2)/\w'.cell? ⟨X,i*4,none⟩=some (az aJ q.1.1)/\w'.cell? ⟨X,i*4+1,none⟩=some (az aJ q.1.2)/\w'.cell? ⟨X,i*4+2,none⟩=some (az aJ q.2.1)/\w'.cell? ⟨X,i*4+3,none⟩=some (az aJ q.2.2)/\w'.cell? ⟨X,j2*4,none⟩=some (az aJ r.1.1)/\w'.cell? ⟨X,j2*4+1,none⟩=some (az aJ r.1.2)/\w'.cell? ⟨X,j2*4+2,none⟩=some (az aJ r.2.1)/\w'.cell? ⟨X,j2*4+3,none⟩=some (az aJ r.2.2)) (go_keep) (first
    |(go_at_call 48;refine(HO.out _).mono ?_;rintro e w7 ⟨rfl,bu⟩;have pF:Hid (aj w w7):=HB.out.drew.trans (bu.mono HB.out.drew.size);have hk:=λ(o:Nat)=>bu.cell (p:=⟨X,o,none⟩) hXr;replace x0:=(hk _).trans x0;replace x1:=(hk _).trans x1;replace x2:=(hk _).trans x2;replace x3:=(hk _).trans x3;replace y0:=(hk _).trans y0;replace y1:=(hk _).trans y1;replace y2:=(hk _).trans y2;replace y3:=(hk _).trans y3;replace z0:=(hk _).trans z0;replace z1:=(hk _).trans z1;replace z2:=(hk _).trans z2;replace z3:=(hk _).trans z3;clear hk bu))
   obtain⟨o,ho⟩:∃o,o=lS p q r:=⟨_,rfl⟩;rw[<-ho];have yE:o≠0/\(i=0->(0<o↔sh=true)):=ho▸HT.out;obtain⟨o0,os⟩:=yE;obtain⟨q,hq⟩:∃q,g[i]?=some q:=⟨_,bo (by have:=HN.out;omega)⟩
   clear x0 x1 x2 x3 y0 y1 y2 y3 z0 z1 z2 z3 k1 k2 k3 k4 k5 k6 k7 n1 n2 HT HO ho HB;have ob:(o == 0)=false:=tJ.2 o0;have hc3:((i:Int) == 0)=false\/(((i:Int) == 0)=true/\sh=true/\0<o)\/(((i:Int) == 0)=true/\sh=false/\¬0<o):=by
    by_cases z:i=0
    .cases sh with
     |true=>exact aR (aS ⟨Wf.2 aa,rfl,(os z).2 rfl⟩)
     |false=>exact aR (aR ⟨Wf.2 aa,rfl,λk=>by have:=(os z).1 k;cases this⟩)
    .exact aS (tJ.2 aa)
   clear os;rcases hc3 with z|⟨zb,rfl,z⟩|⟨zb,rfl,z⟩
   all_goals
    go_wp2_with fail
    obtain⟨m,hm⟩:∃m,m=gk:=⟨_,rfl⟩
    go_loopg [8] i (λm kv wr=>∃k:Nat,k+m=i/\kv=az aJ k/\Hid (aj w wr))
    case atStart=>exact⟨0,aa,rfl,pF.out⟩
    case round=>
     obtain⟨k,rf,rfl,fw⟩:=hrel;by_cases ik:k<i
     .obtain⟨a,ha⟩:∃a,g[k]?=some a:=⟨_,bo (by have:=HN.out;omega)⟩
      obtain⟨x0,x1,x2,x3⟩:=(HC.out k a ha).below fw.out HX.out;obtain⟨y0,y1,y2,y3⟩:=(HC.out i q hq).below fw.out HX.out;have hXw:X<wr.heap.size:=bW HX.out fw.out.size;obtain⟨c0,cs⟩:=HK.out.dst i k a q ik ha hq;have HP:Hid (∀w1,ak 47 #[aC (qA a),aC (qA q)] w1 λe w'=>e=aL (az aJ (Ge.pc a q))/\aj w1 w'):=λw1=>QZ a q w1 (HQ.out a (bA ha)) (HQ.out q (bA hq))
      have l1:(k:Int)<(i:Int):=aa
      have l2:(k:Int)<(n:Int):=by have:=HN.out;omega
      have l3:(i:Int)<(n:Int):=by have:=HN.out;omega
      have HM:Hid (k+gk=i/\k<i/\i<=20000000402):=⟨aa,ik,by have:=HN.out;omega⟩
      have HDS:Hid ((Ge.pc a q == 0)=false/\(k=0->Ge.pc a q<=0)):=⟨tJ.2 c0,cs⟩;clear ha ik rf c0 cs pF
      go_wp2_with fail
      go_region_held3 (λw'=>w'.cell? ⟨X,k*4,none⟩=some (az aJ a.1.1)/\w'.cell? ⟨X,k*4+1,none⟩=some (az aJ a.1.2)/\w'.cell? ⟨X,k*4+2,none⟩=some (az aJ a.2.1)/\w'.cell? ⟨X,k*4+3,none⟩=some (az aJ a.2.2)/\w'.cell? ⟨X,i*4,none⟩=some (az aJ q.1.1)/\w'.cell? ⟨X,i*4+1,none⟩=some (az aJ q.1.2)/\w'.cell? ⟨X,i*4+2,none⟩=some (az aJ q.2.1)/\w'.cell? ⟨X,i*4+3,none⟩=some (az aJ q.2.2)) (go_keep) (first
       |(go_at_call 47;refine(HP.out _).mono ?_;rintro e w8 ⟨rfl,kN⟩;have CC:Hid (aj w w8):=fw.out.drew.trans (kN.mono fw.out.drew.size);have hk:=λ(o:Nat)=>kN.cell (p:=⟨X,o,none⟩) hXw;replace x0:=(hk _).trans x0;replace x1:=(hk _).trans x1;replace x2:=(hk _).trans x2;replace x3:=(hk _).trans x3;replace y0:=(hk _).trans y0;replace y1:=(hk _).trans y1;replace y2:=(hk _).trans y2;replace y3:=(hk _).trans y3;clear hk kN))
      obtain⟨c,hc⟩:∃c,c=Ge.pc a q:=⟨_,rfl⟩;have asq:(c == 0)=false/\(k=0->c<=0):=hc▸HDS.out;rw[<-hc];obtain⟨d0,ds⟩:=asq;clear hc HDS x0 x1 x2 x3 y0 y1 y2 y3 fw;have hd:((k:Int) == 0)=false\/(((k:Int) == 0)=true/\¬0<c):=by
       by_cases z:k=0
       .exact aR ⟨Wf.2 aa,by have:=ds z;omega⟩
       .exact aS (tJ.2 aa)
      clear ds;have hkl:(k:Int)<=20000000402:=by have:=HM.out;omega
      rcases hd with kz|⟨kb,kz⟩
      all_goals
       go_wp2_with fail
       go_roundg (gk-1)
       case measure=>have:=HM.out;omega
       case rel=>exact⟨k+1,by have:=HM.out;omega,by have:=HM.out;go_num,CC.out⟩
     .have l1:¬(k:Int)<(i:Int):=aa
      clear ik;have hin:(i:Int)<(n:Int):=by have:=HN.out;omega
      have hnl:n<=20000000402:=by have:=HN.out;omega
      go_wp2_with fail
      go_roundg (m-1)
      case measure=>have:=HN.out;omega
      case rel=>exact⟨i+1,by have:=HN.out;omega,ai,fw.out⟩
  .have m1:¬(i:Int)<(n:Int):=aa
   have h3':(3:Int)<=(n:Int):=aa
   clear hlt
   go_wp2_with fail
   go_ret
   exact⟨by simp<;>omega,HB.out⟩
theorem JM(W:aM)(a b c d:Int):P4 (W.alloc (.cells #[az aJ a,az aJ b,az aJ c,az aJ d] 100)) W.heap.size a b c d:=heap_alloc_new W _
structure F4(W:aM)(A B C D:Nat)(a1 a2 a3 a4 b1 b2 b3 b4 c1 c2 c3 c4 d1 d2 d3 d4:Int):Prop where
 a:P4 W A a1 a2 a3 a4
 b:P4 W B b1 b2 b3 b4
 c:P4 W C c1 c2 c3 c4
 d:P4 W D d1 d2 d3 d4
def C4(w':aM)(A B C D:Nat)(a1 a2 a3 a4 b1 b2 b3 b4 c1 c2 c3 c4 d1 d2 d3 d4:Int):Prop:=w'.cell? ⟨A,0,none⟩=some (az aJ a1)/\w'.cell? ⟨A,1,none⟩=some (az aJ a2)/\w'.cell? ⟨A,2,none⟩=some (az aJ a3)/\w'.cell? ⟨A,3,none⟩=some (az aJ a4)/\w'.cell? ⟨B,0,none⟩=some (az aJ b1)/\w'.cell? ⟨B,1,none⟩=some (az aJ b2)/\w'.cell? ⟨B,2,none⟩=some (az aJ b3)/\w'.cell? ⟨B,3,none⟩=some (az aJ b4)/\w'.cell? ⟨C,0,none⟩=some (az aJ c1)/\w'.cell? ⟨C,1,none⟩=some (az aJ c2)/\w'.cell? ⟨C,2,none⟩=some (az aJ c3)/\w'.cell? ⟨C,3,none⟩=some (az aJ c4)/\w'.cell? ⟨D,0,none⟩=some (az aJ d1)/\w'.cell? ⟨D,1,none⟩=some (az aJ d2)/\w'.cell? ⟨D,2,none⟩=some (az aJ d3)/\w'.cell? ⟨D,3,none⟩=some (az aJ d4)
theorem F4.cells{W:aM}{A B C D:Nat}{a1 a2 a3 a4 b1 b2 b3 b4 c1 c2 c3 c4 d1 d2 d3 d4:Int}(h:F4 W A B C D a1 a2 a3 a4 b1 b2 b3 b4 c1 c2 c3 c4 d1 d2 d3 d4)(hb:Bw W w'):C4 w' A B C D a1 a2 a3 a4 b1 b2 b3 b4 c1 c2 c3 c4 d1 d2 d3 d4:=by
 have ha:=h.a.mv hb;have hb':=h.b.mv hb;have hc:=h.c.mv hb;have hd:=h.d.mv hb;exact⟨cell_of ha 0,cell_of ha 1,cell_of ha 2,cell_of ha 3,cell_of hb' 0,cell_of hb' 1,cell_of hb' 2,cell_of hb' 3,cell_of hc 0,cell_of hc 1,cell_of hc 2,cell_of hc 3,cell_of hd 0,cell_of hd 1,cell_of hd 2,cell_of hd 3⟩
theorem asr(w:aM)(a1 a2 a3 a4 b1 b2 b3 b4 c1 c2 c3 c4 d1 d2 d3 d4:Int):∃W,W=((((w.alloc (.cells #[az aJ a1,az aJ a2,az aJ a3,az aJ a4] 100)).alloc (.cells #[az aJ b1,az aJ b2,az aJ b3,az aJ b4] 100)).alloc (.cells #[az aJ c1,az aJ c2,az aJ c3,az aJ c4] 100)).alloc (.cells #[az aJ d1,az aJ d2,az aJ d3,az aJ d4] 100))/\F4 W w.heap.size (w.heap.size+1) (w.heap.size+1+1) (w.heap.size+1+1+1) a1 a2 a3 a4 b1 b2 b3 b4 c1 c2 c3 c4 d1 d2 d3 d4/\Bw w W:=by
 obtain⟨W,e,⟨hA,hB,hC⟩,hb⟩:=acH w a1 a2 a3 a4 b1 b2 b3 b4 c1 c2 c3 c4;rw[<-e];have hs:W.heap.size=w.heap.size+1+1+1:=by rw[e];simp
 have hD:=JM W d1 d2 d3 d4;rw[hs] at hD;exact⟨_,rfl,⟨hA.mv (jf _ _),hB.mv (jf _ _),hC.mv (jf _ _),hD⟩,Bw.tr hb (jf _ _)⟩
theorem ass{p q:Prop}(h:p\/q):p\/(¬p/\q):=by
 by_cases k:p
 .exact aS k
 .exact aR ⟨k,h.resolve_left k⟩
theorem P4.cs{a b c d:Int}(h:P4 w X a b c d):w.cell? ⟨X,0,none⟩=some (az aJ a)/\w.cell? ⟨X,1,none⟩=some (az aJ b)/\w.cell? ⟨X,2,none⟩=some (az aJ c)/\w.cell? ⟨X,3,none⟩=some (az aJ d):=⟨cell_of h 0,cell_of h 1,cell_of h 2,cell_of h 3⟩
theorem O2{p q r s:Int}(h:P4 w X p q r s)(x y z t:Int):∃V1 V2 V3 V4,w.setCell ⟨X,0,none⟩ (az aJ x)=V1/\V1.setCell ⟨X,1,none⟩ (az aJ y)=V2/\V2.setCell ⟨X,2,none⟩ (az aJ z)=V3/\V3.setCell ⟨X,3,none⟩ (az aJ t)=V4/\w.cell? ⟨X,0,none⟩=some (az aJ p)/\V1.cell? ⟨X,1,none⟩=some (az aJ q)/\V2.cell? ⟨X,2,none⟩=some (az aJ r)/\V3.cell? ⟨X,3,none⟩=some (az aJ s)/\w.frozen? ⟨X,0,none⟩=false/\V1.frozen? ⟨X,1,none⟩=false/\V2.frozen? ⟨X,2,none⟩=false/\V3.frozen? ⟨X,3,none⟩=false/\Hid (P4 V4 X x y z t)/\Hid (∀{Y:Nat}{a b c d:Int},Y≠X->P4 w Y a b c d->P4 V4 Y a b c d)/\Hid (∀{W:aM},Bw W w->W.heap.size<=X->Bw W V4):=by
 have k1:P4 (w.setCell ⟨X,0,none⟩ (az aJ x)) X x q r s:=by
  show _=_;rw[heap_set h];rfl
 have k2:P4 ((w.setCell ⟨X,0,none⟩ (az aJ x)).setCell ⟨X,1,none⟩ (az aJ y)) X x y r s:=by
  show _=_;rw[heap_set k1];rfl
 have k3:P4 (((w.setCell ⟨X,0,none⟩ (az aJ x)).setCell ⟨X,1,none⟩ (az aJ y)).setCell ⟨X,2,none⟩ (az aJ z)) X x y z s:=by
  show _=_;rw[heap_set k2];rfl
 have k4:P4 ((((w.setCell ⟨X,0,none⟩ (az aJ x)).setCell ⟨X,1,none⟩ (az aJ y)).setCell ⟨X,2,none⟩ (az aJ z)).setCell ⟨X,3,none⟩ (az aJ t)) X x y z t:=by
  show _=_;rw[heap_set k3];rfl
 exact⟨_,_,_,_,rfl,rfl,rfl,rfl,cell_of h 0,cell_of k1 1,cell_of k2 2,cell_of k3 3,bK h 0,bK k1 1,bK k2 2,bK k3 3,k4,λhn hy=>(dS hn _).trans ((dS hn _).trans ((dS hn _).trans ((dS hn _).trans hy))),λhb hx=>(((Below.setCell hb hx _).setCell hx _).setCell hx _).setCell hx _⟩
theorem O3(a1 a2 a3 a4 b1 b2 b3 b4:Int)(w:aM)(ha:fY ((a1,a2),(a3,a4)))(hb:fY ((b1,b2),(b3,b4))):
  ak 47 #[aC #[az aJ a1,az aJ a2,az aJ a3,az aJ a4],aC #[az aJ b1,az aJ b2,az aJ b3,az aJ b4]] w λe w'=>e=aL (az aJ (Ge.pc ((a1,a2),(a3,a4)) ((b1,b2),(b3,b4))))/\aj w w':=QZ ((a1,a2),(a3,a4)) ((b1,b2),(b3,b4)) w ha hb
theorem ast(a1 a2 a3 a4 b1 b2 b3 b4 c1 c2 c3 c4 d1 d2 d3 d4 p q r s:Int)(w:aM)(HI:Hid (fY ((a1,a2),(a3,a4))/\fY ((b1,b2),(b3,b4))/\fY ((c1,c2),(c3,c4))/\fY ((d1,d2),(d3,d4))))(ep:p=lS ((a1,a2),(a3,a4)) ((b1,b2),(b3,b4)) ((c1,c2),(c3,c4)))(eq:q=lS ((a1,a2),(a3,a4)) ((b1,b2),(b3,b4)) ((d1,d2),(d3,d4)))(er:r=lS ((c1,c2),(c3,c4)) ((d1,d2),(d3,d4)) ((a1,a2),(a3,a4)))(es:s=lS ((c1,c2),(c3,c4)) ((d1,d2),(d3,d4)) ((b1,b2),(b3,b4)))(HA:Hid (E4 ((a1,a2),(a3,a4)) ((b1,b2),(b3,b4)) ((c1,c2),(c3,c4)) ((d1,d2),(d3,d4)))):
  ak 52 #[aC #[az aJ a1,az aJ a2,az aJ a3,az aJ a4],aC #[az aJ b1,az aJ b2,az aJ b3,az aJ b4],aC #[az aJ c1,az aJ c2,az aJ c3,az aJ c4],aC #[az aJ d1,az aJ d2,az aJ d3,az aJ d4]] w λe w'=>e=aL (aD true)/\Below w.heap.size w w':=by
 have bd:∀z:Int, -1<=z.sign/\z.sign<=1:=λz=>by
  rcases gf z 0 with k|k|k
  .rw[yI k];omega
  .subst k;simp
  .rw[nV k];omega
 have mb:∀{x y:Int},(-1<=x/\x<=1)->(-1<=y/\y<=1)->IntKind.i64.wrap (x*y)=x*y:=λ{x y} hx hy=>by
  have:x= -1\/x=0\/x=1:=aa
  rw[IntKind.wrap_i64];rcases this with k|k|k<;>subst k<;>omega
 have k1:IntKind.i64.wrap (p*q)=p*q:=mb (by rw[ep];exact bd _) (by rw[eq];exact bd _)
 have k2:IntKind.i64.wrap (r*s)=r*s:=mb (by rw[er];exact bd _) (by rw[es];exact bd _)
 have hx:¬(p*q<0/\r*s<0):=by rw[ep,eq,er,es];exact HA.out.x
 have HY:Hid (p=0->q=0->Ge.pc (pH ((a1,a2),(a3,a4)) ((b1,b2),(b3,b4))) (pG ((c1,c2),(c3,c4)) ((d1,d2),(d3,d4)))<=0\/Ge.pc (pH ((c1,c2),(c3,c4)) ((d1,d2),(d3,d4))) (pG ((a1,a2),(a3,a4)) ((b1,b2),(b3,b4)))<=0):=λh1 h2=>HA.out.y (ep▸h1) (eq▸h2)
 have HP:Hid (∀w1,ak 48 #[aC (qA ((a1,a2),(a3,a4))),aC (qA ((b1,b2),(b3,b4))),aC (qA ((c1,c2),(c3,c4)))] w1 λe w'=>e=aL (az aJ p)/\Below w1.heap.size w1 w'):=λw1=>ep▸IP _ _ _ w1 HI.out.1 HI.out.2.1 HI.out.2.2.1
 have HQ:Hid (∀w1,ak 48 #[aC (qA ((a1,a2),(a3,a4))),aC (qA ((b1,b2),(b3,b4))),aC (qA ((d1,d2),(d3,d4)))] w1 λe w'=>e=aL (az aJ q)/\Below w1.heap.size w1 w'):=λw1=>eq▸IP _ _ _ w1 HI.out.1 HI.out.2.1 HI.out.2.2.2
 have HR:Hid (∀w1,ak 48 #[aC (qA ((c1,c2),(c3,c4))),aC (qA ((d1,d2),(d3,d4))),aC (qA ((a1,a2),(a3,a4)))] w1 λe w'=>e=aL (az aJ r)/\Below w1.heap.size w1 w'):=λw1=>er▸IP _ _ _ w1 HI.out.2.2.1 HI.out.2.2.2 HI.out.1
 have HS:Hid (∀w1,ak 48 #[aC (qA ((c1,c2),(c3,c4))),aC (qA ((d1,d2),(d3,d4))),aC (qA ((b1,b2),(b3,b4)))] w1 λe w'=>e=aL (az aJ s)/\Below w1.heap.size w1 w'):=λw1=>es▸IP _ _ _ w1 HI.out.2.2.1 HI.out.2.2.2 HI.out.2.1
 clear bd mb ep eq er es HA
 go_enter func52,ntmps52
 go_wp2_with fail
 obtain⟨W,hW,hF,hw⟩:=asr w a1 a2 a3 a4 b1 b2 b3 b4 c1 c2 c3 c4 d1 d2 d3 d4;rw[<-hW];generalize w.heap.size+1+1+1=D at*;generalize w.heap.size+1+1=C at*;generalize w.heap.size+1=B at*;obtain⟨A,IM⟩:∃A,A=w.heap.size:=⟨_,rfl⟩;rw[<-IM] at hF⊢;have HW:Hid (F4 W A B C D a1 a2 a3 a4 b1 b2 b3 b4 c1 c2 c3 c4 d1 d2 d3 d4/\Bw w W):=⟨hF,hw⟩;clear IM hW hF hw;refine(HP.out _).mono ?_;rintro e w1 ⟨rfl,hb⟩;have ch:Bw W w1:=hb;obtain⟨e0,e1,e2,e3,f0,f1,f2,f3,g0,g1,g2,g3,h0,h1,h2,h3⟩:=HW.out.1.cells ch;clear hb
 go_wp2_with fail
 clear e0 e1 e2 e3 f0 f1 f2 f3 g0 g1 g2 g3 h0 h1 h2 h3;refine(HQ.out _).mono ?_;rintro e w2 ⟨rfl,hb⟩
 replace ch:=ch.tr hb
 obtain⟨e0,e1,e2,e3,f0,f1,f2,f3,g0,g1,g2,g3,h0,h1,h2,h3⟩:=HW.out.1.cells ch;clear hb
 go_wp2_with fail
 clear e0 e1 e2 e3 f0 f1 f2 f3 g0 g1 g2 g3 h0 h1 h2 h3;refine(HR.out _).mono ?_;rintro e w3 ⟨rfl,hb⟩
 replace ch:=ch.tr hb
 obtain⟨e0,e1,e2,e3,f0,f1,f2,f3,g0,g1,g2,g3,h0,h1,h2,h3⟩:=HW.out.1.cells ch;clear hb
 go_wp2_with fail
 clear e0 e1 e2 e3 f0 f1 f2 f3 g0 g1 g2 g3 h0 h1 h2 h3;refine(HS.out _).mono ?_;rintro e w4 ⟨rfl,hb⟩
 replace ch:=ch.tr hb
 obtain⟨e0,e1,e2,e3,f0,f1,f2,f3,g0,g1,g2,g3,h0,h1,h2,h3⟩:=HW.out.1.cells ch;clear hb HP HQ HR HS;have HB:Hid (Bw w w4):=HW.out.2.tr ch;have kf:p=0->p*q=0:=λh=>by rw[h];simp
 have hc:(p*q<0/\¬r*s<0/\p≠0)\/(¬p*q<0/\p≠0)\/(¬p*q<0/\p=0/\q≠0)\/(¬p*q<0/\p=0/\q=0):=aa
 clear kf;rcases hc with⟨m1,m2,m3⟩|⟨m1,m3⟩|⟨m1,m3,m4⟩|⟨m1,m3,m4⟩
 .have m5:(p != 0)=true:=by simp[m3]
  clear hx
  go_wp2_with fail
  go_ret
  exact⟨rfl,HB.out⟩
 .have m5:(p != 0)=true:=by simp[m3]
  clear hx
  go_wp2_with fail
  go_ret
  exact⟨rfl,HB.out⟩
 .have m5:(q != 0)=true:=by simp[m4]
  subst m3;clear hx
  go_wp2_with fail
  go_ret
  exact⟨rfl,HB.out⟩
 .subst m3 m4;have HQI:Hid (fY ((a1,a2),(a3,a4))/\fY ((b1,b2),(b3,b4))/\fY ((c1,c2),(c3,c4))/\fY ((d1,d2),(d3,d4))):=HI;obtain⟨e0,e1,e2,e3,f0,f1,f2,f3,g0,g1,g2,g3,h0,h1,h2,h3⟩:=HW.out.1.cells (ch.tr (jf w4 (.cells #[az aJ a1,az aJ a2,az aJ a3,az aJ a4] 100)));obtain⟨e0,e1,e2,e3,f0,f1,f2,f3,g0,g1,g2,g3,h0,h1,h2,h3⟩:=HW.out.1.cells (ch.tr (Bw.tr (jf w4 (.cells #[az aJ a1,az aJ a2,az aJ a3,az aJ a4] 100)) (jf _ (.cells #[az aJ b1,az aJ b2,az aJ b3,az aJ b4] 100))));clear hx k1 m1
  go_wp2_with fail
  have hL:P4 ((w4.alloc (.cells #[az aJ a1,az aJ a2,az aJ a3,az aJ a4] 100)).alloc (.cells #[az aJ b1,az aJ b2,az aJ b3,az aJ b4] 100)) w4.heap.size a1 a2 a3 a4:=P4.mv (JM w4 a1 a2 a3 a4) (jf _ _);have hH:P4 ((w4.alloc (.cells #[az aJ a1,az aJ a2,az aJ a3,az aJ a4] 100)).alloc (.cells #[az aJ b1,az aJ b2,az aJ b3,az aJ b4] 100)) (w4.heap.size+1) b1 b2 b3 b4:=by
   have:=JM (w4.alloc (.cells #[az aJ a1,az aJ a2,az aJ a3,az aJ a4] 100)) b1 b2 b3 b4;simpa using this
  have hz:W.heap.size<=w4.heap.size:=Below.size ch
  replace ch:Bw W ((w4.alloc (.cells #[az aJ a1,az aJ a2,az aJ a3,az aJ a4] 100)).alloc (.cells #[az aJ b1,az aJ b2,az aJ b3,az aJ b4] 100)):=ch.tr (Bw.tr (jf _ _) (jf _ _))
  obtain⟨L,QG⟩:∃L,L=w4.heap.size:=⟨_,rfl⟩;rw[<-QG] at hL hH hz⊢;clear e0 e1 e2 e3 f0 f1 f2 f3 g0 g1 g2 g3 h0 h1 h2 h3 QG HB;generalize(w4.alloc (.cells #[az aJ a1,az aJ a2,az aJ a3,az aJ a4] 100)).alloc (.cells #[az aJ b1,az aJ b2,az aJ b3,az aJ b4] 100)=W6 at*;refine(O3 a1 a2 a3 a4 b1 b2 b3 b4 _ HI.out.1 HI.out.2.1).mono ?_;rintro e w5 ⟨rfl,hb⟩
  replace ch:=ch.tr hb
  replace hL:=hL.mv hb
  replace hH:=hH.mv hb
  clear hb;obtain⟨x,hx⟩:∃x,x=Ge.pc ((a1,a2),(a3,a4)) ((b1,b2),(b3,b4)):=⟨_,rfl⟩;rw[<-hx];have HX:Hid (x=Ge.pc ((a1,a2),(a3,a4)) ((b1,b2),(b3,b4))):=hx;clear hx;obtain⟨e0,e1,e2,e3,f0,f1,f2,f3,g0,g1,g2,g3,h0,h1,h2,h3⟩:=HW.out.1.cells ch;have hz1:W.heap.size<=L+1:=Nat.le_succ_of_le hz;by_cases hx:0<x
  all_goals first
   |(have hx:0<x:=hx;obtain⟨V1,V2,V3,V4,s1,s2,s3,s4,l0,l1,l2,l3,u0,u1,u2,u3,kL,kF,kB⟩:=O2 hL b1 b2 b3 b4;obtain⟨V5,V6,V7,V8,s5,s6,s7,s8,l4,l5,l6,l7,u4,u5,u6,u7,kH,kG,kC⟩:=O2 (kF.out (show L+1≠L by omega) hH) a1 a2 a3 a4;have C5:=kB.out ch hz;have Am:=kC.out C5 hz1;obtain⟨e0,e1,e2,e3,f0,f1,f2,f3,g0,g1,g2,g3,h0,h1,h2,h3⟩:=HW.out.1.cells C5;obtain⟨e0,e1,e2,e3,f0,f1,f2,f3,g0,g1,g2,g3,h0,h1,h2,h3⟩:=HW.out.1.cells Am;obtain⟨e0,e1,e2,e3,f0,f1,f2,f3,g0,g1,g2,g3,h0,h1,h2,h3⟩:=HW.out.1.cells (Am.tr (jf V8 (.cells #[az aJ c1,az aJ c2,az aJ c3,az aJ c4] 100)));obtain⟨e0,e1,e2,e3,f0,f1,f2,f3,g0,g1,g2,g3,h0,h1,h2,h3⟩:=HW.out.1.cells (Am.tr (Bw.tr (jf V8 (.cells #[az aJ c1,az aJ c2,az aJ c3,az aJ c4] 100)) (jf _ (.cells #[az aJ d1,az aJ d2,az aJ d3,az aJ d4] 100))));replace hL:=kG.out (show L≠L+1 by omega) kL.out;replace hH:=kH.out;replace ch:=Am;have VM:Hid (pH ((a1,a2),(a3,a4)) ((b1,b2),(b3,b4))=((a1,a2),(a3,a4))/\pG ((a1,a2),(a3,a4)) ((b1,b2),(b3,b4))=((b1,b2),(b3,b4))):=(by unfold pH pG;rw[<-HX.out,aV hx,aV hx];exact⟨rfl,rfl⟩);clear C5 Am;go_wp2_with fail;clear s1 s2 s3 s4 l0 l1 l2 l3 u0 u1 u2 u3 kL kF kB s5 s6 s7 s8 l4 l5 l6 l7 u4 u5 u6 u7 kH kG kC)
   |(have hx:¬0<x:=hx;obtain⟨V8,JN⟩:∃V8,V8=w5:=⟨_,rfl⟩;rw[<-JN] at ch hL hH⊢;clear e0 e1 e2 e3 f0 f1 f2 f3 g0 g1 g2 g3 h0 h1 h2 h3 JN;obtain⟨e0,e1,e2,e3,f0,f1,f2,f3,g0,g1,g2,g3,h0,h1,h2,h3⟩:=HW.out.1.cells ch;obtain⟨e0,e1,e2,e3,f0,f1,f2,f3,g0,g1,g2,g3,h0,h1,h2,h3⟩:=HW.out.1.cells (ch.tr (jf V8 (.cells #[az aJ c1,az aJ c2,az aJ c3,az aJ c4] 100)));obtain⟨e0,e1,e2,e3,f0,f1,f2,f3,g0,g1,g2,g3,h0,h1,h2,h3⟩:=HW.out.1.cells (ch.tr (Bw.tr (jf V8 (.cells #[az aJ c1,az aJ c2,az aJ c3,az aJ c4] 100)) (jf _ (.cells #[az aJ d1,az aJ d2,az aJ d3,az aJ d4] 100))));have VM:Hid (pH ((a1,a2),(a3,a4)) ((b1,b2),(b3,b4))=((b1,b2),(b3,b4))/\pG ((a1,a2),(a3,a4)) ((b1,b2),(b3,b4))=((a1,a2),(a3,a4))):=(by unfold pH pG;rw[<-HX.out,aP hx,aP hx];exact⟨rfl,rfl⟩);go_wp2_with fail)
  all_goals
   have hM:P4 ((V8.alloc (.cells #[az aJ c1,az aJ c2,az aJ c3,az aJ c4] 100)).alloc (.cells #[az aJ d1,az aJ d2,az aJ d3,az aJ d4] 100)) V8.heap.size c1 c2 c3 c4:=P4.mv (JM V8 c1 c2 c3 c4) (jf _ _);have hN:P4 ((V8.alloc (.cells #[az aJ c1,az aJ c2,az aJ c3,az aJ c4] 100)).alloc (.cells #[az aJ d1,az aJ d2,az aJ d3,az aJ d4] 100)) (V8.heap.size+1) d1 d2 d3 d4:=by
    have:=JM (V8.alloc (.cells #[az aJ c1,az aJ c2,az aJ c3,az aJ c4] 100)) d1 d2 d3 d4;simpa using this
   have b8:Bw V8 ((V8.alloc (.cells #[az aJ c1,az aJ c2,az aJ c3,az aJ c4] 100)).alloc (.cells #[az aJ d1,az aJ d2,az aJ d3,az aJ d4] 100)):=Bw.tr (jf _ _) (jf _ _);have lz:=lt_of_heap hL;have lz1:=lt_of_heap hH;have cz:=Below.size ch
   replace hL:=hL.mv b8
   replace hH:=hH.mv b8
   replace ch:Bw W ((V8.alloc (.cells #[az aJ c1,az aJ c2,az aJ c3,az aJ c4] 100)).alloc (.cells #[az aJ d1,az aJ d2,az aJ d3,az aJ d4] 100)):=ch.tr b8
   obtain⟨F,hFe⟩:∃F,F=V8.heap.size:=⟨_,rfl⟩;rw[<-hFe] at hM hN lz lz1 cz⊢;clear e0 e1 e2 e3 f0 f1 f2 f3 g0 g1 g2 g3 h0 h1 h2 h3 hFe b8 HX hx;generalize(V8.alloc (.cells #[az aJ c1,az aJ c2,az aJ c3,az aJ c4] 100)).alloc (.cells #[az aJ d1,az aJ d2,az aJ d3,az aJ d4] 100)=W9 at*;refine(O3 c1 c2 c3 c4 d1 d2 d3 d4 _ HI.out.2.2.1 HI.out.2.2.2).mono ?_;rintro e w6 ⟨rfl,hb⟩
   replace ch:=ch.tr hb
   replace hL:=hL.mv hb
   replace hH:=hH.mv hb
   replace hM:=hM.mv hb
   replace hN:=hN.mv hb
   clear hb;obtain⟨y,hy⟩:∃y,y=Ge.pc ((c1,c2),(c3,c4)) ((d1,d2),(d3,d4)):=⟨_,rfl⟩;rw[<-hy];have HYY:Hid (y=Ge.pc ((c1,c2),(c3,c4)) ((d1,d2),(d3,d4))):=hy;clear hy;obtain⟨e0,e1,e2,e3,f0,f1,f2,f3,g0,g1,g2,g3,h0,h1,h2,h3⟩:=HW.out.1.cells ch;by_cases hy:0<y
   all_goals first
    |(have hy:0<y:=hy;obtain⟨V1,V2,V3,V4,s1,s2,s3,s4,l0,l1,l2,l3,u0,u1,u2,u3,kL,kF,kB⟩:=O2 hM d1 d2 d3 d4;obtain⟨V5,V6,V7,V8,s5,s6,s7,s8,l4,l5,l6,l7,u4,u5,u6,u7,kH,kG,kC⟩:=O2 (kF.out (show F+1≠F by omega) hN) c1 c2 c3 c4;have C5:=kB.out ch cz;have Am:=kC.out C5 (show W.heap.size<=F+1 by omega);obtain⟨e0,e1,e2,e3,f0,f1,f2,f3,g0,g1,g2,g3,h0,h1,h2,h3⟩:=HW.out.1.cells C5;replace hM:=kG.out (show F≠F+1 by omega) kL.out;replace hN:=kH.out;replace hL:=kG.out (show L≠F+1 by omega) (kF.out (show L≠F by omega) hL);replace hH:=kG.out (show L+1≠F+1 by omega) (kF.out (show L+1≠F by omega) hH);replace ch:=Am;have Fw:Hid (pH ((c1,c2),(c3,c4)) ((d1,d2),(d3,d4))=((c1,c2),(c3,c4))/\pG ((c1,c2),(c3,c4)) ((d1,d2),(d3,d4))=((d1,d2),(d3,d4))):=(by unfold pH pG;rw[<-HYY.out,aV hy,aV hy];exact⟨rfl,rfl⟩);clear C5 Am)
    |(have hy:¬0<y:=hy;obtain⟨V8,JN⟩:∃V8,V8=w6:=⟨_,rfl⟩;rw[<-JN] at ch hL hH hM hN⊢;clear e0 e1 e2 e3 f0 f1 f2 f3 g0 g1 g2 g3 h0 h1 h2 h3 JN;have Fw:Hid (pH ((c1,c2),(c3,c4)) ((d1,d2),(d3,d4))=((d1,d2),(d3,d4))/\pG ((c1,c2),(c3,c4)) ((d1,d2),(d3,d4))=((c1,c2),(c3,c4))):=(by unfold pH pG;rw[<-HYY.out,aP hy,aP hy];exact⟨rfl,rfl⟩))
   all_goals
    obtain⟨i0,i1,i2,i3⟩:=hL.cs;obtain⟨j0,j1,j2,j3⟩:=hH.cs;obtain⟨k0,k1,k2,k3⟩:=hM.cs;obtain⟨n0,n1,n2,n3⟩:=hN.cs
    go_wp2_with fail
    refine(O3 _ _ _ _ _ _ _ _ _ (by first |exact HI.out.1|exact HI.out.2.1|exact HI.out.2.2.1|exact HI.out.2.2.2) (by first |exact HI.out.1|exact HI.out.2.1|exact HI.out.2.2.1|exact HI.out.2.2.2)).mono ?_
    rintro e w7 ⟨rfl,hb⟩
    replace ch:=ch.tr hb
    replace hL:=hL.mv hb
    replace hN:=hN.mv hb
    have hY:=HY.out (by first |rfl|trivial) (by first |rfl|trivial)
    rw[VM.out.1,VM.out.2,Fw.out.1,Fw.out.2] at hY;clear hb hH hM;obtain⟨i0,i1,i2,i3⟩:=hL.cs;obtain⟨n0,n1,n2,n3⟩:=hN.cs;have HYF:Hid _:=hY;clear hY
    go_wp2_with fail
    refine(O3 _ _ _ _ _ _ _ _ _ (by first |exact HI.out.1|exact HI.out.2.1|exact HI.out.2.2.1|exact HI.out.2.2.2) (by first |exact HI.out.1|exact HI.out.2.1|exact HI.out.2.2.1|exact HI.out.2.2.2)).mono ?_
    rintro e w8 ⟨rfl,hb⟩;have HB:Hid (Below w.heap.size w w8):=HW.out.2.tr (ch.tr hb);have hY:=HYF.out;clear hb hL hN HYF;rcases ass hY with hY|⟨hn,hY⟩
    .go_wp2_with fail
     go_ret
     exact⟨af,HB.out⟩
    .go_wp2_with fail
     go_ret
     exact⟨af,HB.out⟩
abbrev E2:=Ge.Qt×Ge.Qt
def sA(e:E2):List aN:=(qA e.1).toList++(qA e.2).toList
def oV(l:List E2):List aN:=l.flatMap sA
theorem asv(l:List E2)(e:E2):oV (l++[e])=oV l++sA e:=by simp[oV]
theorem agB:∀(l:List E2)(k:Nat)(e:E2),l[k]?=some e->∀j,j<8->(oV l)[k*8+j]?=(sA e)[j]?
 |[],_,_,h,_,_=>by simp at h
 |q::r,0,e,h,j,hj=>by
  simp at h;subst h;have e1:oV (q::r)=sA q++oV r:=by simp[oV]
  rw[e1,fM (by simp[sA,qA];omega)]
  simp
 |q::r,k+1,e,h,j,hj=>by
  have ih:=agB r k e (by simpa using h) j hj
  have e1:oV (q::r)=sA q++oV r:=by simp[oV]
  rw[e1,nE (by simp[sA,qA];omega)]
  have e2:(k+1)*8+j-(sA q).length=k*8+j:=by simp[sA,qA];omega
  rw[e2,ih]
theorem asw:(Tryz.prog.info? 108).map (λi=>(i.zero,i.size,i.bytes))=some (some (aC #[az aJ 0,az aJ 0,az aJ 0,az aJ 0,az aJ 0,az aJ 0,az aJ 0,az aJ 0]),8,64):=ag
structure kq(w:aM)(lv:aN)(acc:List E2)(wr:aM):Prop where
 own:wr.ownsRow w.heap.size 108 8 lv acc.length (oV acc)
 gb:aj w wr
theorem kq.next{acc:List E2}(h:kq w lv acc wr)(hb:aj wr w'):kq w lv acc w':=
 ⟨bG h.own λk hk=>hb.block k (bn h.own k hk).2,h.gb.trans (hb.mono h.gb.size)⟩
theorem kq.drew{acc:List E2}(h:kq w lv acc wr):kq w lv acc wr.drew:=⟨bG h.own λ_ _=>rfl,h.gb.drew⟩
theorem asx{α:Type}{g:List α}{a c:α}(ha:g[n]?=some a)(hc:g[(n+1)%g.length]?=some c):(dH g)[n]?=some (a,c):=by
 cases g with
 |nil=>simp at ha
 |cons x r=>
  show((x::r).zip (r++[x]))[n]?=_;rw[Wn];refine⟨ha,?_⟩;have hn:=(cG.1 ha).1;by_cases q:n+1<(x::r).length
  .rw[Di q] at hc;simp only[dG] at q;rw[fM aa]
   simpa using hc
  .have e:n=r.length:=by simp only[dG] at q hn;omega
   rw[e,show r.length+1=(x::r).length by simp,ahf] at hc
   rw[e,nE (aY _)];simpa using hc
theorem agC{α:Type}(g:List α):(dH g).length=g.length:=by
 cases g with
 |nil=>rfl
 |cons a r=>simp[dH]
theorem kq.grown{W5 w6:aM}{yS:aN}{acc acc':List E2}{o:Obj}(h:kq w lv acc W5)(hg:(W5.alloc o).drew.grownBy w6 lv.ownBlock)
  (ho:w6.ownsRow w.heap.size 108 8 yS acc'.length (oV acc')):kq w yS acc' w6:=by
 obtain⟨h1,h2⟩:=h;have hs:=hg.size;have hs':W5.heap.size+1<=w6.heap.size:=by
  have e:(W5.alloc o).drew.heap.size=W5.heap.size+1:=by show(W5.alloc o).heap.size=_;simp
  omega
 refine⟨ho,⟨hg.os.trans h2.os,hg.tape.trans h2.tape,hg.output.trans h2.output,?_,λk hk=>?_⟩⟩
 .have:=h2.size;omega
 .have:=h2.size;exact(tX hg k aa (rU h1 k hk)).trans (h2.block k hk)
theorem agD{so:Option Addr}{l:List E2}(h:w.ownsRow base 108 8 (aG so n cap) l.length (oV l)){e:E2}(he:l[k]?=some e):
  ∃b,so=some ⟨b,0,none⟩/\b<w.heap.size/\w.cell? ⟨b,k*8,none⟩=some (az aJ e.1.1.1)/\w.cell? ⟨b,k*8+1,none⟩=some (az aJ e.1.1.2)/\w.cell? ⟨b,k*8+2,none⟩=some (az aJ e.1.2.1)/\w.cell? ⟨b,k*8+3,none⟩=some (az aJ e.1.2.2)/\w.cell? ⟨b,k*8+4,none⟩=some (az aJ e.2.1.1)/\w.cell? ⟨b,k*8+5,none⟩=some (az aJ e.2.1.2)/\w.cell? ⟨b,k*8+6,none⟩=some (az aJ e.2.2.1)/\w.cell? ⟨b,k*8+7,none⟩=some (az aJ e.2.2.2):=by
 have g:=agB l k e he;obtain⟨b,c,hv,hb,hc⟩:=DU (xz h) (g 0 aa)
 injection hv with hv;exact⟨b,hv,hb,hc _ _ (g 0 aa),hc _ _ (g 1 aa),hc _ _ (g 2 aa),hc _ _ (g 3 aa),hc _ _ (g 4 aa),hc _ _ (g 5 aa),hc _ _ (g 6 aa),hc _ _ (g 7 aa)⟩
theorem asz{l:List E2}(h:w.ownsRow base 108 8 v l.length (oV l)):∃so cap,v=aG so l.length cap:=by
 rcases h.2 with⟨hv,h0⟩|⟨b,cap,cur,hv,_⟩
 .exact⟨none,0,by rw[hv,h0]⟩
 .exact⟨_,cap,hv⟩
def S8(w':aM)(Y k:Nat)(e:E2):Prop:=w'.cell? ⟨Y,k*8,none⟩=some (az aJ e.1.1.1)/\w'.cell? ⟨Y,k*8+1,none⟩=some (az aJ e.1.1.2)/\w'.cell? ⟨Y,k*8+2,none⟩=some (az aJ e.1.2.1)/\w'.cell? ⟨Y,k*8+3,none⟩=some (az aJ e.1.2.2)/\w'.cell? ⟨Y,k*8+4,none⟩=some (az aJ e.2.1.1)/\w'.cell? ⟨Y,k*8+5,none⟩=some (az aJ e.2.1.2)/\w'.cell? ⟨Y,k*8+6,none⟩=some (az aJ e.2.2.1)/\w'.cell? ⟨Y,k*8+7,none⟩=some (az aJ e.2.2.2)
theorem S8.below{e:E2}(h:S8 w b k e)(hb:Below n w w')(hn:b<n):S8 w' b k e:=by
 obtain⟨x0,x1,x2,x3,x4,x5,x6,x7⟩:=h;have hk:=λ(o:Nat)=>hb.cell (p:=⟨b,o,none⟩) hn
 exact⟨(hk _).trans x0,(hk _).trans x1,(hk _).trans x2,(hk _).trans x3,(hk _).trans x4,(hk _).trans x5,(hk _).trans x6,(hk _).trans x7⟩
theorem asA(a b c d:Ge.Qt)(w:aM)(ha:fY a)(hb:fY b)(hc:fY c)(hd:fY d)(h:E4 a b c d):
  ak 52 #[aC (qA a),aC (qA b),aC (qA c),aC (qA d)] w λe w'=>e=aL (aD true)/\aj w w':=ast _ _ _ _ _ _ _ _ _ _ _ _ _ _ _ _ _ _ _ _ w ⟨ha,hb,hc,hd⟩ rfl rfl rfl rfl h
theorem agE{α β:Type}(f:α->List β)(ps:List α)(i:Nat):((ps.take i).flatMap f).length<=(ps.flatMap f).length:=by
 have h:ps.flatMap f=(ps.take i).flatMap f++(ps.drop i).flatMap f:=by rw[<-Pr,AE]
 rw[h,bX];omega
theorem agF(ps:List (List (List Ge.Qt)))(v:aN)(w:aM)(hR:oL w v ps)(hq:∀p∈ps,p≠[]/\p.length<=20000000402/\∀g∈p,g.length<=20000000402/\∀q∈g,fY q)(hl:ps.length<=20000000402)(hal:(ps.flatMap λp=>p.flatMap dH).length<=20000000402)(hI:Io ps):
  ak 26 #[v] w λe w'=>e=aL (aD true)/\aj w w':=by
 obtain⟨so,cap,rfl⟩:=Ef hR;obtain⟨i0,hi,hz0,hz1,hz2⟩:=info_parts asw;have HR:Hid (oL w (aG so ps.length cap) ps):=hR;have qX:Hid (∀p∈ps,p≠[]/\p.length<=20000000402/\∀g∈p,g.length<=20000000402/\∀q∈g,fY q):=hq;have wJ:Hid (Io ps):=hI;have VO:Hid ((ps.flatMap λp=>p.flatMap dH).length<=20000000402):=hal
 clear hR hq hI hal
 go_enter func26,ntmps26
 go_wp2_with fail
 go_loopg [3,4] ps.length (λm lv iv wr=>∃i:Nat,i+m=ps.length/\iv=az aJ i/\Hid (kq w lv ((ps.take i).flatMap λp=>p.flatMap dH) wr))
 case atStart=>exact⟨0,aa,rfl,⟨World.ownsRow_nil _ _ _ _,Below.refl _ _⟩⟩
 case round=>
  obtain⟨i,him,rfl,HE⟩:=hrel;by_cases hlt:i<ps.length
  .obtain⟨p,hp⟩:∃p,ps[i]?=some p:=⟨_,bo hlt⟩;obtain⟨b,u,rfl,hb,e0,ug⟩:=xA HR.out hp;obtain⟨us,uc,rfl⟩:=Ef ug;have uN:Hid (p≠[]/\p.length<=20000000402/\∀g∈p,g.length<=20000000402/\∀q∈g,fY q):=qX.out p (bA hp);have EP:Hid (zZ w (aG us p.length uc) p):=ug;have JO:Hid (w.cell? ⟨b,i,none⟩=some (aG us p.length uc)/\b<w.heap.size):=⟨e0,hb⟩;have hpl:p.length<=20000000402:=uN.out.2.1;have HT:Hid (((ps.take (i+1)).flatMap λp=>p.flatMap dH)=((ps.take i).flatMap λp=>p.flatMap dH)++p.flatMap dH):=by
    show _=_;rw[ju,hp];simp
   have rC:Hid ((((ps.take i).flatMap λp=>p.flatMap dH)++p.flatMap dH).length<=20000000402):=by
    show _<=_;rw[<-HT.out];exact fN (agE _ ps (i+1)) VO.out
   have VQ:Hid (ps[i]?=some p):=hp;have ij:(i:Int)<(ps.length:Int):=aa
   obtain⟨m1,mf⟩:∃m1,m1=gk:=⟨_,rfl⟩;have uO:Hid (i+m1=ps.length/\i<ps.length):=⟨aa,hlt⟩
   generalize((ps.take i).flatMap λp=>p.flatMap dH)=A1 at*
   clear hp e0 ug hb him hlt
   go_wp2_with fail
   go_loopg [3,5] p.length (λm lv kv wr=>∃k:Nat,k+m=p.length/\kv=az aJ k/\Hid (kq w lv (A1++(p.take k).flatMap dH) wr))
   case atStart=>exact⟨0,aa,rfl,by rw[show A1++(p.take 0).flatMap dH=A1 by simp];exact HE⟩
   case round=>
    obtain⟨k,rf,rfl,jQ⟩:=hrel;have d0:=aQ jQ.out.gb JO.out.1 JO.out.2;clear HE;by_cases ik:k<p.length
    .obtain⟨g,hg⟩:∃g,p[k]?=some g:=⟨_,bo ik⟩;obtain⟨b2,u2,rfl,hb2,e2,O4⟩:=xA EP.out hg;obtain⟨gs,gc,rfl⟩:=zz O4;have d1:=aQ jQ.out.gb e2 hb2;have aa2:(k:Int)<(p.length:Int):=aa
     have HRK:Hid (∀w1,aj w w1->ak 50 #[aG gs g.length gc,aD ((k:Int) == 0)] w1 λe w'=>e=aL (aD true)/\aj w1 w'):=λw1 hb1=>aso g ((k:Int) == 0) _ w1 (GS uf O4 hb1) (uN.out.2.2 g (bA hg)).2 (uN.out.2.2 g (bA hg)).1 (by
      rw[show((k:Int) == 0)=decide (k=0) by by_cases z:k=0<;>simp[z]]
      exact wJ.out.ring p (bA VQ.out) k g hg)
     have qY:Hid (nK w (aG gs g.length gc) g):=O4;obtain⟨m2,hm2⟩:∃m2,m2=gk:=⟨_,rfl⟩;have yG:Hid (k+m2=p.length/\k<p.length):=⟨aa,ik⟩
     have O5:Hid (p[k]?=some g):=hg;have fw:Hid (b2<w.heap.size/\w.cell? ⟨b2,k,none⟩=some (aG gs g.length gc)):=⟨hb2,e2⟩;have hgl:g.length<=20000000402:=(uN.out.2.2 g (bA hg)).1;clear hg e2 O4 hb2 rf ik
     go_wp2_with fail
     refine(HRK.out _ jQ.out.gb).mono ?_;rintro e w3 ⟨rfl,hb3⟩;have ir:Hid (kq w u3 (A1++(p.take k).flatMap dH) w3):=jQ.out.next hb3
     have d0:=aQ ir.out.gb JO.out.1 JO.out.2;clear hb3 jQ HRK;by_cases hk1:1<k
     all_goals first
      |(have hk1:1<k:=hk1;obtain⟨j,hj⟩:∃j,k=j+2:=⟨k-2,aa⟩;obtain⟨h,hh⟩:∃h,p[j+1]?=some h:=⟨_,bo (by have:=yG.out;omega)⟩;obtain⟨b3,u5,uP,hb3,e3,C6⟩:=xA EP.out hh;injection uP with uP;injection uP with uP;subst uP;obtain⟨hs,hc,rfl⟩:=zz C6;obtain⟨m,hm⟩:∃m,m=j+1:=⟨_,rfl⟩;rw[<-hm] at e3;have d2:=aQ ir.out.gb e3 hb3;have hwk:IntKind.i64.wrap ((k:Int)-1)=(m:Int):=(by rw[IntKind.wrap_i64];omega);have kU:(m:Int)<(p.length:Int):=(by have:=yG.out;omega);have hlc:=wJ.out.hole p (bA VQ.out) j h g hh (by have:=O5.out;rw[hj] at this;exact this);have JP:Hid (∀w1,aj w w1->ak 51 #[aG hs h.length hc,aG gs g.length gc] w1 λe w'=>e=aL (az aJ (jP h g))/\aj w1 w'):=λw1 hb1=>acJ h g _ _ w1 (GS uf C6 hb1) (GS uf qY.out hb1) (uN.out.2.2 h (bA hh)).2 (uN.out.2.2 g (bA O5.out)).2 (uN.out.2.2 h (bA hh)).1 hgl;have JQ:Hid (jP h g<0):=hlc;have hkI:(1:Int)<(k:Int):=aa;clear hj hh e3 C6 hm hlc hb3 hk1;go_wp2_with fail;refine(JP.out _ ir.out.gb).mono ?_;rintro e w3 ⟨rfl,hb4⟩;replace ir:Hid (kq w u3 (A1++(p.take k).flatMap dH) w3):=ir.out.next hb4;obtain⟨c,hc⟩:∃c,c=jP h g:=⟨_,rfl⟩;have hc0:¬0<=c:=(by have:=JQ.out;omega);rw[<-hc];clear hb4 hc JQ JP d0 d1 d2)
      |(have hkI:¬(1:Int)<(k:Int):=aa)
     all_goals
      have asC:Hid (((A1++(p.take k).flatMap dH)++dH g).length<=20000000402):=by
       have h1:=rC.out;have h2:=agE dH p (k+1);rw[ju,O5.out] at h2;simp only[Pr,bX,Option.toList_some,List.flatMap_singleton] at h1 h2;show _<=_;simp only[bX];omega
      have yE:Hid (A1++(p.take (k+1)).flatMap dH=(A1++(p.take k).flatMap dH)++dH g):=by
       show _=_;rw[ju,O5.out];simp
      generalize A1++(p.take k).flatMap dH=A2 at*
      go_wp2_with fail
      go_loopg [3,9] g.length (λm lv nv wr=>∃n:Nat,n+m=g.length/\nv=az aJ n/\Hid (kq w lv (A2++(dH g).take n) wr))
      case atStart=>exact⟨0,aa,rfl,by rw[show A2++(dH g).take 0=A2 by simp];exact ir⟩
      case round=>
       obtain⟨n,LO,rfl,yH⟩:=hrel;clear ir;by_cases sG:n<g.length
       .obtain⟨X,hXe,hX,hcs⟩:=agv qY.out aa
        subst hXe;obtain⟨N,hN⟩:∃N,N=g.length:=⟨_,rfl⟩;obtain⟨j,hj⟩:∃j,j=(n+1)%g.length:=⟨_,rfl⟩;have hjl:j<g.length:=hj▸uU _ aa
        obtain⟨P,hP⟩:∃P,g[n]?=some P:=⟨_,bo sG⟩;obtain⟨Q,hQ⟩:∃Q,g[j]?=some Q:=⟨_,bo hjl⟩;obtain⟨x0,x1,x2,x3⟩:=(hcs n P hP).below yH.out.gb hX;obtain⟨y0,y1,y2,y3⟩:=(hcs j Q hQ).below yH.out.gb hX;obtain⟨u,hu⟩:∃u,u=n+1:=⟨_,rfl⟩;have k4:IntKind.i64.wrap ((n:Int)+1)=(u:Int):=by rw[IntKind.wrap_i64];omega
        have k5:(u:Int).tmod (g.length:Int)=(j:Int):=by rw[hj,hu];rfl
        have k7:u%g.length=j:=by rw[hj,hu]
        have l1:(n:Int)<(g.length:Int):=aa
        have l2:(j:Int)<(g.length:Int):=aa
        have n0:¬((g.length:Int)=0):=aa
        have n3:¬g.length=0:=aa
        have hXr:X<wr.heap.size:=bW hX yH.out.gb.size;have HN:Hid ((dH g).take (n+1)=(dH g).take n++[(P,Q)]):=by
         show _=_;rw[ju,asx hP (hj▸hQ)];rfl
        have kK:(A2++(dH g).take n).length<=20000000402:=by
         have h1:=asC.out;have h2:((dH g).take n).length<=(dH g).length:=by simp;omega
         simp only[bX] at h1⊢;omega
        have HM:Hid (n+gk=g.length/\n<g.length):=⟨LO,sG⟩;obtain⟨A3,vG⟩:∃A3,A3=A2++(dH g).take n:=⟨_,rfl⟩;rw[<-vG] at kK;have HA:Hid (A3=A2++(dH g).take n):=vG;have ho:wr.ownsRow w.heap.size 108 8 u3 A3.length (oV A3):=vG▸yH.out.own;have ne:u3.ownBlock≠some X:=rU ho X hX;have hws:w.heap.size<=wr.heap.size:=yH.out.gb.size;have Ae:Hid (kq w u3 A3 wr):=⟨ho,yH.out.gb⟩;have HU:Hid (u=n+1):=hu;clear hN hu hj hP hQ hcs vG sG LO;obtain⟨⟨P1,P2⟩,P3,P4⟩:=P;obtain⟨⟨Q1,Q2⟩,Q3,Q4⟩:=Q;simp only at x0 x1 x2 x3 y0 y1 y2 y3
        go_wp2_with fail
        go_region_held3 (λw'=>w'.cell? ⟨X,n*4,none⟩=some (az aJ P1)/\w'.cell? ⟨X,n*4+1,none⟩=some (az aJ P2)/\w'.cell? ⟨X,n*4+2,none⟩=some (az aJ P3)/\w'.cell? ⟨X,n*4+3,none⟩=some (az aJ P4)/\w'.cell? ⟨X,j*4,none⟩=some (az aJ Q1)/\w'.cell? ⟨X,j*4+1,none⟩=some (az aJ Q2)/\w'.cell? ⟨X,j*4+2,none⟩=some (az aJ Q3)/\w'.cell? ⟨X,j*4+3,none⟩=some (az aJ Q4))
         (first
          |go_keep
          |(
           go_split_ands
           refine⟨?_,?_,?_,?_,?_,?_,?_,?_⟩
           all_goals(rw[lN.cell_far _ (by simp;omega) (Ne.symm ne)];assumption)))
         ((refine step_append_lies _ (by rfl) _ _ _ (by rfl) w.heap.size 108 i0 _ 8 64 underlying104 hi hz0 hz1 hz2 rfl ah u3 A3.length (oV A3) (by rfl) (bG ho (λk hk=>Below.heap_alloc _ _ _ (bn ho k hk).2)) ⟨wr.heap.size,0,none⟩ 1 1 [az aJ P1,az aJ P2,az aJ P3,az aJ P4,az aJ Q1,az aJ Q2,az aJ Q3,az aJ Q4] (by rfl) (by rfl) (World.news_of_block (cs:= #[az aJ P1,az aJ P2,az aJ P3,az aJ P4,az aJ Q1,az aJ Q2,az aJ Q3,az aJ Q4]) (t:=108) (fr:=(0,0)) (heap_alloc_new wr _)) (by simp[Value.oneCell']) ah (by unfold maxLen;omega) aa (by simp;omega) (wr.heap.size+1) af ?_;intro g' cap' w6 gU lN Eg BF))
        have dw:Hid (kq w (aG (some ⟨g',0,none⟩) (A3.length+1) cap') (A2++(dH g).take (n+1)) w6):=by
         show kq _ _ _ _;rw[HN.out,<-fL,<-HA.out];exact Ae.out.grown lN (by rw[asv,bX];exact gU)
        clear gU lN ho Ae yH x0 x1 x2 x3 y0 y1 y2 y3 k5 k7
        go_wp2_with fail
        go_roundg (gk-1)
        case measure=>have:=HM.out;omega
        case rel=>exact⟨n+1,by have:=HM.out;omega,by rw[HU.out],dw⟩
       .have hn:n=g.length:=aa
        subst hn;have dw:Hid (kq w u3 (A1++(p.take (k+1)).flatMap dH) wr):=by
         show kq _ _ _ _;rw[yE.out];have h:=yH.out;rw[<-agC g,gv] at h;exact h
        have hkl:(k:Int)<(p.length:Int):=by have:=yG.out;omega
        clear yH sG LO
        go_wp2_with fail
        go_roundg (m2-1)
        case measure=>have:=yG.out;omega
        case rel=>exact⟨k+1,by have:=yG.out;omega,ai,dw⟩
    .have hk:k=p.length:=aa
     subst hk;have ir:Hid (kq w u3 ((ps.take (i+1)).flatMap λp=>p.flatMap dH) wr):=by
      show kq _ _ _ _;rw[HT.out];have h:=jQ.out;rw[gv] at h;exact h
     clear jQ ik rf;by_cases hi0:0<i
     .obtain⟨j,hj⟩:∃j,i=j+1:=⟨i-1,aa⟩
      obtain⟨p',hp'⟩:∃p',ps[j]?=some p':=⟨_,bo (by have:=uO.out;omega)⟩
      obtain⟨b3,u5,uP,hb3,e3,C6⟩:=xA HR.out hp';injection uP with uP;injection uP with uP;subst uP;obtain⟨ts,tc,rfl⟩:=Ef C6;have JR:=qX.out p' (bA hp');have kf:0<p'.length:=jk.2 JR.1;have VS:0<p.length:=jk.2 uN.out.1;obtain⟨h,hh⟩:∃h,p'[0]?=some h:=⟨_,bo kf⟩;obtain⟨g,hg⟩:∃g,p[0]?=some g:=⟨_,bo VS⟩;obtain⟨b4,u6,asE,hb4,e4,VT⟩:=xA C6 hh;obtain⟨b5,u7,asF,bh,e5,VU⟩:=xA EP.out hg;subst asE asF;obtain⟨hs,hc,rfl⟩:=zz VT;obtain⟨gs,gc,rfl⟩:=zz VU;have hd:=ir.out.gb;have d2:=aQ hd e3 hb3;have d3:=aQ hd e4 hb4;have d4:=aQ hd e5 bh;have hwk:IntKind.i64.wrap ((i:Int)-1)=(j:Int):=by rw[IntKind.wrap_i64];omega
      have hjl:(j:Int)<(ps.length:Int):=by have:=uO.out;omega
      have hlc:=wJ.out.pol j p' p hp' (by have:=VQ.out;rw[hj] at this;exact this) h g hh hg
      have JP:Hid (∀w1,aj w w1->ak 51 #[aG hs h.length hc,aG gs g.length gc] w1 λe w'=>e=aL (az aJ (jP h g))/\aj w1 w'):=λw1 hb1=>acJ h g _ _ w1 (GS uf VT hb1) (GS uf VU hb1) (JR.2.2 h (bA hh)).2 (uN.out.2.2 g (bA hg)).2 (JR.2.2 h (bA hh)).1 (uN.out.2.2 g (bA hg)).1
      have JQ:Hid (jP h g<0):=hlc;have hiI:(0:Int)<(i:Int):=aa
      have hz3:(0:Int)<(p'.length:Int):=aa
      have hz5:¬p'=[]:=JR.1;have xE:¬p=[]:=uN.out.1;have vL:0<p'.length:=kf;have hz8:0<p.length:=VS;have Ob:(0:Int)<(p.length:Int):=aa
      clear hj hp' hh hg e3 e4 e5 C6 VT VU hlc hd hb3 hb4 bh hi0 JR kf VS;have z1:b<wr.heap.size:=bW JO.out.2 ir.out.gb.size;have z2:b4<wr.heap.size:=World.block_lt_of_cell? wr ⟨b4,0,none⟩ d3;have z3:b5<wr.heap.size:=World.block_lt_of_cell? wr ⟨b5,0,none⟩ d4
      go_wp2_with fail
      go_region_held3 (λw'=>w'.cell? ⟨b,i,none⟩=some (aG (some ⟨b5,0,none⟩) p.length uc)/\w'.cell? ⟨b,j,none⟩=some (aG (some ⟨b4,0,none⟩) p'.length tc)/\w'.cell? ⟨b4,0,none⟩=some (aG hs h.length hc)/\w'.cell? ⟨b5,0,none⟩=some (aG gs g.length gc)) (go_keep) (first
       |(go_at_call 51;refine(JP.out _ ir.out.drew.gb).mono ?_;rintro e w3 ⟨rfl,hb4⟩;replace ir:Hid (kq w u3 ((ps.take (i+1)).flatMap λp=>p.flatMap dH) w3):=ir.out.drew.next hb4;replace d0:=aQ hb4 d0 z1;replace d2:=aQ hb4 d2 z1;replace d3:=aQ hb4 d3 z2;replace d4:=aQ hb4 d4 z3;clear hb4))
      obtain⟨c,hc⟩:∃c,c=jP h g:=⟨_,rfl⟩;have hc0:¬0<=c:=by have:=JQ.out;omega
      rw[<-hc];clear hc JQ JP d0 d2 d3 d4
      go_wp2_with fail
      go_roundg (m1-1)
      case measure=>have:=uO.out;omega
      case rel=>exact⟨i+1,by have:=uO.out;omega,ai,ir⟩
     .have hiI:¬(0:Int)<(i:Int):=aa
      go_wp2_with fail
      go_roundg (m1-1)
      case measure=>have:=uO.out;omega
      case rel=>exact⟨i+1,by have:=uO.out;omega,ai,ir⟩
  .have hk:i=ps.length:=aa
   subst hk;obtain⟨F,hF⟩:∃F,F=ps.flatMap λp=>p.flatMap dH:=⟨_,rfl⟩
   have FD:Hid (kq w u3 F wr):=by
    have h:=HE.out;rw[gv,<-hF] at h;exact h
   have oD:Hid (F.Pairwise λe f=>E4 f.1 f.2 e.1 e.2):=hF▸wJ.out.ap
   have hFl:F.length<=20000000402:=hF▸VO.out;have O6:Hid (∀e∈F,fY e.1/\fY e.2):=λe he=>by
    rw[hF] at he;obtain⟨p,hp,he⟩:=oW.1 he;obtain⟨g,hg,he⟩:=oW.1 he;have hm:=TJ he;have hh:=((qX.out p hp).2.2 g hg).2;exact⟨hh _ hm.1,hh _ hm.2⟩
   obtain⟨fs,fc,rfl⟩:=asz FD.out.own;obtain⟨n,hn⟩:∃n,n=F.length:=⟨_,rfl⟩;rw[<-hn] at hFl FD⊢;have HN:Hid (n=F.length):=hn;clear hF HE wJ VO qX HR hn him hlt;obtain⟨W0,rfl⟩:∃W0,W0=wr:=⟨_,rfl⟩
   go_wp2_with fail
   go_loopg [11] n (λm iv wr=>∃i:Nat,i+m=n/\iv=az aJ i/\Hid (aj W0 wr))
   case atStart=>exact⟨0,aa,rfl,Below.refl _ _⟩
   case round=>
    obtain⟨i,him,rfl,HB⟩:=hrel;by_cases hlt:i<n
    .obtain⟨e,he⟩:∃e,F[i]?=some e:=⟨_,bo (by have:=HN.out;omega)⟩
     obtain⟨Y,C7,hY,hx8⟩:=agD FD.out.own he;subst C7;have hI:(i:Int)<(n:Int):=aa
     have HX8:Hid (∀k f,F[k]?=some f->S8 W0 Y k f):=λk f hf=>by
      obtain⟨Y',C7,_,h⟩:=agD FD.out.own hf;injection C7 with C7;injection C7 with C7;subst C7;exact h
     obtain⟨m3,TQ⟩:∃m3,m3=gk:=⟨_,rfl⟩;have uO:Hid (i+m3=n/\i<n):=⟨aa,hlt⟩
     have Eo:Hid (F[i]?=some e):=he;have VV:Hid (Y<W0.heap.size):=hY;clear him hlt he hx8 hY
     go_wp2_with fail
     go_loopg [12] i (λm kv wr=>∃k:Nat,k+m=i/\kv=az aJ k/\Hid (aj W0 wr))
     case atStart=>exact⟨0,aa,rfl,HB⟩
     case round=>
      obtain⟨k,rf,rfl,fw⟩:=hrel;clear HB;by_cases ik:k<i
      .obtain⟨f,hf⟩:∃f,F[k]?=some f:=⟨_,bo (by have:=HN.out;have:=uO.out;omega)⟩
       obtain⟨x0,x1,x2,x3,x4,x5,x6,x7⟩:=(HX8.out i e Eo.out).below fw.out VV.out;obtain⟨y0,y1,y2,y3,y4,y5,y6,y7⟩:=(HX8.out k f hf).below fw.out VV.out;have uv:Hid (∀w1,ak 52 #[aC (qA e.1),aC (qA e.2),aC (qA f.1),aC (qA f.2)] w1 λe w'=>e=aL (aD true)/\aj w1 w'):=λw1=>asA e.1 e.2 f.1 f.2 w1 (O6.out e (bA Eo.out)).1 (O6.out e (bA Eo.out)).2 (O6.out f (bA hf)).1 (O6.out f (bA hf)).2 (TM oD.out ik hf Eo.out)
       have hK:(k:Int)<(i:Int):=aa
       have hK2:(k:Int)<(n:Int):=aa
       have yG:Hid (k+gk=i/\k<i):=⟨rf,ik⟩;clear rf ik hf;have hYr:Y<wr.heap.size:=bW VV.out fw.out.size
       go_wp2_with fail
       go_region_held3 (λw'=>w'.cell? ⟨Y,i*8,none⟩=some (az aJ e.1.1.1)/\w'.cell? ⟨Y,i*8+1,none⟩=some (az aJ e.1.1.2)/\w'.cell? ⟨Y,i*8+2,none⟩=some (az aJ e.1.2.1)/\w'.cell? ⟨Y,i*8+3,none⟩=some (az aJ e.1.2.2)/\w'.cell? ⟨Y,i*8+4,none⟩=some (az aJ e.2.1.1)/\w'.cell? ⟨Y,i*8+5,none⟩=some (az aJ e.2.1.2)/\w'.cell? ⟨Y,i*8+6,none⟩=some (az aJ e.2.2.1)/\w'.cell? ⟨Y,i*8+7,none⟩=some (az aJ e.2.2.2)/\w'.cell? ⟨Y,k*8,none⟩=some (az aJ f.1.1.1)/\w'.cell? ⟨Y,k*8+1,none⟩=some (az aJ f.1.1.2)/\w'.cell? ⟨Y,k*8+2,none⟩=some (az aJ f.1.2.1)/\w'.cell? ⟨Y,k*8+3,none⟩=some (az aJ f.1.2.2)/\w'.cell? ⟨Y,k*8+4,none⟩=some (az aJ f.2.1.1)/\w'.cell? ⟨Y,k*8+5,none⟩=some (az aJ f.2.1.2)/\w'.cell? ⟨Y,k*8+6,none⟩=some (az aJ f.2.2.1)/\w'.cell? ⟨Y,k*8+7,none⟩=some (az aJ f.2.2.2)) (go_keep) (first
        |(go_at_call 52;refine(uv.out _).mono ?_;rintro e8 w8 ⟨rfl,kN⟩;have CC:Hid (aj W0 w8):=fw.out.drew.trans (kN.mono fw.out.drew.size);have hk:=λ(o:Nat)=>kN.cell (p:=⟨Y,o,none⟩) hYr;replace x0:=(hk _).trans x0;replace x1:=(hk _).trans x1;replace x2:=(hk _).trans x2;replace x3:=(hk _).trans x3;replace x4:=(hk _).trans x4;replace x5:=(hk _).trans x5;replace x6:=(hk _).trans x6;replace x7:=(hk _).trans x7;replace y0:=(hk _).trans y0;replace y1:=(hk _).trans y1;replace y2:=(hk _).trans y2;replace y3:=(hk _).trans y3;replace y4:=(hk _).trans y4;replace y5:=(hk _).trans y5;replace y6:=(hk _).trans y6;replace y7:=(hk _).trans y7;clear hk kN))
       clear x0 x1 x2 x3 x4 x5 x6 x7 y0 y1 y2 y3 y4 y5 y6 y7 uv fw
       go_wp2_with fail
       go_roundg (gk-1)
       case measure=>have:=yG.out;omega
       case rel=>exact⟨k+1,by have:=yG.out;omega,by have:=yG.out;have:=uO.out;go_num,CC.out⟩
      .have hK:¬(k:Int)<(i:Int):=aa
       clear ik
       go_wp2_with fail
       go_roundg (m3-1)
       case measure=>have:=uO.out;omega
       case rel=>exact⟨i+1,by have:=uO.out;omega,ai,fw.out⟩
    .have hI:¬(i:Int)<(n:Int):=aa
     clear hlt
     go_wp2_with fail
     go_ret
     exact⟨rfl,FD.out.gb.trans (HB.out.mono FD.out.gb.size)⟩
theorem asJ:∃t0 t1 te re,Pl.all wI=t0::t1::te::re/\t0.k=119/\t0.raw=Pl.fI/\t1.k=119/\(⟨t1.raw.toArray⟩:ByteArray)=⟨#[69,77,80,84,89]⟩/\te.k=101/\(Pl.all wI).length<=20000000402:=
 ⟨_,_,_,_,rfl,rfl,rfl,rfl,rfl,rfl,ah⟩
theorem asK(w:aM):ak 45 #[aG none 0 0] w λe w'=>e=aL (aF ⟨wI.toArray⟩)/\aj w w':=by
 go_enter func45,ntmps45
 go_wp2_with fail
 go_ret
 exact⟨rfl,Below.refl _ _⟩
theorem asL(w:aM):
  ak 24 #[aF ⟨wI.toArray⟩] w λe w'=>∃v,e=aL (aI #[v,aD true])/\oL w' v []/\Below w.heap.size w w':=by
 obtain⟨t0,t1,te,re,hA,xf,xY,hk1,hr1,hte,nQ⟩:=asJ;obtain⟨s,hs⟩:∃s:ByteArray,s=⟨wI.toArray⟩:=⟨_,rfl⟩;have HTE:Hid (∀w1,ak 45 #[aG none 0 0] w1 λe w'=>e=aL (aF s)/\Below w1.heap.size w1 w'):=by rw[hs];exact asK
 have oK:=acL s w (by rw[hs];decide)
 rw[show s.data.toList=wI by rw[hs]] at oK
 rw[<-hs];have HA:Hid (Pl.all wI=t0::t1::te::re):=hA;have hne:(Pl.all wI).length≠0:=by rw[hA];simp
 clear hA hs;generalize Pl.all wI=A at*
 go_enter func24,ntmps24
 go_wp2_with fail
 refine oK.mono ?_;rintro e w1 ⟨v,rfl,hown1,hb1⟩;obtain⟨tb,cap,cur,rfl,pI,fX,hcap⟩:∃tb cap cur,v=aG (some ⟨tb,0,none⟩) A.length cap/\w.heap.size<=tb/\w1.heap[tb]?=some (.cells cur 61 (0,0))/\∀(j:Nat) u,(qT A)[j]?=some u->cur[j]?=some u:=by
  rcases hown1.2 with⟨_,h0⟩|⟨g,cap,cur,hv,hg,hc,_,_,_,h6⟩
  .exact absurd h0 hne
  .refine⟨g,cap,cur,hv,hg,hc,λj u hj=>?_⟩
   rw[<-h6,lH] at hj;split at hj
   .rw[<-hj];simp
   .cases hj
 clear oK hown1 hne
 go_wp2_with fail
 have lL:PX w1.heap.size tb cap A (t0::t1::te::re) (w1.alloc (.cells #[aG (some ⟨tb,0,none⟩) A.length cap,az aJ 0,aD false,az aJ (-1)] 55)):=
  ⟨wV (lt_of_heap fX),⟨cur,(Below.heap_alloc _ _ _ (lt_of_heap fX)).trans fX,hcap⟩,[],HA.out.symm,heap_alloc_new _ _⟩
 have jA:Below w.heap.size w (w1.alloc (.cells #[aG (some ⟨tb,0,none⟩) A.length cap,az aJ 0,aD false,az aJ (-1)] 55)):=hb1.alloc hb1.size _;have TW:w.heap.size<=w1.heap.size:=hb1.size;clear fX hcap pI hb1 cur HA;generalize w1.alloc (.cells #[aG (some ⟨tb,0,none⟩) A.length cap,az aJ 0,aD false,az aJ (-1)] 55)=W1 at*;generalize w1.heap.size=pb at*;refine(TP pb tb cap A (t1::te::re) t0 W1 ⟨#[77,85,76,84,73,80,79,76,89,71,79,78]⟩ lL nQ xf (by rw[xY];rfl)).mono ?_
 rintro e w2 ⟨rfl,kT,hf2⟩
 go_wp2_with fail
 refine(TP pb tb cap A (te::re) t1 w2 ⟨#[69,77,80,84,89]⟩ kT nQ hk1 hr1).mono ?_;rintro e w6 ⟨rfl,nP,wj⟩;have wh:=hf2.trans wj;obtain⟨c6,TY,bp,e0,e1,e2,e3,hcl,pI⟩:=nP.cells;have p0:=cL bp;have p1:=cK bp;have p2:=eN bp;have hib:(c6.length:Int)<(A.length:Int):=aa
 rw[hte] at e0;have qp:Hid (Below w.heap.size w w6):=jA.trans (wh.below w.heap.size TW jA.size);clear lL kT hf2 wj nP bp TY wh jA
 go_wp2_with fail
 go_region_held3 (λw'=>w'.cell? ⟨pb,0,none⟩=some (aG (some ⟨tb,0,none⟩) A.length cap)/\w'.cell? ⟨pb,1,none⟩=some (az aJ c6.length)/\w'.cell? ⟨pb,2,none⟩=some (aD false)/\w'.cell? ⟨tb,c6.length*4,none⟩=some (az .u8 101)) (go_keep) (fail)
 go_wp2_with fail
 refine(HTE.out _).mono ?_;rintro e w7 ⟨rfl,bu⟩;have CC:Hid (Below w.heap.size w w7):=qp.out.drew.trans (bu.mono qp.out.drew.size);clear bu qp
 go_wp2_with fail
 exact bodyPost_ret (v:=aI #[aG none 0 0,aD true]) (by simp[results,results24,go_sem]) rfl ⟨_,rfl,⟨[],rfl,World.ownsRow_nil _ _ _ _,af⟩,CC.out⟩
theorem VW{α:Type}{f:α->List UInt8}{g:α->Nat}(h:∀x,g x<=(f x).length):∀xs:List α,(xs.map g).sum<=(Pl.bI f xs).length
 |[]=>af
 |[x]=>by simpa[Pl.bI] using h x
 |x::y::xs=>by
  have ih:=VW h (y::xs);have:=h x;simp[Pl.bI] at ih⊢;omega
theorem asN{F:List Gb.NP}(hne:F≠[]):((F.map oq).flatMap λp=>p.flatMap dH).length<=(Gb.pS F).length:=by
 have e1:=OX hne;have h1:((F.map pq).map λgs=>(gs.map List.length).sum).sum<=(Pl.bI Pl.pX (F.map pq)).length:=VW (λgs=>by
  have h2:(gs.map List.length).sum<=(Pl.bI Pl.rX gs).length:=VW (λg=>by
   have h3:=Al (f:=Pl.dJ) (λx=>by simp[Pl.dJ];omega) g
   have h4:(Pl.rX g).length=(Pl.bI Pl.dJ g).length+2:=by simp[Pl.rX]
   omega) gs
  have h5:(Pl.pX gs).length=(Pl.bI Pl.rX gs).length+2:=by simp[Pl.pX]
  omega) (F.map pq)
 have h2:((F.map oq).flatMap λp=>p.flatMap dH).length<=((F.map pq).map λgs=>(gs.map List.length).sum).sum:=by
  rw[List.length_flatMap,gq,gq];have one:∀p:Gb.NP,((oq p).flatMap dH).length<=((pq p).map List.length).sum:=λp=>by
   unfold oq pq;rw[List.length_flatMap,gq,gq];generalize p.1::p.2=L;induction L with
   |nil=>simp
   |cons c L ih=>
    simp only[gM,yO,Function.comp];have:(dH (c.map Ge.aU)).length<=(cq c).length:=by
     rw[agC];unfold cq;simp
    omega
  induction F with
  |nil=>simp
  |cons p F ih=>
   simp only[gM,yO,Function.comp];have:=one p;have ih':(F.map ((λp=>(p.flatMap dH).length)∘oq)).sum<=(F.map ((λgs=>(gs.map List.length).sum)∘pq)).sum:=by
    clear e1 h1 hne ih;induction F with
    |nil=>simp
    |cons p F ih=>
     simp only[gM,yO,Function.comp] at ih⊢;have:=one p;omega
   omega
 rw[e1];simp only[bX,dG,ib];omega
theorem asO{F:List Gb.NP}(hF:VJ F)(hne:F≠[])(hl:(Gb.pS F).length<=20000000000):(∀p∈F.map oq,p≠[]/\p.length<=20000000402/\∀g∈p,g.length<=20000000402/\∀q∈g,fY q)/\(F.map oq).length<=20000000402:=by
 have e1:=OX hne;have hJ:(Pl.bI Pl.pX (F.map pq)).length<=20000000000:=by
  rw[e1] at hl;simp at hl;omega
 constructor
 .intro p' hp';obtain⟨p,hp,rfl⟩:=bQ.1 hp';have h1:=JJ (f:=Pl.pX) (bQ.2 ⟨p,hp,rfl⟩:pq p∈F.map pq);have h2:(Pl.pX (pq p)).length=(Pl.bI Pl.rX (pq p)).length+2:=by simp[Pl.pX]
  have h3:=Al (f:=Pl.rX) (λx=>by simp[Pl.rX]) (pq p)
  have h4:(oq p).length=(pq p).length:=by simp[oq,pq]
  refine⟨by simp[oq],aa,λg hg=>?_⟩
  obtain⟨c,hc,rfl⟩:=bQ.1 hg;have h5:(Pl.rX (cq c)).length<=(Pl.bI Pl.rX (pq p)).length:=JJ (bQ.2 ⟨c,hc,rfl⟩);have h6:(Pl.rX (cq c)).length=(Pl.bI Pl.dJ (cq c)).length+2:=by simp[Pl.rX]
  have h7:=Al (f:=Pl.dJ) (λx=>by simp[Pl.dJ];omega) (cq c)
  have h8:c.length<=(cq c).length:=by unfold cq;simp
  refine⟨by rw[gG];omega,λq hq=>?_⟩
  obtain⟨n,hn,rfl⟩:=bQ.1 hq;exact agn ((hF.q p hp c hc).2 n hn)
 .have:=Al (f:=Pl.pX) (λx=>by simp[Pl.pX]) (F.map pq)
  rw[gG] at this⊢;omega
theorem asP{rg:List (List Ge.Pt)}{r:Int}{T:List UInt8}(hs:∀e∈Ge.aT rg,gS e)(h:CV rg r T):∃F,T=Gb.pS F/\VJ F/\Io (F.map oq):=by
 obtain⟨Ps,l,h1,h2,h3,h4,hT⟩:=h;have hX:=M4 (r:=r) h1 h2 h3;have hB:=Ot (r:=r) h1 hs h3 h4;generalize oG r (Ge.aT rg) Ps=Xs at*;refine⟨Gb.fin Xs,by rw[hT];exact Gb.OB Xs,⟨λp hp c hc=>?_⟩,Gb.asn hX hB⟩
 have cn:=Gb.SX.canon hX hB;have hW:=Gb.SX.wd hX hB;have okn:∀n∈l,Pl.CZ (Ge.aU n):=λn hn=>asi (h2 n hn) (aaK hs (h2 n hn) (((Ge.Eh _).2.2 _).1 (by rw[<-h1];exact bQ.2 ⟨n,hn,rfl⟩)))
 have l3:∀{c:List Ge.Nd}{R:List Gb.Sg},Gb.LR (Gb.sS (Gb.aW l) Xs) (Gb.lh (Gb.aW l) Xs) R->c.map (Gb.PM (Gb.aW l))=Gb.cM R->3<=c.length:=λ{c R} k e=>by
  have:=k.agf hW;rw[<-e,gG] at this;exact this
 obtain⟨R,r1,_,r3,r4⟩:=cn.c1 p hp;rcases bU.1 hc with q|q
 .subst q;exact⟨l3 r1 r3,λn hn=>okn n ((cn.nd p hp).1 n hn)⟩
 .obtain⟨H,k1,_,k3,_⟩:=r4 c q;exact⟨l3 k1 k3,λn hn=>okn n ((cn.nd p hp).2 c q n hn)⟩
structure SK(TT:ByteArray)(E:Nat):Prop where
 le:E<=4
 em:E≠0->TT=⟨#[]⟩
 ok:E=0->∃ps,(∀w1,Gl w1->ak 24 #[aF TT] w1 λe w'=>∃v,e=aL (aI #[v,aD true])/\oL w' v ps/\aj w1 w')/\∀v w1,oL w1 v ps->ak 26 #[v] w1 λe w'=>e=aL (aD true)/\aj w1 w'
theorem asQ{s:List UInt8}{r:Int}{T:List UInt8}{E P:Nat}(h:Ai s r T E P):SK (ba T) E:=by
 refine⟨h.small,λh0=>?_,λh0=>?_⟩
 .rcases h with⟨_,a2,_,_⟩|⟨_,_,a3,_,_⟩|⟨_,_,_,a4,_⟩
  .rw[a2];rfl
  .rw[a3];rfl
  .exact absurd a4 h0
 .rcases h with⟨a1,_,a3,_⟩|⟨_,_,_,a4,_⟩|⟨a1,_,a3,_,_⟩
  .omega
  .omega
  .have hs:=(Zr a1).2.2.1;have hl:=Gb.ase hs a3;obtain⟨F,rfl,hok,hio⟩:=asP hs a3;by_cases hF:F=[]
   .subst hF;refine⟨[],λw1 _=>asL w1,λv w1 hR=>agF [] v w1 hR (λp hp=>by simp at hp) af af hio⟩
   .obtain⟨k1,k2⟩:=asO hok hF hl;exact⟨F.map oq,λw1 g=>asj hok hF hl w1 g,λv w1 hR=>agF _ v w1 hR k1 k2 (fN (asN hF) aa) hio⟩
def KC(w wr:aM)(a a':Addr)(v v':aN):Prop:=∀w7,aj wr.drew w7->(w7.cell? a=some v/\w7.cell? a'=some v')/\Hid (Old w w7 [])
def KD(w wr:aM)(a a':Addr)(v v':aN):Prop:=∀w7,Below (wr.alloc (.cells #[aF ⟨#[]⟩,az aJ 0,az aJ 0] 38)).drew.heap.size (wr.alloc (.cells #[aF ⟨#[]⟩,az aJ 0,az aJ 0] 38)).drew w7->(w7.cell? a=some v/\w7.cell? a'=some v'/\w7.frozen? ⟨wr.heap.size,0,none⟩=false/\w7.frozen? ⟨wr.heap.size,1,none⟩=false/\w7.frozen? ⟨wr.heap.size,2,none⟩=false/\∃u0 u1 u2,w7.cell? ⟨wr.heap.size,0,none⟩=some u0/\w7.cell? ⟨wr.heap.size,1,none⟩=some u1/\w7.cell? ⟨wr.heap.size,2,none⟩=some u2)/\Hid (Old w w7 [(wr.heap.size,(.cells #[aF ⟨#[]⟩,az aJ 0,az aJ 0] 38 (0,0)))]/\w.heap.size<=wr.heap.size/\∀p∈([]:List (Nat×Obj)),p.1≠wr.heap.size)
theorem kC{a a':Addr}(h:Old w wr [])(r:wr.cell? a=some v)(r':wr.cell? a'=some v')(hz:a.block<wr.heap.size)(hz':a'.block<wr.heap.size):KC w wr a a' v v':=λ_ hb=>⟨⟨(hb.cell (p:=a) hz).trans r,(hb.cell (p:=a') hz').trans r'⟩,h.drew.next hb⟩
theorem kD{a a':Addr}(h:Old w wr [])(r:wr.cell? a=some v)(r':wr.cell? a'=some v')(hz:a.block<wr.heap.size)(hz':a'.block<wr.heap.size):KD w wr a a' v v':=λw7 hb=>by
 have h7:Old w w7 [(wr.heap.size,(.cells #[aF ⟨#[]⟩,az aJ 0,az aJ 0] 38 (0,0)))]:=(h.alloc (.cells #[aF ⟨#[]⟩,az aJ 0,az aJ 0] 38)).drew.next hb
 have q2:=h7.h1;have hsz:(wr.alloc (.cells #[aF ⟨#[]⟩,az aJ 0,az aJ 0] 38)).drew.heap.size=wr.heap.size+1:=by
  show(wr.alloc (.cells #[aF ⟨#[]⟩,az aJ 0,az aJ 0] 38)).heap.size=_;simp
 exact⟨⟨(hb.cell (p:=a) aa).trans (afY r),(hb.cell (p:=a') aa).trans (afY r'),bK q2 0,bK q2 1,bK q2 2,_,_,_,cell_of q2 0,cell_of q2 1,cell_of q2 2⟩,h7,h.gb.size,λp hp=>by simp at hp⟩
theorem asR(so:Option Addr)(n cap:Nat)(w:aM)(hG:Gl w)(hS:VA w so n)(_hn:n<=maxLen):
  ak 10 #[aG so n cap] w λe w'=>e=aL (aD true)/\aj w w':=by
 have HS:Hid (VA w so n):=hS;clear hS
 go_enter func10,ntmps10
 go_wp2_with fail
 go_loopg [3] n (λg iv wr=>∃k:Nat,k+g=n/\iv=az aJ k/\Hid (aj w wr/\Gl wr))
 case atStart=>exact⟨0,aa,rfl,Below.refl _ _,hG⟩
 case round=>
  obtain⟨k,hkn,rfl,HB⟩:=hrel;obtain⟨aX,sx⟩:=HB.out;by_cases hlt:k<n/\k<1152921504606846976
  .obtain⟨hlt,hmx⟩:=hlt;obtain⟨b,o,K,x,y,d,r,s,rfl,hb,hs,c0,c1,c2,c3,c4,c5⟩:=HS.out k hlt;have ij:(k:Int)<(n:Int):=aa
   have rf:(k:Int)<1152921504606846976:=aa
   have e4:wr.cell? ⟨b,o+k*6+4,none⟩=some (az .u8 r):=aQ aX c4 hb;have e5:wr.cell? ⟨b,o+k*6+5,none⟩=some (aF s):=aQ aX c5 hb;have hbr:b<wr.heap.size:=by have:=aX.size;omega
   have HGd:Hid (Gl wr.drew):=sx.drew;have agL:GlB wr:=(sx.alloc _).drew;have HO:Hid (Old w wr []):=⟨aX,sx,λp hp=>by simp at hp⟩
   have H1:KC w wr ⟨b,o+k*6+5,none⟩ ⟨b,o+k*6+4,none⟩ (aF s) (az .u8 r):=kC HO.out e5 e4 hbr hbr;have H2:KD w wr ⟨b,o+k*6+5,none⟩ ⟨b,o+k*6+4,none⟩ (aF s) (az .u8 r):=kD HO.out e5 e4 hbr hbr;have VX:Hid (∀w1,Gl w1->ak 18 #[aF s,az .u8 r] w1 λe w'=>(∃T E P,e=aL (aC #[aF T,az aJ ((E:Nat):Int),az aJ ((P:Nat):Int)])/\Hid (SK T E))/\aj w1 w'):=λw1 g=>(afK s r w1 hs g).mono λe w' hh=>by
    obtain⟨⟨T,E,P,e1,hF⟩,hb⟩:=hh;exact⟨⟨ba T,E,P,e1,asQ hF⟩,hb⟩
   have HGw:Hid (Gl w):=hG;clear c0 c1 c2 c3 c4 c5 HB aX sx
   go_wp2_with fail
   have HM:Hid (k+gk=n/\k<n/\k<1152921504606846976):=⟨aa,hlt,hmx⟩
   clear hkn hlt hmx rf hb hs HS HO
   go_region_held3 (λw'=>w'.cell? ⟨b,o+k*6+5,none⟩=some (aF s)/\w'.cell? ⟨b,o+k*6+4,none⟩=some (az .u8 r)) (go_keep) (first
      |(go_at_call 18;refine(VX.out _ HGd.out).mono ?_;rintro e w7 ⟨⟨T,E,Pp,rfl,HT⟩,bu⟩;obtain⟨⟨r7,VY⟩,JS⟩:=H1 w7 bu;have r8:=World.new_ne w7 _ r7;have y0:=VB w7 0 (by(omega));have y1:=VB w7 1 (by(omega));have y2:=VB w7 2 (by(omega));clear bu)
      |(go_at_call 18;refine(VX.out _ agL).mono ?_;rintro e w7 ⟨⟨T,E,Pp,rfl,HT⟩,bu⟩;obtain⟨⟨r7,VY,y0,y1,y2,u0,u1,u2,x0,x1,x2⟩,JS⟩:=H2 w7 bu;have r8:=nZ hbr;clear bu))
   all_goals first
    |(obtain⟨WF,XF,e1,e2,HQ⟩:=arX T E Pp JS.out;rw[<-e1,<-e2];clear e1 e2 r7 VY r8 y0 y1 y2 JS)
    |(obtain⟨WF,XF,e1,e2,HQ⟩:=arY HGw.out T E Pp JS.out;rw[<-e1,<-e2];clear e1 e2 r7 VY r8 y0 y1 y2 x0 x1 x2 JS)
   all_goals
    clear HGd agL H1 H2 e4 e5 hbr VX;have f0:=cL HQ.out.h1;have f1:=cK HQ.out.h1;by_cases hE:E=0
    .subst hE
     replace f1:WF.cell? ⟨XF,1,none⟩=some (az aJ 0):=f1
     obtain⟨ps,O7,wJ⟩:=HT.out.ok rfl
     replace O7:Hid _:=O7
     replace wJ:Hid _:=wJ
     clear HT
     go_wp2_with fail
     refine(O7.out _ HQ.out.gl).mono ?_;rintro e w2 ⟨v,rfl,hR,hb2⟩;have HR2:Hid (oL w2 v ps):=hR;have oM:Hid (aj w w2/\Gl w2):=⟨(HQ.out.next hb2).gb,(HQ.out.next hb2).gl⟩
     clear hb2 hR HQ O7 f0 f1
     go_wp2_with fail
     refine(wJ.out v w2 HR2.out).mono ?_;rintro e w3 ⟨rfl,hb3⟩;have dw:Hid (aj w w3/\Gl w3):=⟨oM.out.1.trans (hb3.mono oM.out.1.size),Aj oM.out.2 hb3⟩;clear hb3 oM HR2 wJ;have rf:(k:Int)<1152921504606846976:=by have:=HM.out;omega
     go_wp2_with fail
     go_roundg (gk-1)
     case measure=>have:=HM.out;omega
     case rel=>
      exact⟨k+1,by have:=HM.out;omega,ai,dw⟩
    .have hEz:¬((E:Int)=0):=aa
     have hEb:((E:Int) == 0)=false:=tJ.2 hEz;have dw:Hid (aj w WF/\Gl WF):=⟨HQ.out.gb,HQ.out.gl⟩;have hTe:=HT.out.em hE;subst hTe;clear HT HQ;have rf:(k:Int)<1152921504606846976:=by have:=HM.out;omega
     go_wp2_with fail
     go_roundg (gk-1)
     case measure=>have:=HM.out;omega
     case rel=>
      exact⟨k+1,by have:=HM.out;omega,ai,dw⟩
  .clear HS;by_cases h1:k<n
   .have h2:1152921504606846976<=k:=aa
    have ij:(k:Int)<(n:Int):=aa
    have rf:decide ((k:Int)<1152921504606846976)=false:=by simp;omega
    clear hlt
    go_wp2_with fail
    refine(afV _ sx).mono ?_;rintro e w1 ⟨rfl,hb1⟩
    go_wp2_with fail
    go_ret
    exact⟨rfl,aX.trans (hb1.mono aX.size)⟩
   .have ij:decide ((k:Int)<(n:Int))=false:=by simp;omega
    clear hlt
    go_wp2_with fail
    refine(afV _ sx).mono ?_;rintro e w1 ⟨rfl,hb1⟩
    go_wp2_with fail
    go_ret
    exact⟨rfl,aX.trans (hb1.mono aX.size)⟩
end
section
open Go.RowKit Go.Deep
theorem Tryz.opCells:Tryz.prog.cellsOf 26=6:=ag
theorem Tryz.intCells:Tryz.prog.cellsOf 3=1:=ag
theorem Tryz.byteCells:Tryz.prog.cellsOf 5=1:=ag
theorem Tryz.strCells:Tryz.prog.cellsOf 9=1:=ag
section
variable{H:Type}{enc:TypeId×aN->H}{W:aM}{spare:Nat->Bool}{held:Bool}
theorem six{α:Type}:∀{l:List α},l.length=6->∃a b c d e f,l=[a,b,c,d,e,f]
 |[a,b,c,d,e,f],_=>⟨a,b,c,d,e,f,rfl⟩
theorem asU{so:Option Addr}{n cap:Nat}{d:DataW H}{p:List MemPlace}(h:DataW.Trod enc prog W 0 spare held 22 (aG so n cap) d p):n<=maxLen/\VA W so n:=by
 obtain⟨fuel,hf⟩:=h;rcases open_slice underlying22 hf with⟨hcs,hx⟩|⟨a,len,cap',m,fl,D,Pl,hcs,hb,hl,hm,hmm,hx,hel⟩
 .simp[Value.cells] at hcs;obtain⟨rfl,rfl,rfl⟩:=hcs;exact⟨iW _,λk hk=>absurd hk (Nat.not_lt_zero _)⟩
 .simp[Value.cells] at hcs;obtain⟨rfl,rfl,rfl⟩:=hcs;refine⟨fN hl hm,λk hk=>?_⟩
  have hspot:a.spot=none:=by
   obtain⟨cs0,z1,_⟩:=hel 0 (by rw[hmm];split<;>omega)
   rw[Tryz.opCells] at z1;obtain⟨_,zl,zc⟩:=World.cells?_some z1;obtain⟨q0,q1,q2,q3,q4,q5,rfl⟩:=six zl;simpa[Addr.add] using World.cell?_spot (v:=q0) (zc 0 aa)
  obtain⟨cs',h1,h2⟩:=hel k (by rw[hmm];split<;>omega)
  rw[Tryz.opCells] at h1;obtain⟨_,hlen,hcell⟩:=World.cells?_some h1;obtain⟨xs,k',hk',hxy,_,hxl,hfl⟩:=DataW.trod_struct underlying26 h2;obtain⟨b,o,spot⟩:=a;obtain rfl:spot=none:=hspot;obtain⟨y0,y1,y2,y3,y4,y5,rfl⟩:=six (hxl.trans (by rfl))
  obtain⟨v0,v1,v2,v3,v4,v5,rfl⟩:=six hlen
  .clear hxl hlen;have g0:=hfl 0 _ rfl;have g1:=hfl 1 _ rfl;have g2:=hfl 2 _ rfl;have g3:=hfl 3 _ rfl;have g4:=hfl 4 _ rfl;have g5:=hfl 5 _ rfl;simp[Tryz.intCells,Tryz.byteCells,Tryz.strCells] at g0 g1 g2 g3 g4 g5;obtain⟨n0,i0,_,_⟩:=DataW.trod_int underlying3 g0;obtain⟨n1,i1,_,_⟩:=DataW.trod_int underlying3 g1;obtain⟨n2,i2,_,_⟩:=DataW.trod_int underlying3 g2;obtain⟨n3,i3,_,_⟩:=DataW.trod_int underlying3 g3;obtain⟨n4,i4,_,_⟩:=DataW.trod_int underlying5 g4;obtain⟨s,i5,_,hs⟩:=DataW.trod_string underlying9 g5;simp only[List.cons.injEq,wN] at i0 i1 i2 i3 i4 i5;subst i0 i1 i2 i3 i4 i5;have e0:=hcell 0 aa
   have e1:=hcell 1 aa
   have e2:=hcell 2 aa
   have e3:=hcell 3 aa
   have e4:=hcell 4 aa
   have e5:=hcell 5 aa
   simp[Go.WideShapes.add_plain] at e0 e1 e2 e3 e4 e5;exact⟨b,o,n0,n1,n2,n3,n4,s,rfl,by simpa using World.block_lt_of_cell? _ _ e0,hs,e0,e1,e2,e3,e4,e5⟩
end
end
section
open Go.ChangeShapes Go.WideShapes Go.ChangeAt Go.RowKit
theorem own:ownKnob Tryz.prog.godebug=none:=ag
theorem laidOut:laidOutB prog=true:=ag
theorem asV:mapsRowed prog=true:=ag
theorem asW:Tryz.prog.stopsHeard=true:=ag
theorem asX:Tryz.prog.mayEnter=true:=ag
theorem asY:true=Tryz.prog.looks []:=ag
end
section
open Go.ChangeShapes Go.WideShapes Go.ChangeAt Go.RowKit Go.Deep
theorem agN:Tryz.prog.globalNamed "strconv.ErrSyntax" =some 0:=by kernel_rfl
theorem agO:Tryz.prog.globalNamed "strconv.ErrRange" =some 1:=by kernel_rfl
theorem agP:Tryz.prog.globalNamed "internal/strconv.uint64pow10" =some 3:=by kernel_rfl
theorem asZ:Tryz.prog.globalNamed "math/bits.deBruijn32tab" =some 4:=by kernel_rfl
theorem as0:Tryz.prog.globalNamed "math/bits.deBruijn64tab" =some 5:=by kernel_rfl
theorem as1:(Tryz.prog.globals[0]?).map (·.type)=some 199:=ag
theorem as2:(Tryz.prog.globals[1]?).map (·.type)=some 199:=ag
theorem as3:(Tryz.prog.globals[3]?).map (·.type)=some 356:=ag
theorem agQ: "*" ++ "errors.errorString" = "*errors.errorString" :=by decide
theorem agR(u:TypeId)(h:Tryz.prog.typeName? 3 u=some "*errors.errorString"):u=359:=
 typeName_ptr_named (nm:= "errors.errorString") (by rw[agQ];kernel_rfl) (by kernel_rfl) (by decide) u (by rw[agQ];exact h)
theorem cellsE:Tryz.prog.cellsOf 361=1:=ag
theorem as4:Tryz.prog.cellsOf 282=1:=ag
theorem as5:Tryz.prog.cellsOf 356=20:=ag
theorem JT{W:aM}{n:String}{g:Nat}{cs:Array aN}(hg:Tryz.prog.globalNamed n=some g)(hv:W.var? prog n=some cs):g<W.heap.size:=by
 simp only[World.var?,hg,Option.bind_some] at hv;split at hv
 .rename_i h;exact lt_of_heap h
 .cases hv
theorem as6{W:aM}(h:laidMetH prog Rows.printsRow.laid W):Gl W:=by
 rw[MakeChecks.laidMetH_plain _ _ _ ag] at h
 have h1:=h.tail;have h2:=h1.tail;have h3:=h2.tail;have h4:=h3.tail;obtain⟨a0,sa,rZ,_,_,_⟩:=laid_sentinel h3 agO as2 underlying199 agR underlying359 underlying361 rfl rfl underlying9 cellsE Tryz.strCells;obtain⟨b0,sb,hvb,_,_,_⟩:=laid_sentinel h4 agN as1 underlying199 agR underlying359 underlying361 rfl rfl underlying9 cellsE Tryz.strCells;refine⟨?_,⟨_,_,hvb⟩,⟨_,_,rZ⟩,?_⟩
 .obtain⟨ps,⟨g0,t0,cs0,f0,p0,q0,hg0,ht0,hv0,hd0,_⟩,_,_⟩:=h1;obtain⟨ps',⟨g1,t1,cs1,f1,p1,q1,hg1,ht1,hv1,hd1,_⟩,_,_⟩:=h;obtain⟨avj,⟨g2,t2,cs2,f2,p2,q2,hg2,ht2,hv2,hd2,_⟩,_,_⟩:=h2;have i0:=JT as0 hv0;have i1:=JT asZ hv1;have i2:=JT agP hv2;have i3:=JT agO rZ;have i4:=JT agN hvb;omega
 .exact Lib.tabIs_of_head (k:=.u64) (zs:=Lib.pow10Tab) agP as3 underlying356 underlying282 as4 as5 h2
theorem as7(os:Os)(args:Array aN):laidMetH prog Rows.printsRow.laid ((World.doorLaid prog 400 os).forCall (λ_ _=>0) ⟨#[],args,[]⟩).memory:=
 laidMetH_of_parts3 (fuel:=8) (laidMet_of_run' 8 ag ag) ag ag
end
section
open Go.ChangeShapes Go.WideShapes Go.ChangeAt Go.RowKit
theorem as8:(Rows.soundRow.inPlace == Tryz.prog.inPlace 10)=true:=ag
theorem as9:(Rows.soundRow.unfollowed == Tryz.prog.unfollowed 10)=true:=ag
theorem ata:(Rows.soundRow.recurses == Tryz.prog.recurses 10)=true:=ag
theorem atb:(Rows.soundRow.named == Tryz.prog.varsNamed 10)=true:=ag
theorem atc:(Rows.soundRow.lifted == Tryz.prog.liftsFinal)=true:=ag
theorem atd:(Rows.soundRow.plainKeys == Tryz.prog.plainKeys)=true:=ag
theorem ate:false=Rows.soundRow.goesBy prog:=ag
theorem atf:joinedFacts prog 10 Tryz.f10 Rows.soundSpec Rows.soundRow=true:=by
 unfold joinedFacts;simp only[laidOut,asV,asW,asX,as8,as9,ata,atb,atc,atd,Bool.and_true]
 kernel_rfl
end
end Go.Proofs.YtkjhhooecopolaaGreatDoor
