import Derived.Test.YtkjhhooecopolaaGreatDoorAz40
set_option maxRecDepth 100000
set_option maxHeartbeats 4000000
namespace Go.Proofs.YtkjhhooecopolaaGreatDoor
open Value renaming int->I,complex->A,agg->u,slice->D
open IntKind renaming i64->J
open FloatKind renaming f64->C
open Go renaming World->G
open Option renaming some->K
open Bool renaming true->aP
namespace Gb
open N W
theorem uf{k x y:Int}(d:0<k)(e:y=k*x):(y<=0↔x<=0)/\(0<=y↔0<=x)/\(y=0↔x=0)/\(y<0↔x<0)/\(0<y↔0<x):=by have a:=bI (z:=x) d;have b:=W.neg_mul (z:=x) d;omega
theorem TI{es:V w}{f t:N3}{k j:Int}(c:0<k)(b:0<j)(h:kV es f t):kV es (k*f.1,k*f.2.1,k*f.2.2) (j*t.1,j*t.2.1,j*t.2.2):=by obtain⟨F,p⟩:∃F:N3,F=(k*f.1,k*f.2.1,k*f.2.2):=⟨_,rfl⟩;obtain⟨T,q⟩:∃T:N3,T=(j*t.1,j*t.2.1,j*t.2.2):=⟨_,rfl⟩;rw[<-p,<-q];have B:=bD c b;have m:wv F T=W.sc (k*j) (wv f t):=(by rw[p,q];unfold wv W.sc;grind);have n:∀u,rl F u=W.sc k (rl f u):=λu=>(by rw[p];unfold rl rel W.sc;grind);have s:∀u,rl T u=W.sc j (rl t u):=λu=>(by rw[q];unfold rl rel W.sc;grind);have d:∀u,lam (wv F T) F u=k*j*k*lam (wv f t) f u:=λu=>(by unfold lam;rw[m,n];unfold L W.sc;grind);have S:∀u v,L (rl F u) (rl F v)=k*k*L (rl f u) (rl f v):=λu v=>(by rw[n,n];unfold L W.sc;grind);have o:∀u v,L (rl T u) (rl T v)=j*j*L (rl t u) (rl t v):=λu v=>(by rw[s,s];unfold L W.sc;grind);have A:∀u,i (wv F T) (rl F u)=k*j*k*i (wv f t) (rl f u):=λu=>(by rw[m,n];unfold i W.sc;grind);have C:∀u,i (wv F T) (rl T u)=k*j*j*i (wv f t) (rl t u):=λu=>(by rw[m,s];unfold i W.sc;grind);have a:=bD B c;have g:∀u v,(lam (wv F T) F u<lam (wv F T) F v↔lam (wv f t) f u<lam (wv f t) f v):=λu v=>(by simp_all);refine⟨by rw[p];exact bD c h.pf,by rw[q];exact bD b h.pt,?_,λe r=>?_,λe r=>?_⟩;rw[m];exact(qs B _).bF.2 h.r;obtain⟨H,I⟩:=h.s e r;have P:=uf a<|d e.1;have Q:=uf a<|d e.2;have:=uf (bD c c)<|S e.1 e.2;have:=uf (bD b b)<|o e.1 e.2;have a5:=g e.1 e.2;have R:=g e.2 e.1;refine⟨λx y z=>?_,λx y z=>?_⟩;omega;omega;have l:∀u,kj f t (wv f t) u->kj F T (wv F T) u:=λu G D=>(by have:=G<|(uf a<|d u).2.2.1.1 D;have:=uf a<|A u;have:=uf (bD B b)<|C u;omega);exact⟨l _ (h.c e r).1,l _ (h.c e r).2⟩
theorem TJ{es:V w}{f F:N3}{k:Int}(p:0<k)(n:F=(k*f.1,k*f.2.1,k*f.2.2)){d d':O}(m:Pm d d'):dA es F d=dA es f d'/\dZ es F d=dZ es f d':=by have a:∀u,Pm (rl F u) (rl f u):=λu=>(by have:rl F u=W.sc k (rl f u):=(by rw[n];unfold rl rel W.sc;grind);rw[this];exact qs p _);have h:∀{Q Q':O->Bool},(∀z c,Pm z c->Q z=Q' c)->W.AS es F Q=W.AS es f Q':=λ{Q Q'} l=>kI λe _=>(by unfold W.arm;rw[(a e.1).on<|a e.2,l _ _<|a e.1,l _ _<|a e.2]);have g:dA es F d=dA es f d':=(by unfold dA;rw[show PP es F=PP es f from kI λe _=>Q6 (a e.1)<|a e.2,h (Q':=λz=>nz z&&bf z d') λz c b=>by rw[Ra b,b.bf m]]);refine⟨g,?_⟩;unfold dZ;rw[g,h (Q':=λz=>bh z d') λz c b=>b.bh m]
theorem TM{n:N3}{a b:O}(w:eN n a b)(c:L (rl n a) (rl n b)=0):on (rl n a) (rl n b)=aP:=by
 refine(hJ _ _).2 ⟨c,?_⟩;obtain⟨w1,f⟩:=w;have d:0<i (rl n b) (rl n b):=W.dI λe=>by grind
 have e:(rl n b).1*i (rl n a) (rl n b)=(rl n a).1*i (rl n b) (rl n b)-(rl n b).2*L (rl n a) (rl n b):=by unfold i L;grind
 rw[c] at e;apply gP;intro q;have:=bD f (show 0<i (rl n a) (rl n b) by omega);have y:=gM (show 0<= -(rl n a).1 by omega)<|dU d;grind
section
variable{S:V w}{nx:w->w}{es:V w}
theorem Wd.alone(h:Wd S nx){s t:w}(c:s∈S)(d:t∈S){n:N3}(b:0<n.2.2)(a:Ins n s)(g:on (rl n t.1) (rl n t.2)=aP):s=t:=by by_cases e:rl n t.1=(0,0);rcases h.rF t d s c (Ro b e a.1) with z|z;exact absurd (by grind) a.2.1;exact absurd (by grind) a.2.2;by_cases f:rl n t.2=(0,0);rcases h.yV t d s c (Ro b f a.1) with z|z;exact absurd (by grind) a.2.1;exact absurd (by grind) a.2.2;by_cases k:L (dr s) (dr t)=0;exact h.same c d b a ⟨g,e,f⟩ k;rcases h.meet c d b a.1 g k with q|q;exact absurd q a.2.1;exact absurd q a.2.2
theorem Wd.agX(h:Wd S nx)(P:Cl es)(x:∀e∈es,e∈S){s:w}(t:s∈S)(Q:s∉es){k f:Int}(l:0<k)(n:0<f):UU es (k*s.1.1+f*s.2.1,k*s.1.2+f*s.2.2,k+f)=Lf es s:=by obtain⟨N,m⟩:∃N:N3,N=(k*s.1.1+f*s.2.1,k*s.1.2+f*s.2.2,k+f):=⟨_,rfl⟩;rw[<-m];have v:0<N.2.2:=(by grind);have y:rl N s.1=W.sc (-f) (dr s):=(by rw[m];unfold rl rel W.sc dr;grind);have z:rl N s.2=W.sc k (dr s):=(by rw[m];unfold rl rel W.sc dr;grind);have C:Ins N s:=(by refine aeo (D:=dr s) ?_ ?_ ?_;rw[y];unfold L W.sc;grind;rw[z];unfold L W.sc;grind;rw[y,z];have e:i (dr s) (W.sc (-f)<|dr s)*i (dr s) (W.sc k<|dr s)= -(f*k*(i (dr s) (dr s)*i (dr s) (dr s))):=(by unfold i W.sc;grind);have d:=W.dI<|h.aaT t;have:=bD (bD n l)<|bD d d;omega);obtain⟨J,K⟩:=h.kJ (es:=es) (λe r=>j<|x e r) t;have A:UU es N=PP es N:=(by obtain⟨rg,B⟩:=P;have:=agW rg N;rw[B] at this;rw[this,Dp];refine wu _ λe r I=>?_;have ne:kY N e≠0:=λq=>(by have F:on (rl N e.1) (rl N e.2)=aP:=(by rcases Ip I with g|g;have c:L (rl N e.1) (rl N e.2)=0:=(by have:=(rU g).2.1;grind);exact TM g c;have c:L (rl N e.2) (rl N e.1)=0:=(by have:=(rU g).2.2.2.2.1;grind);rw[oR];exact TM g c);exact Q<|h.alone t (x e r) v C F▸r);grind);rw[A];have fl:=h.flat x t Q;obtain⟨rg,rfl⟩:=P;have md:∀(p q:Int)(a b:O),RR (o rg) (p*(n1 a).1,p*(n1 a).2.1,p*(n1 a).2.2) (q*(n1 b).1,q*(n1 b).2.1,q*(n1 b).2.2)=PP (o rg) (p*a.1+q*b.1,p*a.2+q*b.2,p+q):=λp q a b=>(by unfold RR bo n1;simp);have u:∀{p q:Int}(a b:O),0<p->0<q->Pm (wv (p*(n1 a).1,p*(n1 a).2.1,p*(n1 a).2.2) (q*(n1 b).1,q*(n1 b).2.1,q*(n1 b).2.2)) (dr (a,b)):=λ{p q} a b G H=>(by refine⟨1,p*q,ae,bD G H,?_,?_⟩<;>(unfold wv n1 dr;grind));by_cases R:bF (dr s);have a:=(oS<|TI l n<|J R).1;rw[(TJ l rfl (u s.1 s.2 l n)).1,md,<-m] at a;rw[a,fl];rfl;have a:=(tN<|TI n l<|K R).1;rw[(TJ l rfl (u s.2 s.1 n l).neg).2,md] at a;have e:((f*s.2.1+k*s.1.1,f*s.2.2+k*s.1.2,f+k):N3)=N:=(by grind);rw[e,show neg (dr (s.2,s.1))=dr s by rw[show dr (s.2,s.1)=neg (dr s) from mS s,neg_neg]] at a;exact a
end
end Gb
end Go.Proofs.YtkjhhooecopolaaGreatDoor
namespace Go.Proofs.YtkjhhooecopolaaGreatDoor.N
open Value renaming agg->u
open Go renaming World->G
open Bool renaming true->aP
def kq(u:O):Int:=if 0<u.1/\u.2<=0 then 1 else 0
theorem aiz(u:O):bs u u=0:=by unfold bs;omega
theorem aiA{u v:O}(n:on u v=aP->u.1=0/\v.1=0):right u v-bs u v=kq v-kq u:=by
 by_cases f:L u v=0;have s:kq u=kq v:=(by cases g:on u v;have r:0<i u v:=(by apply gP;intro q;rw[(W.hJ u v).2 ⟨f,U⟩] at g;cases g);obtain⟨p,q,h,k,l,m⟩:=Gb.Rc<|(W.dE u v).2 ⟨f,r⟩;have a:=Gb.gC h k l;have b:=Gb.gC h k m;unfold kq;omega;obtain⟨a,b⟩:=n g;unfold kq;omega);unfold right bs;rw[f,s];simp
 .have:L u v=u.1*v.2-u.2*v.1:=rfl;unfold right bs kq;generalize L u v=c at*;by_cases a:u.1<=0<;>by_cases b:u.2<=0<;>by_cases x:v.1<=0<;>by_cases d:v.2<=0
  all_goals
   have:(0<=u.1*v.2/\u.1<=0/\v.2<=0)\/(u.1*v.2<=0/\u.1<=0/\0<v.2)\/(u.1*v.2<=0/\0<u.1/\v.2<=0)\/(0<u.1*v.2/\0<u.1/\0<v.2):=by
    first
     |exact j ⟨mI a d,a,d⟩
     |exact F<|j ⟨su a U,a,U⟩
     |exact F<|F<|j ⟨An U d,U,d⟩
     |exact F<|F<|F ⟨bD U U,U,U⟩
   have:(0<=u.2*v.1/\u.2<=0/\v.1<=0)\/(u.2*v.1<=0/\u.2<=0/\0<v.1)\/(u.2*v.1<=0/\0<u.2/\v.1<=0)\/(0<u.2*v.1/\0<u.2/\0<v.1):=by
    first
     |exact j ⟨mI b x,b,x⟩
     |exact F<|j ⟨su b U,b,U⟩
     |exact F<|F<|j ⟨An U x,U,x⟩
     |exact F<|F<|F ⟨bD U U,U,U⟩
   generalize u.1*v.2=t at*;generalize u.2*v.1=B at*;(repeat' split);all_goals omega
theorem J2{F G:O->O->Int}{k:O->Int}(c:∀a,F a a=0)(d:∀a,G a a=0):∀rg:V (V O),(∀e∈o rg,F e.1 e.2-G e.1 e.2=k e.2-k e.1)->total F (o rg)=total G (o rg)
 |[],_=>rfl
 |g::rg,h=>by have e:o (g::rg)=gF g++o rg:=nn;rw[e] at h⊢;rw[uR,uR,J2 c d rg λe b=>h e<|wU _ b];congr 1;have f:∀e∈gF g,F e.1 e.2-G e.1 e.2=k e.2-k e.1:=λe b=>h e<|pK _ b;unfold gF at*;rw[Bk _ c,Bk _ d];cases g with|nil=>rfl|cons a r=>have:=Bj F G k r a a λp l=>(by by_cases b:p.1=p.2;grind;exact f p (et.2 ⟨l,by simp[b]⟩));have e:closing (a::r)=(a::r).zip (r++[a]):=rfl;grind
end Go.Proofs.YtkjhhooecopolaaGreatDoor.N
namespace Go.Proofs.YtkjhhooecopolaaGreatDoor.Gb
open Value renaming agg->u,slice->D
open Go renaming World->G
open Bool renaming true->aP
open N W
theorem J3{es:V w}{f t:N3}(h:kV es f t){e:w}(a:e∈es)(b:on (rl (bo f t) e.1) (rl (bo f t) e.2)=aP):
  L (wv f t) (rl (bo f t) e.1)=0/\L (wv f t) (rl (bo f t) e.2)=0/\((i (wv f t) (rl (bo f t) e.1)<0/\0<i (wv f t) (rl (bo f t) e.2))\/(0<i (wv f t) (rl (bo f t) e.1)/\i (wv f t) (rl (bo f t) e.2)<0)):=by by_cases c:lam (wv f t) f e.1=0/\lam (wv f t) f e.2=0;obtain⟨d,g⟩:=c;have k:=(rD h.pf h.pt h.r e.1).2 d;have l:=(rD h.pf h.pt h.r e.2).2 g;refine⟨k,l,?_⟩;have oq:=(qm (jg h.r) k l).1 b;rcases place h.pf h.pt h.r (h.c e a).1 d with⟨_,x,_⟩|⟨_,x,_⟩<;>rcases place h.pf h.pt h.r (h.c e a).2 g with⟨_,y,_⟩|⟨_,y,_⟩;exact absurd oq (vL x y);omega;omega;exact absurd oq (yN x y);rw[CT h.pf h.pt h.r (h.s e a) c] at b;cases b
theorem EK{D z:O}(h:L D z=0):i D D*z.1=D.1*i D z:=by unfold L at h;unfold i;grind
theorem U9{q:N3}(c:0<q.2.2)(D u v:O):(0<D.1*(v.1-u.1)+D.2*(v.2-u.2)↔i D (rl q u)<i D (rl q v))/\(D.1*(v.1-u.1)+D.2*(v.2-u.2)<0↔i D (rl q v)<i D (rl q u)):=by
 have:q.2.2*(D.1*(v.1-u.1)+D.2*(v.2-u.2))=i D (rl q v)-i D (rl q u):=by unfold i rl rel;grind
 have:=bI (z:=D.1*(v.1-u.1)+D.2*(v.2-u.2)) c;have:=W.neg_mul (z:=D.1*(v.1-u.1)+D.2*(v.2-u.2)) c;omega
section
variable{rg:V (V O)}{f t:N3}
theorem aiB(h:kV (o rg) f t)(c:(wv f t).1≠0):UU (o rg) (bo f t)=LL (o rg) f t:=by
 have c:0<(wv f t).1:=(by rcases h.r with q|q<;>omega);have s:0<(bo f t).2.2:=(by have:=h.pf;have:=h.pt;show 0<f.2.2+t.2.2;omega);have g:=W.dI<|jg h.r;have l:∀a:O,fb (bo f t) (wv f t) a a=0:=λa=>(by unfold fb;simp)
 have:=J2 (F:=λu v=>right (rl (bo f t) u) (rl (bo f t) v)) (G:=λu v=>up (rl (bo f t) u) (rl (bo f t) v)-fb (bo f t) (wv f t) u v) (k:=λu=>q<|rl (bo f t) u)
  (λa=>by unfold right;omega) (λa=>by rw[agV,l];rfl) rg λe r=>by
   cases d:on (rl (bo f t) e.1) (rl (bo f t) e.2)
   .have:=N.step _ _ d;have z:fb (bo f t) (wv f t) e.1 e.2=0:=by unfold fb;grind
    omega
   .obtain⟨m,n,p⟩:=J3 h r d;have z:=((hJ _ _).1 d).1;obtain⟨B,P⟩:=U9 s (wv f t) e.1 e.2;have:=EK m;have:=EK n;have:=bI (z:=(rl (bo f t) e.1).1) g;have:=W.neg_mul (z:=(rl (bo f t) e.1).1) g;have:=bI (z:=(rl (bo f t) e.2).1) g;have:=W.neg_mul (z:=(rl (bo f t) e.2).1) g;have:=bI (z:=i (wv f t)<|rl (bo f t) e.1) c;have:=W.neg_mul (z:=i (wv f t)<|rl (bo f t) e.1) c;have:=bI (z:=i (wv f t)<|rl (bo f t) e.2) c;have:=W.neg_mul (z:=i (wv f t)<|rl (bo f t) e.2) c;unfold fb right up q;grind
 have:=yK (λu v=>up (rl (bo f t) u)<|rl (bo f t) v) (fb (bo f t)<|wv f t)<|o rg;unfold LL PP UU;omega
def BS(es:V w)(n:N3):Int:=total (λu v=>bs (rl n u)<|rl n v) es
theorem aiC(h:kV (o rg) f t)(m:(wv f t).1=0):BS (o rg) (bo f t)=RR (o rg) f t:=by have b:=W.dI<|jg h.r;refine(J2 (F:=λu v=>right (rl (bo f t) u) (rl (bo f t) v)) (G:=λu v=>bs (rl (bo f t) u)<|rl (bo f t) v) (k:=λu=>kq<|rl (bo f t) u) (λa=>by unfold right;omega) (λa=>aiz _) rg λe n=>?_).symm;refine aiA λp=>?_;obtain⟨g,l,_⟩:=J3 h n p;have c:=EK g;have d:=EK l;rw[m,acp] at c d;exact⟨(dz b).1 c,(dz b).1 d⟩
theorem along(h:kV (o rg) f t):((o rg).map λe=>if on (rl (bo f t) e.1) (rl (bo f t) e.2) then(if 0<(wv f t).1*(e.2.1-e.1.1)+(wv f t).2*(e.2.2-e.1.2) then(1:Int) else -1) else 0).sum=total (fb (bo f t)<|wv f t) (o rg):=by unfold total;congr 1;refine abH λe d=>?_;have k:0<(bo f t).2.2:=(by have:=h.pf;have:=h.pt;show 0<f.2.2+t.2.2;omega);unfold fb;cases g:on (rl (bo f t) e.1) (rl (bo f t) e.2);rfl;obtain⟨_,_,c⟩:=J3 h d g;obtain⟨b,l⟩:=U9 k (wv f t) e.1 e.2;grind
end
end Go.Proofs.YtkjhhooecopolaaGreatDoor.Gb
