import Derived.Test.YtkjhhooecopolaaGreatDoorRz07
import Derived.Test.YtkjhhooecopolaaGreatDoorProg
set_option maxRecDepth 100000
set_option maxHeartbeats 4000000
namespace Go.Proofs.YtkjhhooecopolaaGreatDoor
open Tryz
open Value renaming int->az,complex->aA,float->aB,agg->aC,bool->aD,string->aF,slice->aG,pointer->aH,tuple->aI
open IntKind renaming i64->aJ
open FloatKind renaming f64->aK
open Ending renaming returned->aL
open Go renaming World->aM,Value->aN,floatOfInt->aO
namespace Ga
open Ge
variable{bu:Int->Bool}{rg:List (List Pt)}{es:List (Pt×Pt)}{l:List Nd}{f m n:N3}{a b t c:Nd}{D u v d d' z:Pt}
def jK(u v:Pt)(a b:Int):N3:=(u.1*b-v.1*a,u.2*b-v.2*a,b-a)
theorem aa4(f:N3)(D u v:Pt):wv f (jK u v (lam D f u) (lam D f v))=(D.1*cr (rl f u) (rl f v),D.2*cr (rl f u) (rl f v)):=by
 unfold wv jK lam cr rl rel;exact eB (by simp only;grind) (by simp only;grind)
theorem alg{a b:N3}{k:Int}(hD:bV D)(hk:0<k)(h:wv a b=(D.1*k,D.2*k)):Behind a b D:=by
 refine rU hD ?_ ?_
 .rw[h];unfold cr;simp only;grind
 .rw[h];have e:dt D (D.1*k,D.2*k)=k*dt D D:=by unfold dt;simp only;grind
  rw[e];exact bJ hk (fW (mB hD))
theorem alh{t:N3}(hB:Behind f t D)(u v:Pt):t.2.2*(wv (jK u v (lam D f u) (lam D f v)) t).1= -(f.2.2*cr (rl t u) (rl t v))*D.1/\t.2.2*(wv (jK u v (lam D f u) (lam D f v)) t).2= -(f.2.2*cr (rl t u) (rl t v))*D.2:=by
 have m1:=O4 hB u;have m2:=O4 hB v;have e:=aa4 t D u v;have e1:=aZ Prod.fst e;have e2:=aZ Prod.snd e;unfold wv jK at e1 e2⊢;simp only at e1 e2⊢;generalize lam D f u=a at*;generalize lam D f v=b at*;generalize lam D t u=a' at*;generalize lam D t v=b' at*;constructor
 .have k:t.2.2*((b-a)*t.1-t.2.2*(u.1*b-v.1*a))=(t.2.2*b-t.2.2*a)*t.1-t.2.2*(u.1*(t.2.2*b)-v.1*(t.2.2*a)):=by grind
  rw[k,<-m1,<-m2];have k2:(f.2.2*b'-f.2.2*a')*t.1-t.2.2*(u.1*(f.2.2*b')-v.1*(f.2.2*a'))= -f.2.2*(t.2.2*(u.1*b'-v.1*a')-(b'-a')*t.1):=by grind
  rw[k2,e1]
  grind
 .have k:t.2.2*((b-a)*t.2.1-t.2.2*(u.2*b-v.2*a))=(t.2.2*b-t.2.2*a)*t.2.1-t.2.2*(u.2*(t.2.2*b)-v.2*(t.2.2*a)):=by grind
  rw[k,<-m1,<-m2];have k2:(f.2.2*b'-f.2.2*a')*t.2.1-t.2.2*(u.2*(f.2.2*b')-v.2*(f.2.2*a'))= -f.2.2*(t.2.2*(u.2*b'-v.2*a')-(b'-a')*t.2.1):=by grind
  rw[k2,e2]
  grind
theorem ali{a b:Int}(ha:a<=0)(hb:0<=b):on (rl (jK u v a b) u) (rl (jK u v a b) v)=true:=by
 have e1:rl (jK u v a b) u=(a*(v.1-u.1),a*(v.2-u.2)):=by unfold rl rel jK;exact eB (by simp only;grind) (by simp only;grind)
 have e2:rl (jK u v a b) v=(b*(v.1-u.1),b*(v.2-u.2)):=by unfold rl rel jK;exact eB (by simp only;grind) (by simp only;grind)
 rw[e1,e2,mP];constructor
 .unfold cr;simp only;grind
 .have e:dt (a*(v.1-u.1),a*(v.2-u.2)) (b*(v.1-u.1),b*(v.2-u.2))=(a*b)*((v.1-u.1)*(v.1-u.1)+(v.2-u.2)*(v.2-u.2)):=by unfold dt;simp only;grind
  rw[e];refine Fg (De ha hb) ?_;have k:∀x:Int,0<=x*x:=λx=>by
   rcases JC 0 x with h|h
   .exact jo h h
   .exact uz h h
  have:=k (v.1-u.1);have:=k (v.2-u.2);omega
theorem alj(hm:0<m.2.2):∃n:Nd,Ge.Can n/\aX n=(bC m.1 m.2.2,bC m.2.1 m.2.2)/\n.1*m.2.2=m.1*n.2.2/\n.2.1*m.2.2=m.2.1*n.2.2:=by
 obtain⟨c,q⟩:=RO m.1 m.2.1 hm;refine⟨canon m.1 m.2.1 m.2.2,c,q,?_,?_⟩
 .have h:=aZ Prod.fst q;have k:=D6 (a:=(canon m.1 m.2.1 m.2.2).1) (c:=m.1) c.pos hm;have h':bC (canon m.1 m.2.1 m.2.2).1 (canon m.1 m.2.1 m.2.2).2.2=bC m.1 m.2.2:=h;rw[h',Dz] at k;have:=yC.1 k.symm;omega
 .have h:=aZ Prod.snd q;have k:=D6 (a:=(canon m.1 m.2.1 m.2.2).2.1) (c:=m.2.1) c.pos hm;have h':bC (canon m.1 m.2.1 m.2.2).2.1 (canon m.1 m.2.1 m.2.2).2.2=bC m.2.1 m.2.2:=h;rw[h',Dz] at k;have:=yC.1 k.symm;omega
theorem RX(e1:n.1*m.2.2=m.1*n.2.2)(e2:n.2.1*m.2.2=m.2.1*n.2.2)(z:Pt):m.2.2*(rl n z).1=n.2.2*(rl m z).1/\m.2.2*(rl n z).2=n.2.2*(rl m z).2:=by
 unfold rl rel;simp only;constructor
 .rw[uE,uE,fg m.2.2 n.1,e1];grind
 .rw[uE,uE,fg m.2.2 n.2.1,e2];grind
theorem Mi(hn:0<n.2.2)(hm:0<m.2.2)(e1:n.1*m.2.2=m.1*n.2.2)(e2:n.2.1*m.2.2=m.2.1*n.2.2)(h:on (rl m u) (rl m v)=true):on (rl n u) (rl n v)=true:=by
 obtain⟨h1,h2⟩:=(mP _ _).1 h;obtain⟨a1,a2⟩:=RX e1 e2 u;obtain⟨b1,b2⟩:=RX e1 e2 v;have k1:m.2.2*m.2.2*cr (rl n u) (rl n v)=n.2.2*n.2.2*cr (rl m u) (rl m v):=by
  have:m.2.2*m.2.2*cr (rl n u) (rl n v)=(m.2.2*(rl n u).1)*(m.2.2*(rl n v).2)-(m.2.2*(rl n u).2)*(m.2.2*(rl n v).1):=by unfold cr;grind
  rw[this,a1,a2,b1,b2];unfold cr
  grind
 have k2:m.2.2*m.2.2*dt (rl n u) (rl n v)=n.2.2*n.2.2*dt (rl m u) (rl m v):=by
  have:m.2.2*m.2.2*dt (rl n u) (rl n v)=(m.2.2*(rl n u).1)*(m.2.2*(rl n v).1)+(m.2.2*(rl n u).2)*(m.2.2*(rl n v).2):=by unfold dt;grind
  rw[this,a1,a2,b1,b2];unfold dt
  grind
 have p:=bJ hm hm;have q:=bJ hn hn;have z1:=fR (z:=cr (rl n u) (rl n v)) p;have z2:=bO (z:=dt (rl n u) (rl n v)) p;have z3:=bO (z:=dt (rl m u) (rl m v)) q;rw[h1] at k1;refine(mP _ _).2 ⟨z1.1 aa,aa⟩
theorem alk(hn:0<n.2.2)(hm:0<m.2.2)(e1:n.1*m.2.2=m.1*n.2.2)(e2:n.2.1*m.2.2=m.2.1*n.2.2)(h:Behind f m D):Behind f n D:=by
 have w1:m.2.2*(wv f n).1=n.2.2*(wv f m).1:=by unfold wv;simp only;grind
 have w2:m.2.2*(wv f n).2=n.2.2*(wv f m).2:=by unfold wv;simp only;grind
 have a1:=bO (z:=(wv f n).1) hm;have a2:=bO (z:=(wv f m).1) hn;have a3:=fR (z:=(wv f n).1) hm;have a4:=fR (z:=(wv f m).1) hn;have a5:=bO (z:=(wv f n).2) hm;have a6:=bO (z:=(wv f m).2) hn;have hc:m.2.2*cr D (wv f n)=n.2.2*cr D (wv f m):=by
  have:m.2.2*cr D (wv f n)=D.1*(m.2.2*(wv f n).2)-D.2*(m.2.2*(wv f n).1):=by unfold cr;grind
  rw[this,w1,w2];unfold cr
  grind
 have a7:=fR (z:=cr D (wv f n)) hm;rcases h with⟨h1,h2,h3⟩|⟨h1,h2,h3,h4⟩
 .rw[h3] at hc;exact aU ⟨h1,aa,a7.1 aa⟩
 .exact aT ⟨h1,h2,aa,aa⟩
theorem alm{t:N3}(hn:0<n.2.2)(hm:0<m.2.2)(e1:n.1*m.2.2=m.1*n.2.2)(e2:n.2.1*m.2.2=m.2.1*n.2.2)(h:Behind m t D):Behind n t D:=by
 have w1:m.2.2*(wv n t).1=n.2.2*(wv m t).1:=by unfold wv;simp only;grind
 have w2:m.2.2*(wv n t).2=n.2.2*(wv m t).2:=by unfold wv;simp only;grind
 have a1:=bO (z:=(wv n t).1) hm;have a2:=bO (z:=(wv m t).1) hn;have a3:=fR (z:=(wv n t).1) hm;have a4:=fR (z:=(wv m t).1) hn;have a5:=bO (z:=(wv n t).2) hm;have a6:=bO (z:=(wv m t).2) hn;have hc:m.2.2*cr D (wv n t)=n.2.2*cr D (wv m t):=by
  have:m.2.2*cr D (wv n t)=D.1*(m.2.2*(wv n t).2)-D.2*(m.2.2*(wv n t).1):=by unfold cr;grind
  rw[this,w1,w2];unfold cr
  grind
 have a7:=fR (z:=cr D (wv n t)) hm;rcases h with⟨h1,h2,h3⟩|⟨h1,h2,h3,h4⟩
 .rw[h3] at hc;exact aU ⟨h1,aa,a7.1 aa⟩
 .exact aT ⟨h1,h2,aa,aa⟩
def lO(e:Pt×Pt)(z:Pt):Int:=(e.2.1-e.1.1)*(z.2-e.1.2)-(e.2.2-e.1.2)*(z.1-e.1.1)
theorem aln{e:Pt×Pt}(hf:0<f.2.2)(hD:D≠(0,0))(hne:e.1≠e.2)(l1:lam D f e.1=0)(l2:lam D f e.2=0):∃k k':Int,k≠0/\k'≠0/\∀z,k*lO e z=k'*lam D f z:=by
 have par:D.1*(e.2.2-e.1.2)=D.2*(e.2.1-e.1.1):=by
  have:f.2.2*(D.1*(e.2.2-e.1.2)-D.2*(e.2.1-e.1.1))=lam D f e.2-lam D f e.1:=by unfold lam cr rl rel;simp only;grind
  rw[l1,l2] at this;have:=(fR hf).1 (show _=0 by rw[this];rfl)
  omega
 have hz:∀z,lam D f z=f.2.2*(D.1*(z.2-e.1.2)-D.2*(z.1-e.1.1)):=λz=>by
  have:lam D f z-lam D f e.1=f.2.2*(D.1*(z.2-e.1.2)-D.2*(z.1-e.1.1)):=by unfold lam cr rl rel;simp only;grind
  rw[l1] at this;omega
 by_cases h1:D.1=0
 .have h2:D.2≠0:=λh2=>hD (eB h1 h2)
  have h3:e.2.1-e.1.1=0:=by
   rw[h1,Fs] at par;rcases agN.1 par.symm with h|h
   .exact absurd h h2
   .exact h
  have h4:e.2.2-e.1.2≠0:=λh4=>hne (eB aa aa)
  refine⟨D.2*f.2.2,e.2.2-e.1.2,agy h2 aa,h4,λz=>?_⟩
  rw[hz z];unfold lO;rw[h1,h3]
  grind
 .have h4:e.2.1-e.1.1≠0:=λh4=>by
   rw[h4,C5] at par;rcases agN.1 par with h|h
   .exact h1 h
   .exact hne (eB aa aa)
  refine⟨D.1*f.2.2,e.2.1-e.1.1,agy h1 aa,h4,λz=>?_⟩
  rw[hz z];unfold lO;have:D.1*f.2.2*((e.2.1-e.1.1)*(z.2-e.1.2)-(e.2.2-e.1.2)*(z.1-e.1.1))=f.2.2*((e.2.1-e.1.1)*(D.1*(z.2-e.1.2))-(D.1*(e.2.2-e.1.2))*(z.1-e.1.1)):=by grind
  rw[this,par]
  grind
theorem alo(e0 e:Pt×Pt):dG e e0=lO e0 e.1-lO e0 e.2/\mX e e0=e.2.1*lO e0 e.1-e.1.1*lO e0 e.2/\mY e e0=e.2.2*lO e0 e.1-e.1.2*lO e0 e.2:=by
 unfold mX mY mT dG lO;refine⟨?_,?_,?_⟩<;>grind
theorem dF.aa5(hN:cS es l){f:Nd}(h:dF es l f t)(he:(u,v)∈es\/(v,u)∈es)(h1:lam (wv f t) f u<=0)(h2:0<=lam (wv f t) f v)(h3:lam (wv f t) f u<lam (wv f t) f v):cr (rl f u) (rl f v)<=0\/0<=cr (rl t u) (rl t v):=by
 apply mj;intro hn;obtain⟨hf,ht,hr⟩:=h.facts hN;have cf:=hN.can _ hf;have ct:=hN.can _ ht;have pZ:0<(jK u v (lam (wv f t) f u) (lam (wv f t) f v)).2.2:=by show 0<lam (wv f t) f v-lam (wv f t) f u;omega
 have b1:Behind f (jK u v (lam (wv f t) f u) (lam (wv f t) f v)) (wv f t):=alg hr (k:=cr (rl f u) (rl f v)) aa (aa4 f (wv f t) u v)
 have b2:Behind (jK u v (lam (wv f t) f u) (lam (wv f t) f v)) t (wv f t):=by
  obtain⟨e1,e2⟩:=alh (AB hr) u v;have kp:0< -(f.2.2*cr (rl t u) (rl t v)):=by
   have:=(neg_mul (z:=cr (rl t u) (rl t v)) cf.pos).2 aa
   omega
  refine rU hr ?_ ?_
  .have z:=fR (z:=cr (wv f t) (wv (jK u v (lam (wv f t) f u) (lam (wv f t) f v)) t)) ct.pos;refine z.1 ?_;have:t.2.2*cr (wv f t) (wv (jK u v (lam (wv f t) f u) (lam (wv f t) f v)) t)=(wv f t).1*(t.2.2*(wv (jK u v (lam (wv f t) f u) (lam (wv f t) f v)) t).2)-(wv f t).2*(t.2.2*(wv (jK u v (lam (wv f t) f u) (lam (wv f t) f v)) t).1):=by unfold cr;grind
   rw[this,e1,e2]
   grind
  .have z:=bO (z:=dt (wv f t) (wv (jK u v (lam (wv f t) f u) (lam (wv f t) f v)) t)) ct.pos;refine z.1 ?_;have:t.2.2*dt (wv f t) (wv (jK u v (lam (wv f t) f u) (lam (wv f t) f v)) t)=(wv f t).1*(t.2.2*(wv (jK u v (lam (wv f t) f u) (lam (wv f t) f v)) t).1)+(wv f t).2*(t.2.2*(wv (jK u v (lam (wv f t) f u) (lam (wv f t) f v)) t).2):=by unfold dt;grind
   rw[this,e1,e2];have e3:(wv f t).1*(-(f.2.2*cr (rl t u) (rl t v))*(wv f t).1)+(wv f t).2*(-(f.2.2*cr (rl t u) (rl t v))*(wv f t).2)= -(f.2.2*cr (rl t u) (rl t v))*dt (wv f t) (wv f t):=by unfold dt;grind
   rw[e3];exact bJ kp (fW (mB hr))
 have o1:=ali (u:=u) (v:=v) h1 h2;obtain⟨e0,Mj,hn0⟩:=id h;obtain⟨i1,i2⟩:=qV hn0;have o2:=aa0 cf.pos ct.pos pZ hr (gm.1 i1).2 (gm.1 i2).2 b1 b2;obtain⟨L1,L2⟩:=Ev ct.pos hr (gm.1 i1).2 (gm.1 i2).2;obtain⟨k,k',hk,hk',hkk⟩:=aln cf.pos (mB hr) (hN.ne e0 Mj) L1 L2;obtain⟨n,cn,qn,n1,n2⟩:=alj pZ;have on1:=Mi cn.pos pZ n1 n2 o1;have on2:=Mi cn.pos pZ n1 n2 o2;have pr:lO e0 v*lam (wv f t) f u=lO e0 u*lam (wv f t) f v:=by
  have a:=hkk u;have b:=hkk v;have:k*(lO e0 v*lam (wv f t) f u)=k*(lO e0 u*lam (wv f t) f v):=by
   calc k*(lO e0 v*lam (wv f t) f u)=k*lO e0 v*lam (wv f t) f u:=by grind
    _=k'*lam (wv f t) f v*lam (wv f t) f u:=by rw[b]
    _=k'*lam (wv f t) f u*lam (wv f t) f v:=by grind
    _=k*lO e0 u*lam (wv f t) f v:=by rw[a]
    _=k*(lO e0 u*lam (wv f t) f v):=by grind
  exact Ao hk this
 have iK:lO e0 u≠lO e0 v:=λhe=>by
  have a:=hkk u;have b:=hkk v;rw[he,b] at a;have:=Ao hk' a;omega
 have aa7:∀e:Pt×Pt,e∈es->(e=(u,v)\/e=(v,u))->isNode es (aX n):=λe Hz heq=>by
  obtain⟨c1,c2,c3⟩:=alo e0 e;have hc:dG e e0≠0:=by
   rw[c1];rcases heq with h|h<;>rw[h]<;>simp only<;>omega
  have hq:aX n=gA e e0:=by
   rw[qn];unfold gA;refine eB ?_ ?_
   .refine DA aa hc ?_
    rw[c1,c2];unfold jK;simp only;rcases heq with h|h<;>rw[h]<;>simp only<;>grind
   .refine DA aa hc ?_
    rw[c1,c3];unfold jK;simp only;rcases heq with h|h<;>rw[h]<;>simp only<;>grind
  refine aT ⟨e,Hz,e0,Mj,hc,hq,?_,?_⟩
  .rw[<-hq,LK cn];rcases heq with h|h<;>rw[h]
   .exact on1
   .show on (rl n v) (rl n u)=true;rw[AG];exact on1
  .rw[<-hq,LK cn];exact on2
 have hin:isNode es (aX n):=by
  rcases he with he|he
  .exact aa7 _ he (aU rfl)
  .exact aa7 _ he (aT rfl)
 exact h.gap hN (hN.mem cn hin) ⟨alk cn.pos pZ n1 n2 b1,alm cn.pos pZ n1 n2 b2⟩
theorem dF.oP(hN:cS es l){f:Nd}(h:dF es l f t):uI es f t:=by
 obtain⟨hf,ht,hr⟩:=h.facts hN;refine⟨(hN.can _ hf).pos,(hN.can _ ht).pos,hr,λe he=>⟨λa b c=>h.aa5 hN (aU he) a b c,λa b c=>?_⟩,λe he=>⟨h.aa3 hN (hN.Ew he).1,h.aa3 hN (hN.Ew he).2⟩⟩
 have:=h.aa5 hN (u:=e.2) (v:=e.1) (aT he) a b c;rw[di (rl f e.1) (rl f e.2),di (rl t e.1) (rl t e.2)] at this;omega
theorem aa8(z w:Pt):bh z w=bh w z:=by
 unfold bh;rw[di z w,jQ];congr 1;exact decide_eq_decide.2 aa
theorem H4(h:bh d d'=true):bV d↔bV d':=by
 obtain⟨h1,h2⟩:=(dP _ _).1 h;have hd:=fW (wG (D:=d') (r:=d) (by rw[jQ];omega))
 have e1:d'.1*dt d d=d.1*dt d d':=by unfold cr at h1;unfold dt;grind
 have e2:d'.2*dt d d=d.2*dt d d':=by unfold cr at h1;unfold dt;grind
 have a1:=bO (z:=d'.1) hd;have a2:=bO (z:=d.1) h2;have a3:=fR (z:=d'.1) hd;have a4:=fR (z:=d.1) h2;have a5:=bO (z:=d'.2) hd;have a6:=bO (z:=d.2) h2;rw[fg] at a1 a2 a3 a4 a5 a6;unfold bV;omega
theorem xx(h:bh d d'=true)(z:Pt):(0<cr z d↔0<cr z d')/\(cr z d=0↔cr z d'=0):=by
 obtain⟨h1,h2⟩:=(dP _ _).1 h;have hd:=fW (wG (D:=d') (r:=d) (by rw[jQ];omega))
 have e:=rC (D:=z) h1;have a1:=bO (z:=cr z d') hd;have a2:=bO (z:=cr z d) h2;have a3:=fR (z:=cr z d') hd;have a4:=fR (z:=cr z d) h2;rw[fg] at a1 a2 a3 a4;omega
theorem alq(h:bh d d'=true):d≠(0,0)/\d'≠(0,0):=by
 obtain⟨_,h2⟩:=(dP _ _).1 h;exact⟨wG (D:=d') (by rw[jQ];omega),wG (D:=d) aa⟩
theorem Ml(h:bh d d'=true)(z:Pt):bf z d=bf z d':=by
 have h1:=H4 h;have h2:=(xx h z).1;have a:=pL (z:=z) (w:=d);have b:=pL (z:=z) (w:=d');rw[<-h1,<-h2] at b;exact lF.2 (a.trans b.symm)
theorem RY(h:bh d d'=true)(z:Pt):bf d z=bf d' z:=by
 have h1:=H4 h;have h2:=xx h z;have a:=pL (z:=d) (w:=z);have b:=pL (z:=d') (w:=z);rw[di z d] at a;rw[di z d',<-h1] at b;have h5:(0< -cr z d)↔(0< -cr z d'):=aa
 rw[<-h5] at b;exact lF.2 (a.trans b.symm)
theorem RZ{x y:Pt}(h1:bh x y=true)(h2:bh y z=true):bh x z=true:=by
 obtain⟨a1,a2⟩:=(dP _ _).1 h1;obtain⟨b1,b2⟩:=(dP _ _).1 h2;have hy:=fW (alq h1).2;refine(dP _ _).2 ⟨((xx h2 x).2).1 a1,?_⟩;have e2:dt x z*dt y y=dt x y*dt y z+cr y x*cr y z:=by unfold dt cr;grind
 rw[b1] at e2;have:=bJ a2 b2;have q:=bO (z:=dt x z) hy;rw[fg] at q;exact q.1 aa
theorem alr(h:bh d d'=true)(z:Pt):bh z d=bh z d':=by
 cases h1:bh z d<;>cases h2:bh z d'
 .rfl
 .rw[RZ h2 (by rw[aa8];exact h)] at h1;cases h1
 .rw[RZ h1 h] at h2;cases h2
 .rfl
theorem aa9(h:bh d d'=true):eD es n d=eD es n d'/\fS es n d=fS es n d':=by
 have e1:AS es n (λz=>nz z&&bf z d)=AS es n (λz=>nz z&&bf z d'):=J5 λe _ _=>by simp only[Ml h];exact⟨trivial,trivial⟩
 have e2:AS es n (λz=>bh z d)=AS es n (λz=>bh z d'):=J5 λe _ _=>by simp only[alr h];exact⟨trivial,trivial⟩
 unfold fS eD;rw[e1,e2];exact⟨rfl,rfl⟩
theorem fT(a b:N3):wv b a=neg (wv a b):=by unfold wv neg;exact eB (by simp only;omega) (by simp only;omega)
theorem H6(h1:bV z)(h2:bV (neg z)):False:=by
 unfold bV neg at*;simp only at h2;omega
theorem als(hN:cS es l){n:Nd}(hn:n∈l)(hz:z∈arms es n):∃m,m∈l/\(dF es l n m\/dF es l m n)/\bh (wv n m) z=true:=by
 obtain⟨gv,e,he,ho,wJ⟩:=lH.1 hz;have cn:=hN.can n hn;obtain⟨p,hp,hpl,nj⟩:∃p:Pt,on (rl (p.1,p.2,1) e.1) (rl (p.1,p.2,1) e.2)=true/\(p.1,p.2,1)∈l/\z=rl n p:=by
  have h0:∀p:Pt,rl (p.1,p.2,1) p=(0,0):=λp=>by unfold rl rel;exact eB (by simp only;omega) (by simp only;omega)
  rcases wJ with h|h
  .exact⟨e.1,nP _ _ (aU (h0 _)),(hN.Ew he).1,h⟩
  .exact⟨e.2,nP _ _ (aT (h0 _)),(hN.Ew he).2,h⟩
 have cp:=hN.can _ hpl;have hwz:wv n (p.1,p.2,1)=z:=by rw[BF,nj]
 have i1:n∈held e l:=gm.2 ⟨hn,ho⟩;have i2:(p.1,p.2,1)∈held e l:=gm.2 ⟨hpl,hp⟩;have hc:∀m∈held e l,Ge.Can m:=λm hm=>hN.can m (gm.1 hm).1
 by_cases hr:bV z
 .have hlt:lt (aX n) (aX (p.1,p.2,1)):=(oc cn cp).2 (by rw[hwz];exact hr)
  obtain⟨t,ht⟩:=aaX (hN.Eu e) hc i1 i2 hlt;have hpc:dF es l n t:=⟨e,he,ht⟩;obtain⟨_,htl,hrt⟩:=hpc.facts hN;refine⟨t,htl,aU hpc,(dP _ _).2 ?_⟩;have hL:=Ev (hN.can t htl).pos hrt ho (gm.1 (qV ht).2).2;have hcr:cr (wv n t) z=0:=by
   rcases wJ with h|h
   .rw[h];exact hL.1
   .rw[h];exact hL.2
  exact⟨hcr,lW hrt hr hcr⟩
 .have hr':=il gv hr;have hlt:lt (aX (p.1,p.2,1)) (aX n):=(oc cp cn).2 (by rw[fT,hwz];exact hr')
  obtain⟨f,hf⟩:=aaY (hN.Eu e) hc i1 i2 hlt;have hpc:dF es l f n:=⟨e,he,hf⟩;obtain⟨hfl,_,hrf⟩:=hpc.facts hN;have hL:=Ev cn.pos hrf (gm.1 (qV hf).1).2 ho;have Dy:=(td (hN.can f hfl).pos cn.pos hrf e.1).2 hL.1;have hL2:=(td (hN.can f hfl).pos cn.pos hrf e.2).2 hL.2;have hcr:cr (wv f n) z=0:=by
   rcases wJ with h|h
   .rw[h];exact Dy
   .rw[h];exact hL2
  refine⟨f,hfl,aT hpc,(dP _ _).2 ?_⟩;have hd:=lW hrf hr' (by rw[gF];omega)
  rw[mD] at hd;rw[fT f n,gu,sZ];omega
def Sd(es:List (Pt×Pt))(l:List Nd)(bu:Int->Bool)(a b:Nd):Prop:=
 (dF es l a b/\bu (LL es a b)=true/\bu (RR es a b)=false)\/(dF es l b a/\bu (RR es b a)=true/\bu (LL es b a)=false)
theorem Sd.pc(h:Sd es l bu a b):dF es l a b\/dF es l b a:=by
 rcases h with h|h
 .exact aU h.1
 .exact aT h.1
theorem gS(hN:cS es l)(h:dF es l a b\/dF es l b a):wv a b≠(0,0)/\a∈l/\b∈l:=by
 rcases h with h|h
 .obtain⟨h1,h2,h3⟩:=h.facts hN;exact⟨mB h3,h1,h2⟩
 .obtain⟨h1,h2,h3⟩:=h.facts hN;exact⟨by rw[fT b a];exact kR (mB h3),h2,h1⟩
theorem Sd.leave(hN:cS (aR rg) l)(h:Sd (aR rg) l bu a b):bu (eD (aR rg) a (wv a b))=false/\bu (fS (aR rg) a (wv a b))=true:=by
 rcases h with⟨h,h1,h2⟩|⟨h,h1,h2⟩
 .obtain⟨k1,k2⟩:=wH (h.oP hN);rw[k1] at h2;rw[k2] at h1;exact⟨h2,h1⟩
 .obtain⟨k1,k2⟩:=FP (h.oP hN);rw[k1,<-fT] at h1;rw[k2,<-fT] at h2;exact⟨h2,h1⟩
theorem Sd.BG(hN:cS (aR rg) l)(h:Sd (aR rg) l bu a b):bu (eD (aR rg) b (wv b a))=true/\bu (fS (aR rg) b (wv b a))=false:=by
 rcases h with⟨h,h1,h2⟩|⟨h,h1,h2⟩
 .obtain⟨k1,k2⟩:=FP (h.oP hN);rw[k1,<-fT] at h2;rw[k2,<-fT] at h1;exact⟨h1,h2⟩
 .obtain⟨k1,k2⟩:=wH (h.oP hN);rw[k1] at h1;rw[k2] at h2;exact⟨h1,h2⟩
theorem Sd.of(hN:cS (aR rg) l)(h:dF (aR rg) l a b\/dF (aR rg) l b a)(h1:bu (eD (aR rg) a (wv a b))=false)(h2:bu (fS (aR rg) a (wv a b))=true):Sd (aR rg) l bu a b:=by
 rcases h with h|h
 .obtain⟨k1,k2⟩:=wH (h.oP hN);exact aU ⟨h,by rw[k2];exact h2,by rw[k1];exact h1⟩
 .obtain⟨k1,k2⟩:=FP (h.oP hN);rw[<-fT] at k1 k2;exact aT ⟨h,by rw[k1];exact h2,by rw[k2];exact h1⟩
theorem Mm(hN:cS (aR rg) l){n:Nd}(hn:n∈l)(hz:AH (aR rg) n bu z):∃m,Sd (aR rg) l bu n m/\bh (wv n m) z=true:=by
 obtain⟨m,hm,hp,hs⟩:=als hN hn hz.mem;obtain⟨e1,e2⟩:=aa9 (es:=aR rg) (n:=n) hs;exact⟨m,Sd.of hN hp (by rw[e1];exact hz.out) (by rw[e2];exact hz.bu),hs⟩
theorem Sd.next(hN:cS (aR rg) l)(h:Sd (aR rg) l bu a b):∃c,Sd (aR rg) l bu b c:=by
 obtain⟨h1,h2⟩:=h.BG hN;obtain⟨hne,_,hb⟩:=gS hN h.pc;obtain⟨z,hz⟩:=ahj (by rw[fT a b];exact kR hne) h1 h2
 obtain⟨c,hc,_⟩:=Mm hN hb hz;exact⟨c,hc⟩
theorem Sd.rV(hN:cS (aR rg) l)(h:Sd (aR rg) l bu a b)(h':Sd (aR rg) l bu b c):bh (wv b c) (wv b a)=false:=by
 cases hs:bh (wv b c) (wv b a)
 .rfl
 .obtain⟨e1,_⟩:=aa9 (es:=aR rg) (n:=b) hs;have k1:=(h.BG hN).1;have k2:=(h'.leave hN).1;rw[e1,k1] at k2;cases k2
theorem BH(hN:cS es l){n t':Nd}(h:dF es l n t\/dF es l t n)(h':dF es l n t'\/dF es l t' n)(hs:bh (wv n t) (wv n t')=true):t=t':=by
 have eW:∀{x y:Nd},x∈l->y∈l->x=y\/lt (aX x) (aX y)\/lt (aX y) (aX x):=λ{x y} hx hy=>by
  have cx:=hN.can x hx;have cy:=hN.can y hy;unfold lt;rcases fX (pc (aX x) (aX y)) 0 with h|h|h
  .exact aT (aU h)
  .exact aU (xe cx cy h)
  .exact aT (aT (by rw[KU];omega))
 have mv:∀x y:Nd,(∀i:Int,i=i)->n.2.2*(wv x y).1=x.2.2*(wv n y).1-y.2.2*(wv n x).1/\n.2.2*(wv x y).2=x.2.2*(wv n y).2-y.2.2*(wv n x).2:=λx y _=>by
  unfold wv;constructor<;>(simp only;grind)
 obtain⟨_,hn,ht⟩:=gS hN h;obtain⟨_,_,ht'⟩:=gS hN h';have cn:=hN.can n hn;have key:∀{x y:Nd},x∈l->y∈l->dF es l n y->bh (wv n x) (wv n y)=true->lt (aX x) (aX y)->False:=λ{x y} hx hy hpc hsm hl=>by
  obtain⟨_,_,hr⟩:=hpc.facts hN;obtain⟨s1,s2⟩:=(dP _ _).1 hsm;have Sa:=(oc (hN.can x hx) (hN.can y hy)).1 hl;have c1:cr (wv n y) (wv n x)=0:=by rw[di];omega
  have c2:cr (wv n y) (wv x y)=0:=by
   obtain⟨m1,m2⟩:=mv x y (λ_=>rfl)
   have:n.2.2*cr (wv n y) (wv x y)=(wv n y).1*(n.2.2*(wv x y).2)-(wv n y).2*(n.2.2*(wv x y).1):=by unfold cr;grind
   rw[m1,m2] at this;refine(fR cn.pos).1 (this.trans ?_);unfold cr at c1
   grind
  exact hpc.gap hN hx ⟨rU hr c1 (by rw[jQ];exact s2),rU hr c2 (lW hr Sa c2)⟩
 have key':∀{x y:Nd},x∈l->y∈l->dF es l y n->bh (wv n x) (wv n y)=true->lt (aX y) (aX x)->False:=λ{x y} hx hy hpc hsm hl=>by
  obtain⟨_,_,hr⟩:=hpc.facts hN;obtain⟨s1,s2⟩:=(dP _ _).1 hsm;have Sa:=(oc (hN.can y hy) (hN.can x hx)).1 hl;have e1:wv y n=neg (wv n y):=fT n y;have e2:wv x n=neg (wv n x):=fT n x;have c1:cr (wv y n) (wv x n)=0:=by rw[e1,e2,gu,gF,di (wv n x)];omega
  have c2:cr (wv y n) (wv y x)=0:=by
   obtain⟨m1,m2⟩:=mv y x (λ_=>rfl)
   have:n.2.2*cr (wv n y) (wv y x)=(wv n y).1*(n.2.2*(wv y x).2)-(wv n y).2*(n.2.2*(wv y x).1):=by unfold cr;grind
   rw[m1,m2] at this;have k:cr (wv n y) (wv y x)=0:=by
    refine(fR cn.pos).1 (this.trans ?_);have c3:cr (wv n y) (wv n x)=0:=by rw[di];omega
    unfold cr at c3
    grind
   rw[e1,gu];omega
  exact hpc.gap hN hx ⟨rU hr c2 (lW hr Sa c2),rU hr c1 (by rw[e1,e2,sZ,mD,jQ];omega)⟩
 have hs':bh (wv n t') (wv n t)=true:=by rw[aa8];exact hs
 have rR:=H4 hs;rcases h with h|h<;>rcases h' with h'|h'
 .rcases eW ht ht' with k|k|k
  .exact k
  .exact(key ht ht' h' hs k).elim
  .exact(key ht' ht h hs' k).elim
 .exfalso;have r1:=(h.facts hN).2.2;have r2:=(h'.facts hN).2.2;rw[fT n t'] at r2;exact H6 (rR.1 r1) r2
 .exfalso;have r1:=(h.facts hN).2.2;have r2:=(h'.facts hN).2.2;rw[fT n t] at r1;exact H6 (rR.2 r2) r1
 .rcases eW ht ht' with k|k|k
  .exact k
  .exact(key' ht' ht h hs' k).elim
  .exact(key' ht ht' h' hs k).elim
theorem Mn{a l l' k:Pt}(h:bh l k=true):cw a l l'=cw a k l':=by
 unfold cw;rw[RY h,Ml h,Ml h]
theorem alu(hN:cS (aR rg) l){a':Nd}(h:Sd (aR rg) l bu a b)(h':Sd (aR rg) l bu a' b)(hc:Sd (aR rg) l bu b c)
  (hm:∀c',Sd (aR rg) l bu b c'->¬tC (wv a b) (wv b c') (wv b c)<0)(hm':∀c',Sd (aR rg) l bu b c'->¬tC (wv a' b) (wv b c') (wv b c)<0):a=a':=by
 obtain⟨n1,_,hb⟩:=gS hN h.pc;obtain⟨n2,_,_⟩:=gS hN h'.pc;obtain⟨n3,_,_⟩:=gS hN hc.pc;have m1:wv b a≠(0,0):=by rw[fT a b];exact kR n1
 have m2:wv b a'≠(0,0):=by rw[fT a' b];exact kR n2
 cases hs:bh (wv b a) (wv b a')
 .exfalso;obtain⟨h1,h2⟩:=h.BG hN;obtain⟨h1',h2'⟩:=h'.BG hN;obtain⟨z,hz,mZ⟩:=WB m1 m2 hs h1 h2 h1' h2' n3 (h.rV hN hc) (h'.rV hN hc);obtain⟨c',hc',hsm⟩:=Mm hN hb hz;obtain⟨n4,_,_⟩:=gS hN hc'.pc;rcases mZ with k|k
  .rw[<-Mn hsm] at k;have:=(FU m1 n4 n3 (h.rV hN hc') (h.rV hN hc)).2 k;rw[<-fT] at this;exact hm c' hc' this
  .rw[<-Mn hsm] at k;have:=(FU m2 n4 n3 (h'.rV hN hc') (h'.rV hN hc)).2 k;rw[<-fT] at this;exact hm' c' hc' this
 .exact BH hN h.pc.symm h'.pc.symm hs
theorem Sd.straight(hN:cS (aR rg) l)(h:Sd (aR rg) l bu a b)(h':Sd (aR rg) l bu b c)(hc:cr (wv a b) (wv b c)=0):bh (wv a b) (wv b c)=true:=by
 refine(dP _ _).2 ⟨hc,?_⟩;have hb:=h.rV hN h';obtain⟨n1,_,_⟩:=gS hN h.pc;obtain⟨n3,_,_⟩:=gS hN h'.pc;have hd:=Pn hb (by rw[fT a b,gF,di (wv a b)];omega)
 rw[fT a b,mD,jQ] at hd;have hne:dt (wv a b) (wv b c)≠0:=λh0=>by
  have e:dt (wv a b) (wv b c)*dt (wv a b) (wv b c)+cr (wv a b) (wv b c)*cr (wv a b) (wv b c)=dt (wv a b) (wv a b)*dt (wv b c) (wv b c):=by unfold dt cr;grind
  have:=bJ (fW n1) (fW n3);rw[h0,hc] at e;omega
 omega
end Ga
namespace Gb
open Ge Ga
variable{u u' v v':Pt}
def aP:List Nd->Int
 |[]=>1
 |n::l=>n.2.2*aP l
theorem aba:∀{l:List Nd},(∀n∈l,0<n.2.2)->0<aP l
 |[],_=>by show(0:Int)<1;decide
 |n::l,h=>bJ (h n af) (aba λm hm=>h m (bX _ hm))
theorem abb:∀{l:List Nd}{n:Nd},n∈l->n.2.2∣aP l
 |[],_,h=>by simp at h
 |m::l,n,h=>by
  rcases bU.1 h with e|e
  .rw[e];exact⟨aP l,rfl⟩
  .exact Aq (abb e) ⟨m.2.2,fg _ _⟩
def PM(M:Int)(n:Nd):Pt:=(n.1*(M/n.2.2),n.2.1*(M/n.2.2))
theorem xy{M:Int}(hM:0<M){n:Nd}(hn:0<n.2.2)(hd:n.2.2∣M):∃k,0<k/\n.2.2*k=M/\PM M n=(n.1*k,n.2.1*k):=by
 obtain⟨k,e⟩:=hd;have hk:M/n.2.2=k:=by rw[e];exact Int.mul_ediv_cancel_left k aa
 refine⟨k,?_,e.symm,by unfold PM;rw[hk]⟩
 exact(bO hn).1 aa
def Pm(u v:Pt):Prop:=∃p q:Int,0<p/\0<q/\p*u.1=q*v.1/\p*u.2=q*v.2
theorem jl{p q x y:Int}(hp:0<p)(hq:0<q)(h:p*x=q*y):(0<x↔0<y)/\(x<0↔y<0)/\(x=0↔y=0):=by
 have a:=bO (z:=x) hp;have b:=bO (z:=y) hq;have c:=neg_mul (z:=x) hp;have d:=neg_mul (z:=y) hq;have e:=fR (z:=x) hp;have f:=fR (z:=y) hq;rw[h] at a c e;exact⟨a.symm.trans b,c.symm.trans d,e.symm.trans f⟩
theorem Pm.cr(h:Pm u u')(k:Pm v v'):(0<Ge.cr u v↔0<Ge.cr u' v')/\(Ge.cr u v<0↔Ge.cr u' v'<0)/\(Ge.cr u v=0↔Ge.cr u' v'=0):=by
 obtain⟨p,q,hp,hq,e1,e2⟩:=h;obtain⟨r,s,hr,hs,e3,e4⟩:=k;refine jl (p:=p*r) (q:=q*s) (bJ hp hr) (bJ hq hs) ?_;have a:p*r*Ge.cr u v=(p*u.1)*(r*v.2)-(p*u.2)*(r*v.1):=by unfold Ge.cr;grind
 rw[a,e1,e2,e3,e4];unfold Ge.cr
 grind
theorem Pm.dt(h:Pm u u')(k:Pm v v'):(0<Ge.dt u v↔0<Ge.dt u' v')/\(Ge.dt u v<0↔Ge.dt u' v'<0)/\(Ge.dt u v=0↔Ge.dt u' v'=0):=by
 obtain⟨p,q,hp,hq,e1,e2⟩:=h;obtain⟨r,s,hr,hs,e3,e4⟩:=k;refine jl (p:=p*r) (q:=q*s) (bJ hp hr) (bJ hq hs) ?_;have a:p*r*Ge.dt u v=(p*u.1)*(r*v.1)+(p*u.2)*(r*v.2):=by unfold Ge.dt;grind
 rw[a,e1,e2,e3,e4];unfold Ge.dt
 grind
theorem Pm.neg(h:Pm u v):Pm (Ga.neg u) (Ga.neg v):=by
 obtain⟨p,q,hp,hq,e1,e2⟩:=h;refine⟨p,q,hp,hq,?_,?_⟩
 .show p*(-u.1)=q*(-v.1);rw[vY,vY,e1]
 .show p*(-u.2)=q*(-v.2);rw[vY,vY,e2]
theorem Pm.bV(h:Pm u v):Ga.bV u↔Ga.bV v:=by
 obtain⟨p,q,hp,hq,e1,e2⟩:=h;have a:=jl hp hq e1;have b:=jl hp hq e2;unfold Ga.bV;omega
theorem Pm.zero(h:Pm u v):u=(0,0)↔v=(0,0):=by
 obtain⟨p,q,hp,hq,e1,e2⟩:=h;have a:=jl hp hq e1;have b:=jl hp hq e2;rw[Prod.ext_iff,Prod.ext_iff];simp only;omega
theorem Pm.bh(h:Pm u u')(k:Pm v v'):Ga.bh u v=Ga.bh u' v':=by
 refine lF.2 ?_;rw[dP,dP,(h.cr k).2.2,(h.dt k).1]
theorem Pm.bf(h:Pm u u')(k:Pm v v'):Ga.bf u v=Ga.bf u' v':=by
 refine lF.2 ?_;rw[pL,pL,h.bV,k.bV,(h.cr k).1]
theorem Pm.cw{a a':Pt}(g:Pm a a')(h:Pm u u')(k:Pm v v'):Ga.cw a u v=Ga.cw a' u' v':=by
 unfold Ga.cw;rw[h.bf g,k.bf g,k.bf h,g.bf k,g.bf h]
theorem Pm.on(h:Pm u u')(k:Pm v v'):Ge.on u v=Ge.on u' v':=by
 refine lF.2 ?_;rw[mP,mP,(h.cr k).2.2];have:=(h.dt k).1;constructor<;>(rintro⟨x,y⟩;exact⟨x,aa⟩)
section
variable{M:Int}
structure OK(M:Int)(n:Nd):Prop where
 p:0<n.2.2
 d:n.2.2∣M
theorem abc(x:Pt):0<=dt x x:=by
 by_cases h:x=(0,0)
 .rw[h];decide
 .have:=fW h;omega
theorem iP(hM:0<M){a b:Nd}(ha:OK M a)(hb:OK M b):Pm (dr (PM M a,PM M b)) (wv a b):=by
 obtain⟨k,hk,e,e1⟩:=xy hM ha.p ha.d;obtain⟨j,hj,f,f1⟩:=xy hM hb.p hb.d;refine⟨a.2.2*b.2.2,M,bJ ha.p hb.p,hM,?_,?_⟩
 .rw[e1,f1];show a.2.2*b.2.2*(b.1*j-a.1*k)=M*(a.2.2*b.1-b.2.2*a.1);have:a.2.2*b.2.2*(b.1*j-a.1*k)=a.2.2*b.1*(b.2.2*j)-b.2.2*a.1*(a.2.2*k):=by grind
  rw[this,e,f]
  grind
 .rw[e1,f1];show a.2.2*b.2.2*(b.2.1*j-a.2.1*k)=M*(a.2.2*b.2.1-b.2.2*a.2.1);have:a.2.2*b.2.2*(b.2.1*j-a.2.1*k)=a.2.2*b.2.1*(b.2.2*j)-b.2.2*a.2.1*(a.2.2*k):=by grind
  rw[this,e,f]
  grind
def cz(M:Int)(u:Pt):Pt:=(M*u.1,M*u.2)
theorem Mp(hM:0<M){a:Nd}(ha:OK M a):∃k,0<k/\∀u,dr (PM M a,cz M u)=Ga.sc k (rl a u):=by
 obtain⟨k,hk,e,e1⟩:=xy hM ha.p ha.d;refine⟨k,hk,λu=>?_⟩
 rw[e1];unfold dr cz Ga.sc rl rel;refine eB ?_ ?_
 .show M*u.1-a.1*k=k*(a.2.2*u.1-a.1);rw[<-e];grind
 .show M*u.2-a.2.1*k=k*(a.2.2*u.2-a.2.1);rw[<-e];grind
theorem xz{k:Int}(hk:0<k)(u:Pt):Pm (Ga.sc k u) u:=⟨1,k,ah,hk,by unfold Ga.sc;simp,by unfold Ga.sc;simp⟩
theorem Mq{p q x y x' y':Int}(hp:0<p)(hq:0<q)(h:p*x=q*x')(k:p*y=q*y'):x<y↔x'<y':=by
 have:=(jl hp hq (x:=y-x) (y:=y'-x') (by rw[uE,uE,h,k])).1
 omega
theorem abd(hM:0<M){f t:Nd}(hf:OK M f)(ht:OK M t){u v:Pt}(h:lG f t (wv f t) u v):lG (n1 (PM M f)) (n1 (PM M t)) (dr (PM M f,PM M t)) (cz M u) (cz M v):=by
 obtain⟨k,hk,ek⟩:=Mp hM hf;obtain⟨j,hj,ej⟩:=Mp hM ht;obtain⟨p,q,hp,hq,e1,e2⟩:=iP hM hf ht;have hl:∀z,p*lam (dr (PM M f,PM M t)) (n1 (PM M f)) (cz M z)=(q*k)*lam (wv f t) f z:=λz=>by
  unfold lam;rw[fk,ek];have:p*cr (dr (PM M f,PM M t)) (Ga.sc k (rl f z))=k*((p*(dr (PM M f,PM M t)).1)*(rl f z).2-(p*(dr (PM M f,PM M t)).2)*(rl f z).1):=by unfold cr Ga.sc;grind
  rw[this,e1,e2];unfold cr
  grind
 have Mr:0<q*k:=bJ hq hk;have su:=jl hp Mr (hl u);have sv:=jl hp Mr (hl v);have l1:=Mq hp Mr (hl u) (hl v);have l2:=Mq hp Mr (hl v) (hl u);have c1:=(xz hk (rl f u)).cr (xz hk (rl f v));have c2:=(xz hj (rl t u)).cr (xz hj (rl t v));rw[<-ek,<-ek] at c1;rw[<-ej,<-ej] at c2;unfold lG at h⊢;rw[fk,fk,fk,fk];omega
theorem alv{F T D u v A B:Pt}{N α β:Int}(hN:0<N)(ha0:0<=α)(Sb:α<=N)(hb0:0<=β)(xm:β<=N)(a1:N*(A.1-u.1)=α*(v.1-u.1))(a2:N*(A.2-u.2)=α*(v.2-u.2))(b1:N*(B.1-u.1)=β*(v.1-u.1))(b2:N*(B.2-u.2)=β*(v.2-u.2))
  (h:lG (n1 F) (n1 T) D u v):lG (n1 F) (n1 T) D A B:=by
 have la:N*lam D (n1 F) A=(N-α)*lam D (n1 F) u+α*lam D (n1 F) v:=by
  unfold lam;rw[fk,fk,fk];unfold cr dr;simp only;have:N*(D.1*(A.2-F.2)-D.2*(A.1-F.1))=D.1*(N*(A.2-u.2)+N*(u.2-F.2))-D.2*(N*(A.1-u.1)+N*(u.1-F.1)):=by grind
  rw[this,a1,a2];grind
 have lb:N*lam D (n1 F) B=(N-β)*lam D (n1 F) u+β*lam D (n1 F) v:=by
  unfold lam;rw[fk,fk,fk];unfold cr dr;simp only;have:N*(D.1*(B.2-F.2)-D.2*(B.1-F.1))=D.1*(N*(B.2-u.2)+N*(u.2-F.2))-D.2*(N*(B.1-u.1)+N*(u.1-F.1)):=by grind
  rw[this,b1,b2];grind
 have cc:∀G:Pt,N*N*cr (dr (G,A)) (dr (G,B))=N*((β-α)*cr (dr (G,u)) (dr (G,v))):=λG=>by
  unfold cr dr;simp only;have:N*N*((A.1-G.1)*(B.2-G.2)-(A.2-G.2)*(B.1-G.1))=(N*(A.1-u.1)+N*(u.1-G.1))*(N*(B.2-u.2)+N*(u.2-G.2))-(N*(A.2-u.2)+N*(u.2-G.2))*(N*(B.1-u.1)+N*(u.1-G.1)):=by grind
  rw[this,a1,a2,b1,b2];grind
 have cF:=jl (bJ hN hN) hN (cc F);have cT:=jl (bJ hN hN) hN (cc T);unfold lG at h⊢;rw[fk,fk,fk,fk] at h⊢;generalize lam D (n1 F) u=lu at*;generalize lam D (n1 F) v=lv at*;generalize lam D (n1 F) A=lA at*;generalize lam D (n1 F) B=lB at*;generalize cr (dr (F,A)) (dr (F,B))=X at*;generalize cr (dr (T,A)) (dr (T,B))=Y at*;generalize cr (dr (F,u)) (dr (F,v))=x at*;generalize cr (dr (T,u)) (dr (T,v))=y at*;have key:∀{α β lA lB X Y:Int},0<=α->α<=N->0<=β->β<=N->N*lA=(N-α)*lu+α*lv->N*lB=(N-β)*lu+β*lv->((0<X↔0<(β-α)*x)/\(X<0↔(β-α)*x<0)/\(X=0↔(β-α)*x=0))->((0<Y↔0<(β-α)*y)/\(Y<0↔(β-α)*y<0)/\(Y=0↔(β-α)*y=0))->lA<=0->0<=lB->lA<lB->X<=0\/0<=Y:=by
  intro α β lA lB X Y ha0 Sb hb0 xm la lb cF cT h1 h2 h3;have hd:N*(lB-lA)=(β-α)*(lv-lu):=by rw[uE,la,lb];grind
  have hpos:0<(β-α)*(lv-lu):=by rw[<-hd];exact bJ hN aa
  rcases fX α β with q|q|q
  .have hvu:0<lv-lu:=(bO (show 0<β-α by omega)).1 hpos
   have e1:N*(lA-lu)=α*(lv-lu):=by rw[uE,la];grind
   have e2:N*(lv-lB)=(N-β)*(lv-lu):=by rw[uE,lb];grind
   have g1:0<=α*(lv-lu):=jo ha0 aa
   have g2:0<=(N-β)*(lv-lu):=jo aa aa
   have n1:¬lA-lu<0:=λw=>by have:=(neg_mul (z:=lA-lu) hN).2 w;omega
   have n2:¬lv-lB<0:=λw=>by have:=(neg_mul (z:=lv-lB) hN).2 w;omega
   have r:=h.1 aa aa aa
   have px:=bO (z:=x) (show 0<β-α by omega)
   have py:=neg_mul (z:=y) (show 0<β-α by omega)
   omega
  .subst q;simp at hpos
  .have hvu:lv-lu<0:=by
    have e:(β-α)*(lv-lu)=(α-β)*(lu-lv):=by grind
    rw[e] at hpos;have:=(bO (show 0<α-β by omega)).1 hpos
    omega
   have e1:N*(lA-lv)=(N-α)*(lu-lv):=by rw[uE,la];grind
   have e2:N*(lu-lB)=β*(lu-lv):=by rw[uE,lb];grind
   have g1:0<=(N-α)*(lu-lv):=jo aa aa
   have g2:0<=β*(lu-lv):=jo hb0 aa
   have n1:¬lA-lv<0:=λw=>by have:=(neg_mul (z:=lA-lv) hN).2 w;omega
   have n2:¬lu-lB<0:=λw=>by have:=(neg_mul (z:=lu-lB) hN).2 w;omega
   have r:=h.2 aa aa aa
   have ex:(β-α)*x= -((α-β)*x):=by grind
   have ey:(β-α)*y= -((α-β)*y):=by grind
   have px:=neg_mul (z:=x) (show 0<α-β by omega)
   have py:=bO (z:=y) (show 0<α-β by omega)
   omega
 refine⟨λh1 h2 h3=>key ha0 Sb hb0 xm la lb cF cT h1 h2 h3,λh1 h2 h3=>?_⟩
 have e1:∀z:Int,(α-β)*z= -((β-α)*z):=λz=>by grind
 have r:=key (X:= -X) (Y:= -Y) hb0 xm ha0 Sb lb la (by rw[e1];omega) (by rw[e1];omega) h1 h2 h3
 omega
theorem abe(hM:0<M){a:Nd}(ha:OK M a){e:Pt×Pt}(_hne:e.1≠e.2)(ho:on (rl a e.1) (rl a e.2)=true):∃α,0<=α/\α<=dt (dr (cz M e.1,cz M e.2)) (dr (cz M e.1,cz M e.2))/\
  dt (dr (cz M e.1,cz M e.2)) (dr (cz M e.1,cz M e.2))*((PM M a).1-(cz M e.1).1)=α*((cz M e.2).1-(cz M e.1).1)/\dt (dr (cz M e.1,cz M e.2)) (dr (cz M e.1,cz M e.2))*((PM M a).2-(cz M e.1).2)=α*((cz M e.2).2-(cz M e.1).2):=by
 obtain⟨k,hk,ek⟩:=Mp hM ha;have ho':on (dr (PM M a,cz M e.1)) (dr (PM M a,cz M e.2))=true:=by
  rw[ek,ek,(xz hk _).on (xz hk _)];exact ho
 rw[mP] at ho';obtain⟨h1,h2⟩:=ho';generalize PM M a=A at*;generalize cz M e.1=u at*;generalize cz M e.2=v at*;refine⟨dt (dr (u,v)) (dr (u,A)),?_,?_,?_,?_⟩
 .have:dt (dr (u,v)) (dr (u,A))=dt (dr (A,u)) (dr (A,u))-dt (dr (A,u)) (dr (A,v)):=by unfold dt dr;grind
  have s:=abc (dr (A,u));omega
 .have:dt (dr (u,v)) (dr (u,v))-dt (dr (u,v)) (dr (u,A))=dt (dr (A,v)) (dr (A,v))-dt (dr (A,u)) (dr (A,v)):=by unfold dt dr;grind
  have s:=abc (dr (A,v));omega
 .have c:cr (dr (u,v)) (dr (u,A))=0:=by
   have:cr (dr (u,v)) (dr (u,A))=cr (dr (A,u)) (dr (A,v)):=by unfold cr dr;grind
   omega
  have:dt (dr (u,v)) (dr (u,v))*(A.1-u.1)=dt (dr (u,v)) (dr (u,A))*(v.1-u.1)-cr (dr (u,v)) (dr (u,A))*(v.2-u.2):=by unfold dt cr dr;grind
  rw[this,c];simp
 .have c:cr (dr (u,v)) (dr (u,A))=0:=by
   have:cr (dr (u,v)) (dr (u,A))=cr (dr (A,u)) (dr (A,v)):=by unfold cr dr;grind
   omega
  have:dt (dr (u,v)) (dr (u,v))*(A.2-u.2)=dt (dr (u,v)) (dr (u,A))*(v.2-u.2)+cr (dr (u,v)) (dr (u,A))*(v.1-u.1):=by unfold dt cr dr;grind
  rw[this,c];simp
end
theorem Sc{es:List (Pt×Pt)}{l:List Nd}{M:Int}(hM:0<M)(hO:∀n∈l,OK M n)(hN:cS es l){f t a b:Nd}(h:dF es l f t)(h':dF es l a b\/dF es l b a):Pf (PM M f,PM M t) (PM M a,PM M b):=by
 obtain⟨hfl,htl,hr⟩:=h.facts hN;obtain⟨_,hal,hbl⟩:=gS hN h';have hP:=h.oP hN;have cc:∀n∈l,oO (n1 (PM M f)) (n1 (PM M t)) (dr (PM M f,PM M t)) (PM M n):=λn hn hl=>by
  have p0:=iP hM (hO f hfl) (hO t htl);have p1:=iP hM (hO f hfl) (hO n hn);have p2:=iP hM (hO n hn) (hO t htl);unfold lam at hl;rw[fk] at hl⊢;rw[fk];have c1:=((p0.cr p1).2.2).1 hl;apply mj;intro hk;have k1:0<dt (dr (PM M f,PM M t)) (dr (PM M f,PM M n)):=aa
  have k2:0<dt (dr (PM M f,PM M t)) (dr (PM M n,PM M t)):=by
   have e:dr (PM M t,PM M n)=neg (dr (PM M n,PM M t)):=wI (PM M n,PM M t);rw[e,mD] at hk;omega
  have c2:cr (wv f t) (wv n t)=0:=by
   refine((p0.cr p2).2.2).1 ?_;have:cr (dr (PM M f,PM M t)) (dr (PM M n,PM M t))= -cr (dr (PM M f,PM M t)) (dr (PM M f,PM M n)):=by unfold cr dr;grind
   omega
  exact h.gap hN hn ⟨rU hr c1 ((p0.dt p1).1.1 k1),rU hr c2 ((p0.dt p2).1.1 k2)⟩
 refine⟨?_,cc a hal,cc b hbl⟩;obtain⟨e,he,hea,heb⟩:∃e∈es,on (rl a e.1) (rl a e.2)=true/\on (rl b e.1) (rl b e.2)=true:=by
  rcases h' with⟨e,he,hq⟩|⟨e,he,hq⟩
  .have:=qV hq;exact⟨e,he,(gm.1 this.1).2,(gm.1 this.2).2⟩
  .have:=qV hq;exact⟨e,he,(gm.1 this.2).2,(gm.1 this.1).2⟩
 have hne:=hN.ne e he;obtain⟨α,q1,q2,q3,q4⟩:=abe hM (hO a hal) hne hea;obtain⟨β,r1,r2,r3,r4⟩:=abe hM (hO b hbl) hne heb;refine alv ?_ q1 q2 r1 r2 q3 q4 r3 r4 (abd hM (hO f hfl) (hO t htl) (hP.s e he));refine fW λe0=>hne ?_
 have:=mQ.1 e0;unfold cz at this;have x1:=aZ Prod.fst this;have x2:=aZ Prod.snd this;simp only at x1 x2;exact eB (Ao aa x1) (Ao aa x2)
end Gb
namespace Ga
open Ge
variable{W Y S:Int}{n f t z:N3}{D u v a b:Pt}
def cU{α:Type}(w:α->Int)(p:α->Bool)(l:List α):Int:=(l.map λx=>if p x then w x else 0).sum
theorem ua{α:Type}(w:α->Int)(p:α->Bool)(x:α)(l:List α):cU w p (x::l)=(if p x then w x else 0)+cU w p l:=by simp[cU]
theorem BJ{α:Type}(w:α->Int){p:α->Bool}:∀{l:List α},(∀x∈l,p x=false)->cU w p l=0
 |[],_=>rfl
 |x::l,h=>by rw[ua,h x af,BJ w λy hy=>h y (bX _ hy)];rfl
theorem Ms{α:Type}(w:α->Int){p q:α->Bool}:∀{l:List α},(∀x∈l,p x=q x)->cU w p l=cU w q l
 |[],_=>rfl
 |x::l,h=>by rw[ua,ua,h x af,Ms w λy hy=>h y (bX _ hy)]
theorem xA{α:Type}(w:α->Int){p q r:α->Bool}:∀{l:List α},(∀x∈l,bb (p x)=bb (q x)+bb (r x))->cU w p l=cU w q l+cU w r l
 |[],_=>rfl
 |x::l,h=>by
  have ih:=xA w (l:=l) λy hy=>h y (bX _ hy)
  have hx:=h x af
  rw[ua,ua,ua,ih];revert hx;unfold bb;cases p x<;>cases q x<;>cases r x<;>simp<;>omega
theorem Mt{α:Type}{lt:α->α->Bool}(ht:∀x y z,lt x y=true->lt y z=true->lt x z=true)(hi:∀x,lt x x=false)(T:α->Bool)(l:List α):∀(m:Nat)(z:α),z∈l->T z=true->(l.countP λy=>T y&&lt z y)<=m->∃z∈l,T z=true/\∀y∈l,T y=true->lt z y=false:=by
 intro m;induction m with
 |zero=>
  intro z hz hT hc;refine⟨z,hz,hT,λy hy Ex=>?_⟩
  cases h:lt z y
  .rfl
  .have:0<l.countP (λy=>T y&&lt z y):=JF.2 ⟨y,hy,by simp[Ex,h]⟩
   omega
 |succ m ih=>
  intro z hz hT hc;by_cases hb:∀y∈l,T y=true->lt z y=false
  .exact⟨z,hz,hT,hb⟩
  .have hb':∃y∈l,T y=true/\lt z y=true:=by
    apply mj;intro hk;apply hb;intro y hy Ex;cases h:lt z y
    .rfl
    .exact absurd ⟨y,hy,Ex,h⟩ hk
   obtain⟨y,hy,Ex,hlt⟩:=hb';have:(l.countP λx=>T x&&lt y x)<(l.countP λx=>T x&&lt z x):=yL l (λx _ hx=>by
    simp only[qs] at hx⊢;exact⟨hx.1,ht z y x hlt hx.2⟩) ⟨y,hy,by simp[Ex,hlt],by simp[hi y]⟩
   exact ih y hy Ex aa
theorem abf{α:Type}{lt:α->α->Bool}(ht:∀x y z,lt x y=true->lt y z=true->lt x z=true)(hi:∀x,lt x x=false)(hw:∀x y z,lt x y=true->lt z y=true\/lt x z=true)(w:α->Int)(bu:Int->Bool)(h0:bu 0=false)(l:List α):
  ∀(m:Nat)(T:α->Bool),(∀x y,T y=true->lt y x=false->T x=true)->l.countP T<=m->bu (cU w T l)=true->∃z∈l,T z=true/\bu (cU w (λy=>lt y z) l)=false/\bu (cU w (λy=>lt y z) l+cU w (λy=> !lt y z&& !lt z y) l)=true:=by
 intro m;induction m with
 |zero=>
  intro T hT hc h;exfalso;rw[BJ w λx hx=>by
   cases hk:T x
   .rfl
   .have:=JF.2 ⟨x,hx,hk⟩;omega,h0] at h
  cases h
 |succ m ih=>
  intro T hT hc h;by_cases hb:∀x∈l,T x=false
  .exfalso;rw[BJ w hb,h0] at h;cases h
  .have hb':∃x∈l,T x=true:=by
    apply mj;intro hk;apply hb;intro x hx;cases h:T x
    .rfl
    .exact absurd ⟨x,hx,h⟩ hk
   obtain⟨x,hx,Sh⟩:=hb';obtain⟨z,hz,nr,hmax⟩:=Mt ht hi T l _ x hx Sh (aY _);have asym:∀a b,lt a b=true->lt b a=false:=λa b h1=>by
    cases h2:lt b a
    .rfl
    .have:=ht a b a h1 h2;rw[hi] at this;cases this
   have e:cU w T l=cU w (λy=>lt y z) l+cU w (λy=> !lt y z&& !lt z y) l:=xA w λy hy=>by
    cases hy1:lt y z
    .cases hy2:lt z y
     .have:T y=true:=hT y z nr hy2;rw[this];rfl
     .have:T y=false:=by
       cases hk:T y
       .rfl
       .rw[hmax y hy hk] at hy2;cases hy2
      rw[this];rfl
    .have:T y=true:=hT y z nr (asym y z hy1);rw[this];rfl
   cases hbz:bu (cU w (λy=>lt y z) l)
   .exact⟨z,hz,nr,hbz,by rw[<-e];exact h⟩
   .have hlt:l.countP (λy=>lt y z)<l.countP T:=yL l (λy _ hy=>hT y z nr (asym y z hy)) ⟨z,hz,nr,hi z⟩
    obtain⟨z',hz',k1,k2,k3⟩:=ih (λy=>lt y z) (λa b hb hab=>by
     rcases hw b z a hb with k|k
     .exact k
     .rw[hab] at k;cases k) aa hbz
    exact⟨z',hz',hT z' z nr (asym z' z k1),k2,k3⟩
def kW(n:N3)(e:Pt×Pt):Int:=if(rl n e.1).1<=0/\0<(rl n e.2).1 then(rl n e.2).1-(rl n e.1).1 else if(rl n e.2).1<=0/\0<(rl n e.1).1 then(rl n e.1).1-(rl n e.2).1 else 1
def kY(n:N3)(e:Pt×Pt):Int:=if(rl n e.1).1<=0/\0<(rl n e.2).1 then -cr (rl n e.1) (rl n e.2) else if(rl n e.2).1<=0/\0<(rl n e.1).1 then -cr (rl n e.2) (rl n e.1) else 0
def kS(n:N3)(e:Pt×Pt):Int:=if(rl n e.1).1<=0/\0<(rl n e.2).1 then(rl n e.2).2-(rl n e.1).2 else if(rl n e.2).1<=0/\0<(rl n e.1).1 then(rl n e.1).2-(rl n e.2).2 else 0
def wt(n:N3)(e:Pt×Pt):Int:=if(rl n e.1).1<=0/\0<(rl n e.2).1 then 1 else if(rl n e.2).1<=0/\0<(rl n e.1).1 then -1 else 0
theorem rW(n:N3)(e:Pt×Pt):0<kW n e:=by
 unfold kW
 repeat' split
 all_goals omega
def bH(n:N3)(e e':Pt×Pt):Bool:=decide (kY n e*kW n e'<kY n e'*kW n e\/(kY n e*kW n e'=kY n e'*kW n e/\kS n e*kW n e'<kS n e'*kW n e))
theorem BK{e e':Pt×Pt}:bH n e e'=true↔kY n e*kW n e'<kY n e'*kW n e\/(kY n e*kW n e'=kY n e'*kW n e/\kS n e*kW n e'<kS n e'*kW n e):=by unfold bH;simp
theorem ub(n:N3)(e:Pt×Pt):bH n e e=false:=by
 unfold bH;simp
theorem zB(n:N3)(x y z:Pt×Pt)(h1:bH n x y=true)(h2:bH n y z=true):bH n x z=true:=by
 rw[BK] at*;have px:=rW n x;have py:=rW n y;have pz:=rW n z;rcases h1 with h1|⟨h1,h1'⟩
 .rcases h2 with h2|⟨h2,_⟩
  .exact aU (yZ px py pz h1 (eY h2))
  .exact aU (yZ px py pz h1 (OO h2))
 .rcases h2 with h2|⟨h2,h2'⟩
  .exact aU (QB px py pz (OO h1) h2)
  .exact aT ⟨QC py h1 h2,yZ px py pz h1' (eY h2')⟩
theorem BM(n:N3)(x y z:Pt×Pt)(h:bH n x y=true):bH n z y=true\/bH n x z=true:=by
 have px:=rW n x;have py:=rW n y;have pz:=rW n z;cases h1:bH n z y
 .right;have h1':¬_:=λk=>by rw[BK.2 k] at h1;cases h1
  rw[BK] at h⊢;have e1:kY n y*kW n z<=kY n z*kW n y:=aa
  rcases h with h|⟨h,h'⟩
  .exact aU (yZ px py pz h e1)
  .rcases Int.lt_or_eq_of_le e1 with e2|e2
   .exact aU (QB px py pz (OO h) e2)
   .refine aT ⟨QC py h e2,yZ px py pz h' ?_⟩;omega
 .exact aU rfl
def cQ(n:N3)(W Y:Int):N3:=(n.1*W,n.2.1*W+Y,n.2.2*W)
theorem vr(n:N3)(W Y:Int)(p:Pt):rl (cQ n W Y) p=(W*(rl n p).1,W*(rl n p).2-Y):=by
 unfold rl rel cQ;exact eB (by simp only;grind) (by simp only;grind)
theorem alz(n:N3)(W Y:Int)(u v:Pt):cr (rl (cQ n W Y) u) (rl (cQ n W Y) v)=W*(W*cr (rl n u) (rl n v)+Y*((rl n v).1-(rl n u).1)):=by
 rw[vr,vr];unfold cr;simp only
 grind
theorem abg(hW:0<W)(hD:0<D.1)(hDS:D.1*S=D.2*W)(h1:(rl n u).1<=0)(h2:0<(rl n v).1):
  right (rl (cQ n W Y) u) (rl (cQ n W Y) v)+cA (cQ n W Y) D u v=bb (decide (-cr (rl n u) (rl n v)*W<Y*((rl n v).1-(rl n u).1)\/(-cr (rl n u) (rl n v)*W=Y*((rl n v).1-(rl n u).1)/\((rl n v).2-(rl n u).2)*W<S*((rl n v).1-(rl n u).1)))):=by
 have hc:=alz n W Y u v;have lv:cr D (rl (cQ n W Y) v)=D.1*(W*(rl n v).2-Y-S*(rl n v).1):=by
  rw[vr];unfold cr;simp only
  grind
 have lu:cr D (rl (cQ n W Y) u)=D.1*(W*(rl n u).2-Y-S*(rl n u).1):=by
  rw[vr];unfold cr;simp only
  grind
 have xu:(rl (cQ n W Y) u).1=W*(rl n u).1:=by rw[vr]
 have xv:(rl (cQ n W Y) v).1=W*(rl n v).1:=by rw[vr]
 unfold right cA;rw[hc,lv,lu,xu,xv];have e1: -cr (rl n u) (rl n v)*W= -(W*cr (rl n u) (rl n v)):=by grind
 rw[e1];have eu:((rl n v).1-(rl n u).1)*(W*(rl n u).2-Y-S*(rl n u).1)= -(W*cr (rl n u) (rl n v)+Y*((rl n v).1-(rl n u).1))+(((rl n v).2-(rl n u).2)*W-S*((rl n v).1-(rl n u).1))*(rl n u).1:=by unfold cr;grind
 have ev:((rl n v).1-(rl n u).1)*(W*(rl n v).2-Y-S*(rl n v).1)= -(W*cr (rl n u) (rl n v)+Y*((rl n v).1-(rl n u).1))+(((rl n v).2-(rl n u).2)*W-S*((rl n v).1-(rl n u).1))*(rl n v).1:=by unfold cr;grind
 generalize hC:W*cr (rl n u) (rl n v)+Y*((rl n v).1-(rl n u).1)=C at*;generalize hE:((rl n v).2-(rl n u).2)*W-S*((rl n v).1-(rl n u).1)=E at*;generalize W*(rl n u).2-Y-S*(rl n u).1=A at*;generalize W*(rl n v).2-Y-S*(rl n v).1=B at*;have pw:0<(rl n v).1-(rl n u).1:=aa
 generalize(rl n u).1=a at*;generalize(rl n v).1=b at*;have p1:=bO (z:=C) hW;have p2:=fR (z:=C) hW;have p3:=neg_mul (z:=C) hW;have q1:=neg_mul (z:=B) hD;have q2:=neg_mul (z:=A) hD;have r1:=bO (z:=b) hW;have r2:=bO (z:=a) hW;have s1:=neg_mul (z:=B) pw;have s2:=neg_mul (z:=A) pw;have t1:=neg_mul (z:=E) h2;rw[fg b E] at t1;have t2:E<0->0<=E*a:=λh=>uz aa h1
 have c1:(-(W*cr (rl n u) (rl n v))<Y*(b-a))↔0<C:=aa
 have c2:(-(W*cr (rl n u) (rl n v))=Y*(b-a))↔C=0:=aa
 have c3:((rl n v).2-(rl n u).2)*W<S*(b-a)↔E<0:=aa
 rw[aQ (show ¬(0<W*a/\W*b<=0/\W*C<0) by omega)]
 rw[aQ (show ¬(W*C=0/\0<W*a/\D.1*A<0/\0<=D.1*B) by omega)]
 simp only[c1,c2,c3];clear c1 c2 c3 hC hE lv lu xu xv hc e1 hDS;rcases fX C 0 with h|h|h
 .rw[aQ aa,aQ aa]
  have:decide (0<C\/C=0/\E<0)=false:=fY aa
  rw[this];rfl
 .rw[h] at eu ev⊢;rw[aQ aa]
  by_cases hE:E<0
  .have:=t2 hE;rw[aV aa]
   have:decide ((0:Int)<0\/(0:Int)=0/\E<0)=true:=dO aa
   rw[this];rfl
  .rw[aQ aa]
   have:decide ((0:Int)<0\/(0:Int)=0/\E<0)=false:=fY aa
   rw[this];rfl
 .rw[aV aa,aQ aa]
  have:decide (0<C\/C=0/\E<0)=true:=dO aa
  rw[this];rfl
theorem alB(n:N3)(D u v:Pt):cA n D v u= -cA n D u v:=by
 unfold cA;rw[di (rl n u) (rl n v)]
 repeat' split
 all_goals omega
theorem alC(hW:0<W)(h:¬((rl n u).1<=0/\0<(rl n v).1))(h':¬((rl n v).1<=0/\0<(rl n u).1)):
  right (rl (cQ n W Y) u) (rl (cQ n W Y) v)+cA (cQ n W Y) D u v=0:=by
 have xu:(rl (cQ n W Y) u).1=W*(rl n u).1:=by rw[vr]
 have xv:(rl (cQ n W Y) v).1=W*(rl n v).1:=by rw[vr]
 have r1:=bO (z:=(rl n v).1) hW;have r2:=bO (z:=(rl n u).1) hW;have e0:cr (rl (cQ n W Y) u) (rl (cQ n W Y) v)=0->cr D (rl (cQ n W Y) u)*(rl (cQ n W Y) v).1=(rl (cQ n W Y) u).1*cr D (rl (cQ n W Y) v):=λhc=>by
  unfold cr at*
  grind
 unfold right cA;rw[aQ (by rw[xu,xv];omega),aQ (by rw[xu,xv];omega)]
 have k:¬(cr (rl (cQ n W Y) u) (rl (cQ n W Y) v)=0/\0<(rl (cQ n W Y) v).1/\cr D (rl (cQ n W Y) v)<0/\0<=cr D (rl (cQ n W Y) u)):=by
  rintro⟨a,b,c,d⟩;have e:=e0 a;have hu:0<(rl (cQ n W Y) u).1:=aa
  have:=yt hu c;have:=jo d (eY b);omega
 have k':¬(cr (rl (cQ n W Y) u) (rl (cQ n W Y) v)=0/\0<(rl (cQ n W Y) u).1/\cr D (rl (cQ n W Y) u)<0/\0<=cr D (rl (cQ n W Y) v)):=by
  rintro⟨a,b,c,d⟩;have e:=e0 a;have hv:0<(rl (cQ n W Y) v).1:=aa
  have:=OA c hv;have:=jo (eY b) d;omega
 rw[aQ k,aQ k'];rfl
theorem Si{P:Nd->Prop}:∀{m:List Nd},BB m->(∀x∈m,∀y∈m,lt (aX x) (aX y)->P y->P x)->∀{a b:Nd},a∈m->P a->b∈m->¬P b->∃f t,(f,t)∈nexts m/\P f/\¬P t
 |[],_,_,_,_,h,_,_,_=>by simp at h
 |[x],_,_,a,b,h,h1,h',h2=>by
  have e1:a=x:=by simpa using h
  have e2:b=x:=by simpa using h'
  rw[e1] at h1;rw[e2] at h2;exact absurd h1 h2
 |x::y::r,hp,hm,a,b,ha,Sj,hb,tK=>by
  obtain⟨p1,p2⟩:=ik.1 hp;by_cases hy:P y
  .have hx:P x:=hm x af y af (p1 y af) hy
   have hb':b∈y::r:=by
    rcases bU.1 hb with e|h
    .rw[e] at tK;exact absurd hx tK
    .exact h
   obtain⟨f,t,h1,h2,h3⟩:=Si p2 (λu hu v hv=>hm u (bX _ hu) v (bX _ hv)) (OU ..) hy hb' tK
   exact⟨f,t,bX _ h1,h2,h3⟩
  .have hx:P x:=by
    rcases bU.1 ha with e|h
    .rw[<-e];exact Sj
    .exfalso;apply hy;rcases bU.1 h with e|h
     .rw[<-e];exact Sj
     .exact hm y af a (by simp[h]) ((ik.1 p2).1 a h) Sj
   exact⟨x,y,by simp[nexts],hx,hy⟩
theorem BN(n x y:N3):n.2.2*(wv x y).1=x.2.2*(wv n y).1-y.2.2*(wv n x).1/\n.2.2*(wv x y).2=x.2.2*(wv n y).2-y.2.2*(wv n x).2:=by
 unfold wv;constructor<;>(simp only;grind)
theorem abh{es:List (Pt×Pt)}{l:List Nd}(hN:cS es l){n:Nd}(hn:n∈l){e:Pt×Pt}(he:e∈es)(hab:(a=e.1/\b=e.2)\/(a=e.2/\b=e.1))(h1:(rl n a).1<=0)(h2:0<(rl n b).1):
  ∃f t,dF es l f t/\(wv n f).1<=0/\0<(wv n t).1/\0<(wv f t).1/\lam (wv f t) f a=0/\lam (wv f t) f b=0:=by
 have cn:=hN.can n hn;have h0:∀p:Pt,rl (p.1,p.2,1) p=(0,0):=λp=>by unfold rl rel;exact eB (by simp only;omega) (by simp only;omega)
 have hend:(a.1,a.2,1)∈held e l/\(b.1,b.2,1)∈held e l:=by
  have k:=hN.Ew he;rcases hab with⟨ha,hb⟩|⟨ha,hb⟩<;>rw[ha,hb]
  .exact⟨gm.2 ⟨k.1,nP _ _ (aU (h0 _))⟩,gm.2 ⟨k.2,nP _ _ (aT (h0 _))⟩⟩
  .exact⟨gm.2 ⟨k.2,nP _ _ (aT (h0 _))⟩,gm.2 ⟨k.1,nP _ _ (aU (h0 _))⟩⟩
 obtain⟨f,t,hft,hf,ht⟩:=Si (P:=λx=>(wv n x).1<=0) (hN.Eu e) (λx hx y hy hlt hy'=>by
   have cx:=hN.can x (gm.1 hx).1;have cy:=hN.can y (gm.1 hy).1;have hr:=yK ((oc cx cy).1 hlt);have m:=(BN n x y).1;have k1:=jo (eY cn.pos) hr;have k2:=bO (z:=(wv n y).1) cx.pos;have k3:=bO (z:=(wv n x).1) cy.pos;show(wv n x).1<=0
   change(wv n y).1<=0 at hy'
   omega) hend.1 (by show(wv n (a.1,a.2,1)).1<=0;rw[BF];exact h1) hend.2 (by show ¬(wv n (b.1,b.2,1)).1<=0;rw[BF];omega)
 have hpc:dF es l f t:=⟨e,he,hft⟩;obtain⟨hfl,htl,hr⟩:=hpc.facts hN;have cf:=hN.can f hfl;have ct:=hN.can t htl;have hD:0<(wv f t).1:=by
  have m:=(BN n f t).1;have k1:=bO (z:=(wv n t).1) cf.pos;have k2:=bO (z:=(wv n f).1) ct.pos;have k3:=bO (z:=(wv f t).1) cn.pos;omega
 have hL:=Ev ct.pos hr (gm.1 (qV hft).1).2 (gm.1 (qV hft).2).2;refine⟨f,t,hpc,hf,aa,hD,?_,?_⟩
 .rcases hab with⟨ha,_⟩|⟨ha,_⟩<;>rw[ha]
  .exact hL.1
  .exact hL.2
 .rcases hab with⟨_,hb⟩|⟨_,hb⟩<;>rw[hb]
  .exact hL.2
  .exact hL.1
structure ZP(n f t:N3)(W Y S:Int):Prop where
 w:0<W
 d:0<(wv f t).1
 s:(wv f t).1*S=(wv f t).2*W
 zf:wv f (cQ n W Y)=(0,0)\/Behind f (cQ n W Y) (wv f t)
 zt:Behind (cQ n W Y) t (wv f t)
 lz:∀p,lam (wv f t) f p=0↔lam (wv f t) (cQ n W Y) p=0
theorem abj(hn:0<n.2.2)(hf:0<f.2.2)(ht:0<t.2.2)(h1:(rl n a).1<=0)(h2:0<(rl n b).1)(k1:(wv n f).1<=0)(k2:0<(wv n t).1)(hD:0<(wv f t).1)(la:lam (wv f t) f a=0)(lb:lam (wv f t) f b=0):
  ZP n f t ((rl n b).1-(rl n a).1) (-cr (rl n a) (rl n b)) ((rl n b).2-(rl n a).2):=by
 have hr:bV (wv f t):=aU hD;have hW:0<(rl n b).1-(rl n a).1:=aa
 have hs:(wv f t).1*((rl n b).2-(rl n a).2)=(wv f t).2*((rl n b).1-(rl n a).1):=by
  have e1:f.2.2*((wv f t).1*(b.2-a.2)-(wv f t).2*(b.1-a.1))=lam (wv f t) f b-lam (wv f t) f a:=by unfold lam cr rl rel;simp only;grind
  rw[la,lb] at e1;have e2:=(fR hf).1 (e1.trans ah)
  have e3:(wv f t).1*((rl n b).2-(rl n a).2)-(wv f t).2*((rl n b).1-(rl n a).1)=n.2.2*((wv f t).1*(b.2-a.2)-(wv f t).2*(b.1-a.1)):=by unfold rl rel;simp only;grind
  rw[e2] at e3;omega
 have dV:lam (wv f t) (cQ n ((rl n b).1-(rl n a).1) (-cr (rl n a) (rl n b))) a=0:=by
  unfold lam;rw[vr];unfold cr at*;simp only;have e:((rl n b).1-(rl n a).1)*(rl n a).2- -((rl n a).1*(rl n b).2-(rl n a).2*(rl n b).1)=((rl n b).2-(rl n a).2)*(rl n a).1:=by grind
  rw[e];have e':(wv f t).1*(((rl n b).2-(rl n a).2)*(rl n a).1)-(wv f t).2*(((rl n b).1-(rl n a).1)*(rl n a).1)=((wv f t).1*((rl n b).2-(rl n a).2)-(wv f t).2*((rl n b).1-(rl n a).1))*(rl n a).1:=by grind
  rw[e',hs]
  grind
 generalize hz:cQ n ((rl n b).1-(rl n a).1) (-cr (rl n a) (rl n b))=z at*;have hz1:z.1=n.1*((rl n b).1-(rl n a).1):=by rw[<-hz];rfl
 have hz3:z.2.2=n.2.2*((rl n b).1-(rl n a).1):=by rw[<-hz];rfl
 have vt:0<z.2.2:=by rw[hz3];exact bJ hn hW
 have cfz:cr (wv f t) (wv f z)=0:=by
  obtain⟨e1,e2⟩:=mr f z a;have k:f.2.2*lam (wv f t) z a=z.2.2*lam (wv f t) f a-cr (wv f t) (wv f z):=by
   have:f.2.2*lam (wv f t) z a=(wv f t).1*(f.2.2*(rl z a).2)-(wv f t).2*(f.2.2*(rl z a).1):=by unfold lam cr;grind
   rw[this,e1,e2];unfold lam cr
   grind
  rw[dV,la] at k;omega
 have lta:=(td hf ht hr a).2 la;have czt:cr (wv f t) (wv z t)=0:=by
  obtain⟨e1,e2⟩:=mr z t a;have k:z.2.2*lam (wv f t) t a=t.2.2*lam (wv f t) z a-cr (wv f t) (wv z t):=by
   have:z.2.2*lam (wv f t) t a=(wv f t).1*(z.2.2*(rl t a).2)-(wv f t).2*(z.2.2*(rl t a).1):=by unfold lam cr;grind
   rw[this,e1,e2];unfold lam cr
   grind
  rw[dV,lta] at k;omega
 have xfz:(wv f z).1= -(((rl n b).1-(rl n a).1)*(wv n f).1):=by
  unfold wv;simp only;rw[hz1,hz3]
  grind
 have xzt:(wv z t).1=((rl n b).1-(rl n a).1)*(wv n t).1:=by
  unfold wv;simp only;rw[hz1,hz3]
  grind
 have Mu:Behind z t (wv f t):=aU ⟨hD,by rw[xzt];exact bJ hW k2,czt⟩
 have key:(wv f z=(0,0)\/Behind f z (wv f t))/\Behind z t (wv f t)/\∀p,lam (wv f t) f p=0↔lam (wv f t) z p=0:=by
  refine⟨?_,Mu,λp=>?_⟩
  .by_cases h0:(wv n f).1=0
   .left;have x0:(wv f z).1=0:=by rw[xfz,h0];omega
    refine eB x0 ?_;have k:(wv f t).1*(wv f z).2-(wv f t).2*(wv f z).1=0:=cfz;rw[x0] at k;exact(fR hD).1 aa
   .right;have:=(neg_mul (z:=(wv n f).1) hW).2 aa
    exact aU ⟨hD,by rw[xfz];omega,cfz⟩
  .have s1:=qz vt ht Mu p;have s2:=qz hf ht (AB hr) p;omega
 exact⟨hW,hD,hs,by rw[hz];exact key.1,by rw[hz];exact key.2.1,by rw[hz];exact key.2.2⟩
theorem alG(hf:0<f.2.2)(hz:0<z.2.2)(h:wv f z=(0,0))(u v:Pt):right (rl z u) (rl z v)=right (rl f u) (rl f v):=by
 have k:∀p,sc f.2.2 (rl z p)=sc z.2.2 (rl f p):=λp=>by
  obtain⟨e1,e2⟩:=mr f z p;rw[h] at e1 e2;unfold sc;exact eB (by simp only;omega) (by simp only;omega)
 rw[<-C9 hf (rl z u) (rl z v),k,k,C9 hz]
theorem alH(hf:0<f.2.2)(hz:0<z.2.2)(h:wv f z=(0,0))(D u v:Pt):cA z D u v=cA f D u v:=by
 obtain⟨a1,a2⟩:=mr f z u;obtain⟨b1,b2⟩:=mr f z v;rw[h] at a1 a2 b1 b2;have l1:f.2.2*cr D (rl z u)=z.2.2*cr D (rl f u):=by
  have:f.2.2*cr D (rl z u)=D.1*(f.2.2*(rl z u).2)-D.2*(f.2.2*(rl z u).1):=by unfold cr;grind
  rw[this,a1,a2];unfold cr
  grind
 have l2:f.2.2*cr D (rl z v)=z.2.2*cr D (rl f v):=by
  have:f.2.2*cr D (rl z v)=D.1*(f.2.2*(rl z v).2)-D.2*(f.2.2*(rl z v).1):=by unfold cr;grind
  rw[this,b1,b2];unfold cr
  grind
 have l3:f.2.2*f.2.2*cr (rl z u) (rl z v)=z.2.2*z.2.2*cr (rl f u) (rl f v):=by
  have:f.2.2*f.2.2*cr (rl z u) (rl z v)=(f.2.2*(rl z u).1)*(f.2.2*(rl z v).2)-(f.2.2*(rl z u).2)*(f.2.2*(rl z v).1):=by unfold cr;grind
  rw[this,a1,a2,b1,b2];unfold cr
  grind
 have p1:=fR (z:=cr (rl z u) (rl z v)) (bJ hf hf);have p2:=fR (z:=cr (rl f u) (rl f v)) (bJ hz hz);have p3:=bO (z:=(rl z u).1) hf;have p4:=bO (z:=(rl f u).1) hz;have p5:=bO (z:=(rl z v).1) hf;have p6:=bO (z:=(rl f v).1) hz;have p7:=neg_mul (z:=cr D (rl z u)) hf;have p8:=neg_mul (z:=cr D (rl f u)) hz;have p9:=neg_mul (z:=cr D (rl z v)) hf;have p0:=neg_mul (z:=cr D (rl f v)) hz;simp only[CR] at a1 b1;have c1:(cr (rl z u) (rl z v)=0)↔(cr (rl f u) (rl f v)=0):=aa
 have c2:(0<(rl z u).1)↔(0<(rl f u).1):=aa
 have c3:(0<(rl z v).1)↔(0<(rl f v).1):=aa
 have c4:(cr D (rl z u)<0)↔(cr D (rl f u)<0):=aa
 have c5:(cr D (rl z v)<0)↔(cr D (rl f v)<0):=aa
 have c6:(0<=cr D (rl z u))↔(0<=cr D (rl f u)):=aa
 have c7:(0<=cr D (rl z v))↔(0<=cr D (rl f v)):=aa
 unfold cA;simp only[c1,c2,c3,c4,c5,c6,c7]
theorem alI{rg:List (List Pt)}(hn:0<n.2.2)(h:uI (aR rg) f t)(hz:ZP n f t W Y S):
  RR (aR rg) f t=PP (aR rg) (cQ n W Y)+total (cA (cQ n W Y) (wv f t)) (aR rg):=by
 have vt:0<(cQ n W Y).2.2:=bJ hn hz.w;have k:=Wv h.pf h.pt h.r h.s;unfold RR;rcases hz.zf with h0|hb
 .rw[k];have e1:PP (aR rg) (cQ n W Y)=PP (aR rg) f:=nO λe _=>alG h.pf vt h0 e.1 e.2
  have e2:total (cA (cQ n W Y) (wv f t)) (aR rg)=total (cA f (wv f t)) (aR rg):=nO λe _=>alH h.pf vt h0 (wv f t) e.1 e.2
  rw[e1,e2]
 .have a:=along h.pf vt hb (rg:=rg) λe he=>O6 h.pf h.pt h.pf vt (h.s e he) (aU rfl) hb (aT hz.zt)
  have z1:total (cB (cQ n W Y) (wv f t)) (aR rg)=0:=yH λe he=>by
   obtain⟨k1,k2⟩:=FM h.pf h.pt vt (h.s e he) hb hz.zt;unfold cB;rw[aQ (λ⟨x1,_,x2,x3⟩=>k1 (eY x2) x3 (by unfold lam;omega) x1),aQ (λ⟨x1,_,x2,x3⟩=>k2 (eY x2) x3 (by unfold lam;omega) x1)]
  have z2:total (cA (cQ n W Y) (wv f t)) (aR rg)=0:=yH λe he=>by
   obtain⟨k1,k2⟩:=FM h.pf h.pt vt (h.s e he) hb hz.zt;unfold cA;rw[aQ (λ⟨x1,_,x2,x3⟩=>k2 (eY x2) x3 (by unfold lam;omega) x1),aQ (λ⟨x1,_,x2,x3⟩=>k1 (eY x2) x3 (by unfold lam;omega) x1)]
  omega
theorem Sk(hn:0<n.2.2)(hf:0<f.2.2)(hD:0<(wv f t).1)(k1:(wv n f).1<=0)(l:lam (wv f t) f u=0)(h:dt (wv f t) (rl f u)<=0):(rl n u).1<=0:=by
 have e1:dt (wv f t) (rl f u)*(wv f t).1=(rl f u).1*dt (wv f t) (wv f t):=by unfold lam cr at l;unfold dt;grind
 have p:=bO (z:=dt (wv f t) (rl f u)) hD;have q:=bO (z:=(rl f u).1) (fW (r:=wv f t) (mB (aU hD)));rw[fg] at p q;have e2:=(mr n f u).1;have r1:=bO (z:=(rl f u).1) hn;have r2:=bO (z:=(rl n u).1) hf;omega
theorem Sl(hn:0<n.2.2)(ht:0<t.2.2)(hD:0<(wv f t).1)(k2:0<(wv n t).1)(l:lam (wv f t) t u=0)(h:0<=dt (wv f t) (rl t u)):0<(rl n u).1:=by
 have e1:dt (wv f t) (rl t u)*(wv f t).1=(rl t u).1*dt (wv f t) (wv f t):=by unfold lam cr at l;unfold dt;grind
 have p:=neg_mul (z:=dt (wv f t) (rl t u)) hD;have q:=neg_mul (z:=(rl t u).1) (fW (r:=wv f t) (mB (aU hD)));rw[fg] at p q;have e2:=(mr n t u).1;have r1:=neg_mul (z:=(rl t u).1) hn;have r2:=bO (z:=(rl n u).1) ht;omega
theorem alJ(q:N3)(D u v:Pt):fb q D v u= -fb q D u v:=by
 unfold fb;rw[AG];split
 .rw[<-VK];congr 1
  grind
 .rfl
theorem abm(hs:D.1*S=D.2*W)(p:Pt):lam D (cQ n W Y) p=D.1*(W*(rl n p).2-Y-S*(rl n p).1):=by
 unfold lam;rw[vr];unfold cr;simp only
 grind
theorem abn(hn:0<n.2.2)(hf:0<f.2.2)(ht:0<t.2.2)(hZ:ZP n f t W Y S)(k1:(wv n f).1<=0)(k2:0<(wv n t).1)(hS:lG f t (wv f t) u v)(hu:oO f t (wv f t) u)(hv:oO f t (wv f t) v)(h1:(rl n u).1<=0)(h2:0<(rl n v).1):
  fb (cC f t) (wv f t) u v=bb (decide (-cr (rl n u) (rl n v)*W=Y*((rl n v).1-(rl n u).1)/\((rl n v).2-(rl n u).2)*W=S*((rl n v).1-(rl n u).1))):=by
 have hr:bV (wv f t):=aU hZ.d;have hq:0<(cC f t).2.2:=by show 0<f.2.2+t.2.2;omega
 have zu:=abm (n:=n) (Y:=Y) hZ.s u;have zv:=abm (n:=n) (Y:=Y) hZ.s v;have eu:((rl n v).1-(rl n u).1)*(W*(rl n u).2-Y-S*(rl n u).1)= -(W*cr (rl n u) (rl n v)+Y*((rl n v).1-(rl n u).1))+(((rl n v).2-(rl n u).2)*W-S*((rl n v).1-(rl n u).1))*(rl n u).1:=by unfold cr;grind
 have ev:((rl n v).1-(rl n u).1)*(W*(rl n v).2-Y-S*(rl n v).1)= -(W*cr (rl n u) (rl n v)+Y*((rl n v).1-(rl n u).1))+(((rl n v).2-(rl n u).2)*W-S*((rl n v).1-(rl n u).1))*(rl n v).1:=by unfold cr;grind
 have pw:0<(rl n v).1-(rl n u).1:=aa
 by_cases Ey:lam (wv f t) f u=0/\lam (wv f t) f v=0
 .obtain⟨l1,l2⟩:=Ey;have A0:W*(rl n u).2-Y-S*(rl n u).1=0:=(fR hZ.d).1 (zu.symm.trans ((hZ.lz u).1 l1));have B0:W*(rl n v).2-Y-S*(rl n v).1=0:=(fR hZ.d).1 (zv.symm.trans ((hZ.lz v).1 l2));have pu:=place hf ht hr hu l1;have pv:=place hf ht hr hv l2;have pu':dt (wv f t) (rl (cC f t) u)<0:=by
   rcases pu with h|h
   .exact h.2.1
   .have:=Sl hn ht hZ.d k2 ((td hf ht hr u).2 l1) h.2.2;omega
  have pv':0<dt (wv f t) (rl (cC f t) v):=by
   rcases pv with h|h
   .have:=Sk hn hf hZ.d k1 l2 h.1;omega
   .exact h.2.1
  have oq:=(yJ (mB hr) ((Dg hf ht hr u).2 l1) ((Dg hf ht hr v).2 l2)).2 (De (eY pu') (eY pv'));have Pe:(cC f t).2.2*((wv f t).1*(v.1-u.1)+(wv f t).2*(v.2-u.2))=dt (wv f t) (rl (cC f t) v)-dt (wv f t) (rl (cC f t) u):=by
   unfold dt rl rel
   grind
  have s1:=bO (z:=(wv f t).1*(v.1-u.1)+(wv f t).2*(v.2-u.2)) hq;rw[Pe] at s1;have sgn:((wv f t).1*(v.1-u.1)+(wv f t).2*(v.2-u.2)).sign=1:=oJ (s1.1 aa)
  unfold fb;rw[oq,sgn];have hE:((rl n v).2-(rl n u).2)*W=S*((rl n v).1-(rl n u).1):=by grind
  have hC: -cr (rl n u) (rl n v)*W=Y*((rl n v).1-(rl n u).1):=by
   rw[A0] at eu;have e0:((rl n v).2-(rl n u).2)*W-S*((rl n v).1-(rl n u).1)=0:=aa
   rw[e0] at eu;have e1: -cr (rl n u) (rl n v)*W= -(W*cr (rl n u) (rl n v)):=by grind
   rw[e1];omega
  rw[dO (And.intro hC hE)];rfl
 .have o1:=Pd hf ht hr hS Ey;unfold fb;rw[o1];have hno:¬(-cr (rl n u) (rl n v)*W=Y*((rl n v).1-(rl n u).1)/\((rl n v).2-(rl n u).2)*W=S*((rl n v).1-(rl n u).1)):=by
   rintro⟨hC,hE⟩;apply Ey;have e0:((rl n v).2-(rl n u).2)*W-S*((rl n v).1-(rl n u).1)=0:=aa
   have e1: -cr (rl n u) (rl n v)*W= -(W*cr (rl n u) (rl n v)):=by grind
   rw[e1] at hC;rw[e0] at eu ev;have A0:=(fR (z:=W*(rl n u).2-Y-S*(rl n u).1) pw).1 aa
   have B0:=(fR (z:=W*(rl n v).2-Y-S*(rl n v).1) pw).1 aa
   rw[A0] at zu;rw[B0] at zv;exact⟨(hZ.lz u).2 aa,(hZ.lz v).2 aa⟩
  rw[fY hno];rfl
theorem alM(hn:0<n.2.2)(hf:0<f.2.2)(ht:0<t.2.2)(hZ:ZP n f t W Y S)(k1:(wv n f).1<=0)(k2:0<(wv n t).1)(hS:lG f t (wv f t) u v)(hu:oO f t (wv f t) u)(hv:oO f t (wv f t) v)(h:¬((rl n u).1<=0/\0<(rl n v).1))(h':¬((rl n v).1<=0/\0<(rl n u).1)):
  fb (cC f t) (wv f t) u v=0:=by
 have hr:bV (wv f t):=aU hZ.d;have o1:on (rl (cC f t) u) (rl (cC f t) v)=false:=by
  by_cases Ey:lam (wv f t) f u=0/\lam (wv f t) f v=0
  .obtain⟨l1,l2⟩:=Ey;have pu:=place hf ht hr hu l1;have pv:=place hf ht hr hv l2;cases ho:on (rl (cC f t) u) (rl (cC f t) v)
   .rfl
   .exfalso;have oq:=(yJ (mB hr) ((Dg hf ht hr u).2 l1) ((Dg hf ht hr v).2 l2)).1 ho;rcases pu with⟨x1,x2,x3⟩|⟨x1,x2,x3⟩<;>rcases pv with⟨y1,y2,y3⟩|⟨y1,y2,y3⟩
    .exact FO x2 y2 oq
    .have a:=Sk hn hf hZ.d k1 l1 x1;have b:=Sl hn ht hZ.d k2 ((td hf ht hr v).2 l2) y3;exact h ⟨a,b⟩
    .have a:=Sk hn hf hZ.d k1 l2 y1;have b:=Sl hn ht hZ.d k2 ((td hf ht hr u).2 l1) x3;exact h' ⟨a,b⟩
    .exact J6 x2 y2 oq
  .exact Pd hf ht hr hS Ey
 unfold fb;rw[o1];rfl
theorem Ez{F:Pt->Pt->Int}{n:N3}{p:Pt×Pt->Bool}:∀{es:List (Pt×Pt)},(∀e∈es,F e.1 e.2=if p e then wt n e else 0)->total F es=cU (wt n) p es
 |[],_=>rfl
 |e::l,h=>by rw[fJ,ua,h e af,Ez λx hx=>h x (bX _ hx)]
theorem Sm(es:List (Pt×Pt))(n:N3):PP es n=cU (wt n) (λe=>decide (kY n e<0)) es:=by
 refine Ez λe _=>?_
 unfold right wt kY;have:=di (rl n e.1) (rl n e.2);by_cases h1:(rl n e.1).1<=0/\0<(rl n e.2).1
 .rw[aV h1,aV h1];by_cases hc:0<cr (rl n e.1) (rl n e.2)
  .rw[aV ⟨h1.1,h1.2,hc⟩,dO aa];rfl
  .rw[aQ aa,aQ aa,fY aa];rfl
 .by_cases h2:(rl n e.2).1<=0/\0<(rl n e.1).1
  .rw[aQ h1,aV h2,aQ h1,aV h2,aQ aa]
   by_cases hc:cr (rl n e.1) (rl n e.2)<0
   .rw[aV ⟨h2.2,h2.1,hc⟩,dO aa];rfl
   .rw[aQ aa,fY aa];rfl
  .rw[aQ h1,aQ h2,aQ h1,aQ h2,aQ aa,aQ aa]
   split<;>rfl
theorem abo(p:Bool):(if p then(1:Int) else 0)=bb p:=rfl
theorem abp{rg:List (List Pt)}{e0:Pt×Pt}(hn:0<n.2.2)(h:uI (aR rg) f t)(hZ:ZP n f t (kW n e0) (kY n e0) (kS n e0))(k1:(wv n f).1<=0)(k2:0<(wv n t).1):
  RR (aR rg) f t=cU (wt n) (λe=>bH n e e0) (aR rg)/\total (fb (cC f t) (wv f t)) (aR rg)=cU (wt n) (λe=> !bH n e e0&& !bH n e0 e) (aR rg):=by
 have rY:∀e,kS n e*kW n e0=kS n e0*kW n e/\kY n e*kW n e0=kY n e0*kW n e↔(!bH n e e0&& !bH n e0 e)=true:=λe=>by
  unfold bH;simp only[qs,OS,JS];omega
 constructor
 .rw[alI hn h hZ];unfold PP;rw[<-J1];refine Ez λe _=>?_
  by_cases h1:(rl n e.1).1<=0/\0<(rl n e.2).1
  .rw[abg hZ.w hZ.d hZ.s h1.1 h1.2];unfold wt;rw[aV h1,abo];congr 1;unfold bH;have a:kY n e= -cr (rl n e.1) (rl n e.2):=aV h1;have b:kW n e=(rl n e.2).1-(rl n e.1).1:=aV h1;have c:kS n e=(rl n e.2).2-(rl n e.1).2:=aV h1;rw[a,b,c]
  .by_cases h2:(rl n e.2).1<=0/\0<(rl n e.1).1
   .have g:=abg (Y:=kY n e0) hZ.w hZ.d hZ.s h2.1 h2.2;rw[OZ (rl (cQ n (kW n e0) (kY n e0)) e.1),alB] at g;have a:kY n e= -cr (rl n e.2) (rl n e.1):=(aQ h1).trans (aV h2);have b:kW n e=(rl n e.1).1-(rl n e.2).1:=(aQ h1).trans (aV h2);have c:kS n e=(rl n e.1).2-(rl n e.2).2:=(aQ h1).trans (aV h2);rw[<-a,<-b,<-c] at g;have hw:wt n e= -1:=(aQ h1).trans (aV h2);rw[hw];have g': -(right (rl (cQ n (kW n e0) (kY n e0)) e.1) (rl (cQ n (kW n e0) (kY n e0)) e.2)+cA (cQ n (kW n e0) (kY n e0)) (wv f t) e.1 e.2)=bb (bH n e e0):=by
     rw[<-show _=bb (bH n e e0) from g]
     omega
    cases hk:bH n e e0<;>rw[hk] at g'<;>unfold bb at g'<;>simp at g'⊢ <;>omega
   .have hw:wt n e=0:=(aQ h1).trans (aQ h2);rw[alC hZ.w h1 h2,hw];split<;>rfl
 .refine Ez λe he=>?_
  by_cases h1:(rl n e.1).1<=0/\0<(rl n e.2).1
  .rw[abn hn h.pf h.pt hZ k1 k2 (h.s e he) (h.c e he).1 (h.c e he).2 h1.1 h1.2];have hw:wt n e=1:=aV h1;have a:kY n e= -cr (rl n e.1) (rl n e.2):=aV h1;have b:kW n e=(rl n e.2).1-(rl n e.1).1:=aV h1;have c:kS n e=(rl n e.2).2-(rl n e.1).2:=aV h1;have k:=rY e;rw[a,b,c] at k;rw[hw,abo];congr 1;refine lF.2 (Iff.trans ?_ k);rw[pK];exact And.comm
  .by_cases h2:(rl n e.2).1<=0/\0<(rl n e.1).1
   .have g:=abn hn h.pf h.pt hZ k1 k2 (u:=e.2) (v:=e.1) (by
      have:=h.s e he;refine⟨λx y z=>?_,λx y z=>?_⟩
      .have:=this.2 x y z;rw[di (rl f e.1) (rl f e.2),di (rl t e.1) (rl t e.2)];omega
      .have:=this.1 x y z;rw[di (rl f e.1) (rl f e.2),di (rl t e.1) (rl t e.2)];omega) (h.c e he).2 (h.c e he).1 h2.1 h2.2
    rw[alJ] at g;have hw:wt n e= -1:=(aQ h1).trans (aV h2);have a:kY n e= -cr (rl n e.2) (rl n e.1):=(aQ h1).trans (aV h2);have b:kW n e=(rl n e.1).1-(rl n e.2).1:=(aQ h1).trans (aV h2);have c:kS n e=(rl n e.1).2-(rl n e.2).2:=(aQ h1).trans (aV h2);have k:=rY e;rw[<-a,<-b,<-c] at g;have k':decide (kY n e*kW n e0=kY n e0*kW n e/\kS n e*kW n e0=kS n e0*kW n e)=(!bH n e e0&& !bH n e0 e):=by
     refine lF.2 (Iff.trans ?_ k);rw[pK];exact And.comm
    rw[k'] at g;rw[hw];cases hk:(!bH n e e0&& !bH n e0 e)<;>rw[hk] at g<;>unfold bb at g<;>simp at g⊢ <;>omega
   .have hw:wt n e=0:=(aQ h1).trans (aQ h2);rw[alM hn h.pf h.pt hZ k1 k2 (h.s e he) (h.c e he).1 (h.c e he).2 h1 h2,hw];split<;>rfl
theorem alN{rg:List (List Pt)}{l:List Nd}(hN:cS (aR rg) l){bu:Int->Bool}(h0:bu 0=false){n:Nd}(hn:n∈l)(h:bu (PP (aR rg) n)=true):
  ∃f t,Sd (aR rg) l bu f t/\(wv n f).1<=0/\0<(wv n t).1/\0<cr (wv f t) (wv f n):=by
 have cn:=hN.can n hn;rw[Sm] at h;obtain⟨e0,Mj,hT,hb,ha⟩:=abf (zB n) (ub n) (BM n) (wt n) bu h0 (aR rg) _ (λe=>decide (kY n e<0)) (λx y hy hyx=>by
   have hy':=fV hy;refine dO ?_;have atE:¬_:=λk=>by rw[BK.2 k] at hyx;cases hyx
   have px:=rW n x;have py:=rW n y;have q1:=(neg_mul (z:=kY n y) px).2 hy';have q2:=neg_mul (z:=kY n x) py;rw[fg] at q1 q2;exact q2.1 aa) (aY _) h
 have hT':=fV hT;obtain⟨a,b,hab,h1,h2,hW,hY,hS⟩:∃a b,((a=e0.1/\b=e0.2)\/(a=e0.2/\b=e0.1))/\(rl n a).1<=0/\0<(rl n b).1/\kW n e0=(rl n b).1-(rl n a).1/\kY n e0= -cr (rl n a) (rl n b)/\kS n e0=(rl n b).2-(rl n a).2:=by
  by_cases k1:(rl n e0.1).1<=0/\0<(rl n e0.2).1
  .exact⟨e0.1,e0.2,aU ⟨rfl,rfl⟩,k1.1,k1.2,aV k1,aV k1,aV k1⟩
  .by_cases k2:(rl n e0.2).1<=0/\0<(rl n e0.1).1
   .exact⟨e0.2,e0.1,aT ⟨rfl,rfl⟩,k2.1,k2.2,(aQ k1).trans (aV k2),(aQ k1).trans (aV k2),(aQ k1).trans (aV k2)⟩
   .exfalso;have:kY n e0=0:=(aQ k1).trans (aQ k2);omega
 obtain⟨f,t,hpc,k1,k2,hD,la,lb⟩:=abh hN hn Mj hab h1 h2;have hP:=hpc.oP hN;have hZ:=abj cn.pos hP.pf hP.pt h1 h2 k1 k2 hD la lb;rw[<-hW,<-hY,<-hS] at hZ;obtain⟨r1,r2⟩:=abp cn.pos hP hZ k1 k2;refine⟨f,t,aU ⟨hpc,?_,?_⟩,k1,k2,?_⟩
 .unfold LL;have:PP (aR rg) (cC f t)=RR (aR rg) f t:=rfl;rw[this,r1,r2];exact ha
 .rw[r1];exact hb
 .have vt:0<(cQ n (kW n e0) (kY n e0)).2.2:=bJ cn.pos hZ.w;obtain⟨m1,m2⟩:=BN (cQ n (kW n e0) (kY n e0)) f n;have c0:cr (wv f t) (wv (cQ n (kW n e0) (kY n e0)) f)=0:=by
   have:cr (wv f t) (wv f (cQ n (kW n e0) (kY n e0)))=0:=by
    rcases hZ.zf with k|k
    .rw[k];exact(Dd _).2.1
    .exact Wp k
   rw[fT f,gF];omega
  have ezn:wv (cQ n (kW n e0) (kY n e0)) n=(0, -(n.2.2*kY n e0)):=by
   unfold wv cQ;exact eB (by simp only;grind) (by simp only;grind)
  have hpos:0<cr (wv f t) (wv (cQ n (kW n e0) (kY n e0)) n):=by
   rw[ezn];unfold cr;simp only;have:=(neg_mul (z:=kY n e0) cn.pos).2 hT';have:=bJ hD (show 0< -(n.2.2*kY n e0) by omega)
   omega
  have e:(cQ n (kW n e0) (kY n e0)).2.2*cr (wv f t) (wv f n)=f.2.2*cr (wv f t) (wv (cQ n (kW n e0) (kY n e0)) n)-n.2.2*cr (wv f t) (wv (cQ n (kW n e0) (kY n e0)) f):=by
   have:(cQ n (kW n e0) (kY n e0)).2.2*cr (wv f t) (wv f n)=(wv f t).1*((cQ n (kW n e0) (kY n e0)).2.2*(wv f n).2)-(wv f t).2*((cQ n (kW n e0) (kY n e0)).2.2*(wv f n).1):=by unfold cr;grind
   rw[this,m1,m2];unfold cr
   grind
  rw[c0] at e;have:=bJ hP.pf hpos;exact(bO vt).1 aa
end Ga
section
open Go.RowKit
variable{w wr:aM}
def zC(x:PB)(wk:Bool)(ow:Option Addr):Array aN:=(x.cells++[Value.bool wk,Value.pointer ow]).toArray
def bA(bs:List Nat):List aN:=bs.map λb=>aH (some ⟨b,0,none⟩)
theorem alP{v:aN}{l:List PB}(h:tV w v l):∃so cap,v=aG so l.length cap:=by
 rcases h.2 with⟨hv,h0⟩|⟨b,cap,cur,hv,_⟩
 .exact⟨none,0,by rw[hv,h0]⟩
 .exact⟨_,cap,hv⟩
theorem alQ{so:Option Addr}{n cap:Nat}{l:List PB}(h:tV w (aG so n cap) l){k:Nat}{x:PB}(he:l[k]?=some x):
  ∃b,so=some ⟨b,0,none⟩/\b<w.heap.size/\w.cell? ⟨b,k*6,none⟩=some (aA aK x.wa x.wb)/\w.cell? ⟨b,k*6+1,none⟩=some (aB aK x.sh)/\w.cell? ⟨b,k*6+2,none⟩=some (aA aK (aO aK x.f.1) (aO aK x.f.2.1))/\w.cell? ⟨b,k*6+3,none⟩=some (az aJ x.f.2.2)/\w.cell? ⟨b,k*6+4,none⟩=some (aA aK (aO aK x.t.1) (aO aK x.t.2.1))/\w.cell? ⟨b,k*6+5,none⟩=some (az aJ x.t.2.2):=by
 have g:=Mb l k x he;obtain⟨b,c,hv,hb,hc⟩:=Gn h (g 0 aa)
 injection hv with hv;exact⟨b,hv,hb,hc _ _ (g 0 aa),hc _ _ (g 1 aa),hc _ _ (g 2 aa),hc _ _ (g 3 aa),hc _ _ (g 4 aa),hc _ _ (g 5 aa)⟩
structure BS(w:aM)(lv:aN)(bs:List Nat)(Xs:List PB)(wr:aM):Prop where
 own:wr.ownsRow w.heap.size 175 1 lv bs.length (bA bs)
 len:bs.length=Xs.length
 lies:∀(i:Nat) b x,bs[i]?=some b->Xs[i]?=some x->w.heap.size<=b/\wr.heap[b]?=some (.cells (zC x false none) 177 (0,0))
 ne:∀b∈bs,lv.ownBlock≠some b
 nd:bs.Nodup
 below:aj w wr
theorem BS.keep{lv:aN}{bs:List Nat}{Xs:List PB}{w':aM}(h:BS w lv bs Xs wr)(hb:aj wr w'):BS w lv bs Xs w':=
 ⟨bB h.own λk hk=>hb.block k (bn h.own k hk).2,h.len,λi b x h1 h2=>⟨(h.lies i b x h1 h2).1,(hb.block _ (lt_of_heap (h.lies i b x h1 h2).2)).trans (h.lies i b x h1 h2).2⟩,h.ne,h.nd,h.below.trans (hb.mono h.below.size)⟩
theorem BS.lt{lv:aN}{bs:List Nat}{Xs:List PB}(h:BS w lv bs Xs wr){b:Nat}(hb:b∈bs):b<wr.heap.size:=by
 obtain⟨i,hi,rfl⟩:=kO.1 hb;have hx:i<Xs.length:=by rw[<-h.len];exact hi
 exact lt_of_heap (h.lies i _ _ (bo hi) (bo hx)).2
theorem BS.snoc{lv:aN}{bs:List Nat}{Xs:List PB}(h:BS w lv bs Xs wr)(x:PB)(o:Obj){g cap:Nat}{w8:aM}
  (cI:((wr.alloc (.cells (zC x false none) 177)).alloc o).grownBy w8 lv.ownBlock)
  (dM:w8.ownsRow w.heap.size 175 1 (aG (some ⟨g,0,none⟩) (bs.length+1) cap) (bs.length+1) (bA bs++[aH (some ⟨wr.heap.size,0,none⟩)]))
  (hat:lv.ownBlock=some g\/g=wr.heap.size+2):BS w (aG (some ⟨g,0,none⟩) (bs.length+1) cap) (bs++[wr.heap.size]) (Xs++[x]) w8:=by
 have hsz:((wr.alloc (.cells (zC x false none) 177)).alloc o).heap.size=wr.heap.size+2:=af
 have hsz1:(wr.alloc (.cells (zC x false none) 177)).heap.size=wr.heap.size+1:=af
 have hown:∀k,lv.ownBlock=some k->k<wr.heap.size:=λk hk=>(bn h.own k hk).2
 have hold:∀b,b<wr.heap.size->lv.ownBlock≠some b->w8.heap[b]?=wr.heap[b]?:=λb hb hne=>
  (cI.block b aa (λe=>hne e.symm)).trans ((Below.heap_alloc _ _ _ aa).trans (Below.heap_alloc _ _ _ hb))
 refine⟨?_,by rw[bY,bY,h.len];rfl,λi b y h1 h2=>?_,λb hb=>?_,?_,?_⟩
 .have e:bA (bs++[wr.heap.size])=bA bs++[aH (some ⟨wr.heap.size,0,none⟩)]:=by simp[bA]
  rw[e,bY];exact dM
 .by_cases hi:i<bs.length
  .rw[fI hi] at h1;rw[fI (by rw[<-h.len];exact hi)] at h2
   obtain⟨k1,k2⟩:=h.lies i b y h1 h2;exact⟨k1,(hold b (lt_of_heap k2) (h.ne b (bT h1))).trans k2⟩
  .have hi2:i=bs.length:=by
    have:=(cG.1 h1).1;simp at this;omega
   subst hi2;have e1:b=wr.heap.size:=by simpa using h1.symm
   have e2:y=x:=by rw[h.len] at h2;simpa using h2.symm
   subst e1 e2;refine⟨h.below.size,(cI.block _ aa (λe=>agE _ (hown _ e.symm))).trans ((Below.heap_alloc _ _ _ aa).trans (heap_alloc_new _ _))⟩
 .intro he;have he':g=b:=by simpa[Value.ownBlock] using he
  subst he';rcases dv.1 hb with hb|hb
  .rcases hat with hat|hat
   .exact h.ne g hb hat
   .have:=h.lt hb;omega
  .rw[dh] at hb;rcases hat with hat|hat
   .have:=hown g hat;omega
   .omega
 .rw[OV];refine⟨h.nd,af,λa ha b hb=>?_⟩
  rw[dh.1 hb];have:=h.lt ha;omega
 .exact((h.below.alloc h.below.size _).alloc (by have:=h.below.size;omega) _).grown cI (by have:=h.below.size;omega) (λk hk=>(bn h.own k hk).1)
theorem abq:∀{m:List Ge.Nd},m.Pairwise (λa b=>Ge.lt (Ge.aX a) (Ge.aX b))->∀{q:Ge.Nd×Ge.Nd},q∈Ge.nexts m->Ge.lt (Ge.aX q.1) (Ge.aX q.2)
 |[],_,_,h=>by simp[Ge.nexts] at h
 |[_],_,_,h=>by simp[Ge.nexts] at h
 |a::b::r,hp,q,h=>by
  rcases bU.1 h with h|h
  .rw[h];exact(ik.1 hp).1 b af
  .exact abq (ik.1 hp).2 h
theorem alR{es:List Ed}{l:List Ge.Nd}(hl:l.map Ge.aX=Ge.iZ es)(e:Ed):(Ge.held e l).Pairwise (λa b=>Ge.lt (Ge.aX a) (Ge.aX b)):=by
 have ha:Ge.uQ (l.map Ge.aX):=by rw[hl];exact(Ge.D5 es).2.1
 exact agM _ (oL.1 ha)
theorem Mw{es:List Ed}{l:List Ge.Nd}{Ps:List PB}(h:pW es l Ps)(hl:l.map Ge.aX=Ge.iZ es)(p:PB)(hp:p∈Ps):Ge.lt (Ge.aX p.f) (Ge.aX p.t):=by
 obtain⟨e,he⟩:=h.ap.mem p hp;have hq:=he.2.2;have hh:=alR hl e;generalize Ge.held e l=H at*;have k:=abq hh hq;exact k
def gD(r:Int)(es:List Ed)(p:PB):List PB:=
 if Ge.takes r (rT es p.f p.t)=true/\Ge.takes r (pY es p.f p.t)=false then[p]
 else if Ge.takes r (pY es p.f p.t)=true/\Ge.takes r (rT es p.f p.t)=false then[p.rev] else[]
theorem BO:(Tryz.prog.info? 175).map (λi=>(i.zero,i.size,i.bytes))=some (some (aH none),1,8):=ag
theorem alS(es:List Ed)(r:Int)(v:aN)(w:aM)(hR:iL w v es)(hl:es.length<=402)(hs:∀e∈es,gz e)(hne:∀e∈es,e.1≠e.2)
  (Q:aN->aM->Prop)
  (HS:Hid (∀Ps l,l.map Ge.aX=Ge.iZ es->(∀n∈l,Ge.Can n)->pW es l Ps->∀w1 lv bs wr,aj w w1->BS w1 lv bs (Ps.flatMap (gD r es)) wr->bs.length<=85000000->ak 108 #[lv,.func (.func 109) #[] #[]] wr λe w'=>e=aL (aI #[])/\Q lv w')):
  ak 68 #[v,az .u8 r] w λe w'=>∃lv,e=aL lv/\Q lv w':=by
 obtain⟨so,cap,rfl⟩:=Gq hR;obtain⟨i0,hi,hz0,hz1,hz2⟩:=info_parts BO;have HP:Hid (ak 104 #[aG so es.length cap] w λr w'=>∃v' Ps,r=aL v'/\tV w' v' Ps/\aj w w'/\Ps.length<=85000000/\∃l,l.map Ge.aX=Ge.iZ es/\(∀n∈l,Ge.Can n)/\pW es l Ps):=ak9 es _ w hR hl hs
 have HR:Hid (iL w (aG so es.length cap) es):=hR;have Mx:Hid (∀t w,ak 106 #[az .u8 r,az aJ t] w λe w'=>e=aL (aD (Ge.takes r t))/\w'=w):=λt w=>ajS r t w
 go_enter func68,ntmps68
 go_wp2_with fail
 refine HP.out.mono ?_;rintro r' w1 ⟨pv,Ps,rfl,Sn,hb1,zD,l,lg,lh,ud⟩;obtain⟨ps,pc,rfl⟩:=alP Sn;have My:Hid (tV w1 (aG ps Ps.length pc) Ps):=Sn;have BP:Hid (iL w1 (aG so es.length cap) es):=Rl HR.out hb1;have Sp:Hid (∀p∈Ps,∀v w,iL w v es->ak 105 #[aC p.cells.toArray,v] w λr w'=>r=aL (aI #[az aJ (rT es p.f p.t),az aJ (pY es p.f p.t)])/\aj w w'):=λp hp=>ale p es l hne (ud.v p hp) (Mw ud lg p hp) (ud.ap.mem p hp) hl hs
 have abr:=HS.out Ps l lg lh ud w1;have abt:Hid (∀lv bs wr,BS w1 lv bs (Ps.flatMap (gD r es)) wr->bs.length<=85000000->ak 108 #[lv,.func (.func 109) #[] #[]] wr λe w'=>e=aL (aI #[])/\Q lv w'):=λlv bs wr h1 h2=>abr lv bs wr hb1 h1 h2
 clear abr HS ud lh lg Sn HP HR hR hs hne;have cK:Hid (∃bs,BS w1 (aG none 0 0) bs ((Ps.take 0).flatMap (gD r es)) w1/\bs.length<=0):=⟨[],⟨World.ownsRow_nil _ _ _ _,af,λi b x h=>by simp at h,λb h=>by simp at h,af,Below.refl _ _⟩,af⟩
 go_wp2_with fail
 go_loopg [5,15] Ps.length (λm lv iv wr=>∃k:Nat,k+m=Ps.length/\iv=az aJ k/\Hid (∃bs,BS w1 lv bs ((Ps.take k).flatMap (gD r es)) wr/\bs.length<=k))
 case atStart=>exact⟨0,aa,rfl,cK⟩
 case round=>
  obtain⟨k,hkn,rfl,HE⟩:=hrel;clear cK;obtain⟨bs,kE,hbl⟩:=HE.out;have BR:Hid (BS w1 u5 bs ((Ps.take k).flatMap (gD r es)) wr):=kE;clear HE;by_cases hlt:k<Ps.length
  .obtain⟨p,hpk⟩:∃p,Ps[k]?=some p:=⟨_,bo hlt⟩;obtain⟨b,rfl,hb,c0,c1,c2,c3,c4,c5⟩:=alQ My.out hpk;have aW:=kE.below;have r0:=aS aW c0 hb;have r1:=aS aW c1 hb;have r2:=aS aW c2 hb;have r3:=aS aW c3 hb;have r4:=aS aW c4 hb;have r5:=aS aW c5 hb;have hbr:b<wr.heap.size:=bW hb aW.size;have gH:(k:Int)<(Ps.length:Int):=aa
   have Sq:=Sp.out p (bT hpk);have EA:Hid (∀w,ak 107 #[aC p.cells.toArray] w λe w'=>e=aL (aC p.rev.cells.toArray)/\aj w w'):=λw=>akh p w
   have Mz:Hid ((Ps.take (k+1)).flatMap (gD r es)=(Ps.take k).flatMap (gD r es)++gD r es p):=by
    have htk:Ps.take (k+1)=Ps.take k++[p]:=by rw[jF,hpk];rfl
    show(Ps.take (k+1)).flatMap (gD r es)=_;rw[htk,agO,nI,agf,qu]
   have MA:Hid (gD r es p=if Ge.takes r (rT es p.f p.t)=true/\Ge.takes r (pY es p.f p.t)=false then[p] else if Ge.takes r (pY es p.f p.t)=true/\Ge.takes r (rT es p.f p.t)=false then[p.rev] else[]):=rfl
   have Sr:=Mx.out (rT es p.f p.t);have Hp:=Mx.out (pY es p.f p.t);clear c0 c1 c2 c3 c4 c5 hpk kE;generalize rT es p.f p.t=TL at*;generalize pY es p.f p.t=TR at*;have vv:Hid (p.cells=[aA aK p.wa p.wb,aB aK p.sh,aA aK (aO aK p.f.1) (aO aK p.f.2.1),az aJ p.f.2.2,aA aK (aO aK p.t.1) (aO aK p.t.2.1),az aJ p.t.2.2]):=rfl;have Ss:Hid (p.rev.cells=[aA aK (Op.negFloat aK p.wa) (Op.negFloat aK p.wb),aB aK (Op.negFloat aK p.sh),aA aK (aO aK p.t.1) (aO aK p.t.2.1),az aJ p.t.2.2,aA aK (aO aK p.f.1) (aO aK p.f.2.1),az aJ p.f.2.2]):=rfl;have MB:=EA.out;rw[vv.out] at Sq MB;rw[Ss.out] at MB;clear EA;generalize Op.negFloat aK p.wa=N1 at*;generalize Op.negFloat aK p.wb=N2 at*;generalize Op.negFloat aK p.sh=N3 at*;generalize p.wa=A1 at*;generalize p.wb=A2 at*;generalize p.sh=A3 at*;generalize aO aK p.f.1=A4 at*;generalize aO aK p.f.2.1=A5 at*;generalize p.f.2.2=A6 at*;generalize aO aK p.t.1=A7 at*;generalize aO aK p.t.2.1=A8 at*;generalize p.t.2.2=A9 at*;have abu:Hid (∀v w,iL w v es->ak 105 #[aC #[aA aK A1 A2,aB aK A3,aA aK A4 A5,az aJ A6,aA aK A7 A8,az aJ A9],v] w λr w'=>r=aL (aI #[az aJ TL,az aJ TR])/\aj w w'):=Sq
   have EA:Hid (∀w,ak 107 #[aC #[aA aK A1 A2,aB aK A3,aA aK A4 A5,az aJ A6,aA aK A7 A8,az aJ A9]] w λe w'=>e=aL (aC #[aA aK N1 N2,aB aK N3,aA aK A7 A8,az aJ A9,aA aK A4 A5,az aJ A6])/\aj w w'):=MB
   have HSC:Hid (zC p false none= #[aA aK A1 A2,aB aK A3,aA aK A4 A5,az aJ A6,aA aK A7 A8,az aJ A9,aD false,aH none]):=by
    show(p.cells++[Value.bool false,Value.pointer none]).toArray=_;rw[vv.out];rfl
   have HSR:Hid (zC p.rev false none= #[aA aK N1 N2,aB aK N3,aA aK A7 A8,az aJ A9,aA aK A4 A5,az aJ A6,aD false,aH none]):=by
    show(p.rev.cells++[Value.bool false,Value.pointer none]).toArray=_;rw[Ss.out];rfl
   have HL:Hid (∀w,ak 106 #[az .u8 r,az aJ TL] w λe w'=>e=aL (aD (Ge.takes r TL))/\w'=w):=Sr
   have HRr:Hid (∀w,ak 106 #[az .u8 r,az aJ TR] w λe w'=>e=aL (aD (Ge.takes r TR))/\w'=w):=Hp
   have hb0:aj wr (wr.alloc (.cells #[aA aK A1 A2,aB aK A3,aA aK A4 A5,az aJ A6,aA aK A7 A8,az aJ A9] 171)):=aw _ _;have nW:=heap_alloc_new wr (.cells #[aA aK A1 A2,aB aK A3,aA aK A4 A5,az aJ A6,aA aK A7 A8,az aJ A9] 171);have hz0':wr.heap.size<(wr.alloc (.cells #[aA aK A1 A2,aB aK A3,aA aK A4 A5,az aJ A6,aA aK A7 A8,az aJ A9] 171)).heap.size:=af
   have abw:Hid (iL (wr.alloc (.cells #[aA aK A1 A2,aB aK A3,aA aK A4 A5,az aJ A6,aA aK A7 A8,az aJ A9] 171)) (aG so es.length cap) es):=Rl BP.out (aW.alloc aW.size _);clear Sq MB Sr Hp vv Ss Mx Sp;generalize Ge.takes r TL=bL at*;generalize Ge.takes r TR=bR at*
   go_wp2_with (simp only[gN,oV];go_simp)
   generalize wr.alloc (.cells #[aA aK A1 A2,aB aK A3,aA aK A4 A5,az aJ A6,aA aK A7 A8,az aJ A9] 171)=W0 at*;refine(abu.out _ _ abw.out).mono ?_;rintro r' w2 ⟨rfl,hb2⟩;have eJ:=(hb2.block _ hz0').trans nW;have Su:aj wr w2:=hb0.trans (hb2.mono (fh hz0'));have jx:Hid (BS w1 u5 bs ((Ps.take k).flatMap (gD r es)) w2):=BR.out.keep Su;have e0:=cH eJ;have e1:=cD eJ;have e2:=dU eJ;have e3:=jG eJ;have e4:=sW eJ;have e5:=wF eJ;have alV:wr.heap.size<w2.heap.size:=lt_of_heap eJ;clear r0 r1 r2 r3 r4 r5 abu abw BR nW hb0 hb2
   go_wp2_with fail
   refine(HL.out _).mono ?_;rintro r' w3 ⟨rfl,rfl⟩
   go_wp2_with fail
   refine(HRr.out _).mono ?_;rintro r' w3 ⟨rfl,rfl⟩;clear HL HRr;cases bL<;>cases bR
   .have cV:Hid (∃bs,BS w1 u5 bs ((Ps.take (k+1)).flatMap (gD r es)) w3/\bs.length<=k+1):=by
     have e1:gD r es p=[]:=by rw[MA.out];simp
     rw[Mz.out,e1,qu];exact⟨bs,jx.out,aa⟩
    clear jx
    go_wp2_with fail
    go_roundg (gk-1)
    case measure=>omega
    case rel=>exact⟨k+1,aa,ai,cV⟩
   .go_wp2_with fail
    refine(EA.out _).mono ?_;rintro r' w4 ⟨rfl,hb4⟩;have vw:Hid (BS w1 u5 bs ((Ps.take k).flatMap (gD r es)) w4):=jx.out.keep hb4;have mK:=vw.out.own;have hbz:=vw.out.below.size;have hnb:((w4.alloc (.cells #[aA aK N1 N2,aB aK N3,aA aK A7 A8,az aJ A9,aA aK A4 A5,az aJ A6,aD false,aH none] 177)).alloc (.cells #[aH (some ⟨w4.heap.size,0,none⟩)] 175)).heap[w4.heap.size+1]?=some (.cells #[aH (some ⟨w4.heap.size,0,none⟩)] 175 (0,0)):=by
     have:=heap_alloc_new (w4.alloc (.cells #[aA aK N1 N2,aB aK N3,aA aK A7 A8,az aJ A9,aA aK A4 A5,az aJ A6,aD false,aH none] 177)) (.cells #[aH (some ⟨w4.heap.size,0,none⟩)] 175);simpa using this
    clear e0 e1 e2 e3 e4 e5 eJ hb4 jx EA
    go_wp2_with (at_builtin;refine wpList_append_lies _ rfl (.tmp 47) (.tmp 52) 133 rfl w1.heap.size 175 i0 _ 1 8 underlying133 hi hz0 hz1 hz2 rfl ah u5 bs.length (bA bs) rfl (bB mK (λk hk=>(Below.heap_alloc _ _ _ (by have:=(bn mK k hk).2;simp;omega)).trans (Below.heap_alloc _ _ _ (bn mK k hk).2))) ⟨w4.heap.size+1,0,none⟩ 1 1 [aH (some ⟨w4.heap.size,0,none⟩)] rfl rfl (World.news_of_block (cs:= #[aH (some ⟨w4.heap.size,0,none⟩)]) (t:=175) (fr:=(0,0)) hnb) (by simp[Value.oneCell']) ah (by unfold maxLen;omega) aa (by have:=hbz;simp;omega) (w4.heap.size+2) af ?_;intro g' cap' w8 dM cI iN rN)
    have cV:Hid (∃bs',BS w1 (aG (some ⟨g',0,none⟩) (bs.length+1) cap') bs' ((Ps.take (k+1)).flatMap (gD r es)) w8/\bs'.length<=k+1):=by
     have e1:gD r es p=[p.rev]:=by rw[MA.out];simp
     rw[<-HSR.out] at cI;rw[Mz.out,e1];exact⟨bs++[w4.heap.size],vw.out.snoc p.rev _ cI dM iN,by rw[bY];simp;omega⟩
    clear cI dM iN hnb mK vw
    go_wp2_with fail
    go_roundg (gk-1)
    case measure=>omega
    case rel=>exact⟨k+1,aa,ai,cV⟩
   .have mK:=jx.out.own;have vw:=jx;have hbz:=jx.out.below.size;have hnb:((w3.alloc (.cells #[aA aK A1 A2,aB aK A3,aA aK A4 A5,az aJ A6,aA aK A7 A8,az aJ A9,aD false,aH none] 177)).alloc (.cells #[aH (some ⟨w3.heap.size,0,none⟩)] 175)).heap[w3.heap.size+1]?=some (.cells #[aH (some ⟨w3.heap.size,0,none⟩)] 175 (0,0)):=by
     have:=heap_alloc_new (w3.alloc (.cells #[aA aK A1 A2,aB aK A3,aA aK A4 A5,az aJ A6,aA aK A7 A8,az aJ A9,aD false,aH none] 177)) (.cells #[aH (some ⟨w3.heap.size,0,none⟩)] 175);simpa using this
    clear jx EA
    go_wp2_with (at_builtin;refine wpList_append_lies _ rfl (.tmp 36) (.tmp 40) 133 rfl w1.heap.size 175 i0 _ 1 8 underlying133 hi hz0 hz1 hz2 rfl ah u5 bs.length (bA bs) rfl (bB mK (λk hk=>(Below.heap_alloc _ _ _ (by have:=(bn mK k hk).2;simp;omega)).trans (Below.heap_alloc _ _ _ (bn mK k hk).2))) ⟨w3.heap.size+1,0,none⟩ 1 1 [aH (some ⟨w3.heap.size,0,none⟩)] rfl rfl (World.news_of_block (cs:= #[aH (some ⟨w3.heap.size,0,none⟩)]) (t:=175) (fr:=(0,0)) hnb) (by simp[Value.oneCell']) ah (by unfold maxLen;omega) aa (by have:=hbz;simp;omega) (w3.heap.size+2) af ?_;intro g' cap' w8 dM cI iN rN)
    have cV:Hid (∃bs',BS w1 (aG (some ⟨g',0,none⟩) (bs.length+1) cap') bs' ((Ps.take (k+1)).flatMap (gD r es)) w8/\bs'.length<=k+1):=by
     have e1:gD r es p=[p]:=by rw[MA.out];simp
     rw[<-HSC.out] at cI;rw[Mz.out,e1];exact⟨bs++[w3.heap.size],vw.out.snoc p _ cI dM iN,by rw[bY];simp;omega⟩
    clear cI dM iN hnb mK vw
    go_wp2_with fail
    go_roundg (gk-1)
    case measure=>omega
    case rel=>exact⟨k+1,aa,ai,cV⟩
   .have cV:Hid (∃bs,BS w1 u5 bs ((Ps.take (k+1)).flatMap (gD r es)) w3/\bs.length<=k+1):=by
     have e1:gD r es p=[]:=by rw[MA.out];simp
     rw[Mz.out,e1,qu];exact⟨bs,jx.out,aa⟩
    clear jx
    go_wp2_with fail
    go_roundg (gk-1)
    case measure=>omega
    case rel=>exact⟨k+1,aa,ai,cV⟩
  .have hk:k=Ps.length:=aa
   subst hk;have h1:=BR.out;rw[fO] at h1;have HC:=abt.out _ bs _ h1 aa
   have Hu:Hid (ak 108 #[u5,.func (.func 109) #[] #[]] wr λe w'=>e=aL (aI #[])/\Q u5 w'):=HC
   clear HC h1 BR abt Sp My BP Mx
   go_wp2_with fail
   refine Hu.out.mono ?_;rintro e w5 ⟨rfl,hQ⟩;have HQ:Hid (Q u5 w5):=hQ;clear hQ Hu
   go_wp2_with fail
   go_ret
   exact⟨_,rfl,HQ.out⟩
structure jy(w:aM)(b:Nat)(x:PB):Prop where
 c0:w.cell? ⟨b,0,none⟩=some (aA aK x.wa x.wb)
 c1:w.cell? ⟨b,1,none⟩=some (aB aK x.sh)
 c2:w.cell? ⟨b,2,none⟩=some (aA aK (aO aK x.f.1) (aO aK x.f.2.1))
 c3:w.cell? ⟨b,3,none⟩=some (az aJ x.f.2.2)
 c4:w.cell? ⟨b,4,none⟩=some (aA aK (aO aK x.t.1) (aO aK x.t.2.1))
 c5:w.cell? ⟨b,5,none⟩=some (az aJ x.t.2.2)
theorem jy.of{b:Nat}{x:PB}{wk:Bool}{ow:Option Addr}(h:w.heap[b]?=some (.cells (zC x wk ow) 177 (0,0))):jy w b x:=
 ⟨cell_of h 0,cell_of h 1,cell_of h 2,cell_of h 3,cell_of h 4,cell_of h 5⟩
theorem Sv(x y:PB)(hx:dX x)(hy:dX y)(b c:Nat)(w:aM)(h1:jy w b x)(h2:jy w c y):
  ak 109 #[aH (some ⟨b,0,none⟩),aH (some ⟨c,0,none⟩)] w λr w'=>r=aL (az aJ (cE x.f y.f))/\aj w w'/\w.drawn<=w'.drawn:=by
 have HC:Hid (∀w,ak 125 #[aC #[aA aK (aO aK x.f.1) (aO aK x.f.2.1),az aJ x.f.2.2],aC #[aA aK (aO aK y.f.1) (aO aK y.f.2.1),az aJ y.f.2.2]] w λr w'=>r=aL (az aJ (cE x.f y.f))/\aj w w'/\w.drawn<=w'.drawn):=λw=>GY x.f y.f hx.f.bu hy.f.bu hx.cf hy.cf w
 have a2:=h1.c2;have a3:=h1.c3;have d2:=h2.c2;have d3:=h2.c3;clear h1 h2 hx hy;generalize aO aK x.f.1=X1 at*;generalize aO aK x.f.2.1=X2 at*;generalize aO aK y.f.1=Y1 at*;generalize aO aK y.f.2.1=Y2 at*;generalize cE x.f y.f=R at*;generalize x.f.2.2=X3 at*;generalize y.f.2.2=Y3 at*
 go_enter func109,ntmps109
 go_wp2_with fail
 have hzb:b<w.heap.size:=lt_of_cell a2;have mZ:c<w.heap.size:=lt_of_cell d2
 go_region_held3 (λw'=>w'.cell? ⟨b,2,none⟩=some (aA aK X1 X2)/\w'.cell? ⟨b,3,none⟩=some (az aJ X3)/\w'.cell? ⟨c,2,none⟩=some (aA aK Y1 Y2)/\w'.cell? ⟨c,3,none⟩=some (az aJ Y3)) (go_keep) (first
   |(go_at_call 125;refine(HC.out _).mono ?_;rintro e w5 ⟨rfl,bg,H7⟩;have e0:=aS bg a2 hzb;have e1:=aS bg a3 hzb;have e2:=aS bg d2 mZ;have e3:=(aS bg d3 mZ)))
 all_goals
  have aW:aj w w5:=(Below.refl _ _).drew.trans bg;have HD:Hid (w.drawn<=w5.drawn):=fN (pI _) H7;clear bg H7
  go_wp2_with fail
  go_ret
  exact⟨rfl,aW,HD.out⟩
end
end Go.Proofs.YtkjhhooecopolaaGreatDoor
namespace Go.Proofs
open Tryz
open Value renaming int->az,complex->aA,float->aB,agg->aC,bool->aD,string->aF,slice->aG,pointer->aH,tuple->aI
open IntKind renaming i64->aJ
open FloatKind renaming f64->aK
open Ending renaming returned->aL
open Go renaming World->aM,Value->aN,floatOfInt->aO
open Go.Shelf
def Tryz.pdqSd_ren:Go.Shelf.Ren:=⟨fun |14=>163|20=>200|21=>201|22=>202|23=>203|24=>204|25=>205|26=>206|27=>207|46=>248|47=>249|48=>250|49=>251|50=>252|15=>164|57=>289|28=>208|29=>209|n=>n,fun |24=>175|22=>132|3=>3|25=>180|4=>4|0=>0|46=>274|45=>273|50=>70|66=>313|39=>238|55=>282|70=>317|76=>346|77=>172|53=>280|5=>5|9=>9|n=>n,fun |n=>n⟩
theorem Tryz.pdqSd:Go.Proofs.SlLaysF.n14 prog Tryz.pdqSd_ren:={
 mixed:=ag
 f14:=⟨Tryz.f163.name,ah,func163.trans (aZ some ag)⟩
 f15:=func164.trans (aZ some ag)
 f20:=⟨Tryz.f200.name,ah,func200.trans (aZ some ag)⟩
 f21:=⟨Tryz.f201.name,ah,func201.trans (aZ some ag)⟩
 f22:=⟨Tryz.f202.name,ah,func202.trans (aZ some ag)⟩
 f23:=⟨Tryz.f203.name,ah,func203.trans (aZ some ag)⟩
 f24:=⟨Tryz.f204.name,ah,func204.trans (aZ some ag)⟩
 f25:=⟨Tryz.f205.name,ah,func205.trans (aZ some ag)⟩
 f26:=⟨Tryz.f206.name,ah,func206.trans (aZ some ag)⟩
 f27:=⟨Tryz.f207.name,ah,func207.trans (aZ some ag)⟩
 f28:=func208.trans (aZ some ag)
 f29:=func209.trans (aZ some ag)
 f46:=⟨Tryz.f248.name,ah,func248.trans (aZ some ag)⟩
 f47:=func249.trans (aZ some ag)
 f48:=func250.trans (aZ some ag)
 f49:=⟨Tryz.f251.name,ah,func251.trans (aZ some ag)⟩
 f50:=⟨Tryz.f252.name,ah,func252.trans (aZ some ag)⟩
 f57:=⟨Tryz.f289.name,ah,func289.trans (aZ some ag)⟩
 t0:=underlying0
 a0:=isAgg0
 z0:=sizeOf0
 v0:=zeroValue0
 t3:=underlying3
 a3:=isAgg3
 z3:=sizeOf3
 v3:=zeroValue3
 t4:=underlying4
 a4:=isAgg4
 z4:=sizeOf4
 v4:=zeroValue4
 t5:=underlying5
 a5:=isAgg5
 z5:=sizeOf5
 v5:=zeroValue5
 t9:=underlying9
 a9:=isAgg9
 z9:=sizeOf9
 v9:=zeroValue9
 t22:=underlying132
 a22:=isAgg132
 z22:=sizeOf132
 v22:=zeroValue132
 a24:=isAgg175
 z24:=sizeOf175
 t25:=underlying180
 a25:=isAgg180
 z25:=sizeOf180
 v25:=zeroValue180
 t39:=underlying238
 a39:=isAgg238
 z39:=sizeOf238
 v39:=zeroValue238
 t45:=underlying273
 a45:=isAgg273
 z45:=sizeOf273
 v45:=zeroValue273
 t46:=underlying274
 a46:=isAgg274
 z46:=sizeOf274
 v46:=zeroValue274
 t50:=underlying70
 a50:=isAgg70
 z50:=sizeOf70
 v50:=zeroValue70
 t53:=underlying280
 a53:=isAgg280
 z53:=sizeOf280
 v53:=zeroValue280
 t55:=underlying282
 a55:=isAgg282
 z55:=sizeOf282
 v55:=zeroValue282
 t66:=underlying313
 a66:=isAgg313
 z66:=sizeOf313
 v66:=zeroValue313
 t70:=underlying317
 a70:=isAgg317
 z70:=sizeOf317
 v70:=zeroValue317
 t76:=underlying346
 a76:=isAgg346
 z76:=sizeOf346
 v76:=zeroValue346
 t77:=underlying172
 a77:=isAgg172
 z77:=sizeOf172
 v77:=zeroValue172}
end Go.Proofs
