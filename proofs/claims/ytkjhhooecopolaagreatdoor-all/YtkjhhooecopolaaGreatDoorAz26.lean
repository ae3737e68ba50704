import Derived.Test.YtkjhhooecopolaaGreatDoorAz25
import Derived.Test.YtkjhhooecopolaaGreatDoorProg
set_option maxRecDepth 100000
set_option maxHeartbeats 4000000
namespace Go.Proofs.YtkjhhooecopolaaGreatDoor
open Value renaming int->I,complex->A,agg->u,slice->D
open IntKind renaming i64->J
open FloatKind renaming f64->C
open Go renaming World->G,Value->Y
open Option renaming some->K,none->Z
open Bool renaming true->aP,false->aQ
namespace Gb
open N W
variable{n:N3}{a b:O}
theorem Dz{α:Type}(w:α->Int)(p q:α->Bool):∀(l:V α),dB w p (l.filter q)=dB w (λx=>q x&&p x) l
 |[]=>rfl
 |x::l=>by have a:=Dz w p q l;rw[mW];cases h:q x;grind;rw[wZ h,mW,a];simp
theorem wu{α:Type}(w:α->Int){p q:α->Bool}:∀{l:V α},(∀x∈l,w x≠0->p x=q x)->dB w p l=dB w q l
 |[],_=>rfl
 |x::l,h=>by rw[mW,mW,wu w λy b=>h y<|bW _ b];grind
def eN(n:N3)(a b:O):Prop:=(rl n a).1<=0/\0<(rl n b).1
theorem rU(h:eN n a b):kW n (a,b)=(rl n b).1-(rl n a).1/\kY n (a,b)= -L (rl n a) (rl n b)/\kS n (a,b)=(rl n b).2-(rl n a).2/\kW n (b,a)=(rl n b).1-(rl n a).1/\kY n (b,a)= -L (rl n a) (rl n b)/\kS n (b,a)=(rl n b).2-(rl n a).2:=by have c:¬((rl n b).1<=0/\0<(rl n a).1):=λk=>(by unfold eN at h;omega);refine⟨y h,y h,y h,?_,?_,?_⟩;exact(X c).trans (y h);exact(X c).trans (y h);exact(X c).trans (y h)
theorem Ip{e:O×O}(h:wt n e≠0):eN n e.1 e.2\/eN n e.2 e.1:=by by_cases a:(rl n e.1).1<=0/\0<(rl n e.2).1;exact j a;by_cases b:(rl n e.2).1<=0/\0<(rl n e.1).1;exact F b;exact absurd ((X a).trans<|X b) h
theorem Rh{e:O×O}(h:kY n e<0):eN n e.1 e.2\/eN n e.2 e.1:=by by_cases a:(rl n e.1).1<=0/\0<(rl n e.2).1;exact j a;by_cases b:(rl n e.2).1<=0/\0<(rl n e.1).1;exact F b;have:kY n e=0:=(X a).trans<|X b;omega
theorem zw(n:N3)(e:O×O):kW n (rv e)=kW n e/\kY n (rv e)=kY n e/\kS n (rv e)=kS n e:=by by_cases g:eN n e.1 e.2;obtain⟨a,b,c,d,k,f⟩:=rU g;exact⟨d.trans a.symm,k.trans b.symm,f.trans c.symm⟩;by_cases h:eN n e.2 e.1;obtain⟨a,b,c,d,k,f⟩:=rU h;exact⟨a.trans d.symm,b.trans k.symm,c.trans f.symm⟩;exact⟨((X h).trans<|X g).trans ((X g).trans<|X h).symm,((X h).trans<|X g).trans ((X g).trans<|X h).symm,((X h).trans<|X g).trans ((X g).trans<|X h).symm⟩
theorem zx(n:N3)(e a:O×O):bJ n (rv e) a=bJ n e a/\bJ n a (rv e)=bJ n a e:=by unfold bJ;rw[(zw n e).1,(zw n e).2.1,(zw n e).2.2];simp
theorem DA{x y:O×O}(b:kY n y<0)(h:bJ n y x=aQ):kY n x<0:=by
 have:¬_:=λk=>by rw[wh.2 k] at h;cases h
 have c:=oU n x;have d:=oU n y;have e:=(W.neg_mul (z:=kY n y) c).2 b;have a:=W.neg_mul (z:=kY n x) d;grind
theorem aec{f t:O}(h:eN n a b)(k:eN n f t)(R:L (dr (f,t)) (dr (f,a))=0)(j:L (dr (f,t)) (dr (f,b))=0)(_:0<n.2.2):bJ n (a,b) (f,t)=aQ/\bJ n (f,t) (a,b)=aQ:=by obtain⟨d,l,m,_⟩:=rU h;obtain⟨g,p,q,_⟩:=rU k;have e:∀u v:O,((rl n v).1-(rl n u).1=n.2.2*(dr (u,v)).1)/\((rl n v).2-(rl n u).2=n.2.2*(dr (u,v)).2):=λu v=>(by unfold rl rel dr;grind);have c:L (dr (f,t)) (dr (a,b))=0:=(by have:L (dr (f,t)) (dr (a,b))=L (dr (f,t)) (dr (f,b))-L (dr (f,t)) (dr (f,a)):=(by unfold L dr;grind);omega);have P:kS n (a,b)*kW n (f,t)=kS n (f,t)*kW n (a,b):=(by rw[d,m,g,q,(e a b).1,(e a b).2,(e f t).1,(e f t).2];unfold L at c;grind);have Q:kY n (a,b)*kW n (f,t)=kY n (f,t)*kW n (a,b):=(by rw[d,l,g,p,(e a b).1,(e f t).1];have r:L (rl n a) (rl n b)=n.2.2*L (rl n a) (dr (a,b)):=(by have:L (rl n a) (rl n b)=(rl n a).1*((rl n b).2-(rl n a).2)-(rl n a).2*((rl n b).1-(rl n a).1):=(by unfold L;grind);rw[this,(e a b).1,(e a b).2];unfold L;grind);have s:L (rl n f) (rl n t)=n.2.2*L (rl n f) (dr (f,t)):=(by have:L (rl n f) (rl n t)=(rl n f).1*((rl n t).2-(rl n f).2)-(rl n f).2*((rl n t).1-(rl n f).1):=(by unfold L;grind);rw[this,(e f t).1,(e f t).2];unfold L;grind);have x:L (rl n a) (dr (f,t))=L (rl n f) (dr (f,t)):=(by have:L (rl n a) (dr (f,t))-L (rl n f) (dr (f,t))=((rl n a).1-(rl n f).1)*(dr (f,t)).2-((rl n a).2-(rl n f).2)*(dr (f,t)).1:=(by unfold L;grind);rw[(e f a).1,(e f a).2] at this;have w:n.2.2*(dr (f,a)).1*(dr (f,t)).2-n.2.2*(dr (f,a)).2*(dr (f,t)).1= -(n.2.2*L (dr (f,t)) (dr (f,a))):=(by unfold L;grind);grind);have B:L (rl n a) (dr (a,b))*(dr (f,t)).1=L (rl n a) (dr (f,t))*(dr (a,b)).1:=(by have:L (rl n a) (dr (a,b))*(dr (f,t)).1-L (rl n a) (dr (f,t))*(dr (a,b)).1=(rl n a).1*L (dr (f,t)) (dr (a,b)):=(by unfold L;grind);grind);grind);unfold bJ;grind
theorem Ri{x y z:O×O}(b:bJ n x y=aQ)(c:bJ n y x=aQ):bJ n z x=bJ n z y/\bJ n x z=bJ n y z:=by have a:=rJ n;constructor;refine ke.2 ⟨λk=>?_,λk=>?_⟩;grind;grind;refine ke.2 ⟨λk=>?_,λk=>?_⟩;grind;grind
theorem hts{rg:V (V O)}(d:0<n.2.2)(h:eN n a b)(l:kV (o rg) (n1 a) (n1 b)):
  RR (o rg) (n1 a) (n1 b)=dB (wt n) (λe=>bJ n e (a,b)) (o rg)/\LL (o rg) (n1 a) (n1 b)=dB (wt n) (λe=> !bJ n (a,b) e) (o rg):=by obtain⟨m,p,q,_⟩:=rU h;have c:∀z:O,(wv n<|n1 z).1=(rl n z).1:=λz=>(by unfold wv rl rel n1;simp);have k:0<(wv (n1 a)<|n1 b).1:=(by rw[ko];have:(rl n b).1-(rl n a).1=n.2.2*(dr (a,b)).1:=(by unfold rl rel dr;grind);unfold eN at h;exact(bI d).1 U);have f:=QF (a:=a) (b:=b) d (show(0:Int)<1 by decide) (show(0:Int)<1 by decide) h.1 h.2 (by rw[c];exact h.1) (by rw[c];exact h.2) k (by unfold lam;rw[eG,(mU (s:=(a,a))).2 rfl];exact(vJ _).2.1) (by unfold lam;rw[eG,ko];unfold L;grind);rw[<-m,<-p,<-q] at f;obtain⟨g,v⟩:=QJ (e0:=(a,b)) d l f (by rw[c];exact h.1) (by rw[c];exact h.2);refine⟨g,?_⟩;have e:LL (o rg) (n1 a) (n1 b)=RR (o rg) (n1 a) (n1 b)+total (fb (bo (n1 a)<|n1 b)<|wv (n1 a)<|n1 b) (o rg):=rfl;rw[e,g,v];refine(t7 _ λx _=>?_).symm;cases r:bJ n x (a,b)<;>cases t:bJ n (a,b) x;rfl;rfl;rfl;have:=rI n _ _ _ r t;rw[wi] at this;grind
section
variable{rg:V (V O)}{l:V Nd}
theorem aed(d:bZ (o rg) l){bm:Int->Bool}{n:Nd}(I:n∈l)(H:bm (PP (o rg) n)=aP){a b:Nd}(hs:Sd (o rg) l bm a b)(hc:eN (n1<|PM (aZ l) n) (PM (aZ l) b) (PM (aZ l) a))(hy:kY (n1<|PM (aZ l) n) (PM (aZ l) b,PM (aZ l) a)<0):
  ∃f t,Sd (o rg) l bm f t/\eN (n1<|PM (aZ l) n) (PM (aZ l) f) (PM (aZ l) t)/\kY (n1<|PM (aZ l) n) (PM (aZ l) f,PM (aZ l) t)<0/\bJ (n1<|PM (aZ l) n) (PM (aZ l) b,PM (aZ l) a) (PM (aZ l) f,PM (aZ l) t)=aP:=by obtain⟨r,h⟩:=bZ.ok d;have J:0<(n1<|PM (aZ l) n).2.2:=(by show(0:Int)<1;decide);have Q:∀{x y:Nd},x∈l->y∈l->(eN (n1<|PM (aZ l) n) (PM (aZ l) x) (PM (aZ l) y)↔(wv n x).1<=0/\0<(wv n y).1):=λ{x y} hx hy=>(by obtain⟨p,q,hp,hq,e1,_⟩:=iN r (h n I)<|h x hx;obtain⟨p',q',K,M,A,_⟩:=iN r (h n I)<|h y hy;have g1:=gC hp hq e1;have g2:=gC K M A;unfold eN;rw[eG,eG];omega);have B:dJ (o rg) l b a/\bm (LL (o rg) b a)=aQ:=(by obtain⟨_,Z,hbl⟩:=fZ d hs.pc;have hw:=(Q hbl Z).1 hc;rcases hs with⟨q,_⟩|⟨q,q1,q2⟩;exfalso;have hr:=(q.facts d).2.2;have ca:=(d.can a Z).pos;have cb:=(d.can b hbl).pos;obtain⟨m1,_⟩:=Do n a b;have cn:=(d.can n I).pos;have h1:n.2.2*(wv a b).1<0:=(by have x1:=LU hw.1 ca;have x2:=bD hw.2 cb;grind);have:=(W.neg_mul (z:=(wv a b).1) cn).1 h1;have:=tO hr;omega;grind);obtain⟨B,S⟩:=B;obtain⟨e1,e2⟩:=Rb d B;obtain⟨r1,r2⟩:=hts J hc<|Io d B;rw[<-e2,r2] at S;rw[<-Q8 r<|h n I,<-Dx r,Dp] at H;generalize hE:o (rg.map (·.map (cK<|aZ l)))=E at*;generalize X:n1 (PM (aZ l) n)=N at*;generalize hV:((PM (aZ l) b,PM (aZ l) a):O×O)=c at*;have k1:dB (wt N) (λe=>decide (kY N e<0)) E=dB (wt N) (λe=> !bJ N c e) E+dB (wt N) (λe=>decide (kY N e<0)) (E.filter λe=>bJ N c e):=(by rw[Dz];refine t7 _ λx _=>?_;cases q:bJ N c x;rw[ff<|DA hy q];rfl;cases decide (kY N x<0)<;>rfl);rw[k1] at H;obtain⟨z,hz,hT,hb,ha⟩:=QB (rI N) (wi N) (rJ N) (wt N) (λk=>bm<|dB (wt N) (λe=> !bJ N c e) E+k) (by grind) (E.filter λe=>bJ N c e) _ (λe=>decide (kY N e<0)) (λx y hy hyx=>ff<|DA (ft hy) hyx) (aX _) H;obtain⟨hzE,C⟩:=et.1 hz;have Y:=ft hT;have k2:dB (wt N) (λe=>bJ N e z) E=dB (wt N) (λe=> !bJ N c e) E+dB (wt N) (λe=>bJ N e z) (E.filter λe=>bJ N c e):=(by rw[Dz];refine t7 _ λx _=>?_;cases q:bJ N c x;rcases rJ N c z x C with w|w;rw[w];rfl;grind;cases bJ N x z<;>rfl);have k3:dB (wt N) (λe=> !bJ N e z&& !bJ N z e) (E.filter λe=>bJ N c e)=dB (wt N) (λe=> !bJ N e z&& !bJ N z e) E:=(by rw[Dz];refine Dm _ λx _=>?_;cases q:bJ N c x;rcases rJ N c z x C with w|w;grind;grind;rfl);rw[<-k2] at hb;rw[k3,<-Int.add_assoc,<-k2] at ha;have tx:z∈lh (aZ l) (o rg):=(by rw[<-Dx r,hE];omega);obtain⟨m,hz0,P⟩:=bA.1 tx;have T:∀u v:O,eN N (cK (aZ l) u) (cK (aZ l) v)↔(rl n u).1<=0/\0<(rl n v).1:=λu v=>(by obtain⟨p,q,hp,hq,e1,_⟩:=acl r (h n I) u;obtain⟨p',q',K,M,A,_⟩:=acl r (h n I) v;have g1:=gC hp hq e1;have g2:=gC K M A;unfold eN;grind);obtain⟨u,v,huv,R⟩:∃u v,((u=m.1/\v=m.2)\/(u=m.2/\v=m.1))/\eN N (cK (aZ l) u) (cK (aZ l) v):=(by rcases Rh Y with q|q;grind;grind);have i:=(T u v).1 R;obtain⟨f,t,s,g1,g2,g3,la,lb⟩:=QE d I hz0 huv i.1 i.2;obtain⟨G,htl,_⟩:=s.facts d;have D:eN N (PM (aZ l) f) (PM (aZ l) t):=(by grind);have p0:=iN r (h f G)<|h t htl;have ql:∀w,lam (wv f t) f w=0->L (dr (PM (aZ l) f,PM (aZ l) t)) (dr (PM (aZ l) f,cK (aZ l) w))=0:=λw hw=>(by have:=acl r (h f G) w;rw[eG] at this;exact(p0.L this).2.2.2 hw);obtain⟨s1,s2⟩:=aec R D (ql u la) (ql v lb) J;have g:bJ N z (PM (aZ l) f,PM (aZ l) t)=aQ/\bJ N (PM (aZ l) f,PM (aZ l) t) z=aQ:=(by rcases huv with⟨rfl,rfl⟩|⟨rfl,rfl⟩;grind;have e:z=rv (cK (aZ l) m.2,cK (aZ l) m.1):=(by rw[<-P];rfl);rw[e,(zx N _ _).1,(zx N _ _).2];grind);have hP:=Io d s;obtain⟨i1,i2⟩:=Rb d s;obtain⟨j1,j2⟩:=hts J D (by rw[hE] at hP⊢;exact hP);rw[hE] at i1 i2 j1 j2;have cg:∀x,bJ N x (PM (aZ l) f,PM (aZ l) t)=bJ N x z/\bJ N (PM (aZ l) f,PM (aZ l) t) x=bJ N z x:=λx=>⟨(Ri g.1 g.2).1.symm,(Ri g.1 g.2).2.symm⟩;refine⟨f,t,j ⟨s,?_,?_⟩,D,DA Y g.1,?_⟩;rw[<-i2,j2];have:dB (wt N) (λe=> !bJ N (PM (aZ l) f,PM (aZ l) t) e) E=dB (wt N) (λe=>bJ N e z) E+dB (wt N) (λe=> !bJ N e z&& !bJ N z e) E:=(by refine t7 _ λx _=>?_;rw[(cg x).2];cases q1:bJ N x z<;>cases q2:bJ N z x;rfl;rfl;rfl;have:=rI N _ _ _ q1 q2;rw[wi] at this;grind);grind;rw[<-i1,j1,Dm _ λx _=>(cg x).1];exact hb;grind
end
section
variable{ν:Type}{f:Nat->ν}{m:Nat}
theorem aef(f:Nat->ν)(i:Nat)(a:V Nat×V (V Nat)):∃b,rH f i a b:=by
 by_cases h:∀o∈a.1++[i],f o≠f (i+1);exact⟨_,j ⟨h,rfl⟩⟩
 .have r:∀L:V Nat,¬(∀o∈L,f o≠f (i+1))->∃g d c,L=g++d::c/\f d=f (i+1)/\∀o∈g,f o≠f (i+1):=by
   intro L;induction L with
   |nil=>grind
   |cons x L s=>
    intro k;by_cases p:f x=f (i+1)
    .exact⟨[],x,L,rfl,p,E⟩
    .obtain⟨g,d,c,e,m,n⟩:=s (λw=>k λo l=>by
      grind)
     grind
  obtain⟨g,d,c,e,m,n⟩:=r _ h;exact⟨_,F ⟨g,d,c,e,m,n,rfl⟩⟩
theorem aeg(f:Nat->ν):∃a:Nat->V Nat×V (V Nat),a 0=([],[])/\∀i,rH f i (a i) (a<|i+1):=by obtain⟨F,c⟩:=Classical.axiomOfChoice (r:=λ(p:Nat×(V Nat×V (V Nat))) b=>rH f p.1 p.2 b) λp=>aef f p.1 p.2;exact⟨λi=>Nat.rec ([],[]) (λi s=>F (i,s)) i,rfl,λi=>c (i,_)⟩
end
section
variable{S:V w}{nx:w->w}
theorem Wd.aeh(h:Wd S nx){s:w}(a:s∈S){m:Nat}(b:vZ nx s m){i:Nat}(r:i<m):∃R,abc S nx R/\it nx i s∈R/\∀u∈R,∃j,j<m/\u=it nx j s:=by
 obtain⟨l,n,f⟩:=aeg<|λi=>(it nx i s).1;obtain⟨_,t,q⟩:=parted (h.nc a b) (λj k e=>by
  rw[h.oa a] at e;exact h.ne _ (h.abh a j) e) (by show(it nx m s).1=s.1;rw[b.per]) l n (λi _=>f i)
 have:i∈(l m).2.flatten:=t.mem_iff.2<|gV.2 r;obtain⟨D,p,c⟩:=pG.1 this;obtain⟨d,g⟩:=q D p;refine⟨D.map λj=>it nx j s,g.ring h a b,bA.2 ⟨i,c,rfl⟩,λu v=>?_⟩;obtain⟨j,k,rfl⟩:=bA.1 v;exact⟨j,g.lt j k,rfl⟩
theorem aei{A B:V w}{u:w}:u∈B++A↔u∈A++B:=by grind
theorem Wd.aej(h:Wd S nx){s:w}(hs:s∈S){m:Nat}(hc:vZ nx s m)(hl:∀i,i<m->ge s.1 (it nx i s).1)(hno:∀R,LR S nx R->(∃i,i<m/\it nx i s∈R)->¬shl R){es:V w}(hcl:Cl es)(hi:In S es):Lf es s=PP es (n1 s.1):=by
 have hm:=hc.pos;obtain⟨o,hz0,hT,hmax⟩:=wg (lt:=λx y=>nz (dr<|it nx x s)&&nz (dr<|it nx y s)&&bf (neg<|dr<|it nx y s) (neg<|dr<|it nx x s)) (λx y z Y h2=>by
   simp only[jl] at Y h2⊢;have k:∀d,nz d=aP->neg d≠(0,0):=λd q=>iz (by unfold nz at q;grind);exact⟨⟨Y.1.1,h2.1.2⟩,gA (k _ h2.1.2) (k _ Y.1.2) (k _ Y.1.1) h2.2 Y.2⟩) (λx=>by rw[mP];simp) (λi=>decide ((it nx i s).2=s.1)) (List.range m) _ (m-1) (gV.2 U) (by
   refine ff ?_;rw[<-h.oa hs,show m-1+1=m by omega,hc.per]) (aX _)
 have alV:=gV.1 hz0;have Q:(it nx o s).2=s.1:=ft hT;have p:=h.abh hs o;have low:∀i,i<m->(it nx i s).2=s.1->bf (neg<|dr<|it nx i s) (neg<|dr<|it nx o s)=aQ:=λi hi e=>(by have:=hmax i (gV.2 hi)<|ff e;rw[rG<|h.aaT p,rG<|h.aaT<|h.abh hs i] at this;grind);generalize hb:it nx o s=b at*;obtain⟨haS,G⟩:=h.tX b p;have hda:=h.aaT haS;have O:=iz<|h.aaT p;have hsm:=h.two _ haS _ p G;have hwrap:bf (neg<|dr b) (dr<|nx b)=aP:=(by apply gP;intro hk;have hab:bf (dr<|nx b) (neg<|dr b)=aP:=(by have t:=ik hda O;grind);have hnb:∃i,i<m/\it nx i s=nx b:=(by by_cases e:o+1<m;exact⟨o+1,e,by show nx (it nx o s)=_;rw[hb]⟩;refine⟨0,hm,?_⟩;have:it nx (o+1) s=s:=(by rw[show o+1=m by omega];exact hc.per);have n:nx (it nx o s)=s:=this;rw[hb] at n;exact n.symm);obtain⟨i,him,ty⟩:=hnb;obtain⟨R,hR,hiR,hRw⟩:=h.aeh hs hc him;obtain⟨f,B,e,P⟩:=hR.Qs;have v:∀l,l∈B++f↔l∈R:=λl=>(by grind);obtain⟨a,z,r,X⟩:=jL P.ring.ne;have hai:a∈B++f:=(by cases hq:B++f with|nil=>grind|cons c T=>grind);have L:a=nx b:=(by have m1:nx b∈B++f:=(v _).2 (by grind);have g1:=P.least a r _ m1;obtain⟨g,hj,ej⟩:=hRw a<|(v a).1 hai;have g2:=hl g hj;rw[<-ej] at g2;rw[G,Q] at g1;have ef:a.1=(nx b).1:=(by rw[G,Q];exact(tY g2 g1).symm);apply gP;intro hne;obtain⟨x,hx,ex⟩:=ig.1 hai;obtain⟨y,hy,ey⟩:=ig.1 m1;have pw:=jm.1 P.ring.iA;grind);obtain⟨M,hg⟩:=P.rg h r X;refine hno (B++f) P ⟨i,him,(v _).2 hiR⟩ ⟨a,z,r,X,?_⟩;have hzR:z∈B++f:=oD X;obtain⟨g,hj,ej⟩:=hRw z<|(v z).1 hzR;have hz2:z.2=s.1:=(by rw[hg.z2,L,G,Q]);have N:=low g hj (by grind);rw[<-ej] at N;have hdz:=iz<|h.aaT hg.mz;have haz:bf (dr a) (neg<|dr z)=aP:=(by rw[L];have t:=ik hdz O;rw[N] at t;cases q1:bh (neg<|dr z) (neg<|dr b);cases q2:bf (neg<|dr b) (neg<|dr z);grind;exact gA hda O hdz hab q2;rw[De q1];omega);have DB:=hg.yZ h;have hrz:=hg.za h;rw[kX] at haz;rcases haz with⟨_,q⟩|⟨_,q⟩;grind;rw[e9,da] at q;omega);have hLb:Lf es s=Lf es b:=(by rw[<-hb];exact(h.along hcl hi hs<|ze nx s o).symm);rw[hLb,(h.at_end hcl hi p).1,Q];unfold dA;have z1:W.AS es (n1 s.1) (λz=>nz z&&bf z (neg<|dr b))=0:=(by rw[vN (Q':=λ_=>aQ) (by simp[nz])<|λz hz=>?_,G5];have hz':=hz;rw[<-Q] at hz';obtain⟨l,hu,k⟩:=h.arm hi p hz';cases q:bf z (neg<|dr b);simp;exfalso;have H:cw (neg<|dr b) z (dr<|nx b)=aP:=kk.2<|F<|j ⟨q,hwrap⟩;rcases k with⟨k1,rfl⟩|⟨k1,rfl⟩;rw[h.w1 b p l hu k1] at H;cases H;rw[h.w2 b p l hu k1] at H;cases H);omega
end
theorem Rm{s t:w}(B:Pf s t)(h:bF (dr s))(c:0<n.2.2)(r:on (rl n s.1) (rl n s.2)=aP)(v:on (rl n t.1) (rl n t.2)=aP)(x:L (dr s) (dr t)≠0):rl n s.1=(0,0)\/rl n s.2=(0,0):=by apply gP;intro d;have P:rl n s.1≠(0,0):=λq=>d<|j q;have Q:rl n s.2≠(0,0):=λq=>d<|F q;obtain⟨R,S⟩:=(hJ _ _).1 r;have:=W.dI P;have:=W.dI Q;have k:wv (n1 s.1) n=neg (rl n s.1):=(by unfold wv n1 rl rel neg;grind);have l:wv n (n1 s.2)=rl n s.2:=(by unfold wv n1 rl rel;simp);have:n.2.2*L (dr s) (neg<|rl n s.1)=L (rl n s.1) (rl n s.2):=(by unfold L dr neg rl rel;grind);have:n.2.2*i (dr s) (neg<|rl n s.1)=i (rl n s.1) (rl n s.1)-i (rl n s.1) (rl n s.2):=(by unfold i dr neg rl rel;grind);have:n.2.2*L (dr s) (rl n s.2)= -L (rl n s.1) (rl n s.2):=(by unfold L dr rl rel;grind);have:n.2.2*i (dr s) (rl n s.2)=i (rl n s.2) (rl n s.2)-i (rl n s.1) (rl n s.2):=(by unfold i dr rl rel;grind);have m:apN (n1 s.1) n (dr s):=(by refine lK h ?_ ?_;rw[k];exact(dz c).1 U;rw[k];exact(bI c).1 U);have p:apN n (n1 s.2) (dr s):=(by refine lK h ?_ ?_;rw[l];exact(dz c).1 U;rw[l];exact(bI c).1 U);obtain⟨f,g⟩:=vI (show(0:Int)<1 by decide) (show(0:Int)<1 by decide) c B.fs m p;obtain⟨b,e⟩:=(hJ _ _).1 v;have:L (dr s) (rl n t.2)-L (dr s) (rl n t.1)=n.2.2*L (dr s) (dr t):=(by unfold L dr rl rel;grind);have:n.2.2*L (dr s) (dr t)≠0:=λq=>x<|(dz c).1 q;unfold lam at f g;rcases dG (L (dr s)<|rl n t.1) 0 with q|q|q;exact f U ((rB b q).1 e) (by have:=(rB b q).1 e;omega) b;omega;exact g ((CP b q).1 e) U (by have:=(CP b q).1 e;omega) b
section
variable{S:V w}{nx:w->w}
theorem Wd.meet(h:Wd S nx){s t:w}(c:s∈S)(g:t∈S){n:N3}(f:0<n.2.2)(d:on (rl n s.1) (rl n s.2)=aP)(e:on (rl n t.1) (rl n t.2)=aP)(k:L (dr s) (dr t)≠0):rl n s.1=(0,0)\/rl n s.2=(0,0):=by by_cases a:bF (dr s);exact Rm ((h.pf s c t g).1 a) a f d e k;have b:bF (dr<|rv s):=(by rw[mS];exact fN (h.aaT c) a);exact(Rm (s:=rv s) ((h.pf s c t g).2 a) b f (by rw[oR];exact d) e (by rw[mS,e8];omega)).symm
variable{RL:V (V w)}
theorem Rn{n:N3}(_:0<n.2.2){v z:O}(h:rl n v=(0,0)):rl n z=(n.2.2*(dr (v,z)).1,n.2.2*(dr (v,z)).2):=by have a:=bd Prod.fst h;have b:=bd Prod.snd h;unfold rl rel at a b;unfold rl rel dr;grind
theorem Ro{n:N3}(a:0<n.2.2){v:O}(h:rl n v=(0,0)){p q:O}(b:on (rl n p) (rl n q)=aP):on (dr (v,p)) (dr (v,q))=aP:=by have k:∀z,Pm (dr (v,z)) (rl n z):=λz=>⟨n.2.2,1,a,ae,by rw[Rn a h];simp,by rw[Rn a h];simp⟩;rw[Pm.on (k p)<|k q];exact b
end
end Gb
section
open Go.RowKit
variable{n i j:Nat}
structure Ch(nx:Nat->Nat)(mk:Nat->Bool)(n i:Nat)(A:V Nat)(j:Nat):Prop where
 head:∀a,A[0]?=K a->a=i
 nil:A=[]->j=i
 step:∀(t a b:Nat),A[t]?=K a->A[t+1]?=K b->b=nx a
 last:∀a,A.getLast?=K a->j=nx a
 nd:A.Nodup
 free:∀a∈A,a<n/\mk a=aQ
theorem Ch.snoc{nx:Nat->Nat}{mk:Nat->Bool}{A:V Nat}(h:Ch nx mk n i A j)(q:j<n)(g:(mk j||A.contains j)=aQ):Ch nx mk n i (A++[j]) (nx j):=by have k:mk j=aQ:=(by grind);have l:j∉A:=(by grind);refine⟨λa c=>?_,λp=>by simp at p,λt a b c d=>?_,λa c=>?_,?_,λa c=>?_⟩;(cases A with|nil=>have:j=a:=(by grind);rw[<-this];exact h.nil rfl|cons x r=>exact h.head a<|by grind);by_cases v:t+1<A.length;rw[dQ U] at c;rw[dQ v] at d;exact h.step t a b c d;have f:t+1=A.length:=(by grind);have m:b=j:=(by simp_all);rw[m];refine h.last a ?_;rw[dQ U] at c;rw[lA,<-f];exact c;grind;rw[wY];refine⟨h.nd,E,λa c b d=>?_⟩;grind;rcases dm.1 c with c|c;exact h.free a c;grind
theorem Sk{nx:Nat->Nat}{mk:Nat->Bool}{n i:Nat}(e:∀j,j<n->nx j<n):∀(m:Nat)(a:V Nat)(j:Nat),Ch nx mk n i a j->j<n->iB n mk a<=m->∃b,Ch nx mk n i (fp nx mk m a j) b/\b<n/\(mk b||(fp nx mk m a j).contains b)=aP
 |0,a,j,h,c,f=>by refine⟨j,h,c,?_⟩;show(mk j||a.contains j)=aP;cases d:(mk j||a.contains j);have:=DE c d;omega;rfl
 |m+1,a,j,h,c,f=>by show ∃b,Ch nx mk n i (if mk j||a.contains j then a else fp nx mk m (a++[j]) (nx j)) b/\b<n/\(mk b||(if mk j||a.contains j then a else fp nx mk m (a++[j]) (nx j)).contains b)=aP;cases d:(mk j||a.contains j);have:=DE c d;simp only[jD,kf];exact Sk e m (a++[j]) (nx j) (h.snoc c d) (e j c) U;grind
structure jZ(nx:Nat->Nat)(mk:Nat->Bool)(n i:Nat)(L:V Nat):Prop where
 head:L[0]?=K i
 step:∀(t a b:Nat),L[t]?=K a->L[t+1]?=K b->b=nx a
 back:∀a,L.getLast?=K a->nx a=i
 nd:L.Nodup
 free:∀a∈L,a<n/\mk a=aQ
theorem Sl{nx:Nat->Nat}{mk:Nat->Bool}(Q:∀j,j<n->nx j<n)(m:∀a b,a<n->b<n->nx a=nx b->a=b)(P:∀j,j<n->mk (nx j)=mk j)(H:i<n)(M:mk i=aQ):jZ nx mk n i (fp nx mk n [] i):=by have y:Ch nx mk n i [] i:=⟨λa h=>by grind,λ_=>rfl,λt a b h=>by simp,λa h=>by grind,VU,λa h=>by grind⟩;obtain⟨j,c,O,d⟩:=Sk Q n [] i y H (qw _ _ _);generalize fp nx mk n [] i=L at*;have q:L≠[]:=(by intro h;have:=c.nil h;grind);have p:0<L.length:=fT.2 q;obtain⟨z,g⟩:∃z,L.getLast?=K z:=⟨_,KD q⟩;have k:=c.last z g;have R:z∈L:=oD g;have l:=c.free z R;have s:j∈L:=(by grind);have x:j=i:=(by obtain⟨t,N,B⟩:=ig.1 s;have f:L[t]?=K j:=(by grind);cases t with|zero=>exact c.head j f|succ t=>exfalso;obtain⟨a,e⟩:∃a,L[t]?=K a:=⟨_,be U⟩;have v:=c.step t a j e f;have r:=bB e;have S:z=a:=m z a l.1 (c.free a r).1<|k.symm.trans v;rw[lA] at g;have o:=(bX.1 g).2;have w:=(bX.1 e).2;have F:=VQ c.nd (L.length-1) U;have G:=VQ c.nd t U;grind);refine⟨?_,c.step,λa e=>?_,c.nd,c.free⟩;obtain⟨a,e⟩:∃a,L[0]?=K a:=⟨_,be p⟩;rw[e,c.head a e];grind
theorem jZ.Sm{nx:Nat->Nat}{mk:Nat->Bool}{L:V Nat}(h:jZ nx mk n i L)(d:j∈L):nx j∈L:=by obtain⟨t,c,a⟩:=ig.1 d;by_cases b:t+1<L.length;have:=h.step t j L[t+1] (by grind) (be b);grind;have:nx j=i:=h.back j (by grind);rw[this];exact bB h.head
theorem jZ.afd{nx:Nat->Nat}{mk:Nat->Bool}{L:V Nat}(h:jZ nx mk n i L)(c:∀a b,a<n->b<n->nx a=nx b->a=b)(d:j<n)(r:nx j∈L):j∈L:=by
 obtain⟨t,l,e⟩:=ig.1 r;cases t with
 |zero=>
  have f:0<L.length:=l;obtain⟨z,q⟩:∃z,L.getLast?=K z:=⟨_,KD<|fT.1 f⟩;have m:=h.back z q;have k:L[0]?=K (nx j):=by grind
  rw[h.head] at k;injection k with k;have g:=oD q;rw[c j z d (h.free z g).1<|k.symm.trans m.symm];exact g
 |succ t=>
  have:=h.step t L[t] (nx j) (be U) (by grind);have p:L[t]∈L:=eo _;rw[c j L[t] d (h.free _ p).1 this];exact p
theorem jZ.closed{nx:Nat->Nat}{mk:Nat->Bool}{L:V Nat}(h:jZ nx mk n i L)(c:∀a b,a<n->b<n->nx a=nx b->a=b)(e:∀j,j<n->mk (nx j)=mk j):∀j,j<n->(mk (nx j)||L.contains (nx j))=(mk j||L.contains j):=by intro j f;rw[e j f];congr 1;cases d:L.contains j;cases g:L.contains (nx j);rfl;rw[mK.2<|h.afd c f<|mK.1 g] at d;cases d;exact mK.2 (h.Sm<|mK.1 d)
end
section
open Go.RowKit
open N
theorem DK{P:Nat->Bool}:∀(l:V Nat)(k:Nat),(fq P l k= -1/\∀x∈l,P x=aQ)\/∃(R x:Nat),fq P l k=((k+R:Nat):Int)/\l[R]?=K x/\P x=aP/\∀(t y:Nat),t<R->l[t]?=K y->P y=aQ
 |[],_=>j ⟨rfl,λx h=>by grind⟩
 |a::l,k=>by show((if P a then(k:Int) else fq P l (k+1))= -1/\_)\/∃(R x:Nat),(if P a then(k:Int) else fq P l (k+1))=((k+R:Nat):Int)/\_;cases d:P a;simp only[jD,kf];rcases DK (P:=P) l (k+1) with⟨b,c⟩|⟨R,x,b,c,m,n⟩;grind;refine F ⟨R+1,x,by omega,by grind,m,λt y p g=>?_⟩;grind;simp only[jk];exact F ⟨0,a,rfl,rfl,d,λt y p=>U⟩
theorem wD(Xs:V PB)(O:V Nat)(s:Nat):(iX Xs O s<0/\∀b∈O,(xi Xs b).f≠(xi Xs s).t)\/∃(R x:Nat),iX Xs O s=(R:Int)/\O[R]?=K x/\(xi Xs x).f=(xi Xs s).t/\∀(t y:Nat),t<R->O[t]?=K y->(xi Xs y).f≠(xi Xs s).t:=by have e:iX Xs O s=fq (iW Xs s) O 0:=rfl;rw[e];have a:∀b v,iW Xs s b=v->v=decide ((xi Xs s).t=(xi Xs b).f):=λb v h=>h.symm;rcases DK (P:=iW Xs s) O 0 with⟨g,c⟩|⟨R,x,g,c,k,l⟩;grind;grind
section
variable{rg:V (V O)}{l:V Nd}{r:Int}{Xs:V PB}
abbrev eB(Xs:V PB)(i:Nat):O:=W.wv (xi Xs i).f (xi Xs i).t
theorem SX.ne(h:SX rg l r Xs){i:Nat}(a:i<Xs.length):eB Xs i≠(0,0):=(W.fZ h.nl (h.sd a).pc).1
theorem SX.fl(h:SX rg l r Xs){i:Nat}(a:i<Xs.length):(xi Xs i).f∈l/\(xi Xs i).t∈l:=(W.fZ h.nl (h.sd a).pc).2
theorem SX.straight(h:SX rg l r Xs){i j:Nat}(g:i<Xs.length)(k:j<Xs.length)(a:(xi Xs j).f=(xi Xs i).t)(c:fn (xi Xs j) (xi Xs i)=0):W.bh (eB Xs i) (eB Xs j)=aP:=by
 have m:=h.sd g;have d:=h.sd k;rw[a] at d;rw[rT] at c;have b:=pC.1 c;have:=m.straight h.nl d (by
  have e:=W.da (W.wv (xi Xs j).f (xi Xs j).t) (W.wv (xi Xs i).f (xi Xs i).t);grind)
 grind
def jh(Xs:V PB)(A:V Nat):Prop:=∀(t a b:Nat),A[t]?=K a->A[t+1]?=K b->(xi Xs b).f=(xi Xs a).t
theorem jh.tail{a:Nat}{A:V Nat}(h:jh Xs (a::A)):jh Xs A:=λt x y b c=>h (t+1) x y (by grind)<|by grind
theorem jh.drop{A:V Nat}(h:jh Xs A)(R:Nat):jh Xs (A.drop R):=λt x y a b=>h (R+t) x y (by grind) (by grind)
theorem jh.take{A:V Nat}(h:jh Xs A)(R:Nat):jh Xs (A.take R):=λt x y a b=>by
 rw[jb] at a b;split at a
 .split at b
  .exact h t x y a b
  .cases b
 .cases a
theorem afe{b s:Nat}{A:V Nat}(h:tI Xs b (s::A)=[]):fn (xi Xs s) (xi Xs b)=0/\tI Xs s A=[]:=by have c:=h;obtain⟨a,d⟩:=List.append_eq_nil_iff.1 c;grind
theorem SX.Dl(h:SX rg l r Xs){i:Nat}(d:i<Xs.length):(W.bF (eB Xs i)->lt (T (xi Xs i).f) (T (xi Xs i).t))/\(¬W.bF (eB Xs i)->lt (T (xi Xs i).t) (T (xi Xs i).f)):=by obtain⟨e,g⟩:=h.fl d;have b:=h.nl.can _ e;have c:=h.nl.can _ g;refine⟨λa=>(W.kZ b c).2 a,λa=>(W.kZ c b).2 ?_⟩;rw[W.eI (xi Xs i).f];exact W.fN (h.ne d) a
theorem SX.mono(h:SX rg l r Xs):∀(c:V Nat)(b:Nat),b<Xs.length->(∀a∈c,a<Xs.length)->jh Xs (b::c)->tI Xs b c=[]->c≠[]->∀z,c.getLast?=K z->(W.bF (eB Xs b)->lt (T (xi Xs b).t) (T (xi Xs z).t))/\(¬W.bF (eB Xs b)->lt (T (xi Xs z).t) (T (xi Xs b).t))
 |[],_,_,_,_,_,S,_,_=>absurd rfl S
 |s::c,b,p,n,P,F,_,z,v=>by obtain⟨i,o⟩:=afe F;have g:=n s E;have f:=P 0 b s rfl rfl;have q:=h.straight p g f i;have d:=W.Dd q;obtain⟨x,B⟩:=h.Dl g;rw[f] at x B;have can:∀j,j<Xs.length->N.Can (xi Xs j).t:=λj y=>h.nl.can _ (h.fl y).2;cases c with|nil=>grind|cons G R=>have m:=n z<|oD v;have Q:=h.mono (G::R) s g (λa w=>n a<|bW _ w) P.tail o E z (by grind);exact⟨λe=>lt_trans (dH<|can b p) (dH<|can s g) (dH<|can z m) (x<|d.1 e)<|Q.1<|d.1 e,λe=>lt_trans (dH<|can z m) (dH<|can s g) (dH<|can b p) (Q.2 λk=>e<|d.2 k)<|B λk=>e<|d.2 k⟩
theorem SX.aff(h:SX rg l r Xs){D:V Nat}(p:D≠[])(v:∀a∈D,a<Xs.length)(B:jh Xs D)(d:∀a z,D[0]?=K a->D.getLast?=K z->(xi Xs a).f=(xi Xs z).t):d8 Xs D≠[]:=by intro k;obtain⟨z,c⟩:∃z,D.getLast?=K z:=⟨_,KD p⟩;have n:D.getLastD 0=z:=(by grind);have m:=v z<|oD c;unfold d8 at k;rw[n] at k;have g:jh Xs (z::D):=λt a b q s=>(by cases t with|zero=>grind|succ t=>exact B t a b (by grind)<|by grind);obtain⟨P,Q⟩:=h.mono D z m v g k p z c;by_cases x:W.bF (eB Xs z);exact lt_irrefl _ (P x);exact lt_irrefl _ (Q x)
structure OC(Xs:V PB)(L:V Nat)(n0:Nd)(k:Nat)(O:V Nat):Prop where
 conn:jh Xs O
 hd:∀a,O[0]?=K a->(xi Xs a).f=n0
 d9:∀a s,O.getLast?=K a->L[k]?=K s->(xi Xs s).f=(xi Xs a).t
 nil:O=[]->∀s,L[k]?=K s->(xi Xs s).f=n0
 new:∀a,O.getLast?=K a->∀b∈O,(xi Xs b).f≠(xi Xs a).t
theorem OC.snoc{L:V Nat}{n0:Nd}{k s:Nat}{O:V Nat}(h:OC Xs L n0 k O)(g:L[k]?=K s):jh Xs (O++[s])/\∀a,(O++[s])[0]?=K a->(xi Xs a).f=n0:=by refine⟨λt a b c d=>?_,λa c=>?_⟩;by_cases m:t+1<O.length;rw[dQ U] at c;rw[dQ m] at d;exact h.conn t a b c d;have e:t+1=O.length:=(by grind);have l:b=s:=(by grind);rw[l];refine h.d9 a s ?_ g;grind;cases O with|nil=>have:s=a:=(by grind);rw[<-this];exact h.nil rfl s g|cons x n=>exact h.hd a<|by grind
theorem OC.step{L:V Nat}{n0:Nd}{k s:Nat}{O:V Nat}{Rs:V (V Nat)}(h:OC Xs L n0 k O)(S:L[k]?=K s)(j:jh Xs L):OC Xs L n0 (k+1) (iO Xs (O,Rs) s).1:=by obtain⟨v,B⟩:=h.snoc S;have g:=λl d=>j k s l S d;unfold iO;simp only;rcases wD Xs (O++[s]) s with⟨P,m⟩|⟨R,x,P,m,Q,i⟩;rw[X U];have hlast:∀a,(O++[s]).getLast?=K a->a=s:=λa c=>(by grind);refine⟨v,B,λa l c d=>?_,λn=>by grind,λa c b q=>?_⟩;grind;grind;rw[y U,P,qJ];have p:=(bX.1 m).1;have hlast:∀a,((O++[s]).take R).getLast?=K a->(xi Xs s).t=(xi Xs a).t/\0<R:=λa c=>(by rw[lA,jb,fU] at c;split at c;rename_i o;have f:0<R:=U;refine⟨?_,f⟩;have e:min R (O++[s]).length-1=R-1:=U;rw[e] at c;have:=v (R-1) a x c (by grind);grind;cases c);refine⟨v.take R,λa c=>?_,λa l c d=>?_,λn l d=>?_,λa c b q=>?_⟩;grind;grind;grind;rw[<-(hlast a c).1];obtain⟨t,u,r⟩:=ig.1 q;grind
theorem OC.all{L:V Nat}{n0:Nd}(g:jh Xs L)(e:∀s,L[0]?=K s->(xi Xs s).f=n0):∀k,k<=L.length->OC Xs L n0 k (cV Xs<|L.take k).1
 |0,_=>⟨λt a b h=>by simp[cV] at h,λa h=>by simp[cV] at h,λa s h=>by simp[cV] at h,λ_ s c=>e s c,λa h=>by simp[cV] at h⟩
 |k+1,l=>by obtain⟨s,c⟩:∃s,L[k]?=K s:=⟨_,be U⟩;have d:L.take (k+1)=L.take k++[s]:=(by rw[fg,c];rfl);rw[d,rV];have:=(OC.all g e k U).step (Rs:=(cV Xs<|L.take k).2) c g;omega
theorem SX.parts(h:SX rg l r Xs){L:V Nat}{n0:Nd}(t:jh Xs L)(m:∀a∈L,a<Xs.length)(p:∀s,L[0]?=K s->(xi Xs s).f=n0)(k s:Nat)(d:L[k]?=K s)(Q:0<=iX Xs ((cV Xs<|L.take k).1++[s]) s):
  d8 Xs (((cV Xs<|L.take k).1++[s]).drop (iX Xs ((cV Xs<|L.take k).1++[s]) s).toNat)≠[]:=by have i:=(bX.1 d).1;have c:=OC.all t p k U;obtain⟨B,S⟩:=c.snoc d;rcases wD Xs ((cV Xs<|L.take k).1++[s]) s with⟨e,_⟩|⟨R,x,e,g,q,_⟩;omega;rw[e,qJ];have v:=(bX.1 g).1;refine h.aff ?_ ?_ (B.drop R) ?_;grind;intro a b;rcases dm.1 (KC b) with b|b;exact m a (DH Xs L k a b);rw[cI.1 b];exact m s<|bB d;grind
end
theorem Sn{cf:Nat->Nat->Int}:∀(l:V Nat)(m:Nat),(∀x∈l,¬cf x m<0)->cD cf l m=m
 |[],_,_=>rfl
 |b::l,m,h=>by show cD cf l (if cf b m<0 then b else m)=m;rw[X<|h b E];exact Sn l m λx a=>h x<|bW _ a
theorem afg(r:Int):takes r 0=aQ:=by unfold takes;simp
section
variable{rg:V (V O)}{l:V Nd}{r:Int}{Xs:V PB}
theorem SX.IG(h:SX rg l r Xs):∀(d:V Nat)(b c:Nat),b<Xs.length->(∀a∈d,a<Xs.length)->jh Xs (b::d)->W.bh (eB Xs c) (eB Xs b)=aP->W.bh (eB Xs<|(tI Xs b d).getLastD c) (eB Xs<|d.getLastD b)=aP
 |[],b,c,_,_,_,q=>q
 |s::d,b,c,B,k,n,q=>by have g:=k s E;have p:(xi Xs s).f=(xi Xs b).t:=n 0 b s rfl rfl;have P:tI Xs b (s::d)=(if fn (xi Xs s) (xi Xs b)=0 then[] else[s])++tI Xs s d:=rfl;have hlast:(s::d).getLastD b=d.getLastD s:=(by grind);rw[P,hlast];by_cases x:fn (xi Xs s) (xi Xs b)=0;rw[y x,qM];exact h.IG d s c g (λa m=>k a<|bW _ m) n.tail<|W.Hn q<|h.straight B g p x;rw[X x];have e:([s]++tI Xs s d).getLastD c=(tI Xs s d).getLastD s:=(by grind);rw[e];have v:W.bh (eB Xs s) (eB Xs s)=aP:=(W.dE _ _).2 ⟨by unfold L;grind,W.dI<|h.ne g⟩;exact h.IG d s s g (λa m=>k a<|bW _ m) n.tail v
theorem SX.shell(h:SX rg l r Xs){hh:Nat}{tl:V Nat}(v:∀a∈hh::tl,a<Xs.length)(R:jh Xs (hh::tl))(c:∀b∈tl,¬cC (xi Xs b).f (xi Xs hh).f<0)(hturn:0<L (eB Xs<|tl.getLastD hh) (eB Xs hh)):dl Xs (eH Xs (hh::tl))=aP:=by have g:=v hh E;have hlast:(hh::tl).getLastD 0=tl.getLastD hh:=(by grind);have t:fn (xi Xs hh) (xi Xs<|tl.getLastD hh)≠0:=(by rw[rT];intro S;have:=pC.1 S;have e:=W.da (eB Xs<|tl.getLastD hh)<|eB Xs hh;grind);have P:d8 Xs (hh::tl)=hh::tI Xs hh tl:=(by unfold d8;rw[hlast];show(if fn (xi Xs hh) (xi Xs<|tl.getLastD hh)=0 then[] else[hh])++tI Xs hh tl=_;grind);have p:jA Xs (hh::tI Xs hh tl)=hh:=Sn _ _ λx t=>c x<|ww Xs tl hh x t;have n:oZ Xs (hh::tI Xs hh tl)=0:=(by unfold oZ;rw[p];have:gD (λj=>j == hh) (hh::tI Xs hh tl)=0:=(by show(if(hh == hh)=aP then((0:Nat):Int) else _)=0;simp);omega);have d:eH Xs (hh::tl)=hh::tI Xs hh tl:=(by unfold eH;grind);rw[d];unfold dl;refine ff ?_;have B:(hh::tI Xs hh tl).getLastD 0=(tI Xs hh tl).getLastD hh:=(by grind);rw[B,show(hh::tI Xs hh tl).headD 0=hh from rfl,rT];have s:W.bh (eB Xs hh) (eB Xs hh)=aP:=(W.dE _ _).2 ⟨by unfold L;grind,W.dI<|h.ne g⟩;have q:=h.IG tl hh hh g (λa Q=>v a<|bW _ Q) R s;have k:=W.tV q<|eB Xs hh;have i:=W.da (eB Xs hh)<|eB Xs<|(tI Xs hh tl).getLastD hh;have o:=W.da (eB Xs hh)<|eB Xs<|tl.getLastD hh;grind
structure Wk(Xs:V PB)(i:Nat)(L:V Nat):Prop where
 lt:∀a∈L,a<Xs.length
 head:L[0]?=K i
 conn:jh Xs L
 Hu:∀a∈L,dF Xs a∈L
 back:∀a,L.getLast?=K a->(xi Xs a).t=(xi Xs i).f
 least:∀a∈L,¬cC (xi Xs a).f (xi Xs i).f<0
def rZ(Xs:V PB)(x y:Nat):Bool:=W.nz (eB Xs x)&&W.nz (eB Xs y)&&W.bf (eB Xs y) (eB Xs x)
theorem afh(x y z:Nat)(a:rZ Xs x y=aP)(b:rZ Xs y z=aP):rZ Xs x z=aP:=by unfold rZ W.nz at*;simp only[jl,pE] at*;exact⟨⟨a.1.1,b.1.2⟩,W.gA b.1.2 a.1.2 a.1.1 b.2 a.2⟩
theorem afi(x:Nat):rZ Xs x x=aQ:=by unfold rZ;rw[W.mP];simp
theorem SX.So(h:SX rg l r Xs)(hB:BD Xs){i:Nat}{L:V Nat}(Q:Wk Xs i L)(hout:takes r (W.PP (o rg) (xi Xs i).f)=aQ):∃ring∈cF Xs L,dl Xs ring=aP:=by
 have hiL:i∈L:=bB Q.head;have hi:=Q.lt i hiL;obtain⟨n,hhL,hhT,hmax⟩:=W.wg (lt:=rZ Xs) (afh (Xs:=Xs)) (afi (Xs:=Xs)) (λa=>decide ((xi Xs a).f=(xi Xs i).f)) L _ i hiL E<|aX _;have P:(xi Xs n).f=(xi Xs i).f:=ft hhT;have T:=Q.lt n hhL;have hmin:∀g∈L,(xi Xs g).f=(xi Xs i).f->W.bf (eB Xs g) (eB Xs n)=aQ:=λg hy hyf=>(by have:=hmax g hy<|ff hyf;cases Y:W.bf (eB Xs g) (eB Xs n);rfl;unfold rZ W.nz at this;rw[Y,ff<|h.ne T,ff<|h.ne<|Q.lt g hy] at this;grind);obtain⟨m,ht0,hht⟩:=ig.1 hhL;have N:L[m]?=K n:=(by grind);have h0:∀s,L[0]?=K s->(xi Xs s).f=(xi Xs i).f:=λs H=>(by rw[Q.head] at H;grind);have hne:∀c,c<Xs.length->(xi Xs c).f≠(xi Xs c).t:=λc hj e=>(by have:=h.ne hj;unfold eB at this;rw[<-e] at this;exact this (by unfold W.wv;simp));have hstep:∀k,k<L.length->∀s,L[k]?=K s->cV Xs (L.take<|k+1)=iO Xs (cV Xs<|L.take k) s:=λk Y s H=>(by have htk:L.take (k+1)=L.take k++[s]:=(by rw[fg,H];rfl);rw[htk,rV]);have amX:∀p s,∀ring∈(p:V Nat×V (V Nat)).2,ring∈(iO Xs p s).2:=λp s ring hr=>(by unfold iO;grind)
 have key:∀d,m+1+d<=L.length->(∃ring∈(cV Xs<|L.take<|m+1+d).2,dl Xs ring=aP)\/((∃w,(cV Xs<|L.take<|m+1+d).1=n::w/\∀b∈w,(xi Xs b).f≠(xi Xs i).f)/\∀z,L[m+d]?=K z->(xi Xs z).t≠(xi Xs i).f):=by
  intro d;induction d with
  |zero=>
   intro _;right;have F:=OC.all Q.conn h0 m U;have hO:(cV Xs<|L.take m).1=[]:=by
    apply gP;intro Y;obtain⟨z,O⟩:∃z,(cV Xs<|L.take m).1.getLast?=K z:=⟨_,KD Y⟩;obtain⟨a,M⟩:∃a,(cV Xs<|L.take m).1[0]?=K a:=⟨_,be<|fT.2 Y⟩;have e1:=F.d9 z n O N;exact F.new z O a (bB M)<|by rw[F.hd a M,<-e1,P]
   rw[pA,hstep m ht0 n N];have hto:(xi Xs n).t≠(xi Xs i).f:=λe=>hne n T<|P.trans e.symm;refine⟨⟨[],?_,λb B=>by grind⟩,λz O=>?_⟩
   .unfold iO;rw[hO];rcases wD Xs ([]++[n]) n with⟨h1,_⟩|⟨R,x,h1,h2,h3,_⟩
    grind
    .exfalso;grind
   grind
  |succ d ih=>
   intro hd;have Y:m+1+d<L.length:=U;obtain⟨s,H⟩:∃s,L[m+1+d]?=K s:=⟨_,be Y⟩;have hsL:=bB H;have hsl:=Q.lt s hsL;rw[show m+1+(d+1)=m+1+d+1 by omega,hstep _ Y s H];rcases ih U with⟨ring,hr1,hr2⟩|⟨⟨w,hO,htl⟩,O⟩
   grind
   .have F:=OC.all Q.conn h0 (m+1+d) U;obtain⟨hcs,_⟩:=F.snoc H;rw[hO] at F hcs;have hOm:∀b∈n::w,b∈L:=λb B=>DH Xs L (m+1+d) b (by grind);have hsf:(xi Xs s).f≠(xi Xs i).f:=by
     obtain⟨a,M⟩:∃a,L[m+d]?=K a:=⟨_,be U⟩;rw[Q.conn (m+d) a s M (by grind)];grind
    have hzs:∀z,L[m+(d+1)]?=K z->z=s:=λz G=>by
     grind
    by_cases v:(xi Xs s).t=(xi Xs i).f
    ·
     left;refine⟨eH Xs (n::(w++[s])),?_,?_⟩
     .unfold iO;rw[hO];rcases wD Xs (n::w++[s]) s with⟨h1,h2⟩|⟨R,x,h1,h2,h3,h4⟩
      grind
      .have Iw:R=0:=by
        grind
       rw[y U,h1,Iw];simp
     .refine h.shell (λa M=>?_) hcs (λb B=>?_) ?_
      .have:a∈(n::w)\/a=s:=by grind
       rcases this with M|M
       .exact Q.lt a (hOm a M)
       omega
      .have:b∈w\/b=s:=by grind
       rw[P];rcases this with B|B
       .exact Q.least b (hOm b<|bW _ B)
       .rw[B];exact Q.least s hsL
      .have e:(w++[s]).getLastD n=s:=E;rw[e];obtain⟨n1,n2,n3⟩:=h.next hB hsl
       have hnL:=Q.Hu s hsL;have r6:=h.sd hsl;have Sp:=h.sd n1;have Sq:=h.sd T;rw[v] at r6;rw[n2,v] at Sp;rw[P] at Sq;have hris:W.bF (W.wv (xi Xs i).f (xi Xs s).f):=by
        have c1:=h.nl.can _ (h.fl hi).1;have c2:=h.nl.can _ (h.fl hsl).1;refine(W.kZ c1 c2).1<|vt c1 c2 ?_<|λe=>hsf e.symm;exact Q.least s hsL
       have hle:=hmin (dF Xs s) hnL<|n2.trans v;unfold eB at hle;rw[n2,v,P] at hle;have hres:=W.ad1 h.nl hout r6 hris Sp (λc' hc'=>by
        obtain⟨q,hq,q1,q2⟩:=h.find hc';have:=n3 q hq (by rw[q1,v]);rw[Dv,q1,q2,n2,v] at this;omega) Sq hle
       grind
    .right;refine⟨?_,λz G=>by grind⟩;unfold iO;rw[hO];rcases wD Xs (n::w++[s]) s with⟨h1,h2⟩|⟨R,x,h1,h2,h3,h4⟩
     grind
     .rw[y U,h1,qJ];obtain⟨R',rfl⟩:∃R',R=R'+1:=by
       cases R with
       |zero=>
        grind
       |succ R'=>simp
      refine⟨(w++[s]).take R',E,λb B=>?_⟩;have:=kP B;grind
 have S:=key (L.length-(m+1)) U;rw[show m+1+(L.length-(m+1))=L.length by omega,dV] at S;rcases S with S|⟨_,O⟩;exact S;exfalso;obtain⟨z,hzl⟩:∃z,L[L.length-1]?=K z:=⟨_,be U⟩;refine O z (by rw[show m+(L.length-(m+1))=L.length-1 by omega];omega) ?_;exact Q.back z (by grind)
theorem Sr{n:Nd}(k:N.Can n){a:Nat}(h:dR (xi Xs a))(d:jB Xs n a=aP):lt (T (xi Xs a).f) (T n):=by unfold jB at d;simp only[jl,uw,E7,pE] at d;obtain⟨⟨q,r⟩,c⟩:=d;refine(W.kZ h.cf k).2 ?_;have e:=h.cf.pos;have:=h.ct.pos;have g:=k.pos;generalize(xi Xs a).f=f at*;generalize(xi Xs a).t=t at*;have:(W.wv f n).1=n.1*f.2.2-f.1*n.2.2:=(by unfold W.wv;grind);have l:n.2.2*(W.wv f t).1=f.2.2*(t.1*n.2.2-n.1*t.2.2)+t.2.2*(W.wv f n).1:=(by unfold W.wv;grind);by_cases p:0<(W.wv f n).1;exact j p;have b:(W.wv f n).1=0:=U;rw[b,sL,VF] at l;have:=bD e (show 0<t.1*n.2.2-n.1*t.2.2 by omega);have m:0<(W.wv f t).1:=(W.bI g).1 U;unfold L at c;rw[b,sL,uu] at c;exact F ⟨b,(W.bI m).1 c⟩
theorem SX.seen(h:SX rg l r Xs)(q:BD Xs){i:Nat}{L:V Nat}(b:Wk Xs i L)(d:∀ring∈cF Xs L,dl Xs ring=aQ):eO Xs (xi Xs i).f Xs.length≠[]:=by have s:=b.lt i<|bB b.head;have c:=(h.fl s).1;intro x;cases m:takes r (W.PP (o rg) (xi Xs i).f);obtain⟨ring,g,a⟩:=h.So q b m;grind;obtain⟨f,t,e,g,a,p⟩:=W.ady h.nl (afg r) c m;obtain⟨j,v,B,P⟩:=h.find e;have k:j∈eO Xs (xi Xs i).f Xs.length:=(by refine et.2 ⟨gV.2 v,?_⟩;unfold jB;rw[B,P];generalize(xi Xs i).f=n at*;have:(W.wv n f).1=f.1*n.2.2-n.1*f.2.2:=(by unfold W.wv;grind);have:(W.wv n t).1=t.1*n.2.2-n.1*t.2.2:=(by unfold W.wv;grind);simp only[jl,uw,E7,pE];omega);grind
end
end
end Go.Proofs.YtkjhhooecopolaaGreatDoor
namespace Go.Proofs
open Go.Proofs.Tryz
open Option renaming some->K
open Go.Shelf
def Tryz.sortPg_ren:Go.Shelf.Ren:=⟨fun |6=>175|15=>164|14=>217|28=>208|29=>209|20=>266|21=>267|22=>268|23=>269|24=>270|25=>271|26=>272|27=>273|46=>294|47=>249|48=>250|49=>295|50=>296|57=>306|n=>n,fun |22=>131|24=>165|25=>249|3=>3|39=>238|0=>0|53=>280|55=>282|4=>4|46=>274|45=>273|50=>70|5=>5|9=>9|66=>313|70=>317|76=>346|77=>172|n=>n,fun |n=>n⟩
theorem Tryz.sortPg:Go.Proofs.SlLaysF.n6 prog Tryz.sortPg_ren:={
 mixed:=z
 f6:=⟨Tryz.f175.name,ae,func175.trans<|bd K z⟩
 f14:=⟨Tryz.f217.name,ae,func217.trans<|bd K z⟩
 f15:=func164.trans<|bd K z
 f20:=⟨Tryz.f266.name,ae,func266.trans<|bd K z⟩
 f21:=⟨Tryz.f267.name,ae,func267.trans<|bd K z⟩
 f22:=⟨Tryz.f268.name,ae,func268.trans<|bd K z⟩
 f23:=⟨Tryz.f269.name,ae,func269.trans<|bd K z⟩
 f24:=⟨Tryz.f270.name,ae,func270.trans<|bd K z⟩
 f25:=⟨Tryz.f271.name,ae,func271.trans<|bd K z⟩
 f26:=⟨Tryz.f272.name,ae,func272.trans<|bd K z⟩
 f27:=⟨Tryz.f273.name,ae,func273.trans<|bd K z⟩
 f28:=func208.trans<|bd K z
 f29:=func209.trans<|bd K z
 f46:=⟨Tryz.f294.name,ae,func294.trans<|bd K z⟩
 f47:=func249.trans<|bd K z
 f48:=func250.trans<|bd K z
 f49:=⟨Tryz.f295.name,ae,func295.trans<|bd K z⟩
 f50:=⟨Tryz.f296.name,ae,func296.trans<|bd K z⟩
 f57:=⟨Tryz.f306.name,ae,func306.trans<|bd K z⟩
 t0:=underlying0
 a0:=isAgg0
 z0:=sizeOf0
 v0:=zeroValue0
 t3:=underlying3
 a3:=isAgg3
 z3:=sizeOf3
 v3:=zeroValue3
 t4:=underlying4
 a4:=isAgg4
 z4:=sizeOf4
 v4:=zeroValue4
 t5:=underlying5
 a5:=isAgg5
 z5:=sizeOf5
 v5:=zeroValue5
 t9:=underlying9
 a9:=isAgg9
 z9:=sizeOf9
 v9:=zeroValue9
 t22:=underlying131
 a22:=isAgg131
 z22:=sizeOf131
 v22:=zeroValue131
 a24:=isAgg165
 z24:=sizeOf165
 t25:=underlying249
 a25:=isAgg249
 z25:=sizeOf249
 v25:=zeroValue249
 t39:=underlying238
 a39:=isAgg238
 z39:=sizeOf238
 v39:=zeroValue238
 t45:=underlying273
 a45:=isAgg273
 z45:=sizeOf273
 v45:=zeroValue273
 t46:=underlying274
 a46:=isAgg274
 z46:=sizeOf274
 v46:=zeroValue274
 t50:=underlying70
 a50:=isAgg70
 z50:=sizeOf70
 v50:=zeroValue70
 t53:=underlying280
 a53:=isAgg280
 z53:=sizeOf280
 v53:=zeroValue280
 t55:=underlying282
 a55:=isAgg282
 z55:=sizeOf282
 v55:=zeroValue282
 t66:=underlying313
 a66:=isAgg313
 z66:=sizeOf313
 v66:=zeroValue313
 t70:=underlying317
 a70:=isAgg317
 z70:=sizeOf317
 v70:=zeroValue317
 t76:=underlying346
 a76:=isAgg346
 z76:=sizeOf346
 v76:=zeroValue346
 t77:=underlying172
 a77:=isAgg172
 z77:=sizeOf172
 v77:=zeroValue172}
end Go.Proofs
namespace Go.Proofs.YtkjhhooecopolaaGreatDoor
open Go.Proofs.Tryz
open Value renaming int->I,agg->u,bool->aC,tuple->aG
open IntKind renaming i64->J
open Ending renaming returned->aJ
open Go renaming World->G
open Option renaming some->K,none->Z
open Bool renaming true->aP,false->aQ
section
open Go.RowKit
theorem agU(W:G)(a b c d:Int):P4 (W.alloc<|.cells #[I J a,I J b,I J c,I J d] 100) W.heap.size a b c d:=aa W _
theorem P4.cs{w:G}{X:Nat}{a b c d:Int}(h:P4 w X a b c d):w.cell? ⟨X,0,Z⟩=K (I J a)/\w.cell? ⟨X,1,Z⟩=K (I J b)/\w.cell? ⟨X,2,Z⟩=K (I J c)/\w.cell? ⟨X,3,Z⟩=K (I J d):=⟨apL h 0,apL h 1,apL h 2,apL h 3⟩
theorem TF(r t:Int)(w:G):M 23 #[I .u8 r,I J t] w λe w'=>e=aJ (aG #[aC (N.rule r&&N.takes r t),aC<|N.rule r])/\w'=w:=by have g:r=101\/r=110\/r=43\/r=45\/(N.rule r=aQ/\(r == 101)=aQ/\(r == 110)=aQ/\(r == 43)=aQ/\(r == 45)=aQ):=(by by_cases a:r=101;exact j a;by_cases b:r=110;exact F (j b);by_cases c:r=43;exact F (F<|j c);by_cases d:r=45;exact F (F<|F<|j d);refine F (F<|F<|F ⟨?_,ou.2 a,ou.2 b,ou.2 c,ou.2 d⟩);unfold N.rule;simp[a,b,c,d]);rcases g with rfl|rfl|rfl|rfl|⟨f,k,l,m,n⟩;go_enter func23,ntmps23;go_wp2_with fail;refine ab (v:=aG #[aC (t.tmod 2 != 0),aC aP]) (by simp[results,results23,go_sem]) rfl ⟨?_,rfl⟩;by_cases h:t.tmod 2=0<;>simp[h,N.takes,N.rule];go_enter func23,ntmps23;go_wp2_with fail;refine ab (v:=aG #[aC (t != 0),aC aP]) (by simp[results,results23,go_sem]) rfl ⟨?_,rfl⟩;by_cases h:t=0<;>simp[h,N.takes,N.rule];go_enter func23,ntmps23;go_wp2_with fail;refine ab (v:=aG #[aC (decide (0<t)),aC aP]) (by simp[results,results23,go_sem]) rfl ⟨?_,rfl⟩;simp[N.takes,N.rule];go_enter func23,ntmps23;go_wp2_with fail;refine ab (v:=aG #[aC (decide (t<0)),aC aP]) (by simp[results,results23,go_sem]) rfl ⟨?_,rfl⟩;simp[N.takes,N.rule];rw[f];clear f;go_enter func23,ntmps23;go_wp2_with fail;refine ab (v:=aG #[aC aQ,aC aQ]) (by simp[results,results23,go_sem]) rfl ⟨rfl,rfl⟩
structure mD(w:G)(B:Nat)(p1 p2 p3 p4:Int)(wr:G):Prop where
 dg:ag w wr
 p:P4 wr B p1 p2 p3 p4
theorem mD.next{w wr w':G}{B:Nat}{p1 p2 p3 p4:Int}(h:mD w B p1 p2 p3 p4 wr)(a:ag wr w'):mD w B p1 p2 p3 p4 w':=⟨h.dg.trans<|a.mono h.dg.size,h.p.mv a⟩
theorem TG(a b c d:Int)(w:G){e f g h:Int}(k:cS ((a,b),(e,f)))(l:cS ((c,d),(g,h))):M 49 #[u #[I J a,I J b],u #[I J c,I J d]] w (ai (I J<|N.fc (a,b) (c,d)) w):=by have m:=uX k.xn l.xd;have n:=uX l.xn k.xd;simp only at m n;exact qa a b c d (a*d) (c*b) w rfl rfl U U
end
end Go.Proofs.YtkjhhooecopolaaGreatDoor
