import Derived.Test.YtkjhhooecopolaaGreatDoorAz01
import Derived.Test.YtkjhhooecopolaaGreatDoorAz19
set_option maxRecDepth 100000
set_option maxHeartbeats 4000000
namespace Go.Proofs.YtkjhhooecopolaaGreatDoor
open Value renaming int->I,complex->A,agg->u,slice->D
open IntKind renaming i64->J
open FloatKind renaming f64->C
open Go renaming World->G,Value->Y
open Option renaming some->K,none->Z
open Bool renaming true->aP,false->aQ
section
open Go.RowKit
def Q4(w:G)(b k:Nat)(e:N.Qt):Prop:=w.cell? ⟨b,k*4,Z⟩=K (I J e.1.1)/\w.cell? ⟨b,k*4+1,Z⟩=K (I J e.1.2)/\w.cell? ⟨b,k*4+2,Z⟩=K (I J e.2.1)/\w.cell? ⟨b,k*4+3,Z⟩=K (I J e.2.2)
theorem abE{w:G}{so:Option Addr}{n cap:Nat}{g:V N.Qt}(h:dq w (D so n cap) g)(l:0<g.length):∃b,so=K ⟨b,0,Z⟩/\b<w.heap.size/\∀k e,g[k]?=K e->Q4 w b k e:=by obtain⟨b,rfl,d,_⟩:=tt h<|be l;refine⟨b,rfl,d,λk e f=>?_⟩;obtain⟨m,a,_,c⟩:=tt h f;injection a with a;injection a with a;subst a;exact c
end
namespace W
open N
variable{bm:Int->Bool}{rg:V (V O)}{es:V (O×O)}{l:V Nd}{f m:N3}{n a b t c:Nd}{p q v d d':O}
structure bZ(es:V (O×O))(l:V Nd):Prop where
 map:l.map T=g8 es
 can:∀n∈l,N.Can n
 ne:∀e∈es,e.1≠e.2
theorem bZ.mem(h:bZ es l)(e:N.Can n)(d:isNode es (T n)):n∈l:=by
 have b:T n∈l.map T:=by rw[h.map];exact((vm es).2.2 _).2 d
 obtain⟨m,a,c⟩:=bA.1 b;rw[oN e (h.can m a) c.symm];exact a
theorem kZ(g:N.Can a)(h:N.Can b):lt (T a) (T b)↔bF (wv a b):=by unfold lt bF wv;rw[Cn g h];have:=sg<|a.1*b.2.2-b.1*a.2.2;grind
def tU(l:V Nd):Prop:=l.Pairwise λa b=>lt (T a)<|T b
theorem bZ.kF(h:bZ es l):tU l:=by have:=(vm es).2.1;rw[<-h.map] at this;exact ic.1 this
theorem bZ.vV(h:bZ es l)(e:O×O):tU (held e l):=VJ _ h.kF
theorem fP{e:O×O}:n∈held e l↔n∈l/\on (rl n e.1) (rl n e.2)=aP:=by unfold held;rw[et];exact Aq
theorem mA:∀{m:V Nd}{q:Nd×Nd},q∈apO m->q.1∈m/\q.2∈m
 |[],_,h=>by simp[apO] at h
 |[_],_,h=>by simp[apO] at h
 |a::b::r,q,h=>by rcases bK.1 h with h|h;grind;have:=mA (m:=b::r) h;grind
theorem PZ:∀{m:V Nd},tU m->∀{q:Nd×Nd},q∈apO m->lt (T q.1) (T q.2)
 |[],_,_,h=>by simp[apO] at h
 |[_],_,_,h=>by simp[apO] at h
 |a::b::r,c,q,h=>by rcases bK.1 h with h|h;rw[h];exact(fF.1 c).1 b E;exact PZ (fF.1 c).2 h
theorem Qa:∀{m:V Nd},tU m->(∀n∈m,N.Can n)->∀{q:Nd×Nd},q∈apO m->∀{x:Nd},x∈m->¬(lt (T q.1) (T x)/\lt (T x) (T q.2))
 |[],_,_,_,h,_,_=>by grind
 |[_],_,_,_,h,_,_=>by simp[apO] at h
 |a::b::r,R,g,q,h,x,c=>by obtain⟨i,v⟩:=fF.1 R;have asym:∀{y z:Nd},N.Can y->N.Can z->lt (T y) (T z)->¬lt (T z) (T y):=λt S B P=>lt_irrefl _<|lt_trans (dH t) (dH S) (dH t) B P;have k:=g a E;have l:=g b E;rcases bK.1 h with h|h;rw[h];rintro⟨d,f⟩;simp only at d f;rcases bK.1 c with e|c;grind;rcases bK.1 c with e|c;grind;simp_all;rintro⟨d,f⟩;rcases bK.1 c with e|c;rw[e] at d;have s:=(mA h).1;grind;exact Qa v (λn Q=>g n<|bW _ Q) h c ⟨d,f⟩
theorem Qb:∀{m:V Nd},tU m->(∀n∈m,N.Can n)->∀{x y:Nd},x∈m->y∈m->lt (T x) (T y)->∃t,(x,t)∈apO m
 |[],_,_,_,_,h,_,_=>by grind
 |[a],_,_,x,y,h,p,c=>by have k:x=a:=(by grind);have l:y=a:=(by grind);rw[k,l] at c;exact absurd c<|lt_irrefl _
 |a::b::r,s,f,x,y,d,g,c=>by obtain⟨B,P⟩:=fF.1 s;rcases bK.1 d with e|d;exact⟨b,by rw[e];simp[apO]⟩;rcases bK.1 g with e|g;exfalso;rw[e] at c;exact lt_irrefl _<|lt_trans (dH<|f a E) (dH<|f x<|bW _ d) (dH<|f a E) (B x d) c;obtain⟨t,v⟩:=Qb P (λn q=>f n<|bW _ q) d g c;exact⟨t,bW _ v⟩
theorem Qc:∀{m:V Nd},tU m->(∀n∈m,N.Can n)->∀{x y:Nd},x∈m->y∈m->lt (T y) (T x)->∃f,(f,x)∈apO m
 |[],_,_,_,_,h,_,_=>by grind
 |[a],_,_,x,y,h,B,c=>by have t:x=a:=(by grind);have v:y=a:=(by grind);rw[t,v] at c;exact absurd c<|lt_irrefl _
 |a::b::r,R,g,x,y,d,k,c=>by obtain⟨S,q⟩:=fF.1 R;rcases bK.1 d with e|d;exfalso;rw[e] at c;rcases bK.1 k with s|k;rw[s] at c;exact lt_irrefl _ c;exact lt_irrefl _ (lt_trans (dH<|g a E) (dH<|g y<|bW _ k) (dH<|g a E) (S y k) c);by_cases p:x=b;exact⟨a,by rw[p];simp[apO]⟩;have l:lt (T b) (T x):=(by simp_all);obtain⟨f,P⟩:=Qc q (λn Q=>g n<|bW _ Q) d (E4 ..) l;exact⟨f,bW _ P⟩
theorem lK{a b:N3}{D:O}(l:bF D)(c:L D (wv a b)=0)(f:0<i D (wv a b)):apN a b D:=by rcases l with h|⟨g,d⟩;left;refine⟨h,?_,c⟩;have:i D (wv a b)*D.1=(wv a b).1*i D D:=(by unfold L at c;unfold i;grind);have k:=bI (z:=(wv a b).1)<|dI<|jg<|j h;have:=bD f h;grind;right;unfold L at c;unfold i at f;rw[g] at c f;have k:=dz (z:=(wv a b).1) d;have q:=bI (z:=(wv a b).2) d;omega
theorem Hk{a b:N3}{D:O}(h:apN a b D):0<i D (wv a b):=by rcases h with⟨c,d,e⟩|⟨c,d,e,f⟩;exact jw (j c) (j d) e;unfold i;rw[c];have:=bD d f;omega
theorem Qd{a b:N3}{D:O}(h:apN a b D):bF (wv a b):=by rcases h with⟨_,c,_⟩|⟨_,_,d,e⟩;exact j c;exact F ⟨d,e⟩
theorem yR{t:N3}(d:0<t.2.2)(_:bF (wv f t))(x:on (rl f p) (rl f q)=aP)(B:on (rl t p) (rl t q)=aP):lam (wv f t) f p=0/\lam (wv f t) f q=0:=by obtain⟨g,Q⟩:=(hJ _ _).1 x;obtain⟨l,_⟩:=(hJ _ _).1 B;have e:f.2.2*f.2.2*L (rl t p) (rl t q)=t.2.2*t.2.2*L (rl f p) (rl f q)-t.2.2*(lam (wv f t) f q-lam (wv f t) f p):=(by have k:f.2.2*f.2.2*L (rl t p) (rl t q)=(f.2.2*(rl t p).1)*(f.2.2*(rl t q).2)-(f.2.2*(rl t p).2)*(f.2.2*(rl t q).1):=(by unfold L;grind);obtain⟨m,n⟩:=jY f t p;obtain⟨s,v⟩:=jY f t q;rw[k,m,n,s,v];unfold lam L;grind);rw[g,l] at e;have P:0<t.2.2:=d;have a:lam (wv f t) f q=lam (wv f t) f p:=(by have:=dz (z:=lam (wv f t) f q-lam (wv f t) f p) P;have:=this.1 U;omega);have c:=ql (D:=wv f t) g;have b:lam (wv f t) f p=0:=(by apply gP;intro h;have R:=dI<|G1 (D:=wv f t) (r:=rl f p) h;have k:lam (wv f t) f p*(i (rl f p) (rl f p)-i (rl f p) (rl f q))=0:=(by rw[abG];unfold lam at*;rw[a] at c;omega);rcases wX.1 k with k|k;exact h k;omega);exact⟨b,by rw[a];exact b⟩
theorem Qe{t:N3}(c:0<f.2.2)(e:0<t.2.2)(k:0<m.2.2)(d:bF (wv f t))(R:on (rl f p) (rl f q)=aP)(S:on (rl t p) (rl t q)=aP)(Q:apN f m (wv f t))(u:apN m t (wv f t)):on (rl m p) (rl m q)=aP:=by have g:=jg d;obtain⟨s,v⟩:=yR e d R S;have j:∀z,lam (wv f t) f z=0->lam (wv f t) m z=0:=λz r=>(by have:=mw c k Q z;omega);have lt:∀z,lam (wv f t) f z=0->lam (wv f t) t z=0:=λz r=>(by have:=mw c e (tM d) z;omega);have E:=(qm g s v).1 R;have o:=(qm g (lt p s)<|lt q v).1 S;refine(qm g (j p s)<|j q v).2 ?_;have H:=Hk Q;have I:=Hk u;have J:=Hk<|tM d;have x:∀(a b:N3)(z:O),a.2.2*i (wv f t) (rl b z)=b.2.2*i (wv f t) (rl a z)-i (wv f t) (wv a b):=λa b z=>(by obtain⟨w,y⟩:=jY a b z;have:a.2.2*i (wv f t) (rl b z)=(wv f t).1*(a.2.2*(rl b z).1)+(wv f t).2*(a.2.2*(rl b z).2):=(by unfold i;grind);rw[this,w,y];unfold i;grind);have low:∀z,i (wv f t) (rl f z)<=0->i (wv f t) (rl m z)<0/\i (wv f t) (rl t z)<0:=λz r=>(by have C:=x f m z;have K:=x f t z;have F:=bI (z:=i (wv f t)<|rl f z) k;have G:=neg_mul (z:=i (wv f t)<|rl m z) c;have L:=bI (z:=i (wv f t)<|rl f z) e;have M:=neg_mul (z:=i (wv f t)<|rl t z) c;omega);have high:∀z,0<=i (wv f t) (rl t z)->0<i (wv f t) (rl m z):=λz r=>(by have C:=x m t z;have F:=neg_mul (z:=i (wv f t)<|rl t z) k;have G:=bI (z:=i (wv f t)<|rl m z) e;omega);generalize wv f t=D at*;by_cases A:i D (rl f p)<=0;obtain⟨B,P⟩:=low p A;have n:0<=i D (rl t q):=(by apply wT.1;intro h;exact vL P h o);exact vM (dU B)<|dU<|high q n;have n:i D (rl f q)<=0:=(by apply wT.1;intro h;exact yN U h E);obtain⟨B,P⟩:=low q n;have l:0<=i D (rl t p):=(by apply wT.1;intro h;exact vL h P o);exact CS (dU<|high p l)<|dU B
def dJ(es:V (O×O))(l:V Nd)(f t:Nd):Prop:=∃e∈es,(f,t)∈apO (held e l)
theorem dJ.facts(c:bZ es l){f:Nd}(h:dJ es l f t):f∈l/\t∈l/\bF (wv f t):=by obtain⟨e,m,d⟩:=h;obtain⟨g,k⟩:=mA d;have a:=(fP.1 g).1;have b:=(fP.1 k).1;exact⟨a,b,(kZ (c.can _ a)<|c.can _ b).1<|PZ (c.vV e) d⟩
theorem dJ.gap(a:bZ es l){f:Nd}(h:dJ es l f t){m:Nd}(p:m∈l):¬(apN f m (wv f t)/\apN m t (wv f t)):=by rintro⟨d,g⟩;obtain⟨s,B,x⟩:=h.facts a;obtain⟨e,P,b⟩:=h;obtain⟨q,r⟩:=mA b;have cf:=a.can _ s;have k:=a.can _ B;have c:=a.can _ p;have v:=Qe cf.pos k.pos c.pos x (fP.1 q).2 (fP.1 r).2 d g;exact Qa (a.vV e) (λn b=>a.can n (fP.1 b).1) b (fP.2 ⟨p,v⟩) ⟨(kZ cf c).2<|Qd d,(kZ c k).2<|Qd g⟩
theorem Qf(z:O):N.Can (z.1,z.2,1):=⟨by simp,by simp⟩
theorem Qg(z:O):T (z.1,z.2,1)=pt z:=by unfold T pt;simp only[Bs]
theorem bZ.yS(a:bZ es l){e:O×O}(b:e∈es):(e.1.1,e.1.2,1)∈l/\(e.2.1,e.2.2,1)∈l:=
 ⟨a.mem (Qf e.1)<|j ⟨e,b,j<|Qg _⟩,a.mem (Qf e.2)<|j ⟨e,b,F<|Qg _⟩⟩
theorem yT(f:N3)(z:O):wv f (z.1,z.2,1)=rl f z:=by unfold wv rl rel;simp
theorem Qh(t:N3)(z:O):wv (z.1,z.2,1) t=neg (rl t z):=by unfold wv rl rel neg;grind
theorem dJ.Qi(a:bZ es l){f:Nd}(h:dJ es l f t){z:O}(k:(z.1,z.2,1)∈l):kj f t (wv f t) z:=by intro d;obtain⟨e,g,c⟩:=h.facts a;apply gP;intro m;have b:=(nY (a.can _ e).pos (a.can _ g).pos c z).2 d;refine h.gap a k ⟨lK c ?_ ?_,lK c ?_ ?_⟩;rw[yT];exact d;rw[yT];omega;rw[Qh,e9];unfold lam at b;omega;rw[Qh,jJ];omega
def iL(u v:O)(a b:Int):N3:=(u.1*b-v.1*a,u.2*b-v.2*a,b-a)
theorem Qj(f:N3)(D u v:O):wv f (iL u v (lam D f u)<|lam D f v)=(D.1*L (rl f u) (rl f v),D.2*L (rl f u) (rl f v)):=by unfold wv iL lam L rl rel;grind
theorem acY{a b:N3}{D:O}{k:Int}(c:bF D)(d:0<k)(h:wv a b=(D.1*k,D.2*k)):apN a b D:=by refine lK c ?_ ?_;rw[h];unfold L;grind;rw[h];have e:i D (D.1*k,D.2*k)=k*i D D:=(by unfold i;grind);rw[e];exact bD d<|dI<|jg c
theorem acZ{t:N3}{D:O}(m:apN f t D)(u v:O):t.2.2*(wv (iL u v (lam D f u)<|lam D f v) t).1= -(f.2.2*L (rl t u) (rl t v))*D.1/\t.2.2*(wv (iL u v (lam D f u)<|lam D f v) t).2= -(f.2.2*L (rl t u) (rl t v))*D.2:=by have n:=GX m u;have p:=GX m v;have e:=Qj t D u v;have g:=bd Prod.fst e;have h:=bd Prod.snd e;unfold wv iL at g h⊢;grind
theorem ac0{u:O}{a b:Int}(f:a<=0)(g:0<=b):on (rl (iL u v a b) u) (rl (iL u v a b) v)=aP:=by have c:rl (iL u v a b) u=(a*(v.1-u.1),a*(v.2-u.2)):=(by unfold rl rel iL;grind);have d:rl (iL u v a b) v=(b*(v.1-u.1),b*(v.2-u.2)):=(by unfold rl rel iL;grind);rw[c,d,hJ];constructor;unfold L;grind;have e:i (a*(v.1-u.1),a*(v.2-u.2)) (b*(v.1-u.1),b*(v.2-u.2))=(a*b)*((v.1-u.1)*(v.1-u.1)+(v.2-u.2)*(v.2-u.2)):=(by unfold i;grind);rw[e];refine su (vM f g) ?_;have k:∀x:Int,0<=x*x:=λx=>(by rcases sx 0 x with h|h;exact gM h h;exact mI h h);have:=k<|v.1-u.1;have:=k<|v.2-u.2;omega
theorem ac1(d:0<m.2.2):∃n:Nd,N.Can n/\T n=(bu m.1 m.2.2,bu m.2.1 m.2.2)/\n.1*m.2.2=m.1*n.2.2/\n.2.1*m.2.2=m.2.1*n.2.2:=by obtain⟨c,q⟩:=Hi m.1 m.2.1 d;refine⟨canon m.1 m.2.1 m.2.2,c,q,?_,?_⟩;have h:=bd Prod.fst q;have k:=vo (a:=(canon m.1 m.2.1 m.2.2).1) (c:=m.1) c.pos d;have b:bu (canon m.1 m.2.1 m.2.2).1 (canon m.1 m.2.1 m.2.2).2.2=bu m.1 m.2.2:=h;rw[b,uT] at k;have:=pC.1 k.symm;omega;have h:=bd Prod.snd q;have k:=vo (a:=(canon m.1 m.2.1 m.2.2).2.1) (c:=m.2.1) c.pos d;have b:bu (canon m.1 m.2.1 m.2.2).2.1 (canon m.1 m.2.1 m.2.2).2.2=bu m.2.1 m.2.2:=h;rw[b,uT] at k;have:=pC.1 k.symm;omega
theorem Hl{n:N3}(a:n.1*m.2.2=m.1*n.2.2)(b:n.2.1*m.2.2=m.2.1*n.2.2)(z:O):m.2.2*(rl n z).1=n.2.2*(rl m z).1/\m.2.2*(rl n z).2=n.2.2*(rl m z).2:=by unfold rl rel;simp only;constructor;rw[abG,abG,dw m.2.2 n.1,a];grind;rw[abG,abG,dw m.2.2 n.2.1,b];grind
theorem Db{n:N3}(k:0<n.2.2)(g:0<m.2.2)(e:n.1*m.2.2=m.1*n.2.2)(f:n.2.1*m.2.2=m.2.1*n.2.2){u:O}(h:on (rl m u) (rl m v)=aP):on (rl n u) (rl n v)=aP:=by obtain⟨l,t⟩:=(hJ _ _).1 h;obtain⟨a,b⟩:=Hl e f u;obtain⟨c,d⟩:=Hl e f v;have r:m.2.2*m.2.2*L (rl n u) (rl n v)=n.2.2*n.2.2*L (rl m u) (rl m v):=(by have:m.2.2*m.2.2*L (rl n u) (rl n v)=(m.2.2*(rl n u).1)*(m.2.2*(rl n v).2)-(m.2.2*(rl n u).2)*(m.2.2*(rl n v).1):=(by unfold L;grind);rw[this,a,b,c,d];unfold L;grind);have x:m.2.2*m.2.2*i (rl n u) (rl n v)=n.2.2*n.2.2*i (rl m u) (rl m v):=(by have:m.2.2*m.2.2*i (rl n u) (rl n v)=(m.2.2*(rl n u).1)*(m.2.2*(rl n v).1)+(m.2.2*(rl n u).2)*(m.2.2*(rl n v).2):=(by unfold i;grind);rw[this,a,b,c,d];unfold i;grind);have p:=bD g g;have q:=bD k k;have s:=dz (z:=L (rl n u)<|rl n v) p;have B:=bI (z:=i (rl n u)<|rl n v) p;have z3:=bI (z:=i (rl m u)<|rl m v) q;rw[l] at r;refine(hJ _ _).2 ⟨s.1 U,U⟩
theorem ac2{n:N3}{D:O}(c:0<n.2.2)(a:0<m.2.2)(v:n.1*m.2.2=m.1*n.2.2)(x:n.2.1*m.2.2=m.2.1*n.2.2)(h:apN f m D):apN f n D:=by have w1:m.2.2*(wv f n).1=n.2.2*(wv f m).1:=(by unfold wv;grind);have l:m.2.2*(wv f n).2=n.2.2*(wv f m).2:=(by unfold wv;grind);have p:=bI (z:=(wv f n).1) a;have q:=bI (z:=(wv f m).1) c;have r:=dz (z:=(wv f n).1) a;have s:=dz (z:=(wv f m).1) c;have a5:=bI (z:=(wv f n).2) a;have t:=bI (z:=(wv f m).2) c;have k:m.2.2*L D (wv f n)=n.2.2*L D (wv f m):=(by have:m.2.2*L D (wv f n)=D.1*(m.2.2*(wv f n).2)-D.2*(m.2.2*(wv f n).1):=(by unfold L;grind);rw[this,w1,l];unfold L;grind);have g:=dz (z:=L D<|wv f n) a;rcases h with⟨b,d,e⟩|⟨b,d,e,B⟩;rw[e] at k;exact j ⟨b,U,g.1 U⟩;exact F ⟨b,d,U,U⟩
theorem ac3{t n:N3}{D:O}(c:0<n.2.2)(a:0<m.2.2)(v:n.1*m.2.2=m.1*n.2.2)(x:n.2.1*m.2.2=m.2.1*n.2.2)(h:apN m t D):apN n t D:=by have w1:m.2.2*(wv n t).1=n.2.2*(wv m t).1:=(by unfold wv;grind);have k:m.2.2*(wv n t).2=n.2.2*(wv m t).2:=(by unfold wv;grind);have l:=bI (z:=(wv n t).1) a;have p:=bI (z:=(wv m t).1) c;have q:=dz (z:=(wv n t).1) a;have r:=dz (z:=(wv m t).1) c;have a5:=bI (z:=(wv n t).2) a;have s:=bI (z:=(wv m t).2) c;have g:m.2.2*L D (wv n t)=n.2.2*L D (wv m t):=(by have:m.2.2*L D (wv n t)=D.1*(m.2.2*(wv n t).2)-D.2*(m.2.2*(wv n t).1):=(by unfold L;grind);rw[this,w1,k];unfold L;grind);have f:=dz (z:=L D<|wv n t) a;rcases h with⟨b,d,e⟩|⟨b,d,e,B⟩;rw[e] at g;exact j ⟨b,U,f.1 U⟩;exact F ⟨b,d,U,U⟩
def jz(e:O×O)(z:O):Int:=(e.2.1-e.1.1)*(z.2-e.1.2)-(e.2.2-e.1.2)*(z.1-e.1.1)
theorem ac4{D:O}{e:O×O}(q:0<f.2.2)(p:D≠(0,0))(c:e.1≠e.2)(m:lam D f e.1=0)(r:lam D f e.2=0):∃k l:Int,k≠0/\l≠0/\∀z,k*jz e z=l*lam D f z:=by have par:D.1*(e.2.2-e.1.2)=D.2*(e.2.1-e.1.1):=(by have:f.2.2*(D.1*(e.2.2-e.1.2)-D.2*(e.2.1-e.1.1))=lam D f e.2-lam D f e.1:=(by unfold lam L rl rel;simp only;grind);rw[m,r] at this;have:=(dz q).1 (show _=0 by rw[this];rfl);omega);have g:∀z,lam D f z=f.2.2*(D.1*(z.2-e.1.2)-D.2*(z.1-e.1.1)):=λz=>(by have:lam D f z-lam D f e.1=f.2.2*(D.1*(z.2-e.1.2)-D.2*(z.1-e.1.1)):=(by unfold lam L rl rel;simp only;grind);rw[m] at this;omega);by_cases b:D.1=0;have d:D.2≠0:=λd=>p<|dj b d;have n:e.2.1-e.1.1=0:=(by rw[b,acp] at par;rcases wX.1 par.symm with h|h;exact absurd h d;exact h);have a:e.2.2-e.1.2≠0:=λa=>c<|dj U U;refine⟨D.2*f.2.2,e.2.2-e.1.2,Vu d U,a,λz=>?_⟩;rw[g z];unfold jz;rw[b,n];grind;have a:e.2.1-e.1.1≠0:=λa=>(by rw[a,sL] at par;rcases wX.1 par with h|h;exact b h;exact c (dj U U));refine⟨D.1*f.2.2,e.2.1-e.1.1,Vu b U,a,λz=>?_⟩;rw[g z];unfold jz;have:D.1*f.2.2*((e.2.1-e.1.1)*(z.2-e.1.2)-(e.2.2-e.1.2)*(z.1-e.1.1))=f.2.2*((e.2.1-e.1.1)*(D.1*(z.2-e.1.2))-(D.1*(e.2.2-e.1.2))*(z.1-e.1.1)):=(by grind);rw[this,par];grind
theorem ac5(e0 e:O×O):cH e e0=jz e0 e.1-jz e0 e.2/\mX e e0=e.2.1*jz e0 e.1-e.1.1*jz e0 e.2/\mY e e0=e.2.2*jz e0 e.1-e.1.2*jz e0 e.2:=by unfold mX mY mT cH jz;grind
theorem dJ.Qk(q:bZ es l){f:Nd}(h:dJ es l f t){u:O}(m:(u,v)∈es\/(v,u)∈es)(h1:lam (wv f t) f u<=0)(h2:0<=lam (wv f t) f v)(h3:lam (wv f t) f u<lam (wv f t) f v):L (rl f u) (rl f v)<=0\/0<=L (rl t u) (rl t v):=by
 apply gP;intro hn;obtain⟨hf,ht,p⟩:=h.facts q;have cf:=q.can _ hf;have B:=q.can _ ht;have r:0<(iL u v (lam (wv f t) f u)<|lam (wv f t) f v).2.2:=(by show 0<lam (wv f t) f v-lam (wv f t) f u;omega);have D:=acY p (k:=L (rl f u)<|rl f v) U<|Qj f (wv f t) u v;have G:apN (iL u v (lam (wv f t) f u)<|lam (wv f t) f v) t (wv f t):=(by obtain⟨H,I⟩:=acZ (tM p) u v;have kp:0< -(f.2.2*L (rl t u) (rl t v)):=(by have:=(neg_mul (z:=L (rl t u)<|rl t v) cf.pos).2 U;omega);refine lK p ?_ ?_;have z:=dz (z:=L (wv f t)<|wv (iL u v (lam (wv f t) f u)<|lam (wv f t) f v) t) B.pos;refine z.1 ?_;have:t.2.2*L (wv f t) (wv (iL u v (lam (wv f t) f u)<|lam (wv f t) f v) t)=(wv f t).1*(t.2.2*(wv (iL u v (lam (wv f t) f u)<|lam (wv f t) f v) t).2)-(wv f t).2*(t.2.2*(wv (iL u v (lam (wv f t) f u)<|lam (wv f t) f v) t).1):=(by unfold L;grind);grind;have z:=bI (z:=i (wv f t)<|wv (iL u v (lam (wv f t) f u)<|lam (wv f t) f v) t) B.pos;refine z.1 ?_;have:t.2.2*i (wv f t) (wv (iL u v (lam (wv f t) f u)<|lam (wv f t) f v) t)=(wv f t).1*(t.2.2*(wv (iL u v (lam (wv f t) f u)<|lam (wv f t) f v) t).1)+(wv f t).2*(t.2.2*(wv (iL u v (lam (wv f t) f u)<|lam (wv f t) f v) t).2):=(by unfold i;grind);rw[this,H,I];have e3:(wv f t).1*(-(f.2.2*L (rl t u) (rl t v))*(wv f t).1)+(wv f t).2*(-(f.2.2*L (rl t u) (rl t v))*(wv f t).2)= -(f.2.2*L (rl t u) (rl t v))*i (wv f t) (wv f t):=(by unfold i;grind);rw[e3];exact bD kp<|dI<|jg p)
 have o1:=ac0 (u:=u) (v:=v) h1 h2;obtain⟨e0,s,y⟩:=id h;obtain⟨J,K⟩:=mA y;have o2:=Qe cf.pos B.pos r p (fP.1 J).2 (fP.1 K).2 D G;obtain⟨N,W⟩:=yR B.pos p (fP.1 J).2 (fP.1 K).2;obtain⟨k,M,hk,w,d⟩:=ac4 cf.pos (jg p) (q.ne e0 s) N W;obtain⟨n,g,qn,n1,P⟩:=ac1 r;have x:=Db g.pos r n1 P o1;have C:=Db g.pos r n1 P o2;have pr:jz e0 v*lam (wv f t) f u=jz e0 u*lam (wv f t) f v:=by
  have a:=d u;have b:=d v;have:k*(jz e0 v*lam (wv f t) f u)=k*(jz e0 u*lam (wv f t) f v):=by
   grind
  exact nu hk this
 have Z:jz e0 u≠jz e0 v:=λm=>(by have a:=d u;have b:=d v;rw[m,b] at a;have:=nu w a;omega);have Ql:∀e:O×O,e∈es->(e=(u,v)\/e=(v,u))->isNode es (T n):=λe S c=>(by obtain⟨Q,X,Y⟩:=ac5 e0 e;have R:cH e e0≠0:=(by grind);have A:T n=eF e e0:=(by rw[qn];unfold eF;refine dj ?_ ?_;refine q9 U R ?_;rw[Q,X];unfold iL;grind;refine q9 U R ?_;rw[Q,Y];unfold iL;grind);refine F ⟨e,S,e0,s,R,A,?_,?_⟩;rw[<-A,vp g];rcases c with h|h<;>rw[h];exact x;show on (rl n v) (rl n u)=aP;rw[oR];exact x;rw[<-A,vp g];exact C);have o:isNode es (T n):=(by grind);exact h.gap q (q.mem g o) ⟨ac2 g.pos r n1 P D,ac3 g.pos r n1 P G⟩
theorem dJ.kJ(d:bZ es l){f:Nd}(h:dJ es l f t):kV es f t:=by obtain⟨k,n,m⟩:=h.facts d;refine⟨(d.can _ k).pos,(d.can _ n).pos,m,λe g=>⟨λa b c=>h.Qk d (j g) a b c,λa b c=>?_⟩,λe g=>⟨h.Qi d (d.yS g).1,h.Qi d (d.yS g).2⟩⟩;have:=h.Qk d (u:=e.2) (v:=e.1) (F g) a b c;rw[da (rl f e.1)<|rl f e.2,da (rl t e.1)<|rl t e.2] at this;omega
theorem Dc(z w:O):bh z w=bh w z:=by unfold bh;rw[da z w,iy];simp
theorem Dd(h:bh d d'=aP):bF d↔bF d':=by
 obtain⟨c,a⟩:=(dE _ _).1 h;have b:=dI<|qk (D:=d') (r:=d) (by rw[iy];omega);have:d'.1*i d d=d.1*i d d':=by unfold L at c;unfold i;grind
 have:d'.2*i d d=d.2*i d d':=by unfold L at c;unfold i;grind
 have e:=bI (z:=d'.1) b;have f:=bI (z:=d.1) a;have g:=dz (z:=d'.1) b;have k:=dz (z:=d.1) a;have a5:=bI (z:=d'.2) b;have l:=bI (z:=d.2) a;rw[dw] at e f g k a5 l;unfold bF;omega
theorem tV(h:bh d d'=aP)(z:O):(0<L z d↔0<L z d')/\(L z d=0↔L z d'=0):=by obtain⟨l,a⟩:=(dE _ _).1 h;have b:=dI<|qk (D:=d') (r:=d) (by rw[iy];omega);have:=ql (D:=z) l;have c:=bI (z:=L z d') b;have f:=bI (z:=L z d) a;have g:=dz (z:=L z d') b;have k:=dz (z:=L z d) a;grind
theorem ac6(h:bh d d'=aP):d≠(0,0)/\d'≠(0,0):=by obtain⟨_,a⟩:=(dE _ _).1 h;exact⟨qk (D:=d') (by rw[iy];omega),qk (D:=d) U⟩
theorem De(h:bh d d'=aP)(z:O):bf z d=bf z d':=by have c:=Dd h;have e:=(tV h z).1;have a:=kX (z:=z) (w:=d);have b:=kX (z:=z) (w:=d');grind
theorem Hm(h:bh d d'=aP)(z:O):bf d z=bf d' z:=by have c:=Dd h;have:=tV h z;have a:=kX (z:=d) (w:=z);have b:=kX (z:=d') (w:=z);rw[da z d] at a;rw[da z d',<-c] at b;grind
theorem Hn{x y z:O}(a:bh x y=aP)(b:bh y z=aP):bh x z=aP:=by
 obtain⟨c,d⟩:=(dE _ _).1 a;obtain⟨e,f⟩:=(dE _ _).1 b;have h:=dI (ac6 a).2;refine(dE _ _).2 ⟨((tV b x).2).1 c,?_⟩;have g:i x z*i y y=i x y*i y z+L y x*L y z:=by unfold i L;grind
 rw[e] at g;have:=bD d f;have q:=bI (z:=i x z) h;grind
theorem ac7(h:bh d d'=aP)(z:O):bh z d=bh z d':=by cases a:bh z d<;>cases b:bh z d';rfl;rw[Hn b (by rw[Dc];exact h)] at a;cases a;rw[Hn a h] at b;cases b;rfl
theorem Qm{n:N3}(h:bh d d'=aP):dA es n d=dA es n d'/\dZ es n d=dZ es n d':=by
 have a:AS es n (λz=>nz z&&bf z d)=AS es n (λz=>nz z&&bf z d'):=CR λe _ _=>by simp only[De h];exact⟨trivial,trivial⟩
 have b:AS es n (λz=>bh z d)=AS es n (λz=>bh z d'):=CR λe _ _=>by simp only[ac7 h];exact⟨trivial,trivial⟩
 unfold dZ dA;rw[a,b];exact⟨rfl,rfl⟩
theorem eI(a b:N3):wv b a=neg (wv a b):=by unfold wv neg;grind
theorem Ho{z:O}(b:bF z)(a:bF (neg z)):False:=by unfold bF neg at*;omega
theorem ac8(a:bZ es l)(H:n∈l){z:O}(Y:z∈arms es n):∃m,m∈l/\(dJ es l n m\/dJ es l m n)/\bh (wv n m) z=aP:=by obtain⟨y,e,R,o,q⟩:=jx.1 Y;have r:=a.can n H;obtain⟨p,X,v,u⟩:∃p:O,on (rl (p.1,p.2,1) e.1) (rl (p.1,p.2,1) e.2)=aP/\(p.1,p.2,1)∈l/\z=rl n p:=(by have C:∀p:O,rl (p.1,p.2,1) p=(0,0):=λp=>(by unfold rl rel;simp);rcases q with h|h;exact⟨e.1,oQ _ _<|j<|C _,(a.yS R).1,h⟩;exact⟨e.2,oQ _ _<|F<|C _,(a.yS R).2,h⟩);have A:=a.can _ v;have Q:wv n (p.1,p.2,1)=z:=(by rw[yT,u]);have J:n∈held e l:=fP.2 ⟨H,o⟩;have K:(p.1,p.2,1)∈held e l:=fP.2 ⟨v,X⟩;have D:∀m∈held e l,N.Can m:=λm W=>a.can m (fP.1 W).1;by_cases w:bF z;have k:lt (T n) (T (p.1,p.2,1)):=(kZ r A).2 (by grind);obtain⟨t,I⟩:=Qb (a.vV e) D J K k;have b:dJ es l n t:=⟨e,R,I⟩;obtain⟨_,P,B⟩:=b.facts a;refine⟨t,P,j b,(dE _ _).2 ?_⟩;have s:=yR (a.can t P).pos B o (fP.1 (mA I).2).2;have d:L (wv n t) z=0:=(by rcases q with h|h;rw[h];exact s.1;rw[h];exact s.2);exact⟨d,jw B w d⟩;have x:=fN y w;have k:lt (T (p.1,p.2,1)) (T n):=(kZ A r).2 (by rw[eI,Q];exact x);obtain⟨f,G⟩:=Qc (a.vV e) D J K k;have b:dJ es l f n:=⟨e,R,G⟩;obtain⟨g,_,c⟩:=b.facts a;have s:=yR r.pos c (fP.1 (mA G).1).2 o;have S:=(nY (a.can f g).pos r.pos c e.1).2 s.1;have i:=(nY (a.can f g).pos r.pos c e.2).2 s.2;have d:L (wv f n) z=0:=(by rcases q with h|h;rw[h];exact S;rw[h];exact i);refine⟨f,g,F b,(dE _ _).2 ?_⟩;have M:=jw c x (by rw[e9];omega);rw[jJ] at M;rw[eI f n,e8,nX];omega
def Sd(es:V (O×O))(l:V Nd)(bm:Int->Bool)(a b:Nd):Prop:=
 (dJ es l a b/\bm (LL es a b)=aP/\bm (RR es a b)=aQ)\/(dJ es l b a/\bm (RR es b a)=aP/\bm (LL es b a)=aQ)
theorem Sd.pc(h:Sd es l bm a b):dJ es l a b\/dJ es l b a:=by rcases h with h|h;grind;grind
theorem fZ(f:bZ es l)(h:dJ es l a b\/dJ es l b a):wv a b≠(0,0)/\a∈l/\b∈l:=by rcases h with h|h;obtain⟨c,d,e⟩:=h.facts f;exact⟨jg e,c,d⟩;obtain⟨c,d,e⟩:=h.facts f;exact⟨by rw[eI b a];exact iz<|jg e,d,c⟩
theorem Sd.leave(g:bZ (o rg) l)(h:Sd (o rg) l bm a b):bm (dA (o rg) a<|wv a b)=aQ/\bm (dZ (o rg) a<|wv a b)=aP:=by rcases h with⟨h,c,d⟩|⟨h,c,d⟩;obtain⟨e,f⟩:=oS<|h.kJ g;grind;obtain⟨e,f⟩:=tN<|h.kJ g;rw[e,<-eI] at c;rw[f,<-eI] at d;grind
theorem Sd.tW(g:bZ (o rg) l)(h:Sd (o rg) l bm a b):bm (dA (o rg) b<|wv b a)=aP/\bm (dZ (o rg) b<|wv b a)=aQ:=by rcases h with⟨h,c,d⟩|⟨h,c,d⟩;obtain⟨e,f⟩:=tN<|h.kJ g;rw[e,<-eI] at d;rw[f,<-eI] at c;grind;obtain⟨e,f⟩:=oS<|h.kJ g;grind
theorem Sd.of(g:bZ (o rg) l)(h:dJ (o rg) l a b\/dJ (o rg) l b a)(e:bm (dA (o rg) a<|wv a b)=aQ)(f:bm (dZ (o rg) a<|wv a b)=aP):Sd (o rg) l bm a b:=by rcases h with h|h;obtain⟨c,d⟩:=oS<|h.kJ g;exact j ⟨h,by grind,by grind⟩;obtain⟨c,d⟩:=tN<|h.kJ g;rw[<-eI] at c d;exact F ⟨h,by grind,by grind⟩
theorem Df(b:bZ (o rg) l)(f:n∈l){z:O}(a:tQ (o rg) n bm z):∃m,Sd (o rg) l bm n m/\bh (wv n m) z=aP:=by obtain⟨m,h,g,c⟩:=ac8 b f a.mem;obtain⟨d,e⟩:=Qm (es:=o rg) (n:=n) c;exact⟨m,Sd.of b g (by rw[d];exact a.out) (by rw[e];exact a.bm),c⟩
theorem Sd.next(d:bZ (o rg) l)(h:Sd (o rg) l bm a b):∃c,Sd (o rg) l bm b c:=by obtain⟨f,g⟩:=h.tW d;obtain⟨e,_,k⟩:=fZ d h.pc;obtain⟨z,n⟩:=ab3 (by rw[eI a b];exact iz e) f g;obtain⟨c,m,_⟩:=Df d k n;grind
theorem Sd.mR(d:bZ (o rg) l)(h:Sd (o rg) l bm a b)(g:Sd (o rg) l bm b c):bh (wv b c) (wv b a)=aQ:=by cases k:bh (wv b c) (wv b a);rfl;obtain⟨f,_⟩:=Qm (es:=o rg) (n:=b) k;have m:=(h.tW d).1;have e:=(g.leave d).1;grind
theorem yU(a:bZ es l){t':Nd}(h:dJ es l n t\/dJ es l t n)(e:dJ es l n t'\/dJ es l t' n)(R:bh (wv n t) (wv n t')=aP):t=t':=by have eh:∀{x y:Nd},x∈l->y∈l->x=y\/lt (T x) (T y)\/lt (T y) (T x):=λ{x y} p B=>(by have J:=a.can x p;have K:=a.can y B;unfold lt;rcases dG (pc (T x)<|T y) 0 with h|h|h;omega;exact j (qg J K h);exact F (F (by rw[uV];omega)));have G:∀x y:Nd,(∀i:Int,i=i)->n.2.2*(wv x y).1=x.2.2*(wv n y).1-y.2.2*(wv n x).1/\n.2.2*(wv x y).2=x.2.2*(wv n y).2-y.2.2*(wv n x).2:=λx y _=>(by unfold wv;grind);obtain⟨_,M,q⟩:=fZ a h;obtain⟨_,_,b⟩:=fZ a e;have C:=a.can n M;have P:∀{x y:Nd},x∈l->y∈l->dJ es l n y->bh (wv n x) (wv n y)=aP->lt (T x) (T y)->False:=λ{x y} p B c m w=>(by obtain⟨_,_,g⟩:=c.facts a;obtain⟨N,H⟩:=(dE _ _).1 m;have d:=(kZ (a.can x p)<|a.can y B).1 w;have Q:L (wv n y) (wv n x)=0:=(by rw[da];omega);have r:L (wv n y) (wv x y)=0:=(by obtain⟨z,A⟩:=G x y<|λ_=>rfl;have:n.2.2*L (wv n y) (wv x y)=(wv n y).1*(n.2.2*(wv x y).2)-(wv n y).2*(n.2.2*(wv x y).1):=(by unfold L;grind);rw[z,A] at this;refine(dz C.pos).1<|this.trans ?_;unfold L at Q;grind);exact c.gap a p ⟨lK g Q (by rw[iy];exact H),lK g r<|jw g d r⟩);have f:∀{x y:Nd},x∈l->y∈l->dJ es l y n->bh (wv n x) (wv n y)=aP->lt (T y) (T x)->False:=λ{x y} p B c m w=>(by obtain⟨_,_,g⟩:=c.facts a;obtain⟨N,H⟩:=(dE _ _).1 m;have d:=(kZ (a.can y B)<|a.can x p).1 w;have u:wv y n=neg (wv n y):=eI n y;have D:wv x n=neg (wv n x):=eI n x;have Q:L (wv y n) (wv x n)=0:=(by rw[u,D,e8,e9,da<|wv n x];omega);have r:L (wv y n) (wv y x)=0:=(by obtain⟨z,A⟩:=G y x<|λ_=>rfl;have:n.2.2*L (wv n y) (wv y x)=(wv n y).1*(n.2.2*(wv y x).2)-(wv n y).2*(n.2.2*(wv y x).1):=(by unfold L;grind);rw[z,A] at this;have k:L (wv n y) (wv y x)=0:=(by refine(dz C.pos).1<|this.trans ?_;have I:L (wv n y) (wv n x)=0:=(by rw[da];omega);unfold L at I;grind);rw[u,e8];omega);exact c.gap a p ⟨lK g r<|jw g d r,lK g Q (by rw[u,D,nX,jJ,iy];omega)⟩);have v:bh (wv n t') (wv n t)=aP:=(by rw[Dc];exact R);have s:=Dd R;rcases h with h|h<;>rcases e with e|e;grind;exfalso;have S:=(h.facts a).2.2;have o:=(e.facts a).2.2;rw[eI n t'] at o;exact Ho (s.1 S) o;exfalso;have S:=(h.facts a).2.2;have o:=(e.facts a).2.2;rw[eI n t] at S;exact Ho (s.2 o) S;grind
theorem Dg{a l l' k:O}(h:bh l k=aP):cw a l l'=cw a k l':=by unfold cw;rw[Hm h,De h,De h]
theorem ac9(d:bZ (o rg) l){a':Nd}(h:Sd (o rg) l bm a b)(g:Sd (o rg) l bm a' b)(m:Sd (o rg) l bm b c)
  (i:∀f,Sd (o rg) l bm b f->¬tC (wv a b) (wv b f) (wv b c)<0)(r:∀f,Sd (o rg) l bm b f->¬tC (wv a' b) (wv b f) (wv b c)<0):a=a':=by obtain⟨n1,_,S⟩:=fZ d h.pc;obtain⟨u,_,_⟩:=fZ d g.pc;obtain⟨t,_,_⟩:=fZ d m.pc;have x:wv b a≠(0,0):=(by rw[eI a b];exact iz n1);have B:wv b a'≠(0,0):=(by rw[eI a' b];exact iz u);cases v:bh (wv b a) (wv b a');exfalso;obtain⟨Q,R⟩:=h.tW d;obtain⟨p,q⟩:=g.tW d;obtain⟨z,j,s⟩:=O4 x B v Q R p q t (h.mR d m)<|g.mR d m;obtain⟨f,e,n⟩:=Df d S j;obtain⟨P,_,_⟩:=fZ d e.pc;rcases s with k|k;rw[<-Dg n] at k;have:=(vP x P t (h.mR d e)<|h.mR d m).2 k;rw[<-eI] at this;grind;rw[<-Dg n] at k;have:=(vP B P t (g.mR d e)<|g.mR d m).2 k;rw[<-eI] at this;grind;exact yU d h.pc.symm g.pc.symm v
theorem Sd.straight(d:bZ (o rg) l)(h:Sd (o rg) l bm a b)(f:Sd (o rg) l bm b c)(g:L (wv a b) (wv b c)=0):bh (wv a b) (wv b c)=aP:=by refine(dE _ _).2 ⟨g,?_⟩;have m:=h.mR d f;obtain⟨n1,_,_⟩:=fZ d h.pc;obtain⟨p,_,_⟩:=fZ d f.pc;have n:=G8 m (by rw[eI a b,e9,da<|wv a b];omega);rw[eI a b,jJ,iy] at n;have:i (wv a b) (wv b c)≠0:=λk=>(by have e:i (wv a b) (wv b c)*i (wv a b) (wv b c)+L (wv a b) (wv b c)*L (wv a b) (wv b c)=i (wv a b) (wv a b)*i (wv b c) (wv b c):=(by unfold i L;grind);have:=bD (dI n1)<|dI p;grind);omega
end W
namespace Gb
open N W
variable{u u' v v':O}
def aZ:V Nd->Int
 |[]=>1
 |n::l=>n.2.2*aZ l
theorem Qv:∀{l:V Nd},(∀n∈l,0<n.2.2)->0<aZ l
 |[],_=>by show(0:Int)<1;decide
 |n::l,h=>bD (h n E)<|Qv λm a=>h m<|bW _ a
theorem Qw:∀{l:V Nd}{n:Nd},n∈l->n.2.2∣aZ l
 |[],_,h=>by grind
 |m::l,n,h=>by rcases bK.1 h with e|e;rw[e];exact⟨aZ l,rfl⟩;exact wR (Qw e) ⟨m.2.2,dw _ _⟩
def PM(M:Int)(n:Nd):O:=(n.1*(M/n.2.2),n.2.1*(M/n.2.2))
theorem od{M:Int}(d:0<M){n:Nd}(c:0<n.2.2)(a:n.2.2∣M):∃k,0<k/\n.2.2*k=M/\PM M n=(n.1*k,n.2.1*k):=by
 obtain⟨k,e⟩:=a;have b:M/n.2.2=k:=by rw[e];exact Int.mul_ediv_cancel_left k U
 refine⟨k,?_,e.symm,by unfold PM;rw[b]⟩;exact(bI c).1 U
def Pm(u v:O):Prop:=∃p q:Int,0<p/\0<q/\p*u.1=q*v.1/\p*u.2=q*v.2
theorem gC{p q x y:Int}(g:0<p)(k:0<q)(h:p*x=q*y):(0<x↔0<y)/\(x<0↔y<0)/\(x=0↔y=0):=by have a:=bI (z:=x) g;have b:=bI (z:=y) k;have c:=neg_mul (z:=x) g;have d:=neg_mul (z:=y) k;omega
theorem Pm.L(h:Pm u u')(k:Pm v v'):(0<N.L u v↔0<N.L u' v')/\(N.L u v<0↔N.L u' v'<0)/\(N.L u v=0↔N.L u' v'=0):=by
 obtain⟨p,q,f,g,b,c⟩:=h;obtain⟨r,s,l,m,d,e⟩:=k;refine gC (p:=p*r) (q:=q*s) (bD f l) (bD g m) ?_;have a:p*r*N.L u v=(p*u.1)*(r*v.2)-(p*u.2)*(r*v.1):=by unfold N.L;grind
 rw[a,b,c,d,e];unfold N.L;grind
theorem Pm.i(h:Pm u u')(k:Pm v v'):(0<N.i u v↔0<N.i u' v')/\(N.i u v<0↔N.i u' v'<0)/\(N.i u v=0↔N.i u' v'=0):=by
 obtain⟨p,q,f,g,b,c⟩:=h;obtain⟨r,s,l,m,d,e⟩:=k;refine gC (p:=p*r) (q:=q*s) (bD f l) (bD g m) ?_;have a:p*r*N.i u v=(p*u.1)*(r*v.1)+(p*u.2)*(r*v.2):=by unfold N.i;grind
 rw[a,b,c,d,e];unfold N.i;grind
theorem Pm.neg(h:Pm u v):Pm (W.neg u) (W.neg v):=by obtain⟨p,q,c,d,a,b⟩:=h;refine⟨p,q,c,d,?_,?_⟩;show p*(-u.1)=q*(-v.1);grind;show p*(-u.2)=q*(-v.2);grind
theorem Pm.bF(h:Pm u v):W.bF u↔W.bF v:=by obtain⟨p,q,c,d,e,f⟩:=h;have:=gC c d e;have:=gC c d f;unfold W.bF;omega
theorem Pm.zero(h:Pm u v):u=(0,0)↔v=(0,0):=by obtain⟨p,q,c,d,e,f⟩:=h;have:=gC c d e;have:=gC c d f;grind
theorem Pm.bh(h:Pm u u')(k:Pm v v'):W.bh u v=W.bh u' v':=by refine ke.2 ?_;rw[dE,dE,(h.L k).2.2,(h.i k).1]
theorem Pm.bf(h:Pm u u')(k:Pm v v'):W.bf u v=W.bf u' v':=by refine ke.2 ?_;rw[kX,kX,h.bF,k.bF,(h.L k).1]
theorem Pm.cw{a a':O}(g:Pm a a')(h:Pm u u')(k:Pm v v'):W.cw a u v=W.cw a' u' v':=by unfold W.cw;rw[h.bf g,k.bf g,k.bf h,g.bf k,g.bf h]
theorem Pm.on(h:Pm u u')(k:Pm v v'):N.on u v=N.on u' v':=by refine ke.2 ?_;rw[hJ,hJ,(h.L k).2.2];have:=(h.i k).1;omega
section
variable{M:Int}
structure OK(M:Int)(n:Nd):Prop where
 p:0<n.2.2
 d:n.2.2∣M
theorem Qx(x:O):0<=i x x:=by by_cases h:x=(0,0);rw[h];decide;have:=dI h;omega
theorem iN(c:0<M){a b:Nd}(d:OK M a)(g:OK M b):Pm (dr (PM M a,PM M b)) (wv a b):=by obtain⟨k,n,e,h⟩:=od c d.p d.d;obtain⟨j,m,f,l⟩:=od c g.p g.d;refine⟨a.2.2*b.2.2,M,bD d.p g.p,c,?_,?_⟩;rw[h,l];show a.2.2*b.2.2*(b.1*j-a.1*k)=M*(a.2.2*b.1-b.2.2*a.1);grind;rw[h,l];show a.2.2*b.2.2*(b.2.1*j-a.2.1*k)=M*(a.2.2*b.2.1-b.2.2*a.2.1);grind
def cK(M:Int)(u:O):O:=(M*u.1,M*u.2)
theorem Dk(d:0<M){a:Nd}(b:OK M a):∃k,0<k/\∀u,dr (PM M a,cK M u)=W.sc k (rl a u):=by obtain⟨k,f,e,c⟩:=od d b.p b.d;refine⟨k,f,λu=>?_⟩;rw[c];unfold dr cK W.sc rl rel;grind
theorem qs{k:Int}(a:0<k)(u:O):Pm (W.sc k u) u:=⟨1,k,ae,a,by unfold W.sc;simp,by unfold W.sc;simp⟩
theorem Dl{p q x y x' y':Int}(a:0<p)(b:0<q)(h:p*x=q*x')(k:p*y=q*y'):x<y↔x'<y':=by have:=(gC a b (x:=y-x) (y:=y'-x')<|by rw[abG,abG,h,k]).1;omega
theorem Qy(e:0<M){f t:Nd}(m:OK M f)(r:OK M t){u v:O}(h:ju f t (wv f t) u v):ju (n1<|PM M f) (n1<|PM M t) (dr (PM M f,PM M t)) (cK M u) (cK M v):=by obtain⟨k,g,d⟩:=Dk e m;obtain⟨j,n,l⟩:=Dk e r;obtain⟨p,q,c,Q,B,P⟩:=iN e m r;have b:∀z,p*lam (dr (PM M f,PM M t)) (n1<|PM M f) (cK M z)=(q*k)*lam (wv f t) f z:=λz=>(by unfold lam;rw[eG,d];have:p*L (dr (PM M f,PM M t)) (W.sc k<|rl f z)=k*((p*(dr (PM M f,PM M t)).1)*(rl f z).2-(p*(dr (PM M f,PM M t)).2)*(rl f z).1):=(by unfold L W.sc;grind);rw[this,B,P];unfold L;grind);have a:0<q*k:=bD Q g;have i:=gC c a<|b u;have o:=gC c a<|b v;have R:=Dl c a (b u)<|b v;have S:=Dl c a (b v)<|b u;have s:=(qs g<|rl f u).L<|qs g<|rl f v;have x:=(qs n<|rl t u).L<|qs n<|rl t v;rw[<-d,<-d] at s;rw[<-l,<-l] at x;unfold ju at h⊢;rw[eG,eG,eG,eG];omega
theorem adp{F T D u v A B:O}{N α β:Int}(g:0<N)(k:0<=α)(m:α<=N)(l:0<=β)(n:β<=N)(j:N*(A.1-u.1)=α*(v.1-u.1))(o:N*(A.2-u.2)=α*(v.2-u.2))(C:N*(B.1-u.1)=β*(v.1-u.1))(H:N*(B.2-u.2)=β*(v.2-u.2))
  (h:ju (n1 F) (n1 T) D u v):ju (n1 F) (n1 T) D A B:=by have p:N*lam D (n1 F) A=(N-α)*lam D (n1 F) u+α*lam D (n1 F) v:=(by unfold lam;rw[eG,eG,eG];unfold L dr;simp only;have:N*(D.1*(A.2-F.2)-D.2*(A.1-F.1))=D.1*(N*(A.2-u.2)+N*(u.2-F.2))-D.2*(N*(A.1-u.1)+N*(u.1-F.1)):=(by grind);rw[this,j,o];grind);have s:N*lam D (n1 F) B=(N-β)*lam D (n1 F) u+β*lam D (n1 F) v:=(by unfold lam;rw[eG,eG,eG];unfold L dr;simp only;have:N*(D.1*(B.2-F.2)-D.2*(B.1-F.1))=D.1*(N*(B.2-u.2)+N*(u.2-F.2))-D.2*(N*(B.1-u.1)+N*(u.1-F.1)):=(by grind);rw[this,C,H];grind);have K:∀G:O,N*N*L (dr (G,A)) (dr (G,B))=N*((β-α)*L (dr (G,u)) (dr (G,v))):=λG=>(by unfold L dr;simp only;have:N*N*((A.1-G.1)*(B.2-G.2)-(A.2-G.2)*(B.1-G.1))=(N*(A.1-u.1)+N*(u.1-G.1))*(N*(B.2-u.2)+N*(u.2-G.2))-(N*(A.2-u.2)+N*(u.2-G.2))*(N*(B.1-u.1)+N*(u.1-G.1)):=(by grind);rw[this,j,o,C,H];grind);have I:=gC (bD g g) g<|K F;have J:=gC (bD g g) g<|K T;unfold ju at h⊢;rw[eG,eG,eG,eG] at h⊢;generalize lam D (n1 F) u=a at*;generalize lam D (n1 F) v=b at*;generalize lam D (n1 F) A=d at*;generalize lam D (n1 F) B=f at*;generalize L (dr (F,A)) (dr (F,B))=X at*;generalize L (dr (T,A)) (dr (T,B))=Y at*;generalize L (dr (F,u)) (dr (F,v))=x at*;generalize L (dr (T,u)) (dr (T,v))=y at*;have t:∀{α β d f X Y:Int},0<=α->α<=N->0<=β->β<=N->N*d=(N-α)*a+α*b->N*f=(N-β)*a+β*b->((0<X↔0<(β-α)*x)/\(X<0↔(β-α)*x<0)/\(X=0↔(β-α)*x=0))->((0<Y↔0<(β-α)*y)/\(Y<0↔(β-α)*y<0)/\(Y=0↔(β-α)*y=0))->d<=0->0<=f->d<f->X<=0\/0<=Y:=(by intro α β d f X Y k m l n p s I J Q R S;have Z:N*(f-d)=(β-α)*(b-a):=(by rw[abG,p,s];grind);have c:0<(β-α)*(b-a):=(by rw[<-Z];exact bD g U);rcases dG α β with q|q|q;have i:0<b-a:=(bI (show 0<β-α by omega)).1 c;have P:N*(d-a)=α*(b-a):=(by rw[abG,p];grind);have M:N*(b-f)=(N-β)*(b-a):=(by rw[abG,s];grind);have V:0<=α*(b-a):=gM k U;have W:0<=(N-β)*(b-a):=gM U U;have n1:¬d-a<0:=λw=>(by have:=(neg_mul (z:=d-a) g).2 w;omega);have n2:¬b-f<0:=λw=>(by have:=(neg_mul (z:=b-f) g).2 w;omega);have r:=h.1 U U U;have px:=bI (z:=x) (show 0<β-α by omega);have py:=neg_mul (z:=y) (show 0<β-α by omega);omega;subst q;simp at c;have i:b-a<0:=(by have e:(β-α)*(b-a)=(α-β)*(a-b):=(by grind);rw[e] at c;have:=(bI (show 0<α-β by omega)).1 c;omega);have P:N*(d-b)=(N-α)*(a-b):=(by rw[abG,p];grind);have M:N*(a-f)=β*(a-b):=(by rw[abG,s];grind);have V:0<=(N-α)*(a-b):=gM U U;have W:0<=β*(a-b):=gM l U;have n1:¬d-b<0:=λw=>(by have:=(neg_mul (z:=d-b) g).2 w;omega);have n2:¬a-f<0:=λw=>(by have:=(neg_mul (z:=a-f) g).2 w;omega);have r:=h.2 U U U;have ex:(β-α)*x= -((α-β)*x):=(by grind);have ey:(β-α)*y= -((α-β)*y):=(by grind);have px:=neg_mul (z:=x) (show 0<α-β by omega);have py:=bI (z:=y) (show 0<α-β by omega);omega);refine⟨λQ R S=>t k m l n p s I J Q R S,λQ R S=>?_⟩;have P:∀z:Int,(α-β)*z= -((β-α)*z):=λz=>(by grind);have r:=t (X:= -X) (Y:= -Y) l n k m s p (by rw[P];omega) (by rw[P];omega) Q R S;omega
theorem Qz(g:0<M){a:Nd}(h:OK M a){e:O×O}(_:e.1≠e.2)(l:on (rl a e.1) (rl a e.2)=aP):∃α,0<=α/\α<=i (dr (cK M e.1,cK M e.2)) (dr (cK M e.1,cK M e.2))/\
  i (dr (cK M e.1,cK M e.2)) (dr (cK M e.1,cK M e.2))*((PM M a).1-(cK M e.1).1)=α*((cK M e.2).1-(cK M e.1).1)/\i (dr (cK M e.1,cK M e.2)) (dr (cK M e.1,cK M e.2))*((PM M a).2-(cK M e.1).2)=α*((cK M e.2).2-(cK M e.1).2):=by obtain⟨k,f,d⟩:=Dk g h;have b:on (dr (PM M a,cK M e.1)) (dr (PM M a,cK M e.2))=aP:=(by rw[d,d,(qs f _).on<|qs f _];exact l);rw[hJ] at b;obtain⟨m,n⟩:=b;generalize PM M a=A at*;generalize cK M e.1=u at*;generalize cK M e.2=v at*;refine⟨i (dr (u,v))<|dr (u,A),?_,?_,?_,?_⟩;have:i (dr (u,v)) (dr (u,A))=i (dr (A,u)) (dr (A,u))-i (dr (A,u)) (dr (A,v)):=(by unfold i dr;grind);have s:=Qx<|dr (A,u);omega;have:i (dr (u,v)) (dr (u,v))-i (dr (u,v)) (dr (u,A))=i (dr (A,v)) (dr (A,v))-i (dr (A,u)) (dr (A,v)):=(by unfold i dr;grind);have s:=Qx<|dr (A,v);omega;have c:L (dr (u,v)) (dr (u,A))=0:=(by have:L (dr (u,v)) (dr (u,A))=L (dr (A,u)) (dr (A,v)):=(by unfold L dr;grind);omega);have:i (dr (u,v)) (dr (u,v))*(A.1-u.1)=i (dr (u,v)) (dr (u,A))*(v.1-u.1)-L (dr (u,v)) (dr (u,A))*(v.2-u.2):=(by unfold i L dr;grind);grind;have c:L (dr (u,v)) (dr (u,A))=0:=(by have:L (dr (u,v)) (dr (u,A))=L (dr (A,u)) (dr (A,v)):=(by unfold L dr;grind);omega);have:i (dr (u,v)) (dr (u,v))*(A.2-u.2)=i (dr (u,v)) (dr (u,A))*(v.2-u.2)+L (dr (u,v)) (dr (u,A))*(v.1-u.1):=(by unfold i L dr;grind);grind
end
theorem QA{es:V (O×O)}{l:V Nd}{M:Int}(m:0<M)(c:∀n∈l,OK M n)(q:bZ es l){f t a b:Nd}(h:dJ es l f t)(j:dJ es l a b\/dJ es l b a):Pf (PM M f,PM M t) (PM M a,PM M b):=by obtain⟨d,k,o⟩:=h.facts q;obtain⟨_,r,s⟩:=fZ q j;have D:=h.kJ q;have S:∀n∈l,kj (n1<|PM M f) (n1<|PM M t) (dr (PM M f,PM M t)) (PM M n):=λn Q P=>(by have v:=iN m (c f d)<|c t k;have u:=iN m (c f d)<|c n Q;have w:=iN m (c n Q)<|c t k;unfold lam at P;rw[eG] at P⊢;rw[eG];have A:=((v.L u).2.2).1 P;apply gP;intro F;have G:0<i (dr (PM M f,PM M t)) (dr (PM M f,PM M n)):=U;have H:0<i (dr (PM M f,PM M t)) (dr (PM M n,PM M t)):=(by have e:dr (PM M t,PM M n)=neg (dr (PM M n,PM M t)):=mS (PM M n,PM M t);rw[e,jJ] at F;omega);have C:L (wv f t) (wv n t)=0:=(by refine((v.L w).2.2).1 ?_;have:L (dr (PM M f,PM M t)) (dr (PM M n,PM M t))= -L (dr (PM M f,PM M t)) (dr (PM M f,PM M n)):=(by unfold L dr;grind);omega);exact h.gap q Q ⟨lK o A<|(v.i u).1.1 G,lK o C<|(v.i w).1.1 H⟩);refine⟨?_,S a r,S b s⟩;obtain⟨e,p,x,B⟩:∃e∈es,on (rl a e.1) (rl a e.2)=aP/\on (rl b e.1) (rl b e.2)=aP:=(by rcases j with⟨e,p,R⟩|⟨e,p,R⟩;have:=mA R;exact⟨e,p,(fP.1 this.1).2,(fP.1 this.2).2⟩;have:=mA R;exact⟨e,p,(fP.1 this.2).2,(fP.1 this.1).2⟩);have g:=q.ne e p;obtain⟨α,I,J,K,N⟩:=Qz m (c a r) g x;obtain⟨β,T,W,X,Y⟩:=Qz m (c b s) g B;refine adp ?_ I J T W K N X Y<|Qy m (c f d) (c t k)<|D.s e p;refine dI λe0=>g ?_;have:=mU.1 e0;unfold cK at this;have y:=bd Prod.fst this;have z:=bd Prod.snd this;simp only at y z;exact dj (nu U y)<|nu U z
end Gb
namespace W
open N
variable{D u v:O}
def dB{α:Type}(w:α->Int)(p:α->Bool)(l:V α):Int:=(l.map λx=>if p x then w x else 0).sum
theorem mW{α:Type}(w:α->Int)(p:α->Bool)(x:α)(l:V α):dB w p (x::l)=(if p x then w x else 0)+dB w p l:=by simp[dB]
theorem Hx{α:Type}(w:α->Int){p:α->Bool}:∀{l:V α},(∀x∈l,p x=aQ)->dB w p l=0
 |[],_=>rfl
 |x::l,h=>by rw[mW,h x E,Hx w λy a=>h y<|bW _ a];rfl
theorem Dm{α:Type}(w:α->Int){p q:α->Bool}:∀{l:V α},(∀x∈l,p x=q x)->dB w p l=dB w q l
 |[],_=>rfl
 |x::l,h=>by rw[mW,mW,h x E,Dm w λy a=>h y<|bW _ a]
theorem t7{α:Type}(w:α->Int){p q r:α->Bool}:∀{l:V α},(∀x∈l,bb (p x)=bb (q x)+bb (r x))->dB w p l=dB w q l+dB w r l
 |[],_=>rfl
 |x::l,h=>by have c:=t7 w (l:=l) λy b=>h y<|bW _ b;have a:=h x E;rw[mW,mW,mW,c];revert a;unfold bb;grind
theorem wg{α:Type}{lt:α->α->Bool}(r:∀x y z,lt x y=aP->lt y z=aP->lt x z=aP)(p:∀x,lt x x=aQ)(T:α->Bool)(l:V α):∀(m:Nat)(z:α),z∈l->T z=aP->(l.countP λy=>T y&&lt z y)<=m->∃z∈l,T z=aP/\∀y∈l,T y=aP->lt z y=aQ:=by
 intro m;induction m with
 |zero=>
  grind
 |succ m s=>
  intro z g d n;by_cases k:∀y∈l,T y=aP->lt z y=aQ
  grind
  .have e:∃y∈l,T y=aP/\lt z y=aP:=by
    grind
   obtain⟨y,b,a,c⟩:=e;have:(l.countP λx=>T x&&lt y x)<(l.countP λx=>T x&&lt z x):=tP l (λx _ f=>by
    grind) ⟨y,b,by grind,by grind⟩
   grind
theorem QB{α:Type}{lt:α->α->Bool}(j:∀x y z,lt x y=aP->lt y z=aP->lt x z=aP)(B:∀x,lt x x=aQ)(L:∀x y z,lt x y=aP->lt z y=aP\/lt x z=aP)(w:α->Int)(bm:Int->Bool)(i:bm 0=aQ)(l:V α):
  ∀(m:Nat)(T:α->Bool),(∀x y,T y=aP->lt y x=aQ->T x=aP)->l.countP T<=m->bm (dB w T l)=aP->∃z∈l,T z=aP/\bm (dB w (λy=>lt y z) l)=aQ/\bm (dB w (λy=>lt y z) l+dB w (λy=> !lt y z&& !lt z y) l)=aP:=by
 intro m;induction m with
 |zero=>
  intro T f G h;exfalso;rw[Hx w λx q=>by
   grind,i] at h
  cases h
 |succ m M=>
  intro T f G h;by_cases r:∀x∈l,T x=aQ
  .exfalso;rw[Hx w r,i] at h;cases h
  .have v:∃x∈l,T x=aP:=by
    grind
   obtain⟨x,q,s⟩:=v;obtain⟨z,o,c,p⟩:=wg j B T l _ x q s<|aX _;have asym:∀a b,lt a b=aP->lt b a=aQ:=λa b E=>by
    grind
   have e:dB w T l=dB w (λy=>lt y z) l+dB w (λy=> !lt y z&& !lt z y) l:=t7 w λy P=>by
    cases Q:lt y z
    .cases d:lt z y
     .have:T y=aP:=f y z c d;rw[this];rfl
     .have:T y=aQ:=by
       grind
      rw[this];rfl
    .have:T y=aP:=f y z c<|asym y z Q;rw[this];rfl
   cases g:bm (dB w (λy=>lt y z) l)
   grind
   .have H:l.countP (λy=>lt y z)<l.countP T:=tP l (λy _ P=>f y z c<|asym y z P) ⟨z,o,c,B z⟩;grind
def kW(n:N3)(e:O×O):Int:=if(rl n e.1).1<=0/\0<(rl n e.2).1 then(rl n e.2).1-(rl n e.1).1 else if(rl n e.2).1<=0/\0<(rl n e.1).1 then(rl n e.1).1-(rl n e.2).1 else 1
def kY(n:N3)(e:O×O):Int:=if(rl n e.1).1<=0/\0<(rl n e.2).1 then -L (rl n e.1) (rl n e.2) else if(rl n e.2).1<=0/\0<(rl n e.1).1 then -L (rl n e.2) (rl n e.1) else 0
def kS(n:N3)(e:O×O):Int:=if(rl n e.1).1<=0/\0<(rl n e.2).1 then(rl n e.2).2-(rl n e.1).2 else if(rl n e.2).1<=0/\0<(rl n e.1).1 then(rl n e.1).2-(rl n e.2).2 else 0
def wt(n:N3)(e:O×O):Int:=if(rl n e.1).1<=0/\0<(rl n e.2).1 then 1 else if(rl n e.2).1<=0/\0<(rl n e.1).1 then -1 else 0
theorem oU(n:N3)(e:O×O):0<kW n e:=by unfold kW;omega
def bJ(n:N3)(e a:O×O):Bool:=decide (kY n e*kW n a<kY n a*kW n e\/(kY n e*kW n a=kY n a*kW n e/\kS n e*kW n a<kS n a*kW n e))
theorem wh{n:N3}{e e':O×O}:bJ n e e'=aP↔kY n e*kW n e'<kY n e'*kW n e\/(kY n e*kW n e'=kY n e'*kW n e/\kS n e*kW n e'<kS n e'*kW n e):=by unfold bJ;simp
theorem wi(n:N3)(e:O×O):bJ n e e=aQ:=by unfold bJ;simp
theorem rI(n:N3)(x y z:O×O)(b:bJ n x y=aP)(a:bJ n y z=aP):bJ n x z=aP:=by rw[wh] at*;have d:=oU n x;have c:=oU n y;have e:=oU n z;rcases b with b|⟨b,f⟩;rcases a with a|⟨a,_⟩;exact j (q8 d c e b<|dU a);exact j (q8 d c e b<|EP a);rcases a with a|⟨a,g⟩;exact j (F0 d c e (EP b) a);exact F ⟨adE c b a,q8 d c e f<|dU g⟩
theorem rJ(n:N3)(x y z:O×O)(h:bJ n x y=aP):bJ n z y=aP\/bJ n x z=aP:=by have c:=oU n x;have a:=oU n y;have d:=oU n z;cases f:bJ n z y;right;have:¬_:=λk=>(by rw[wh.2 k] at f;cases f);rw[wh] at h⊢;have e:kY n y*kW n z<=kY n z*kW n y:=U;rcases h with h|⟨h,g⟩;exact j (q8 c a d h e);rcases Int.lt_or_eq_of_le e with b|b;exact j (F0 c a d (EP h) b);refine F ⟨adE a h b,q8 c a d g ?_⟩;omega;exact j rfl
def cL(n:N3)(W Y:Int):N3:=(n.1*W,n.2.1*W+Y,n.2.2*W)
theorem oV(n:N3)(W Y:Int)(p:O):rl (cL n W Y) p=(W*(rl n p).1,W*(rl n p).2-Y):=by unfold rl rel cL;grind
theorem adq(n:N3)(W Y:Int)(u v:O):L (rl (cL n W Y) u) (rl (cL n W Y) v)=W*(W*L (rl n u) (rl n v)+Y*((rl n v).1-(rl n u).1)):=by rw[oV,oV];unfold L;grind
theorem QC{n:N3}{W Y S:Int}(d:0<W)(p:0<D.1)(e:D.1*S=D.2*W)(i:(rl n u).1<=0)(j:0<(rl n v).1):
  right (rl (cL n W Y) u) (rl (cL n W Y) v)+cA (cL n W Y) D u v=bb (decide (-L (rl n u) (rl n v)*W<Y*((rl n v).1-(rl n u).1)\/(-L (rl n u) (rl n v)*W=Y*((rl n v).1-(rl n u).1)/\((rl n v).2-(rl n u).2)*W<S*((rl n v).1-(rl n u).1)))):=by have q:=adq n W Y u v;have s:L D (rl (cL n W Y) v)=D.1*(W*(rl n v).2-Y-S*(rl n v).1):=(by rw[oV];unfold L;grind);have r:L D (rl (cL n W Y) u)=D.1*(W*(rl n u).2-Y-S*(rl n u).1):=(by rw[oV];unfold L;grind);have x:(rl (cL n W Y) u).1=W*(rl n u).1:=(by rw[oV]);have P:(rl (cL n W Y) v).1=W*(rl n v).1:=(by rw[oV]);unfold right cA;rw[q,s,r,x,P];have m: -L (rl n u) (rl n v)*W= -(W*L (rl n u) (rl n v)):=(by grind);rw[m];have Q:((rl n v).1-(rl n u).1)*(W*(rl n u).2-Y-S*(rl n u).1)= -(W*L (rl n u) (rl n v)+Y*((rl n v).1-(rl n u).1))+(((rl n v).2-(rl n u).2)*W-S*((rl n v).1-(rl n u).1))*(rl n u).1:=(by unfold L;grind);have R:((rl n v).1-(rl n u).1)*(W*(rl n v).2-Y-S*(rl n v).1)= -(W*L (rl n u) (rl n v)+Y*((rl n v).1-(rl n u).1))+(((rl n v).2-(rl n u).2)*W-S*((rl n v).1-(rl n u).1))*(rl n v).1:=(by grind);generalize o:W*L (rl n u) (rl n v)+Y*((rl n v).1-(rl n u).1)=C at*;generalize f:((rl n v).2-(rl n u).2)*W-S*((rl n v).1-(rl n u).1)=c at*;generalize W*(rl n u).2-Y-S*(rl n u).1=A at*;generalize W*(rl n v).2-Y-S*(rl n v).1=B at*;have t:0<(rl n v).1-(rl n u).1:=U;generalize(rl n u).1=a at*;generalize(rl n v).1=b at*;have G:=bI (z:=C) d;have H:=dz (z:=C) d;have I:=neg_mul (z:=C) d;have J:=neg_mul (z:=B) p;have K:=neg_mul (z:=A) p;have M:=bI (z:=b) d;have N:=bI (z:=a) d;have T:=neg_mul (z:=B) t;have V:=neg_mul (z:=A) t;have w:=neg_mul (z:=c) j;rw[dw b c] at w;have F:c<0->0<=c*a:=λh=>mI U i;have g:(-(W*L (rl n u) (rl n v))<Y*(b-a))↔0<C:=U;have k:(-(W*L (rl n u) (rl n v))=Y*(b-a))↔C=0:=U;have l:((rl n v).2-(rl n u).2)*W<S*(b-a)↔c<0:=U;rw[X (show ¬(0<W*a/\W*b<=0/\W*C<0) by omega)];rw[X (show ¬(W*C=0/\0<W*a/\D.1*A<0/\0<=D.1*B) by omega)];simp only[g,k,l];clear g k l o f s r x P q m e;rcases dG C 0 with h|h|h;rw[X U,X U];have:decide (0<C\/C=0/\c<0)=aQ:=jd U;rw[this];rfl;rw[h] at Q R⊢;rw[X U];by_cases f:c<0;have:=F f;rw[y U];have:decide ((0:Int)<0\/(0:Int)=0/\c<0)=aP:=ff U;rw[this];rfl;rw[X U];have:decide ((0:Int)<0\/(0:Int)=0/\c<0)=aQ:=jd U;rw[this];rfl;rw[y U,X U];have:decide (0<C\/C=0/\c<0)=aP:=ff U;rw[this];rfl
theorem adr(n:N3)(D u v:O):cA n D v u= -cA n D u v:=by unfold cA;rw[da (rl n u)<|rl n v];omega
theorem ads{n:N3}{W Y:Int}(f:0<W)(h:¬((rl n u).1<=0/\0<(rl n v).1))(r:¬((rl n v).1<=0/\0<(rl n u).1)):
  right (rl (cL n W Y) u) (rl (cL n W Y) v)+cA (cL n W Y) D u v=0:=by have g:(rl (cL n W Y) u).1=W*(rl n u).1:=(by rw[oV]);have l:(rl (cL n W Y) v).1=W*(rl n v).1:=(by rw[oV]);have:=bI (z:=(rl n v).1) f;have:=bI (z:=(rl n u).1) f;have e0:L (rl (cL n W Y) u) (rl (cL n W Y) v)=0->L D (rl (cL n W Y) u)*(rl (cL n W Y) v).1=(rl (cL n W Y) u).1*L D (rl (cL n W Y) v):=λs=>(by unfold L at*;grind);unfold right cA;rw[X (by omega),X (by omega)];have k:¬(L (rl (cL n W Y) u) (rl (cL n W Y) v)=0/\0<(rl (cL n W Y) v).1/\L D (rl (cL n W Y) v)<0/\0<=L D (rl (cL n W Y) u)):=(by rintro⟨a,b,c,d⟩;have e:=e0 a;have m:0<(rl (cL n W Y) u).1:=U;have:=oz m c;have:=gM d<|dU b;omega);have q:¬(L (rl (cL n W Y) u) (rl (cL n W Y) v)=0/\0<(rl (cL n W Y) u).1/\L D (rl (cL n W Y) u)<0/\0<=L D (rl (cL n W Y) v)):=(by rintro⟨a,b,c,d⟩;have e:=e0 a;have p:0<(rl (cL n W Y) v).1:=U;have:=sy c p;have:=gM (dU b) d;omega);omega
end W
end Go.Proofs.YtkjhhooecopolaaGreatDoor
