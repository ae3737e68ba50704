import Derived.Test.YtkjhhooecopolaaGreatDoorFz21
set_option maxRecDepth 100000
set_option maxHeartbeats 4000000
namespace Go.Proofs.YtkjhhooecopolaaGreatDoor
open Value renaming int->I,complex->A,agg->u,slice->D
open IntKind renaming i64->J
open FloatKind renaming f64->C
open Go renaming World->G,Value->Y
open Option renaming some->K,none->Z
open Bool renaming true->aP,false->aQ
namespace W
open N
variable{W S:Int}{n f t:N3}{a b v:O}
theorem QD{P:Nd->Prop}:∀{m:V Nd},tU m->(∀x∈m,∀y∈m,lt (T x) (T y)->P y->P x)->∀{a b:Nd},a∈m->P a->b∈m->¬P b->∃f t,(f,t)∈apO m/\P f/\¬P t
 |[],_,_,_,_,h,_,_,_=>by simp at h
 |[x],_,_,a,b,h,k,S,l=>by
  have Q:a=x:=by simpa using h
  have R:b=x:=by simpa using S
  rw[Q] at k;rw[R] at l;exact absurd k l
 |x::y::r,w,q,a,b,j,d,o,g=>by
  obtain⟨G,B⟩:=fF.1 w;by_cases n:P y
  .have s:P x:=q x E y E (G y E) n;have p:b∈y::r:=by
    rcases bK.1 o with e|h
    .rw[e] at g;exact absurd s g
    .exact h
   obtain⟨f,t,k,l,i⟩:=QD B (λc z v F=>q c (bW _ z) v<|bW _ F) (E4 ..) n p g;exact⟨f,t,bW _ k,l,i⟩
  .have s:P x:=by
    rcases bK.1 j with e|h
    .rw[<-e];exact d
    .exfalso;apply n;rcases bK.1 h with e|h
     .rw[<-e];exact d
     .exact q y E a (by simp[h]) ((fF.1 B).1 a h) d
   exact⟨x,y,by simp[apO],s,n⟩
theorem Do(n x y:N3):n.2.2*(wv x y).1=x.2.2*(wv n y).1-y.2.2*(wv n x).1/\n.2.2*(wv x y).2=x.2.2*(wv n y).2-y.2.2*(wv n x).2:=by
 unfold wv;constructor<;>(simp only;grind)
theorem QE{es:V (O×O)}{l:V Nd}(c:bZ es l){n:Nd}(J:n∈l){e:O×O}(D:e∈es)(g:(a=e.1/\b=e.2)\/(a=e.2/\b=e.1))(G:(rl n a).1<=0)(W:0<(rl n b).1):
  ∃f t,dJ es l f t/\(wv n f).1<=0/\0<(wv n t).1/\0<(wv f t).1/\lam (wv f t) f a=0/\lam (wv f t) f b=0:=by
 have u:=c.can n J;have v:∀p:O,rl (p.1,p.2,1) p=(0,0):=λp=>by unfold rl rel;exact dj ax ax
 have d:(a.1,a.2,1)∈held e l/\(b.1,b.2,1)∈held e l:=by
  have k:=c.yS D;rcases g with⟨q,r⟩|⟨q,r⟩<;>rw[q,r]
  .exact⟨fP.2 ⟨k.1,oQ _ _<|j<|v _⟩,fP.2 ⟨k.2,oQ _ _<|F<|v _⟩⟩
  .exact⟨fP.2 ⟨k.2,oQ _ _<|F<|v _⟩,fP.2 ⟨k.1,oQ _ _<|j<|v _⟩⟩
 obtain⟨f,t,h,I,X⟩:=QD (P:=λx=>(wv n x).1<=0) (c.vV e) (λx K y L R o=>by
   have A:=c.can x (fP.1 K).1;have C:=c.can y (fP.1 L).1;have S:=tO ((kZ A C).1 R);have m:=(Do n x y).1;have M:=gM (dU u.pos) S;have N:=bI (z:=(wv n y).1) A.pos;have T:=bI (z:=(wv n x).1) C.pos;show(wv n x).1<=0;change(wv n y).1<=0 at o;omega) d.1 (by show(wv n (a.1,a.2,1)).1<=0;rw[yT];exact G) d.2 (by show ¬(wv n (b.1,b.2,1)).1<=0;rw[yT];omega)
 have s:dJ es l f t:=⟨e,D,h⟩;obtain⟨Q,i,S⟩:=s.facts c;have cf:=c.can f Q;have w:=c.can t i;have H:0<(wv f t).1:=by
  have m:=(Do n f t).1;have M:=bI (z:=(wv n t).1) cf.pos;have N:=bI (z:=(wv n f).1) w.pos;have T:=bI (z:=(wv f t).1) u.pos;omega
 have B:=yR w.pos S (fP.1 (mA h).1).2 (fP.1 (mA h).2).2;refine⟨f,t,s,I,U,H,?_,?_⟩
 .rcases g with⟨q,_⟩|⟨q,_⟩<;>rw[q]
  .exact B.1
  .exact B.2
 .rcases g with⟨_,r⟩|⟨_,r⟩<;>rw[r]
  .exact B.2
  .exact B.1
structure ZP(n f t:N3)(W Y S:Int):Prop where
 w:0<W
 d:0<(wv f t).1
 s:(wv f t).1*S=(wv f t).2*W
 zf:wv f (cL n W Y)=(0,0)\/apN f (cL n W Y) (wv f t)
 zt:apN (cL n W Y) t (wv f t)
 lz:∀p,lam (wv f t) f p=0↔lam (wv f t) (cL n W Y) p=0
theorem QF(F:0<n.2.2)(Q:0<f.2.2)(R:0<t.2.2)(I:(rl n a).1<=0)(J:0<(rl n b).1)(K:(wv n f).1<=0)(G:0<(wv n t).1)(m:0<(wv f t).1)(i:lam (wv f t) f a=0)(H:lam (wv f t) f b=0):
  ZP n f t ((rl n b).1-(rl n a).1) (-L (rl n a) (rl n b)) ((rl n b).2-(rl n a).2):=by
 have u:bF (wv f t):=j m;have B:0<(rl n b).1-(rl n a).1:=U;have w:(wv f t).1*((rl n b).2-(rl n a).2)=(wv f t).2*((rl n b).1-(rl n a).1):=by
  have g:f.2.2*((wv f t).1*(b.2-a.2)-(wv f t).2*(b.1-a.1))=lam (wv f t) f b-lam (wv f t) f a:=by unfold lam L rl rel;simp only;grind
  rw[i,H] at g;have l:=(dz Q).1<|g.trans ae;have C:(wv f t).1*((rl n b).2-(rl n a).2)-(wv f t).2*((rl n b).1-(rl n a).1)=n.2.2*((wv f t).1*(b.2-a.2)-(wv f t).2*(b.1-a.1)):=by unfold rl rel;simp only;grind
  rw[l] at C;omega
 have s:lam (wv f t) (cL n ((rl n b).1-(rl n a).1)<|-L (rl n a) (rl n b)) a=0:=by
  unfold lam;rw[oV];unfold L at*;simp only;have e:((rl n b).1-(rl n a).1)*(rl n a).2- -((rl n a).1*(rl n b).2-(rl n a).2*(rl n b).1)=((rl n b).2-(rl n a).2)*(rl n a).1:=by grind
  rw[e];have A:(wv f t).1*(((rl n b).2-(rl n a).2)*(rl n a).1)-(wv f t).2*(((rl n b).1-(rl n a).1)*(rl n a).1)=((wv f t).1*((rl n b).2-(rl n a).2)-(wv f t).2*((rl n b).1-(rl n a).1))*(rl n a).1:=by grind
  rw[A,w];grind
 generalize q:cL n ((rl n b).1-(rl n a).1) (-L (rl n a) (rl n b))=z at*;have r:z.1=n.1*((rl n b).1-(rl n a).1):=by rw[<-q];rfl
 have c:z.2.2=n.2.2*((rl n b).1-(rl n a).1):=by rw[<-q];rfl
 have S:0<z.2.2:=by rw[c];exact bD F B
 have h:L (wv f t) (wv f z)=0:=by
  obtain⟨g,l⟩:=jY f z a;have k:f.2.2*lam (wv f t) z a=z.2.2*lam (wv f t) f a-L (wv f t) (wv f z):=by
   have:f.2.2*lam (wv f t) z a=(wv f t).1*(f.2.2*(rl z a).2)-(wv f t).2*(f.2.2*(rl z a).1):=by unfold lam L;grind
   rw[this,g,l];unfold lam L;grind
  rw[s,i] at k;omega
 have P:L (wv f t) (wv z t)=0:=by
  obtain⟨g,l⟩:=jY z t a;have k:z.2.2*lam (wv f t) t a=t.2.2*lam (wv f t) z a-L (wv f t) (wv z t):=by
   have:z.2.2*lam (wv f t) t a=(wv f t).1*(z.2.2*(rl t a).2)-(wv f t).2*(z.2.2*(rl t a).1):=by unfold lam L;grind
   rw[this,g,l];unfold lam L;grind
  rw[s,((nY Q R u a).2 i)] at k;omega
 have x:(wv f z).1= -(((rl n b).1-(rl n a).1)*(wv n f).1):=by
  unfold wv;simp only;rw[r,c];grind
 have o:(wv z t).1=((rl n b).1-(rl n a).1)*(wv n t).1:=by
  unfold wv;simp only;rw[r,c];grind
 have v:apN z t (wv f t):=j ⟨m,by rw[o];exact bD B G,P⟩;have d:(wv f z=(0,0)\/apN f z (wv f t))/\apN z t (wv f t)/\∀p,lam (wv f t) f p=0↔lam (wv f t) z p=0:=by
  refine⟨?_,v,λp=>?_⟩
  .by_cases D:(wv n f).1=0
   .left;have y:(wv f z).1=0:=by rw[x,D];omega
    refine dj y ?_;have k:(wv f t).1*(wv f z).2-(wv f t).2*(wv f z).1=0:=h;rw[y] at k;exact(dz m).1 U
   .right;have:=(neg_mul (z:=(wv n f).1) B).2 U;exact j ⟨m,by rw[x];omega,h⟩
  .have M:=mw S R v p;have N:=mw Q R (tM u) p;omega
 exact⟨B,m,w,by rw[q];exact d.1,by rw[q];exact d.2.1,by rw[q];exact d.2.2⟩
theorem adt{z:N3}(c:0<f.2.2)(d:0<z.2.2)(h:wv f z=(0,0))(u v:O):right (rl z u) (rl z v)=right (rl f u) (rl f v):=by
 have k:∀p,sc f.2.2 (rl z p)=sc z.2.2 (rl f p):=λp=>by
  obtain⟨a,b⟩:=jY f z p;rw[h] at a b;unfold sc;exact dj ax ax
 rw[<-vH c (rl z u)<|rl z v,k,k,vH d]
theorem adu{z:N3}(a:0<f.2.2)(b:0<z.2.2)(h:wv f z=(0,0))(D u v:O):cA z D u v=cA f D u v:=by
 obtain⟨c,e⟩:=jY f z u;obtain⟨d,g⟩:=jY f z v;rw[h] at c e d g;have s:f.2.2*L D (rl z u)=z.2.2*L D (rl f u):=by
  have:f.2.2*L D (rl z u)=D.1*(f.2.2*(rl z u).2)-D.2*(f.2.2*(rl z u).1):=by unfold L;grind
  rw[this,c,e];unfold L;grind
 have t:f.2.2*L D (rl z v)=z.2.2*L D (rl f v):=by
  have:f.2.2*L D (rl z v)=D.1*(f.2.2*(rl z v).2)-D.2*(f.2.2*(rl z v).1):=by unfold L;grind
  rw[this,d,g];unfold L;grind
 have x:f.2.2*f.2.2*L (rl z u) (rl z v)=z.2.2*z.2.2*L (rl f u) (rl f v):=by
  have:f.2.2*f.2.2*L (rl z u) (rl z v)=(f.2.2*(rl z u).1)*(f.2.2*(rl z v).2)-(f.2.2*(rl z u).2)*(f.2.2*(rl z v).1):=by unfold L;grind
  rw[this,c,e,d,g];unfold L;grind
 have P:=dz (z:=L (rl z u)<|rl z v)<|bD a a;have Q:=dz (z:=L (rl f u)<|rl f v)<|bD b b;have R:=bI (z:=(rl z u).1) a;have S:=bI (z:=(rl f u).1) b;have i:=bI (z:=(rl z v).1) a;have j:=bI (z:=(rl f v).1) b;have o:=neg_mul (z:=L D<|rl z u) a;have w:=neg_mul (z:=L D<|rl f u) b;have y:=neg_mul (z:=L D<|rl z v) a;have B:=neg_mul (z:=L D<|rl f v) b;simp only[uu] at c d;have k:(L (rl z u) (rl z v)=0)↔(L (rl f u) (rl f v)=0):=U;have l:(0<(rl z u).1)↔(0<(rl f u).1):=U;have m:(0<(rl z v).1)↔(0<(rl f v).1):=U;have n:(L D (rl z u)<0)↔(L D (rl f u)<0):=U;have p:(L D (rl z v)<0)↔(L D (rl f v)<0):=U;have q:(0<=L D (rl z u))↔(0<=L D (rl f u)):=U;have r:(0<=L D (rl z v))↔(0<=L D (rl f v)):=U;unfold cA;simp only[k,l,m,n,p,q,r]
theorem adv{rg:V (V O)}{Y:Int}(B:0<n.2.2)(h:kV (o rg) f t)(m:ZP n f t W Y S):
  RR (o rg) f t=PP (o rg) (cL n W Y)+total (cA (cL n W Y)<|wv f t) (o rg):=by
 have b:=bD B m.w;have k:=OZ h.pf h.pt h.r h.s;unfold RR;rcases m.zf with s|p
 .rw[k];have v:PP (o rg) (cL n W Y)=PP (o rg) f:=kI λe _=>adt h.pf b s e.1 e.2;have x:total (cA (cL n W Y)<|wv f t) (o rg)=total (cA f<|wv f t) (o rg):=kI λe _=>adu h.pf b s (wv f t) e.1 e.2;rw[v,x]
 .have:=along h.pf b p (rg:=rg) λe l=>GZ h.pf h.pt h.pf b (h.s e l) (j rfl) p<|F m.zt;have:total (cB (cL n W Y)<|wv f t) (o rg)=0:=rz λe l=>by
   obtain⟨q,r⟩:=vI h.pf h.pt b (h.s e l) p m.zt;unfold cB;rw[X<|λ⟨c,_,d,g⟩=>q (dU d) g (by unfold lam;omega) c,X<|λ⟨c,_,d,g⟩=>r (dU d) g (by unfold lam;omega) c]
  have:total (cA (cL n W Y)<|wv f t) (o rg)=0:=rz λe l=>by
   obtain⟨q,r⟩:=vI h.pf h.pt b (h.s e l) p m.zt;unfold cA;rw[X<|λ⟨c,_,d,g⟩=>r (dU d) g (by unfold lam;omega) c,X<|λ⟨c,_,d,g⟩=>q (dU d) g (by unfold lam;omega) c]
  omega
theorem Hy(c:0<n.2.2)(b:0<f.2.2)(a:0<(wv f t).1)(d:(wv n f).1<=0){u:O}(l:lam (wv f t) f u=0)(h:i (wv f t) (rl f u)<=0):(rl n u).1<=0:=by
 have:i (wv f t) (rl f u)*(wv f t).1=(rl f u).1*i (wv f t) (wv f t):=by unfold lam L at l;unfold i;grind
 have p:=bI (z:=i (wv f t)<|rl f u) a;have q:=bI (z:=(rl f u).1)<|dI (r:=wv f t)<|jg<|j a;rw[dw] at p q;have:=(jY n f u).1;have:=bI (z:=(rl f u).1) c;have:=bI (z:=(rl n u).1) b;omega
theorem Hz(b:0<n.2.2)(c:0<t.2.2)(a:0<(wv f t).1)(d:0<(wv n t).1){u:O}(l:lam (wv f t) t u=0)(h:0<=i (wv f t) (rl t u)):0<(rl n u).1:=by
 have:i (wv f t) (rl t u)*(wv f t).1=(rl t u).1*i (wv f t) (wv f t):=by unfold lam L at l;unfold i;grind
 have p:=neg_mul (z:=i (wv f t)<|rl t u) a;have q:=neg_mul (z:=(rl t u).1)<|dI (r:=wv f t)<|jg<|j a;rw[dw] at p q;have:=(jY n t u).1;have:=neg_mul (z:=(rl t u).1) b;have:=bI (z:=(rl n u).1) c;omega
theorem adw(q:N3)(D u v:O):fb q D v u= -fb q D u v:=by
 unfold fb;rw[oR];split
 .rw[<-EO];congr 1;grind
 .rfl
theorem QG{Y:Int}{D:O}(a:D.1*S=D.2*W)(p:O):lam D (cL n W Y) p=D.1*(W*(rl n p).2-Y-S*(rl n p).1):=by
 unfold lam;rw[oV];unfold L;simp only;grind
theorem QH{Y:Int}(o:0<n.2.2)(c:0<f.2.2)(e:0<t.2.2)(a:ZP n f t W Y S)(I:(wv n f).1<=0)(J:0<(wv n t).1){u:O}(E:ju f t (wv f t) u v)(G:kj f t (wv f t) u)(H:kj f t (wv f t) v)(T:(rl n u).1<=0)(V:0<(rl n v).1):
  fb (bo f t) (wv f t) u v=bb (decide (-L (rl n u) (rl n v)*W=Y*((rl n v).1-(rl n u).1)/\((rl n v).2-(rl n u).2)*W=S*((rl n v).1-(rl n u).1))):=by
 have d:bF (wv f t):=j a.d;have F:0<(bo f t).2.2:=by show 0<f.2.2+t.2.2;omega
 have A:=QG (n:=n) (Y:=Y) a.s u;have C:=QG (n:=n) (Y:=Y) a.s v;have p:((rl n v).1-(rl n u).1)*(W*(rl n u).2-Y-S*(rl n u).1)= -(W*L (rl n u) (rl n v)+Y*((rl n v).1-(rl n u).1))+(((rl n v).2-(rl n u).2)*W-S*((rl n v).1-(rl n u).1))*(rl n u).1:=by unfold L;grind
 have D:((rl n v).1-(rl n u).1)*(W*(rl n v).2-Y-S*(rl n v).1)= -(W*L (rl n u) (rl n v)+Y*((rl n v).1-(rl n u).1))+(((rl n v).2-(rl n u).2)*W-S*((rl n v).1-(rl n u).1))*(rl n v).1:=by unfold L;grind
 have w:0<(rl n v).1-(rl n u).1:=U;by_cases b:lam (wv f t) f u=0/\lam (wv f t) f v=0
 .obtain⟨g,k⟩:=b;have l:=(dz a.d).1<|A.symm.trans<|(a.lz u).1 g;have Q:=(dz a.d).1<|C.symm.trans<|(a.lz v).1 k;have M:=place c e d G g;have N:=place c e d H k;have x:i (wv f t) (rl (bo f t) u)<0:=by
   rcases M with h|h
   .exact h.2.1
   .have:=Hz o e a.d J ((nY c e d u).2 g) h.2.2;omega
  have B:0<i (wv f t) (rl (bo f t) v):=by
   rcases N with h|h
   .have:=Hy o c a.d I k h.1;omega
   .exact h.2.1
  have oq:=(qm (jg d) ((rD c e d u).2 g)<|(rD c e d v).2 k).2<|vM (dU x)<|dU B;have r:(bo f t).2.2*((wv f t).1*(v.1-u.1)+(wv f t).2*(v.2-u.2))=i (wv f t) (rl (bo f t) v)-i (wv f t) (rl (bo f t) u):=by
   unfold i rl rel;grind
  have y:=bI (z:=(wv f t).1*(v.1-u.1)+(wv f t).2*(v.2-u.2)) F;rw[r] at y;have P:=kw<|y.1 U;unfold fb;rw[oq,P];have R:((rl n v).2-(rl n u).2)*W=S*((rl n v).1-(rl n u).1):=by grind
  have q: -L (rl n u) (rl n v)*W=Y*((rl n v).1-(rl n u).1):=by
   rw[l] at p;have e0:((rl n v).2-(rl n u).2)*W-S*((rl n v).1-(rl n u).1)=0:=U;rw[e0] at p;have m: -L (rl n u) (rl n v)*W= -(W*L (rl n u) (rl n v)):=by grind
   rw[m];omega
  rw[ff<|And.intro q R];rfl
 .have K:=CT c e d E b;unfold fb;rw[K];have s:¬(-L (rl n u) (rl n v)*W=Y*((rl n v).1-(rl n u).1)/\((rl n v).2-(rl n u).2)*W=S*((rl n v).1-(rl n u).1)):=by
   rintro⟨q,R⟩;apply b;have e0:((rl n v).2-(rl n u).2)*W-S*((rl n v).1-(rl n u).1)=0:=U;have m: -L (rl n u) (rl n v)*W= -(W*L (rl n u) (rl n v)):=by grind
   rw[m] at q;rw[e0] at p D;have l:=(dz (z:=W*(rl n u).2-Y-S*(rl n u).1) w).1 U;have Q:=(dz (z:=W*(rl n v).2-Y-S*(rl n v).1) w).1 U;rw[l] at A;rw[Q] at C;exact⟨(a.lz u).2 U,(a.lz v).2 U⟩
  rw[jd s];rfl
theorem adx{Y:Int}(l:0<n.2.2)(c:0<f.2.2)(d:0<t.2.2)(k:ZP n f t W Y S)(s:(wv n f).1<=0)(x:0<(wv n t).1){u:O}(o:ju f t (wv f t) u v)(y:kj f t (wv f t) u)(z:kj f t (wv f t) v)(h:¬((rl n u).1<=0/\0<(rl n v).1))(i:¬((rl n v).1<=0/\0<(rl n u).1)):
  fb (bo f t) (wv f t) u v=0:=by
 have g:bF (wv f t):=j k.d;have A:on (rl (bo f t) u) (rl (bo f t) v)=aQ:=by
  by_cases e:lam (wv f t) f u=0/\lam (wv f t) f v=0
  .obtain⟨m,p⟩:=e;have C:=place c d g y m;have D:=place c d g z p;cases w:on (rl (bo f t) u) (rl (bo f t) v)
   .rfl
   .exfalso;have oq:=(qm (jg g) ((rD c d g u).2 m)<|(rD c d g v).2 p).1 w;rcases C with⟨B,q,P⟩|⟨B,q,P⟩<;>rcases D with⟨Q,r,R⟩|⟨Q,r,R⟩
    .exact vL q r oq
    .have a:=Hy l c k.d s m B;have b:=Hz l d k.d x ((nY c d g v).2 p) R;exact h ⟨a,b⟩
    .have a:=Hy l c k.d s p Q;have b:=Hz l d k.d x ((nY c d g u).2 m) P;exact i ⟨a,b⟩
    .exact yN q r oq
  .exact CT c d g o e
 unfold fb;rw[A];rfl
theorem wj{F:O->O->Int}{n:N3}{p:O×O->Bool}:∀{es:V (O×O)},(∀e∈es,F e.1 e.2=if p e then wt n e else 0)->total F es=dB (wt n) p es
 |[],_=>rfl
 |e::l,h=>by rw[fm,mW,h e E,wj λx a=>h x<|bW _ a]
theorem Dp(es:V (O×O))(n:N3):PP es n=dB (wt n) (λe=>decide (kY n e<0)) es:=by
 refine wj λe _=>?_;unfold right wt kY;have:=da (rl n e.1)<|rl n e.2;by_cases a:(rl n e.1).1<=0/\0<(rl n e.2).1
 .rw[y a,y a];by_cases c:0<L (rl n e.1) (rl n e.2)
  .rw[y ⟨a.1,a.2,c⟩,ff U];rfl
  .rw[X U,X U,jd U];rfl
 .by_cases b:(rl n e.2).1<=0/\0<(rl n e.1).1
  .rw[X a,y b,X a,y b,X U];by_cases c:L (rl n e.1) (rl n e.2)<0
   .rw[y ⟨b.2,b.1,c⟩,ff U];rfl
   .rw[X U,jd U];rfl
  .rw[X a,X b,X a,X b,X U,X U];split<;>rfl
theorem QI(p:Bool):(if p then(1:Int) else 0)=bb p:=rfl
theorem QJ{rg:V (V O)}{e0:O×O}(B:0<n.2.2)(h:kV (o rg) f t)(p:ZP n f t (kW n e0) (kY n e0) (kS n e0))(R:(wv n f).1<=0)(S:0<(wv n t).1):
  RR (o rg) f t=dB (wt n) (λe=>bJ n e e0) (o rg)/\total (fb (bo f t)<|wv f t) (o rg)=dB (wt n) (λe=> !bJ n e e0&& !bJ n e0 e) (o rg):=by
 have s:∀e,kS n e*kW n e0=kS n e0*kW n e/\kY n e*kW n e0=kY n e0*kW n e↔(!bJ n e e0&& !bJ n e0 e)=aP:=λe=>by
  unfold bJ;simp only[jl,uw,E7];omega
 constructor
 .rw[adv B h p];unfold PP;rw[<-CL];refine wj λe _=>?_;by_cases l:(rl n e.1).1<=0/\0<(rl n e.2).1
  .rw[QC p.w p.d p.s l.1 l.2];unfold wt;rw[y l,QI];congr 1;unfold bJ;have a:kY n e= -L (rl n e.1) (rl n e.2):=y l;have b:kW n e=(rl n e.2).1-(rl n e.1).1:=y l;have c:kS n e=(rl n e.2).2-(rl n e.1).2:=y l;rw[a,b,c]
  .by_cases m:(rl n e.2).1<=0/\0<(rl n e.1).1
   .have g:=QC (Y:=kY n e0) p.w p.d p.s m.1 m.2;rw[GU<|rl (cL n (kW n e0)<|kY n e0) e.1,adr] at g;have a:kY n e= -L (rl n e.2) (rl n e.1):=(X l).trans<|y m;have b:kW n e=(rl n e.1).1-(rl n e.2).1:=(X l).trans<|y m;have c:kS n e=(rl n e.1).2-(rl n e.2).2:=(X l).trans<|y m;rw[<-a,<-b,<-c] at g;have r:wt n e= -1:=(X l).trans<|y m;rw[r];have P: -(right (rl (cL n (kW n e0)<|kY n e0) e.1) (rl (cL n (kW n e0)<|kY n e0) e.2)+cA (cL n (kW n e0)<|kY n e0) (wv f t) e.1 e.2)=bb (bJ n e e0):=by
     rw[<-show _=bb (bJ n e e0) from g];omega
    cases Q:bJ n e e0<;>rw[Q] at P<;>unfold bb at P<;>simp at P⊢ <;>omega
   .have r:wt n e=0:=(X l).trans<|X m;rw[ads p.w l m,r];split<;>rfl
 .refine wj λe q=>?_;by_cases l:(rl n e.1).1<=0/\0<(rl n e.2).1
  .rw[QH B h.pf h.pt p R S (h.s e q) (h.c e q).1 (h.c e q).2 l.1 l.2];have r:wt n e=1:=y l;have a:kY n e= -L (rl n e.1) (rl n e.2):=y l;have b:kW n e=(rl n e.2).1-(rl n e.1).1:=y l;have c:kS n e=(rl n e.2).2-(rl n e.1).2:=y l;have k:=s e;rw[a,b,c] at k;rw[r,QI];congr 1;refine ke.2<|Iff.trans ?_ k;rw[iE];exact And.comm
  .by_cases m:(rl n e.2).1<=0/\0<(rl n e.1).1
   .have g:=QH B h.pf h.pt p R S (u:=e.2) (v:=e.1) (by
      have:=h.s e q;refine⟨λx d z=>?_,λx d z=>?_⟩
      .have:=this.2 x d z;rw[da (rl f e.1)<|rl f e.2,da (rl t e.1)<|rl t e.2];omega
      .have:=this.1 x d z;rw[da (rl f e.1) (rl f e.2),da (rl t e.1) (rl t e.2)];omega) (h.c e q).2 (h.c e q).1 m.1 m.2
    rw[adw] at g;have r:wt n e= -1:=(X l).trans<|y m;have a:kY n e= -L (rl n e.2) (rl n e.1):=(X l).trans<|y m;have b:kW n e=(rl n e.1).1-(rl n e.2).1:=(X l).trans<|y m;have c:kS n e=(rl n e.1).2-(rl n e.2).2:=(X l).trans<|y m;have k:=s e;rw[<-a,<-b,<-c] at g;have i:decide (kY n e*kW n e0=kY n e0*kW n e/\kS n e*kW n e0=kS n e0*kW n e)=(!bJ n e e0&& !bJ n e0 e):=by
     refine ke.2<|Iff.trans ?_ k;rw[iE];exact And.comm
    rw[i] at g;rw[r];cases Q:(!bJ n e e0&& !bJ n e0 e)<;>rw[Q] at g<;>unfold bb at g<;>simp at g⊢ <;>omega
   .have r:wt n e=0:=(X l).trans<|X m;rw[adx B h.pf h.pt p R S (h.s e q) (h.c e q).1 (h.c e q).2 l m,r];split<;>rfl
theorem ady{rg:V (V O)}{l:V Nd}(P:bZ (o rg) l){bm:Int->Bool}(K:bm 0=aQ){n:Nd}(D:n∈l)(h:bm (PP (o rg) n)=aP):
  ∃f t,Sd (o rg) l bm f t/\(wv n f).1<=0/\0<(wv n t).1/\0<L (wv f t) (wv f n):=by
 have r:=P.can n D;rw[Dp] at h;obtain⟨e0,S,N,Z,Y⟩:=QB (rI n) (wi n) (rJ n) (wt n) bm K (o rg) _ (λe=>decide (kY n e<0)) (λx c hy q=>by
   have i:=ft hy;refine ff ?_;have G:¬_:=λk=>by rw[wh.2 k] at q;cases q
   have px:=oU n x;have py:=oU n c;have q1:=(neg_mul (z:=kY n c) px).2 i;have H:=neg_mul (z:=kY n x) py;rw[dw] at q1 H;exact H.1 U) (aX _) h
 have Q:=ft N;obtain⟨a,b,R,w,A,T,W,M⟩:∃a b,((a=e0.1/\b=e0.2)\/(a=e0.2/\b=e0.1))/\(rl n a).1<=0/\0<(rl n b).1/\kW n e0=(rl n b).1-(rl n a).1/\kY n e0= -L (rl n a) (rl n b)/\kS n e0=(rl n b).2-(rl n a).2:=by
  by_cases d:(rl n e0.1).1<=0/\0<(rl n e0.2).1
  .exact⟨e0.1,e0.2,j ⟨rfl,rfl⟩,d.1,d.2,y d,y d,y d⟩
  .by_cases g:(rl n e0.2).1<=0/\0<(rl n e0.1).1
   .exact⟨e0.2,e0.1,F ⟨rfl,rfl⟩,g.1,g.2,(X d).trans<|y g,(X d).trans<|y g,(X d).trans<|y g⟩
   .exfalso;have:kY n e0=0:=(X d).trans<|X g;omega
 obtain⟨f,t,m,d,g,C,la,lb⟩:=QE P D S R w A;have s:=m.kJ P;have v:=QF r.pos s.pf s.pt w A d g C la lb;rw[<-T,<-W,<-M] at v;obtain⟨I,r2⟩:=QJ r.pos s v d g;refine⟨f,t,j ⟨m,?_,?_⟩,d,g,?_⟩
 .unfold LL;have:PP (o rg) (bo f t)=RR (o rg) f t:=rfl;rw[this,I,r2];exact Y
 .rw[I];exact Z
 .have u:0<(cL n (kW n e0)<|kY n e0).2.2:=bD r.pos v.w;obtain⟨m1,m2⟩:=Do (cL n (kW n e0)<|kY n e0) f n;have J:L (wv f t) (wv (cL n (kW n e0)<|kY n e0) f)=0:=by
   have:L (wv f t) (wv f<|cL n (kW n e0)<|kY n e0)=0:=by
    rcases v.zf with k|k
    .rw[k];exact(vJ _).2.1
    .exact OU k
   rw[eI f,e9];omega
  have B:wv (cL n (kW n e0)<|kY n e0) n=(0, -(n.2.2*kY n e0)):=by
   unfold wv cL;exact dj aw aw
  have p:0<L (wv f t) (wv (cL n (kW n e0)<|kY n e0) n):=by
   rw[B];unfold L;simp only;have:=(neg_mul (z:=kY n e0) r.pos).2 Q;have:=bD C (show 0< -(n.2.2*kY n e0) by omega);omega
  have e:(cL n (kW n e0)<|kY n e0).2.2*L (wv f t) (wv f n)=f.2.2*L (wv f t) (wv (cL n (kW n e0)<|kY n e0) n)-n.2.2*L (wv f t) (wv (cL n (kW n e0)<|kY n e0) f):=by
   have:(cL n (kW n e0)<|kY n e0).2.2*L (wv f t) (wv f n)=(wv f t).1*((cL n (kW n e0)<|kY n e0).2.2*(wv f n).2)-(wv f t).2*((cL n (kW n e0)<|kY n e0).2.2*(wv f n).1):=by unfold L;grind
   rw[this,m1,m2];unfold L;grind
  rw[J] at e;have:=bD s.pf p;exact(bI u).1 U
end W
section
open Go.RowKit
namespace W
open N
theorem ad0{rg:V (V O)}{l:V Nd}(a:bZ (o rg) l){bm:Int->Bool}{n m c:Nd}(e:bm (PP (o rg) n)=aQ)(h:Sd (o rg) l bm m n)(f:Sd (o rg) l bm n c)
  (x:∀d,Sd (o rg) l bm n d->¬tC (wv m n) (wv n d) (wv n c)<0):bf (wv n c) (wv n m)=aP:=by
 obtain⟨n1,_,B⟩:=fZ a h.pc;obtain⟨s,_,_⟩:=fZ a f.pc;have r:wv n m≠(0,0):=by rw[eI m n];exact iz n1
 have v:=(h.tW a).1;obtain⟨z,P,q⟩:=G7 _ (wv n m) r (aX _) e v;obtain⟨d,b,p⟩:=Df a B P;obtain⟨R,_,_⟩:=fZ a b.pc;have g:bf (wv n d) (wv n m)=aP:=by rw[Hm p];exact q
 have t:=ik s r;rw[h.mR a f] at t;cases k:bf (wv n c) (wv n m)
 .exfalso;rw[k] at t;have Q:bf (wv n m) (wv n c)=aP:=by revert t;cases bf (wv n m) (wv n c)<;>decide
  have:=(vP r R s (h.mR a b)<|h.mR a f).2<|kk.2<|F<|j ⟨g,Q⟩;rw[<-eI] at this;exact x d b this
 .rfl
theorem ad1{rg:V (V O)}{l:V Nd}(b:bZ (o rg) l){bm:Int->Bool}{n m c k:Nd}(a:bm (PP (o rg) n)=aQ)(h:Sd (o rg) l bm m n)(B:bF (wv n m))(g:Sd (o rg) l bm n c)
  (x:∀e,Sd (o rg) l bm n e->¬tC (wv m n) (wv n e) (wv n c)<0)(v:Sd (o rg) l bm n k)(d:bf (wv n c) (wv n k)=aQ):0<L (wv m n) (wv n k):=by
 have f:=ad0 b a h g x;obtain⟨n1,_,_⟩:=fZ b h.pc;obtain⟨q,_,_⟩:=fZ b g.pc;obtain⟨r,_,_⟩:=fZ b v.pc;have P:wv n m≠(0,0):=by rw[eI m n];exact iz n1
 have t:=ik q r;rw[d] at t;have s:bf (wv n k) (wv n m)=aP:=by
  cases p:bh (wv n c) (wv n k)
  .rw[p] at t;have:bf (wv n k) (wv n c)=aP:=by revert t;cases bf (wv n k) (wv n c)<;>decide
   exact gA r q P this f
  .rw[<-Hm p];exact f
 have:=((CQ B _).1 s).2;rw[eI n m,e8];omega
theorem Ik{a x y z:O}(s:a≠(0,0))(l:x≠(0,0))(g:y≠(0,0))(m:z≠(0,0))(n:cw a x y=aP)(r:cw a y z=aP):cw a x z=aP:=by
 rw[kk] at*;have b:bf y a=aP->bf a y=aP->False:=λp q=>by
  rw[yO g s p] at q;cases q
 rcases n with⟨e,c,h⟩|⟨e,c⟩|⟨e,c,h⟩<;>rcases r with⟨d,f,k⟩|⟨d,f⟩|⟨d,f,k⟩
 .exact j ⟨e,f,gA m g l k h⟩
 .exact F (j ⟨e,f⟩)
 .exact(b c d).elim
 .exact(b d c).elim
 .exact(b d c).elim
 .exact F (j ⟨e,f⟩)
 .exact(b d c).elim
 .exact(b d c).elim
 .exact F (F ⟨e,f,gA m g l k h⟩)
theorem ad2{n m:N3}(d:0<n.2.2)(c:0<m.2.2)(a:n.1*m.2.2=m.1*n.2.2)(b:n.2.1*m.2.2=m.2.1*n.2.2)(u v:O):right (rl n u) (rl n v)=right (rl m u) (rl m v):=by
 have k:∀p,sc m.2.2 (rl n p)=sc n.2.2 (rl m p):=λp=>by
  obtain⟨a,b⟩:=Hl a b p;unfold sc;exact dj a b
 rw[<-vH c (rl n u)<|rl n v,k,k,vH d]
end W
theorem oX(f t:N.Nd):(db f t).1=(W.wv f t).1/\(db f t).2.1=(W.wv f t).2:=by
 unfold db W.wv;exact⟨aw,aw⟩
theorem rT(x y:PB):fn x y=(N.L (W.wv x.f x.t)<|W.wv y.f y.t).sign:=by
 unfold fn N.L;rw[(oX x.f x.t).1,(oX x.f x.t).2,(oX y.f y.t).1,(oX y.f y.t).2]
theorem Dv(s a b:PB):oe s a b=W.tC (W.wv s.f s.t) (W.wv a.f a.t) (W.wv b.f b.t):=by
 unfold oe W.tC;rw[rT,rT,rT]
theorem ad3(es:V Ed){f t:N.Nd}(B:0<f.2.2)(P:0<t.2.2):my es f t=W.RR es f t/\n9 es f t=W.LL es f t:=by
 obtain⟨c,q⟩:=N.Hi (f.1+t.1) (f.2.1+t.2.1) (d:=f.2.2+t.2.2) U;have p:0<(W.bo f t).2.2:=by show 0<f.2.2+t.2.2;omega
 have h:(dX f t).1*(W.bo f t).2.2=(W.bo f t).1*(dX f t).2.2:=by
  have k:=N.vo (a:=(dX f t).1) (c:=f.1+t.1) c.pos (show 0<f.2.2+t.2.2 by omega);have m:N.bu (dX f t).1 (dX f t).2.2=N.bu (f.1+t.1) (f.2.2+t.2.2):=bd Prod.fst q;have g:N.fc (N.bu (dX f t).1 (dX f t).2.2) (N.bu (f.1+t.1)<|f.2.2+t.2.2)=((dX f t).1*(f.2.2+t.2.2)-(f.1+t.1)*(dX f t).2.2).sign:=k;rw[m,N.uT] at g;have:=pC.1 g.symm;show(dX f t).1*(f.2.2+t.2.2)=(f.1+t.1)*(dX f t).2.2;omega
 have l:(dX f t).2.1*(W.bo f t).2.2=(W.bo f t).2.1*(dX f t).2.2:=by
  have k:=N.vo (a:=(dX f t).2.1) (c:=f.2.1+t.2.1) c.pos (show 0<f.2.2+t.2.2 by omega);have m:N.bu (dX f t).2.1 (dX f t).2.2=N.bu (f.2.1+t.2.1) (f.2.2+t.2.2):=bd Prod.snd q;have g:N.fc (N.bu (dX f t).2.1 (dX f t).2.2) (N.bu (f.2.1+t.2.1)<|f.2.2+t.2.2)=((dX f t).2.1*(f.2.2+t.2.2)-(f.2.1+t.2.1)*(dX f t).2.2).sign:=k;rw[m,N.uT] at g;have:=pC.1 g.symm;show(dX f t).2.1*(f.2.2+t.2.2)=(f.2.1+t.2.1)*(dX f t).2.2;omega
 have b:=c.pos;have r:my es f t=W.RR es f t:=by
  exact W.kI (F:=N.fr ((dX f t).1,(dX f t).2.1) (dX f t).2.2) (G:=λu v=>N.right (W.rl (W.bo f t) u)<|W.rl (W.bo f t) v) λe _=>W.ad2 b p h l e.1 e.2
 refine⟨r,?_⟩;have k:N.total (N.fa (dX f t)<|db f t) es=N.total (W.fb (W.bo f t)<|W.wv f t) es:=by
  refine W.kI λe _=>?_;unfold N.fa W.fb;have x:N.fo ((dX f t).1,(dX f t).2.1) (dX f t).2.2 (e.1,e.2)=N.on (W.rl (W.bo f t) e.1) (W.rl (W.bo f t) e.2):=by
   show N.on (W.rl (dX f t) e.1) (W.rl (dX f t) e.2)=_;cases n:N.on (W.rl (W.bo f t) e.1) (W.rl (W.bo f t) e.2)
   .cases s:N.on (W.rl (dX f t) e.1) (W.rl (dX f t) e.2)
    .rfl
    .rw[W.Db p b h.symm l.symm s] at n;cases n
   .exact W.Db b p h l n
  rw[x,(oX f t).1,(oX f t).2]
 show my es f t+N.total (N.fa (dX f t)<|db f t) es=_;rw[r,k];rfl
end
section
open Go.RowKit
open N
structure SX(rg:V (V O))(l:V Nd)(r:Int)(Xs:V PB):Prop where
 nl:W.bZ (o rg) l
 mem:∀x∈Xs,W.Sd (o rg) l (takes r) x.f x.t
 all:∀a b,W.Sd (o rg) l (takes r) a b->∃x∈Xs,x.f=a/\x.t=b
 oY:∀i j,i<Xs.length->j<Xs.length->(xi Xs i).f=(xi Xs j).f->(xi Xs i).t=(xi Xs j).t->i=j
theorem Dw{r:Int}{es:V Ed}{p x:PB}(a:x∈ga r es p):(x=p/\takes r (n9 es p.f p.t)=aP/\takes r (my es p.f p.t)=aQ)\/(x=p.rev/\takes r (my es p.f p.t)=aP/\takes r (n9 es p.f p.t)=aQ):=by
 unfold ga at a;split at a
 .rename_i h;exact j ⟨by simpa using a,h⟩
 .split at a
  .rename_i h;exact F ⟨by simpa using a,h⟩
  .simp at a
theorem zr{rg:V (V O)}{l:V Nd}{r:Int}{Ps:V PB}(hl:l.map T=g8 (o rg))(hc:∀n∈l,N.Can n)(h:mx (o rg) l Ps):SX rg l r (lg r (o rg) Ps):=by
 have hN:W.bZ (o rg) l:=⟨hl,hc,λe G=>FX G⟩;have hv:∀x∈Ps.flatMap (ga r<|o rg),dR x:=λx Y=>by
  obtain⟨p,g,H⟩:=lw.1 Y;exact Ie (h.v p g) H
 obtain⟨hperm,_⟩:=QW (Ps.flatMap<|ga r<|o rg) hv;have U:∀p∈Ps,W.dJ (o rg) l p.f p.t:=λp g=>by
  obtain⟨e,G,_,m⟩:=h.ap.mem p g;exact⟨e,G,m⟩
 have hts:∀p∈Ps,my (o rg) p.f p.t=W.RR (o rg) p.f p.t/\n9 (o rg) p.f p.t=W.LL (o rg) p.f p.t:=λp g=>ad3 _ (h.v p g).cf.pos (h.v p g).ct.pos;refine⟨hN,λx Y=>?_,λa b hab=>?_,λi c hi hj hf ht=>?_⟩
 .obtain⟨p,g,H⟩:=lw.1<|(hperm.mem_iff).1 Y;obtain⟨w,z⟩:=hts p g;rcases Dw H with⟨rfl,R,B⟩|⟨rfl,R,B⟩
  .rw[z] at R;rw[w] at B;exact j ⟨U _ g,R,B⟩
  .rw[w] at R;rw[z] at B;exact F ⟨U _ g,R,B⟩
 .rcases hab with⟨⟨e,G,m⟩,R,B⟩|⟨⟨e,G,m⟩,R,B⟩
  .obtain⟨p,g,S⟩:=h.ap.all e G _ m;have s:p.f=a:=bd Prod.fst S;have t:p.t=b:=bd Prod.snd S;obtain⟨w,z⟩:=hts p g;rw[s,t] at w z;refine⟨p,(hperm.mem_iff).2<|lw.2 ⟨p,g,?_⟩,s,t⟩;unfold ga;rw[s,t,w,z,y ⟨R,B⟩];simp
  .obtain⟨p,g,S⟩:=h.ap.all e G _ m;have s:p.f=b:=bd Prod.fst S;have t:p.t=a:=bd Prod.snd S;obtain⟨w,z⟩:=hts p g;rw[s,t] at w z;refine⟨p.rev,(hperm.mem_iff).2<|lw.2 ⟨p,g,?_⟩,t,s⟩;unfold ga;rw[s,t,w,z,X (by rw[B];simp),y ⟨R,B⟩];simp
 .have hp0:(Ps.flatMap<|ga r<|o rg).Pairwise λx f=>¬(x.f=f.f/\x.t=f.t):=by
   rw[List.pairwise_flatMap];refine⟨λp g=>?_,?_⟩
   .unfold ga;split
    .exact E8 _ _
    .split
     .exact E8 _ _
     .exact List.Pairwise.nil
   .refine kQ (λ{p q} g m hlt x Y f hy=>?_) h.kF;have lp:=Dq h hl p g;have lq:=Dq h hl q m;have asym:∀{d v:Nd},N.Can d->N.Can v->lt (T d) (T v)->¬lt (T v) (T d):=λhu hv a b=>lt_irrefl _<|lt_trans (dH hu) (dH hv) (dH hu) a b;have L:¬(p.f=q.f/\p.t=q.t):=λ⟨a,b⟩=>by
     have R:=PQ (h.v p g) (h.v q m) (h.v q m) a b;have B:=R.1 hlt;have h3:¬iS q q:=by
      unfold iS vy;rw[rR,rR];simp
     exact h3 B
    rintro⟨s,t⟩;rcases Dw Y with⟨rfl,_⟩|⟨rfl,_⟩<;>rcases Dw hy with⟨rfl,_⟩|⟨rfl,_⟩
    .exact L ⟨s,t⟩
    .have P:x.f=q.t:=s;have Q:x.t=q.f:=t;rw[P,Q] at lp;exact asym (h.v q m).cf (h.v q m).ct lq lp
    .have P:p.t=f.f:=s;have Q:p.f=f.t:=t;rw[P,Q] at lp;exact asym (h.v _ m).cf (h.v _ m).ct lq lp
    .have P:p.t=q.t:=s;have Q:p.f=q.f:=t;exact L ⟨Q,P⟩
  have M:=(hperm.pairwise_iff<|λ{x f} hxy=>λ⟨a,b⟩=>hxy ⟨a.symm,b.symm⟩).2 hp0;have gx:∀{k:Nat}(hk:k<(lg r (o rg) Ps).length),xi (lg r (o rg) Ps) k=(lg r (o rg) Ps)[k]:=λhk=>qt<|be hk;rw[gx hi,gx hj] at hf ht;rcases sM i c with k|k|k
  .exact absurd ⟨hf,ht⟩ (jm.1 M i c hi hj k)
  .exact k
  .exact absurd ⟨hf.symm,ht.symm⟩ (jm.1 M c i hj hi k)
theorem Il{cf:Nat->Nat->Int}:∀(l:V Nat)(m:Nat),(m::l).Nodup->(∀a∈m::l,∀b∈m::l,∀c∈m::l,cf a b<0->cf b c<0->cf a c<0)->(∀a∈m::l,¬cf a a<0)->(∀a∈m::l,∀b∈m::l,a≠b->cf a b<0\/cf b a<0)->∀k∈m::l,¬cf k (cD cf l m)<0
 |[],m,_,_,P,_,k,p=>by
  have:k=m:=by simpa using p
  rw[this];exact P m E
 |b::l,m,r,R,P,z,k,p=>by
  have v:b∈m::b::l:=E;have Q:m∈m::b::l:=E;have S:m≠b:=λe=>by
   rw[e] at r;simp at r
  show ¬cf k (cD cf l (if cf b m<0 then b else m))<0;have q:∀F∈m::b::l,cD cf l F∈m::b::l:=λF o=>by
   rcases rP cf l F with e|e
   .rw[e];exact o
   .exact bW _ (bW _ e)
  by_cases B:cf b m<0
  .rw[y B];have f:∀x,x∈b::l->x∈m::b::l:=λx t=>bW _ t;have s:=Il l b (ux.1 r).2 (λa n c g d j=>R a (f a n) c (f c g) d<|f d j) (λa n=>P a<|f a n)<|λa n c g=>z a (f a n) c<|f c g;rcases bK.1 p with e|p
   .rw[e];intro h;exact s b E<|R b v m Q _ (q b v) B h
   .exact s k p
  .rw[X B];have i:=(z m Q b v S).resolve_right B;have f:∀x,x∈m::l->x∈m::b::l:=λx t=>by
    rcases bK.1 t with e|t
    .rw[e];simp
    .simp[t]
   have w:(m::l).Nodup:=by
    rw[ux] at r⊢;exact⟨λh=>r.1<|bW _ h,(ux.1 r.2).2⟩
   have s:=Il l m w (λa n c g d j=>R a (f a n) c (f c g) d<|f d j) (λa n=>P a<|f a n)<|λa n c g=>z a (f a n) c<|f c g;rcases bK.1 p with e|p
   .rw[e];exact s m E
   .rcases bK.1 p with e|p
    .rw[e];intro h;exact s m E<|R m Q b v _ (q m Q) i h
    .exact s k (bW _ p)
section
variable{rg:V (V O)}{l:V Nd}{r:Int}{Xs:V PB}
theorem SX.sd(h:SX rg l r Xs){i:Nat}(a:i<Xs.length):W.Sd (o rg) l (takes r) (xi Xs i).f (xi Xs i).t:=h.mem _<|gm a
theorem SX.find(h:SX rg l r Xs){a b:Nd}(g:W.Sd (o rg) l (takes r) a b):∃i,i<Xs.length/\(xi Xs i).f=a/\(xi Xs i).t=b:=by
 obtain⟨x,k,d,e⟩:=h.all a b g;obtain⟨i,c,rfl⟩:=ig.1 k;exact⟨i,c,by rw[qt<|be c];exact d,by rw[qt<|be c];exact e⟩
theorem SX.go(h:SX rg l r Xs)(i:Nat)(b:i<Xs.length):∃x∈Xs,x.f=(xi Xs i).t:=by
 obtain⟨c,a⟩:=(h.sd b).next h.nl
 obtain⟨x,d,e,_⟩:=h.all _ _ a;exact⟨x,d,e⟩
theorem SX.next(h:SX rg l r Xs)(S:BD Xs){i:Nat}(T:i<Xs.length):dF Xs i<Xs.length/\(xi Xs<|dF Xs i).f=(xi Xs i).t/\∀j,j<Xs.length->(xi Xs j).f=(xi Xs i).t->¬oe (xi Xs i) (xi Xs j) (xi Xs<|dF Xs i)<0:=by
 have e:=(S.v _<|gm T).ct;have Y:=Ij S e<|h.go i T;obtain⟨M,N⟩:=Q3 Y;have hle:=Ii Xs (xi Xs i).t;have P:dF Xs i<Xs.length:=U;have hf:=(Du S e _ _ (qu P) M).1 N;refine⟨P,hf,λj D A=>?_⟩;have d:∀k,k∈io Xs (xi Xs i).t::List.range' (io Xs (xi Xs i).t+1) (kr Xs (xi Xs i).t-io Xs (xi Xs i).t-1)↔io Xs (xi Xs i).t<=k/\k<kr Xs (xi Xs i).t:=λk=>by
  rw[bK,Av];omega
 have n:∀k,io Xs (xi Xs i).t<=k->k<kr Xs (xi Xs i).t->k<Xs.length/\(xi Xs k).f=(xi Xs i).t:=λk k1 k2=>by
  have q:k<Xs.length:=U;exact⟨q,(Du S e _ _ (qu q) k1).1 k2⟩
 have X:io Xs (xi Xs i).t<=j/\j<kr Xs (xi Xs i).t:=by
  have a:=Dt S e j _<|qu D;have C:io Xs (xi Xs i).t<=j:=by
   apply Nat.not_lt.1;intro q;have:=a.1 q;rw[A,rR] at this;omega
  exact⟨C,(Du S e j _ (qu D) C).2 A⟩
 have E:=h.sd T;have facts:∀k,k<Xs.length->(xi Xs k).f=(xi Xs i).t->W.wv (xi Xs i).t (xi Xs k).t≠(0,0)/\W.bh (W.wv (xi Xs i).t (xi Xs k).t) (W.wv (xi Xs i).t (xi Xs i).f)=aQ:=λk q v=>by
  have R:=h.sd q;rw[v] at R;exact⟨(W.fZ h.nl R.pc).1,E.mR h.nl R⟩
 have z:W.wv (xi Xs i).t (xi Xs i).f≠(0,0):=by rw[W.eI];exact W.iz (W.fZ h.nl E.pc).1
 have p:∀j k,j<Xs.length->(xi Xs j).f=(xi Xs i).t->k<Xs.length->(xi Xs k).f=(xi Xs i).t->(oe (xi Xs i) (xi Xs j) (xi Xs k)<0↔W.cw (W.wv (xi Xs i).t (xi Xs i).f) (W.wv (xi Xs i).t (xi Xs j).t) (W.wv (xi Xs i).t (xi Xs k).t)=aP):=λj k D Q q v=>by
  have:=W.vP z (facts j D Q).1 (facts k q v).1 (facts j D Q).2 (facts k q v).2;rw[<-this,Dv,Q,v,<-W.eI]
 have key:=Il (cf:=λj k=>oe (xi Xs i) (xi Xs j)<|xi Xs k) (List.range' (io Xs (xi Xs i).t+1)<|kr Xs (xi Xs i).t-io Xs (xi Xs i).t-1) (io Xs (xi Xs i).t) (by
   rw[ux];refine⟨λhm=>?_,List.nodup_range' ..⟩;have:=Av.1 hm;omega) (λa s b O c hc M N=>by
   obtain⟨o,u⟩:=(d a).1 s;obtain⟨I,J⟩:=(d b).1 O;obtain⟨c1,c2⟩:=(d c).1 hc;obtain⟨g,m⟩:=n a o u;obtain⟨x,B⟩:=n b I J;obtain⟨K,L⟩:=n c c1 c2;refine(p a c g m K L).2 ?_;exact W.Ik z (facts a g m).1 (facts b x B).1 (facts c K L).1 ((p a b g m x B).1 M) ((p b c x B K L).1 N)) (λa s q=>by
   obtain⟨o,u⟩:=(d a).1 s;obtain⟨g,m⟩:=n a o u;have:=W.kk.1<|(p a a g m g m).1 q;rw[W.mP] at this;have H:=W.yO (facts a g m).1 z;rcases this with⟨_,_,w⟩|⟨w,y⟩|⟨_,_,w⟩
   .cases w
   .rw[H w] at y;cases y
   .cases w) (λa s b O Z=>by
   obtain⟨o,u⟩:=(d a).1 s;obtain⟨I,J⟩:=(d b).1 O;obtain⟨g,m⟩:=n a o u;obtain⟨x,B⟩:=n b I J;obtain⟨na,sa⟩:=facts a g m;obtain⟨nb,sb⟩:=facts b x B;have hs:W.bh (W.wv (xi Xs i).t (xi Xs a).t) (W.wv (xi Xs i).t (xi Xs b).t)=aQ:=by
    cases q:W.bh (W.wv (xi Xs i).t (xi Xs a).t) (W.wv (xi Xs i).t (xi Xs b).t)
    .rfl
    .exfalso;have F:=h.sd g;have G:=h.sd x;rw[m] at F;rw[B] at G;have:=W.yU h.nl F.pc G.pc q;exact Z<|h.oY a b g x (m.trans B.symm) this
   have t1:=W.ik na z;have t2:=W.ik nb z;have t3:=W.ik na nb;rw[sa] at t1;rw[sb] at t2;rw[hs] at t3;rw[p a b g m x B,p b a x B g m];unfold W.cw;revert t1 t2 t3;generalize W.bf (W.wv (xi Xs i).t (xi Xs a).t) (W.wv (xi Xs i).t (xi Xs i).f)=p1;generalize W.bf (W.wv (xi Xs i).t (xi Xs i).f) (W.wv (xi Xs i).t (xi Xs a).t)=p2;generalize W.bf (W.wv (xi Xs i).t (xi Xs b).t) (W.wv (xi Xs i).t (xi Xs i).f)=p3;generalize W.bf (W.wv (xi Xs i).t (xi Xs i).f) (W.wv (xi Xs i).t (xi Xs b).t)=p4;generalize W.bf (W.wv (xi Xs i).t (xi Xs a).t) (W.wv (xi Xs i).t (xi Xs b).t)=p5;generalize W.bf (W.wv (xi Xs i).t (xi Xs b).t) (W.wv (xi Xs i).t (xi Xs a).t)=p6;revert p1 p2 p3 p4 p5 p6;decide) j ((d j).2 X)
 exact key
theorem SX.inj(h:SX rg l r Xs)(n:BD Xs){i j:Nat}(c:i<Xs.length)(d:j<Xs.length)(P:dF Xs i=dF Xs j):i=j:=by
 obtain⟨u,m,w⟩:=h.next n c
 obtain⟨y,p,s⟩:=h.next n d
 rw[<-P] at y p s;have a:=m.symm.trans p;have A:=h.sd c;have x:=h.sd d;have B:=h.sd u;rw[<-a] at x;rw[m] at B;have conv:∀k,k<Xs.length->(∀j,j<Xs.length->(xi Xs j).f=(xi Xs k).t->¬oe (xi Xs k) (xi Xs j) (xi Xs<|dF Xs i)<0)->(xi Xs k).t=(xi Xs i).t->∀e,W.Sd (o rg) l (takes r) (xi Xs i).t e->¬W.tC (W.wv (xi Xs k).f (xi Xs i).t) (W.wv (xi Xs i).t e) (W.wv (xi Xs i).t (xi Xs<|dF Xs i).t)<0:=λk _ R b e g=>by
  obtain⟨q,S,v,z⟩:=h.find g;have:=R q S (by rw[v,b]);rw[Dv,v,z,m,b] at this;exact this
 have Q:=W.ac9 h.nl A x B (conv i c w rfl)<|conv j d s a.symm;exact h.oY i j c d Q a
end
end
namespace Gb
open N W
theorem ad4{a a' l z:O}(h:a≠(0,0))(b:a'≠(0,0))(e:l≠(0,0))(r:z≠(0,0))(t:cw a a' l=aP)(v:cw a' z l=aP):cw a z l=aP:=by
 have c:∀{x y:O},x≠(0,0)->y≠(0,0)->bf x y=aP->bf y x=aP->False:=λB P p q=>by
  have:=yO B P p;rw[q] at this;cases this
 rw[kk] at t v⊢;rcases t with⟨m,d,n⟩|⟨m,d⟩|⟨m,d,n⟩<;>rcases v with⟨s,f,g⟩|⟨s,f⟩|⟨s,f,g⟩
 .exact j ⟨gA r b h s m,d,g⟩
 .exact absurd n (λk=>c e b k f)
 .exact absurd n (λk=>c e b k f)
 .exact absurd (gA b h e m d) (λk=>c b e k f)
 .exact F (j ⟨gA r b h s m,d⟩)
 .exact F (F ⟨gA h e r d g,d,g⟩)
 .exact F (F ⟨gA h e r d g,d,g⟩)
 .exact absurd n (λk=>c e b k f)
 .exact absurd n (λk=>c e b k f)
section
variable{es:V (O×O)}{l:V Nd}
theorem bZ.ok(b:bZ es l):0<aZ l/\∀n∈l,OK (aZ l) n:=
 ⟨Qv λn a=>(b.can n a).pos,λn a=>⟨(b.can n a).pos,Qw a⟩⟩
theorem Im(c:bZ es l){a b:Nd}(d:a∈l)(e:b∈l)(h:wv a b=(0,0)):a=b:=by
 rcases Hf (c.can a d) (c.can b e) with k|k|k
 .have:=(kZ (c.can a d)<|c.can b e).1 k;exact absurd h<|jg this
 .exact k
 .have:=(kZ (c.can b e)<|c.can a d).1 k;rw[eI a b,h] at this;exact absurd rfl (jg this)
theorem mB(c:bZ es l){a b:Nd}(d:a∈l)(e:b∈l)(h:PM (aZ l) a=PM (aZ l) b):a=b:=
 Im c d e ((iN (bZ.ok c).1 ((bZ.ok c).2 a d)<|(bZ.ok c).2 b e).zero.1<|mU.2 h)
theorem Q5(k:bZ es l){a f t:Nd}(d:a∈l)(h:dJ es l f t\/dJ es l t f)(n:on (dr (PM (aZ l) a,PM (aZ l) f)) (dr (PM (aZ l) a,PM (aZ l) t))=aP):a=f\/a=t:=by
 have p:∀{f t:Nd},dJ es l f t->on (dr (PM (aZ l) a,PM (aZ l) f)) (dr (PM (aZ l) a,PM (aZ l) t))=aP->a=f\/a=t:=by
  intro f t h n;obtain⟨g,c⟩:=bZ.ok k;obtain⟨q,r,v⟩:=h.facts k;have R:=iN g (c a d)<|c f q;have S:=iN g (c a d)<|c t r;have s:=iN g (c f q)<|c t r;have x:=iN g (c f q)<|c a d;have B:=iN g (c a d)<|c t r;rw[hJ] at n;apply gP;intro m;have P:=λe=>m<|j<|Im k d q<|R.zero.1 e;have Q:=λe=>m<|F<|Im k d r<|S.zero.1 e;have:=W.dI P;have:=W.dI Q;refine h.gap k d ⟨lK v ((s.L x).2.2.1 ?_)<|(s.i x).1.1 ?_,lK v ((s.L B).2.2.1 ?_)<|(s.i B).1.1 ?_⟩
  .generalize PM (aZ l) a=A at*;generalize PM (aZ l) f=b at*;generalize PM (aZ l) t=T at*;have:L (dr (b,T)) (dr (b,A))=L (dr (A,b)) (dr (A,T)):=by unfold L dr;grind
   omega
  .generalize PM (aZ l) a=A at*;generalize PM (aZ l) f=b at*;generalize PM (aZ l) t=T at*;have:i (dr (b,T)) (dr (b,A))=i (dr (A,b)) (dr (A,b))-i (dr (A,b)) (dr (A,T)):=by unfold i dr;grind
   omega
  .generalize PM (aZ l) a=A at*;generalize PM (aZ l) f=b at*;generalize PM (aZ l) t=T at*;have:L (dr (b,T)) (dr (A,T))= -L (dr (A,b)) (dr (A,T)):=by unfold L dr;grind
   omega
  .generalize PM (aZ l) a=A at*;generalize PM (aZ l) f=b at*;generalize PM (aZ l) t=T at*;have:i (dr (b,T)) (dr (A,T))=i (dr (A,T)) (dr (A,T))-i (dr (A,b)) (dr (A,T)):=by unfold i dr;grind
   omega
 rcases h with h|h
 .exact p h n
 .rw[oR] at n;exact(p h n).symm
end
def ph(M:Int)(x:PB):w:=(PM M x.f,PM M x.t)
def sS(M:Int)(Xs:V PB):V w:=Xs.map<|ph M
def iU(M:Int)(Xs:V PB)(s:w):w:=match(List.range Xs.length).find? (λi=>decide (ph M (xi Xs i)=s)) with
 |some i=>ph M<|xi Xs<|dF Xs i
 |none=>s
section
variable{rg:V (V O)}{l:V Nd}{r:Int}{Xs:V PB}
theorem SX.zu(h:SX rg l r Xs){i j:Nat}(a:i<Xs.length)(b:j<Xs.length)(e:ph (aZ l) (xi Xs i)=ph (aZ l) (xi Xs j)):i=j:=by
 obtain⟨_,c,d⟩:=fZ h.nl (h.sd a).pc;obtain⟨_,f,g⟩:=fZ h.nl (h.sd b).pc;exact h.oY i j a b (mB h.nl c f<|bd Prod.fst e)<|mB h.nl d g<|bd Prod.snd e
theorem iV(M:Int){s:w}(b:s∈sS M Xs):∃i,i<Xs.length/\s=ph M (xi Xs i):=by
 obtain⟨x,c,rfl⟩:=bA.1 b;obtain⟨i,a,e⟩:=ig.1 c;exact⟨i,a,by rw[<-e];unfold xi;rw[fi,be a];rfl⟩
theorem zv(M:Int){i:Nat}(a:i<Xs.length):ph M (xi Xs i)∈sS M Xs:=bA.2 ⟨_,gm a,rfl⟩
theorem ud(h:SX rg l r Xs){i:Nat}(b:i<Xs.length):iU (aZ l) Xs (ph (aZ l)<|xi Xs i)=ph (aZ l) (xi Xs<|dF Xs i):=by
 unfold iU;cases a:(List.range Xs.length).find? (λj=>decide (ph (aZ l) (xi Xs j)=ph (aZ l) (xi Xs i))) with
 |none=>
  have:=Vn.1 a i<|gV.2 b;simp at this
 |some j=>
  have c:=gV.1<|ajv a;have e:=List.find?_some a;simp only;rw[SX.zu h c b<|ft e]
theorem SX.wd(h:SX rg l r Xs)(A:BD Xs):Wd (sS (aZ l) Xs) (iU (aZ l) Xs):=by
 have g:=h.nl;obtain⟨M,K⟩:=bZ.ok g;have x:∀{i},i<Xs.length->(xi Xs i).f∈l/\(xi Xs i).t∈l:=λc=>(fZ g (h.sd c).pc).2;have R:∀{i},i<Xs.length->wv (xi Xs i).f (xi Xs i).t≠(0,0):=λc=>(fZ g (h.sd c).pc).1;have B:∀{i},i<Xs.length->Pm (dr<|ph (aZ l)<|xi Xs i) (wv (xi Xs i).f (xi Xs i).t):=λc=>iN M (K _ (x c).1)<|K _ (x c).2;have I:∀{i b},i<Xs.length->b<Xs.length->(xi Xs b).f=(xi Xs i).t->bh (wv (xi Xs b).f (xi Xs b).t) (neg<|wv (xi Xs i).f (xi Xs i).t)=aQ:=λ{i b} c d e=>by
  have h1:=h.sd c;have P:=h.sd d;rw[e] at P⊢;have:=h1.mR g P;rw[eI (xi Xs i).f] at this;exact this
 have W:∀{i b},i<Xs.length->b<Xs.length->(xi Xs b).f=(xi Xs i).t->cw (neg<|wv (xi Xs i).f (xi Xs i).t) (wv (xi Xs b).f (xi Xs b).t) (wv (xi Xs<|dF Xs i).f (xi Xs<|dF Xs i).t)=aQ:=λ{i b} c d e=>by
  obtain⟨n1,D,n3⟩:=h.next A c
  have k:=n3 b d e;rw[Dv] at k;have t:=vP (a:=neg<|wv (xi Xs i).f (xi Xs i).t) (iz<|R c) (R d) (R n1) (I c d e)<|I c n1 D;rw[neg_neg] at t;cases q:cw (neg<|wv (xi Xs i).f (xi Xs i).t) (wv (xi Xs b).f (xi Xs b).t) (wv (xi Xs<|dF Xs i).f (xi Xs<|dF Xs i).t)
  .rfl
  .exact absurd (t.2 q) k
 refine⟨λs n e=>?_,λs n u p=>?_,λs n u p N=>?_,λs n u p N=>?_,λs n u p e k=>?_,λs n u p e k=>?_,λs n u p e=>?_,λs n=>?_,λs n u p e=>?_,λs n u p e=>?_,λs n u p e=>?_⟩
 .obtain⟨i,c,rfl⟩:=iV _ n;exact R c<|(B c).zero.1<|mU.2 e
 .obtain⟨i,c,rfl⟩:=iV _ n;obtain⟨b,d,rfl⟩:=iV _ p;rw[(B c).bF];rcases(h.sd c).pc with q|q
  .exact⟨λ_=>QA M K g q (h.sd d).pc,λk=>absurd (q.facts g).2.2 k⟩
  .have X:=(q.facts g).2.2;refine⟨λk=>?_,λ_=>QA M K g q (h.sd d).pc⟩;rw[eI (xi Xs i).f] at X;exact absurd X<|λw=>Ho k w
 .obtain⟨i,c,rfl⟩:=iV _ n;obtain⟨b,d,rfl⟩:=iV _ p;rcases Q5 g (x c).1 (h.sd d).pc N with q|q
  .exact j (bd (PM<|aZ l) q)
  .exact F (bd (PM<|aZ l) q)
 .obtain⟨i,c,rfl⟩:=iV _ n;obtain⟨b,d,rfl⟩:=iV _ p;rcases Q5 g (x c).2 (h.sd d).pc N with q|q
  .exact j (bd (PM<|aZ l) q)
  .exact F (bd (PM<|aZ l) q)
 .obtain⟨i,c,rfl⟩:=iV _ n;obtain⟨b,d,rfl⟩:=iV _ p;have S:=mB g (x c).1 (x d).1 e;rw[(B c).bh<|B d] at k;have P:=(h.sd d).pc;rw[<-S] at k P;have Q:=yU g (h.sd c).pc P k;exact bd (λi=>ph (aZ l)<|xi Xs i)<|h.oY i b c d S Q
 .obtain⟨i,c,rfl⟩:=iV _ n;obtain⟨b,d,rfl⟩:=iV _ p;have Q:=mB g (x c).2 (x d).2 e;rw[(B c).bh<|B d] at k;have P:=(h.sd d).pc.symm;rw[<-Q] at k P;have k2:bh (wv (xi Xs i).t (xi Xs i).f) (wv (xi Xs i).t (xi Xs b).f)=aP:=by
   rw[eI (xi Xs i).f,eI (xi Xs b).f,dE,e8,e9,nX,jJ];rw[dE] at k;omega
  have S:=yU g (h.sd c).pc.symm P k2;exact bd (λi=>ph (aZ l)<|xi Xs i)<|h.oY i b c d S Q
 .obtain⟨i,c,rfl⟩:=iV _ n;obtain⟨b,d,rfl⟩:=iV _ p;have S:=mB g (x c).1 (x d).2 e;rw[(B c).bh (B d).neg];exact I d c S
 .obtain⟨i,c,rfl⟩:=iV _ n;rw[ud h c];obtain⟨n1,D,_⟩:=h.next A c
  exact⟨zv _ n1,bd (PM<|aZ l) D⟩
 .obtain⟨i,c,rfl⟩:=iV _ n;obtain⟨b,d,rfl⟩:=iV _ p;rw[ud h c,ud h d] at e;exact bd (λi=>ph (aZ l)<|xi Xs i)<|h.inj A c d<|SX.zu h (h.next A c).1 (h.next A d).1 e
 .obtain⟨i,c,rfl⟩:=iV _ n;obtain⟨b,d,rfl⟩:=iV _ p;have S:=mB g (x d).1 (x c).2 e;rw[ud h c,(B c).neg.cw (B d)<|B (h.next A c).1];exact W c d S
 .obtain⟨i,c,rfl⟩:=iV _ n;obtain⟨b,d,rfl⟩:=iV _ p;have Q:=mB g (x d).2 (x c).2 e;obtain⟨n1,D,_⟩:=h.next A c
  rw[ud h c,(B c).neg.cw (B d).neg<|B n1];have o:=iz<|R c;have y:=iz<|R d;cases q:cw (neg<|wv (xi Xs i).f (xi Xs i).t) (neg<|wv (xi Xs b).f (xi Xs b).t) (wv (xi Xs<|dF Xs i).f (xi Xs<|dF Xs i).t)
  .rfl
  .exfalso;by_cases G:i=b
   .subst G;rw[kk,mP] at q;simp at q
   have O:bh (neg<|wv (xi Xs i).f (xi Xs i).t) (neg<|wv (xi Xs b).f (xi Xs b).t)=aQ:=by
    cases k:bh (neg<|wv (xi Xs i).f (xi Xs i).t) (neg<|wv (xi Xs b).f (xi Xs b).t)
    .rfl
    .rw[<-eI,<-eI] at k;have P:=(h.sd d).pc.symm;rw[Q] at k P;exact absurd (h.oY i b c d (yU g (h.sd c).pc.symm P k) Q.symm) G
   have L:=(h.sd c).tW g;have J:=(h.sd d).tW g;rw[Q] at J;have e1:wv (xi Xs i).t (xi Xs b).f=neg (wv (xi Xs b).f (xi Xs b).t):=by rw[<-Q];exact eI _ _
   rw[eI (xi Xs i).f] at L;rw[e1] at J;obtain⟨z,hz,V⟩:=O4 o y O L.1 L.2 J.1 J.2 (R n1) (I c n1 D)<|I d n1<|D.trans Q.symm;obtain⟨m,hm,C⟩:=Df g (x c).2 hz;obtain⟨v,Y,Z,v2⟩:=h.find hm;have H:=W c Y Z;have T:=R Y;have e2:wv (xi Xs i).t m=wv (xi Xs v).f (xi Xs v).t:=by rw[Z,v2]
   rw[e2] at C;rcases V with k|k
   .rw[Dg<|zh C] at k;rw[H] at k;cases k
   .rw[Dg<|zh C] at k;have:=ad4 o y (R n1) T q k;rw[H] at this;cases this
end
def lh(M:Int)(es:V (O×O)):V (O×O):=es.map λe=>(cK M e.1,cK M e.2)
theorem ad5{M:Int}(c:0<M){u v:O}(h:cK M u=cK M v):u=v:=by
 unfold cK at h;have a:=bd Prod.fst h;have b:=bd Prod.snd h;simp only at a b;exact dj (nu U a)<|nu U b
theorem ad6{M:Int}(d:0<M)(g:V O):gF (g.map<|cK M)=lh M (gF g):=by
 have e:closing (g.map<|cK M)=lh M (closing g):=by
  cases g with
  |nil=>rfl
  |cons a r=>
   unfold lh closing;show(cK M a::r.map (cK M)).zip (r.map (cK M)++[cK M a])=_;have b:cK M a::r.map (cK M)=(a::r).map (cK M):=rfl;have c:r.map (cK M)++[cK M a]=(r++[a]).map (cK M):=E;rw[b,c,List.zip_map];rfl
 unfold gF;rw[e];unfold lh;rw[List.filter_map];congr 1;refine List.filter_congr λx _=>?_;simp only[Function.comp_apply];refine decide_eq_decide.2 ⟨λh k=>h (by rw[k]),λh k=>h<|ad5 d k⟩
theorem Dx{M:Int}(c:0<M)(rg:V (V O)):o (rg.map (·.map (cK M)))=lh M (o rg):=by
 induction rg with
 |nil=>rfl
 |cons g rg d=>
  have a:o ((g::rg).map (·.map (cK M)))=gF (g.map<|cK M)++o (rg.map (·.map (cK M))):=by simp[o]
  have b:o (g::rg)=gF g++o rg:=by simp[o]
  rw[a,b,ad6 c,d];unfold lh;rw[fy]
theorem Q6{u u' v v':O}(h:Pm u u')(k:Pm v v'):right u v=right u' v':=by
 have:=h.L k;obtain⟨p,q,n,r,m,_⟩:=h;obtain⟨s,t,e,f,d,_⟩:=k;have:=gC n r m;have:=gC e f d;unfold right;by_cases g:u.1<=0/\0<v.1/\0<L u v
 .rw[y g,y U]
 .rw[X g,X (by omega:¬(u'.1<=0/\0<v'.1/\0<L u' v'))];by_cases l:0<u.1/\v.1<=0/\L u v<0
  .rw[y l,y U]
  .rw[X l,X U]
theorem Q7(F:O->O->Int)(g:O×O->O×O)(es:V (O×O)):total F (es.map g)=total (λu v=>F (g (u,v)).1 (g (u,v)).2) es:=by
 unfold total;rw[eS];rfl
section
variable{M:Int}
theorem qv(c:0<M){a:Nd}(d:OK M a)(u:O):Pm (rl (n1<|PM M a)<|cK M u) (rl a u):=by
 obtain⟨k,e,b⟩:=Dk c d;rw[eG,b];exact qs e _
theorem Q8(b:0<M){a:Nd}(c:OK M a)(es:V (O×O)):PP (lh M es) (n1<|PM M a)=PP es a:=by
 unfold PP lh;rw[Q7];exact kI λe _=>Q6 (qv b c e.1)<|qv b c e.2
theorem Q9(d:0<M){a:Nd}(g:OK M a)(es:V (O×O)){Q Q':O->Bool}(f:∀z h,Pm z h->Q z=Q' h):AS (lh M es) (n1<|PM M a) Q=AS es a Q':=by
 unfold AS lh;rw[Q7];refine kI λe _=>?_;have b:=qv d g e.1;have c:=qv d g e.2;unfold W.arm;rw[b.on c,f _ _ b,f _ _ c]
theorem Ra{z z':O}(h:Pm z z'):nz z=nz z':=by
 unfold nz;exact decide_eq_decide.2<|not_congr h.zero
theorem ad7(c:0<M){a:Nd}(e:OK M a)(es:V (O×O)){d d':O}(g:Pm d d'):dA (lh M es) (n1<|PM M a) d=dA es a d'/\dZ (lh M es) (n1<|PM M a) d=dZ es a d':=by
 have f:dA (lh M es) (n1<|PM M a) d=dA es a d':=by
  unfold dA;rw[Q8 c e,Q9 c e es (Q':=λz=>nz z&&bf z d')];intro z h b;rw[Ra b,b.bf g]
 refine⟨f,?_⟩;unfold dZ;rw[f,Q9 c e es (Q':=λz=>bh z d')];intro z h b;exact b.bh g
end
section
variable{rg:V (V O)}{l:V Nd}
theorem Io(n:bZ (o rg) l){f t:Nd}(h:dJ (o rg) l f t):kV (o (rg.map (·.map (cK<|aZ l)))) (n1<|PM (aZ l) f) (n1<|PM (aZ l) t):=by
 obtain⟨g,d⟩:=bZ.ok n;obtain⟨q,r,B⟩:=h.facts n;have p:=h.kJ n;have m:=iN g (d f q)<|d t r;rw[Dx g];have mem:∀e∈lh (aZ l) (o rg),∃e0∈o rg,e=(cK (aZ l) e0.1,cK (aZ l) e0.2):=λe k=>by
  obtain⟨e0,c,rfl⟩:=bA.1 k;exact⟨e0,c,rfl⟩
 have s:∀z:O,kj f t (wv f t) z->kj (n1<|PM (aZ l) f) (n1<|PM (aZ l) t) (dr (PM (aZ l) f,PM (aZ l) t)) (cK (aZ l) z):=λz P x=>by
  have v:=qv g (d f q) z;have Q:=qv g (d t r) z;have:=P<|(m.L v).2.2.1 x;have:=(m.i v).1;have:=(m.i Q).2.1;omega
 refine⟨by show(0:Int)<1;decide,by show(0:Int)<1;decide,by rw[ko];exact m.bF.2 B,λe k=>?_,λe k=>?_⟩
 .obtain⟨e0,c,rfl⟩:=mem e k;rw[ko];exact Qy g (d f q) (d t r)<|p.s e0 c
 .obtain⟨e0,c,rfl⟩:=mem e k;rw[ko];exact⟨s _ (p.c e0 c).1,s _ (p.c e0 c).2⟩
theorem Rb(d:bZ (o rg) l){f t:Nd}(h:dJ (o rg) l f t):
  RR (o (rg.map (·.map (cK<|aZ l)))) (n1<|PM (aZ l) f) (n1<|PM (aZ l) t)=RR (o rg) f t/\LL (o (rg.map (·.map (cK<|aZ l)))) (n1<|PM (aZ l) f) (n1<|PM (aZ l) t)=LL (o rg) f t:=by
 obtain⟨e,g⟩:=bZ.ok d;obtain⟨k,m,_⟩:=h.facts d;have a:=oS<|Io d h;have b:=oS<|h.kJ d;have c:=ad7 e (g f k) (o rg)<|iN e (g f k)<|g t m;rw[Dx e] at a⊢;rw[ko,c.1,c.2] at a;exact⟨a.1.trans b.1.symm,a.2.trans b.2.symm⟩
end
theorem Rc{x y:O}(h:bh x y=aP):Pm x y:=by
 obtain⟨b,a⟩:=(dE _ _).1 h;have c:y≠(0,0):=λe=>by rw[e] at a;unfold i at a;simp at a
 refine⟨i y y,i x y,W.dI c,a,?_,?_⟩
 .unfold L at b;unfold i;grind
 .unfold L at b;unfold i;grind
end Gb
section
namespace N
theorem ad8{e f:O×O}{o:V Qt}(c:∀q∈o,dD q)(b:iG o):iG (dM e o f):=by
 unfold dM;by_cases d:cH e f=0
 .rw[y d];dsimp only;have h:=mh (iw f.1) c;have g:=qc (iw f.1) c b;by_cases a:hq (pt f.1) e=aP
  .rw[y a];split
   .exact qc (iw f.2) h g
   .exact g
  .rw[X a];split
   .exact qc (iw f.2) c b
   .exact b
 .rw[X d];split
  .exact qc (BE d) c b
  .exact b
theorem Rd(e:O×O):∀(l:V (O×O))(o:V Qt),(∀q∈o,dD q)->iG o->iG (l.foldl (dM e) o)
 |[],_,_,a=>a
 |f::l,o,b,a=>Rd e l (dM e o f) (Ns b).1<|ad8 b a
theorem ad9(l:V (O×O))(e:O×O):iG (gz l e):=by
 have a:∀q∈([]:V Qt),dD q:=λq h=>by simp at h
 exact Rd e l _ (mh (iw e.2)<|mh (iw e.1) a)<|qc (iw e.2) (mh (iw e.1) a)<|qc (iw e.1) a List.Pairwise.nil
theorem n8{P:O}{d:Int}(a:0<d){e:O×O}(h:on (rel P d e.1) (rel P d e.2)=aP):(e.2.1-e.1.1)*(P.2-e.1.2*d)-(e.2.2-e.1.2)*(P.1-e.1.1*d)=0:=by
 have c:=((W.hJ _ _).1 h).1;have k:d*((e.2.1-e.1.1)*(P.2-e.1.2*d)-(e.2.2-e.1.2)*(P.1-e.1.1*d))=L (rel P d e.1) (rel P d e.2):=by unfold L rel;grind
 rw[c] at k;rcases wX.1 k with q|q
 .omega
 .exact q
theorem aea{q:Qt}(c:dD q){e f:O×O}(g:cH e f≠0)(P:hq q e=aP)(Q:hq q f=aP):q=eF e f:=by
 obtain⟨⟨x,a⟩,y,b⟩:=q;have h:0<a:=c.x.pos;have k:0<b:=c.y.pos;have R:=n8 (bD h k) P;have S:=n8 (bD h k) Q;simp only at R S;have s:x*b*cH e f=a*b*mX e f:=by
  unfold mX mT cH;generalize e.2.1-e.1.1=l at*;generalize e.2.2-e.1.2=m at*;generalize f.2.1-f.1.1=p at*;generalize f.2.2-f.1.2=r at*
  grind
 have t:y*a*cH e f=a*b*mY e f:=by
  unfold mY mT cH;generalize e.2.1-e.1.1=l at*;generalize e.2.2-e.1.2=m at*;generalize f.2.1-f.1.1=p at*;generalize f.2.2-f.1.2=r at*
  grind
 have v:x*cH e f=mX e f*a:=nu (a:=b) U (by rw[<-sC,dw b x,s,dw (mX e f) a,<-sC,dw b a]);have B:y*cH e f=mY e f*b:=nu (a:=a) U (by rw[<-sC,dw a y,t,dw (mY e f) b,<-sC]);unfold eF;rw[<-q9 (n:=x) (d:=a) U g v,<-q9 (n:=y) (d:=b) U g B];exact dj (Ma (a:=(x,a)) c.x).symm (Ma (a:=(y,b)) c.y).symm
theorem Dy(e:O×O):hq (pt e.1) e=aP/\hq (pt e.2) e=aP:=by
 constructor<;>(unfold hq fo;refine(W.hJ _ _).2 ?_;unfold L i rel pt;simp)
theorem aeb{e f g:O×O}(m:e.1≠e.2)(n:cH e f=0)(p:cH e g=0):cH f g=0:=by
 unfold cH at*;have l:e.2.1-e.1.1≠0\/e.2.2-e.1.2≠0:=by
  apply gP;intro q;exact m<|dj U U
 generalize e.2.1-e.1.1=h at*;generalize e.2.2-e.1.2=k at*;generalize f.2.1-f.1.1=a at*;generalize f.2.2-f.1.2=b at*;generalize g.2.1-g.1.1=c at*;generalize g.2.2-g.1.2=d at*;rcases l with q|q
 .have:h*(a*d-b*c)=0:=by grind
  rcases wX.1 this with w|w
  .exact absurd w q
  .exact w
 .have:k*(a*d-b*c)=0:=by grind
  rcases wX.1 this with w|w
  .exact absurd w q
  .exact w
end N
namespace W
open N
theorem bZ.node{es:V (O×O)}{l:V Nd}(a:bZ es l){q:Qt}:isNode es q↔∃n∈l,T n=q:=by
 rw[<-(vm es).2.2 q,<-a.map,bA]
theorem bZ.cuts{es:V (O×O)}{l:V Nd}(hN:bZ es l){e:O×O}(he:e∈es):gz es e=(held e l).map T:=by
 refine F4 (vl es e).1 (λq hq=>?_) (ad9 es e) (ic.2<|hN.vV e) λq=>?_
 .obtain⟨n,hn,rfl⟩:=bA.1 hq;exact dH<|hN.can n (fP.1 hn).1
 .rw[(vl es e).2 q];constructor
  .intro h;have key:hq q e=aP/\isNode es q:=by
    rcases h with rfl|rfl|⟨f,hf,h⟩
    .exact⟨(Dy e).1,j ⟨e,he,j rfl⟩⟩
    .exact⟨(Dy e).2,j ⟨e,he,F rfl⟩⟩
    .rcases h with⟨c,rfl,a,b⟩|⟨c,⟨rfl,a⟩|⟨rfl,a⟩⟩
     .exact⟨a,F ⟨e,he,f,hf,c,rfl,a,b⟩⟩
     .exact⟨a,j ⟨f,hf,j rfl⟩⟩
     .exact⟨a,j ⟨f,hf,F rfl⟩⟩
   obtain⟨n,hn,rfl⟩:=hN.node.1 key.2;refine bA.2 ⟨n,fP.2 ⟨hn,?_⟩,rfl⟩;have:=key.1;rw[vp<|hN.can n hn] at this;exact this
  .intro h;obtain⟨n,hn,rfl⟩:=bA.1 h;obtain⟨hl,ho⟩:=fP.1 hn;have hqe:hq (T n) e=aP:=by rw[vp<|hN.can n hl];exact ho
   have hr:=dH<|hN.can n hl;have add:∀g∈es,cH e g≠0->hq (T n) g=aP->∃f∈es,adds e f (T n):=λg hg hc hh=>by
    have:=aea hr hc hqe hh;exact⟨g,hg,j ⟨hc,this,by rw[<-this];exact hqe,by rw[<-this];exact hh⟩⟩
   refine F<|F ?_;rcases hN.node.2 ⟨n,hl,rfl⟩ with⟨g,hg,w⟩|⟨g,hg,f,hf,hc,w,h1,h2⟩
   .by_cases hc:cH e g=0
    .refine⟨g,hg,F ⟨hc,?_⟩⟩;rcases w with w|w
     .exact j ⟨w,by rw[<-w];exact hqe⟩
     .exact F ⟨w,by rw[<-w];exact hqe⟩
    .refine add g hg hc ?_;rcases w with w|w<;>rw[w]
     .exact(Dy g).1
     .exact(Dy g).2
   .by_cases c1:cH e g=0
    .by_cases c2:cH e f=0
     .exact absurd (aeb (hN.ne e he) c1 c2) hc
     .exact add f hf c2 (by rw[w];exact h2)
    .exact add g hg c1 (by rw[w];exact h1)
theorem Re:∀m:V Nd,(m.map T).zip (m.map T).tail=(apO m).map λq=>(T q.1,T q.2)
 |[]=>rfl
 |[_]=>rfl
 |a::b::r=>by
  have c:=Re (b::r);show(T a,T b)::(((b::r).map T).zip ((b::r).map T).tail)=_;rw[c];rfl
end W
theorem Rf:∀(L O:V RS),O.Pairwise (λp q=>p.1≠q.1)->(L.foldl fM O).Pairwise (λp q=>p.1≠q.1)/\(∀p∈L.foldl fM O,p∈O\/p∈L)/\∀p,(p∈O\/p∈L)->∃q∈L.foldl fM O,q.1=p.1
 |[],O,h=>⟨h,λp b=>j b,λp b=>⟨p,by simpa using b,rfl⟩⟩
 |a::L,O,h=>by
  have c:(fM O a).Pairwise (λp q=>p.1≠q.1)/\(∀p∈fM O a,p∈O\/p=a)/\∀p,(p∈O\/p=a)->∃q∈fM O a,q.1=p.1:=by
   unfold fM;split<;>rename_i w
   .obtain⟨q,s,t⟩:=Aw.1 w;refine⟨h,λp b=>j b,λp b=>?_⟩;rcases b with b|b
    .exact⟨p,b,rfl⟩
    .exact⟨q,s,by rw[b];simpa using t⟩
   .refine⟨sB.2 ⟨h,E8 _ _,λx f y g e=>w ?_⟩,λp b=>?_,λp b=>⟨p,?_,rfl⟩⟩
    .rw[cI.1 g] at e;exact Aw.2 ⟨x,f,by simpa using e⟩
    .rcases dm.1 b with q|q
     .exact j q
     .exact F (cI.1 q)
    .rcases b with q|q
     .exact pK _ q
     .rw[q];simp
  obtain⟨m,n,r⟩:=c;obtain⟨k,l,d⟩:=Rf L (fM O a) m;refine⟨k,λp b=>?_,λp b=>?_⟩
  .rcases l p b with q|q
   .rcases n p q with w|w
    .exact j w
    .exact F (by rw[w];simp)
   .exact F (bW _ q)
  .have:(p∈O\/p=a)\/p∈L:=by
    rcases b with q|q
    .exact j (j q)
    .rcases bK.1 q with w|w
     .exact j (F w)
     .exact F w
   rcases this with q|q
   .obtain⟨x,v,B⟩:=r p q;obtain⟨y,P,Q⟩:=d x<|j v;exact⟨y,P,Q.trans B⟩
   .exact d p (F q)
namespace W
open N
theorem bZ.pieces{es:V (O×O)}{l:V Nd}(m:bZ es l):(ki es).Pairwise (λp q=>p.1≠q.1)/\(∀p∈ki es,∃e∈es,∃f t,(f,t)∈apO (held e l)/\p=((T f,T t),e6 e,e))/\∀f t,dJ es l f t->∃p∈ki es,p.1=(T f,T t):=by
 obtain⟨d,g,k⟩:=Rf (es.flatMap<|kH es) [] List.Pairwise.nil;have pc:∀e∈es,kH es e=(apO<|held e l).map λq=>((T q.1,T q.2),e6 e,e):=λe a=>by
  unfold kH;rw[m.cuts a,Re,eS];rfl
 refine⟨d,λp r=>?_,λf t h=>?_⟩
 .rcases g p r with q|q
  .cases q
  .obtain⟨e,a,b⟩:=lw.1 q;rw[pc e a] at b;obtain⟨x,v,rfl⟩:=bA.1 b;exact⟨e,a,x.1,x.2,v,rfl⟩
 .obtain⟨e,a,n⟩:=h;obtain⟨q,s,c⟩:=k ((T f,T t),e6 e,e)<|F<|lw.2 ⟨e,a,by rw[pc e a];exact bA.2 ⟨(f,t),n,rfl⟩⟩;exact⟨q,s,c⟩
end W
end
end Go.Proofs.YtkjhhooecopolaaGreatDoor
