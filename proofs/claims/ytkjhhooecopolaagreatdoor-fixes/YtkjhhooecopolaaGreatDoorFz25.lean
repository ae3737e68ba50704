import Derived.Test.YtkjhhooecopolaaGreatDoorFz24
set_option maxRecDepth 100000
set_option maxHeartbeats 4000000
namespace Go.Proofs.YtkjhhooecopolaaGreatDoor
open Go.Proofs.Tryz
open Value renaming int->I,complex->A,agg->u,bool->aC,slice->D,tuple->aG
open IntKind renaming i64->J
open FloatKind renaming f64->C
open Ending renaming returned->aJ
open Go renaming World->G,Value->Y
open Option renaming some->K,none->Z
open Bool renaming true->aP,false->aQ
namespace Gb
open N W
theorem Rj{F:O->O->Int}:∀{es:V w},(∀e∈es,F e.1 e.2=0)->total F es=0
 |[],_=>rfl
 |e::es,h=>by rw[fm,h e E,Rj λx a=>h x<|bW _ a];rfl
theorem Rk{α:Type}(w:α->Int):∀l:V α,dB w (λ_=>aQ) l=0
 |[]=>rfl
 |x::l=>by rw[mW,Rk w l];rfl
theorem wg{α:Type}{lt:α->α->Bool}(d:∀x,lt x x=aQ)(tr:∀x y z,lt x y=aP->lt y z=aP->lt x z=aP):∀{L:V α},L≠[]->∃c∈L,∀e∈L,lt c e=aQ
 |[],h=>absurd rfl h
 |[a],_=>⟨a,E,λe f=>by rw[cI.1 f];exact d a⟩
 |a::b::L,_=>by
  obtain⟨c,g,h⟩:=wg d tr (L:=b::L) E;cases q:lt c a
  .exact⟨c,bW _ g,λe f=>by
    rcases bK.1 f with w|w
    .rw[w];exact q
    .exact h e w⟩
  .refine⟨a,E,λe f=>?_⟩;rcases bK.1 f with w|w
   .rw[w];exact d a
   .cases p:lt a e
    .rfl
    .have:=tr c a e q p;rw[h e w] at this;cases this
section
variable{S:V w}{nx:w->w}{R M R' M' es:V w}{a z a' z':w}
theorem Rg.Rl(h:Wd S nx)(k:Rg S R a M z)(c:Rg S R' a' M' z')(f:a≠a')(C:0<L (dr z) (dr a))(B:0<L (dr z') (dr a'))(t:Lf R' a≠0)(v:Lf R a'≠0):False:=by
 have p:∀{R R' M M':V w}{a z a' z':w},Rg S R a M z->Rg S R' a' M' z'->ge a.1 a'.1->a.1≠a'.1->Lf R' a=0:=by
  intro R R' M M' a z a' z' k c s d;have i:W.PP R' (n1 a.1)=0:=Hq λe n=>⟨vX s<|c.least e n,vX s<|c.ends e n⟩;have x:∀Q,W.AS R' (n1 a.1) Q=0:=λQ=>yY λe n=>by
   cases o:on (dr (a.1,e.1)) (dr (a.1,e.2))
   .rfl
   .rcases h.rF a k.ma e (c.mem e n) o with q|q
    .exact absurd (tY s (by rw[q];exact c.least e n)) d
    .exact absurd (tY s (by rw[q];exact c.ends e n)) d
  unfold Lf dZ dA;rw[i,x,x];rfl
 by_cases d:a.1=a'.1
 .have l:∀{R R' M M':V w}{a z a' z':w},Rg S R a M z->Rg S R' a' M' z'->a.1=a'.1->a≠a'->0<L (dr z') (dr a')->Lf R' a≠0->Lf R' a=1:=by
   intro R R' M M' a z a' z' k c d f B m;unfold Lf dZ dA at m⊢;rw[d,c.PP,c.AS h,c.AS h] at m⊢;have u:bh (dr a') (dr a)=aQ:=by
    cases q:bh (dr a') (dr a)
    .rfl
    .exact absurd (h.one a' c.ma a k.ma d.symm q).symm f
   have j:=h.two a k.ma z' c.mz<|d.trans c.z2.symm;have y:bh (neg<|dr z') (dr a)=aQ:=by rw[Dc];exact j
   have r:=iz<|h.ei c.mz;have A:bf (dr a') (neg<|dr z')=aP:=kX.2<|F ⟨⟨λ_=>c.za h,λ_=>c.yZ h⟩,by rw[e9,da];omega⟩;simp only[u,y,rG<|h.ei c.ma,rG r,wW] at m⊢;cases b:bf (dr a') (dr a)<;>cases P:bf (neg<|dr z') (dr a)<;>rw[b,P] at m
   .simp[bb] at m
   .have:=gA (h.ei c.ma) r (h.ei k.ma) A P;rw[b] at this;cases this
   .simp[bb]
   .simp[bb] at m
  exact k.asym h c f (l k c d f B t)<|l c k d.symm f.symm C v
 .rcases vW a.1 a'.1 with g|g
  .exact t (p k c g d)
  .exact v (p c k g λe=>d e.symm)
theorem Wd.flat(h:Wd S nx)(c:∀e∈es,e∈S){s:w}(f:s∈S)(k:s∉es):Lf es s=Rt es s:=by
 have z:W.AS es (n1 s.1) (λz=>bh z<|dr s)=0:=by
  refine Rj λe b=>?_;have g:bh (0,0) (dr s)=aQ:=by unfold bh i;simp
  cases d:on (rl (n1 s.1) e.1) (rl (n1 s.1) e.2)
  .unfold W.arm;rw[d];rfl
  .rw[eG,eG] at d;rcases h.rF s f e (c e b) d with q|q
   .rw[Hs q.symm,g];cases a:bh (dr e) (dr s)
    .rfl
    .exact absurd (h.one e (c e b) s f q.symm a) λx=>k (x▸b)
   .rw[Hr q.symm,g,Dc,h.two s f e (c e b) q];rfl
 unfold Lf dZ;rw[z];exact VF _
theorem Wd.ht(h:Wd S nx)(f:Cl es)(k:∀e∈es,e∈S){s:w}(l:s∈S)(n:s∉es){N:N3}(c:0<N.2.2)(d:eN N s.1 s.2\/eN N s.2 s.1):dB (wt N) (λe=> !bJ N s e) es=Lf es s:=by
 obtain⟨r,t⟩:=h.kJ (es:=es) (λe m=>j<|k e m) l;have g:∀{u v:O},eN N u v->0<(dr (u,v)).1:=λ{u v} q=>by
  have:(rl N v).1-(rl N u).1=N.2.2*(dr (u,v)).1:=by unfold rl rel dr;simp only;grind
  unfold eN at q;exact(bI c).1 U
 rcases d with q|q
 .have P:=r<|j<|g q;obtain⟨rg,rfl⟩:=f;have a:=(oS P).2;rw[ko] at a;exact((hts c q P).2.symm.trans a)
 .have p:¬bF (dr s):=λb=>by
   have:=g q;have x:(dr (s.2,s.1)).1= -(dr s).1:=by unfold dr;simp only;omega
   have:=tO b;omega
  have P:=t p;obtain⟨rg,rfl⟩:=f;have a:=(tN P).2;rw[ko] at a;have e:neg (dr (s.2,s.1))=dr s:=by rw[show dr (s.2,s.1)=neg (dr s) from mS s,neg_neg]
  rw[e] at a;rw[h.flat k l n];refine Eq.trans (Dm _ λx _=>?_)<|(hts c q P).2.symm.trans a;rw[show((s.2,s.1):w)=rv s from rfl,(zx N s x).1]
theorem LR.aen(h:Wd S nx){R Q T:V w}(r:LR S nx R)(n:LR S nx Q)(kT:LR S nx T)(sR:shl R)(sQ:shl Q)(sT:shl T){a b c:w}(G:R.head?=K a)(H:Q.head?=K b)(I:T.head?=K c)(B:R≠Q)(W:Q≠T)(X:R≠T)
  (h1:Lf R b%2=1)(h2:Lf Q c%2=1):Lf R c%2=1:=by
 have mem:∀{R:V w}{a:w},R.head?=K a->a∈R:=λe=>lC e;have t:∀{R Q:V w}{s:w},LR S nx R->LR S nx Q->R≠Q->s∈R->s∉Q:=λk k' hn x y=>hn<|k.eq h k' x y;obtain⟨a',z,Z,hz,cz⟩:=sR;obtain rfl:a'=a:=fV<|Z.symm.trans G;obtain⟨b',y,hb',hy,cy⟩:=sQ;obtain rfl:b'=b:=fV<|hb'.symm.trans H;obtain⟨m,x,hc',hx,M⟩:=sT;obtain rfl:m=c:=fV<|hc'.symm.trans I;obtain⟨MR,gR⟩:=r.rg h G hz;obtain⟨MQ,gQ⟩:=n.rg h H hy;obtain⟨MT,O⟩:=kT.rg h I hx;have mc:=O.ma;have hd:0<(dr m).1:=by
  have r1:=O.yZ h;have J:=O.za h;unfold bF at r1 J;unfold L at M;unfold neg at J;simp only at J;rcases r1 with q|⟨q1,q2⟩
  .exact q
  .exfalso;rw[q1] at M;rcases J with g|⟨w1,w2⟩
   .have:=sy (show(dr x).1<0 by omega) q2;omega
   .have e:(dr x).1=0:=U;rw[e] at M;omega
 obtain⟨N,o⟩:∃N:N3,N=bo (n1 m.1) (n1 m.2):=⟨_,rfl⟩;have F:0<N.2.2:=by rw[o];show(0:Int)<1+1;decide
 have C:eN N m.1 m.2:=by
  rw[o];unfold eN rl rel bo n1;unfold dr at hd;simp only at hd⊢;omega
 have eQ:=h.ht (n.cl h).1 n.ring.mem mc (t kT n W.symm<|mem I) F<|j C;have eR:=h.ht (r.cl h).1 r.ring.mem mc (t kT r X.symm<|mem I) F<|j C;obtain⟨d,Y⟩:=am<|Q.filter λe=>decide (wt N e≠0)&& !bJ N m e;have A:d≠[]:=λq=>by
  have z:dB (wt N) (λe=> !bJ N m e) Q=0:=by
   have:=wu (wt N) (p:=λe=> !bJ N m e) (q:=λ_=>aQ) (l:=Q) λe P i=>by
    cases g:bJ N m e
    .have:e∈d:=by rw[Y];exact et.2 ⟨P,by simp[i,g]⟩
     rw[q] at this;simp at this
    .rfl
   rw[this,Rk]
  omega
 obtain⟨u,hu,D⟩:=wg (wi N) (rI N) A;have uU:=hu;rw[Y] at hu;obtain⟨uQ,uW⟩:=et.1 hu;simp only[jl,iE,uw] at uW;have inU:∀{e:w},e∈Q->wt N e≠0->bJ N m e=aQ->bJ N u e=aQ:=λ{e} P i q=>D e (by rw[Y];exact et.2 ⟨P,by simp[i,q]⟩);by_cases hV:∃v∈R,wt N v≠0/\bJ N u v=aP/\bJ N m v=aQ
 .exfalso;obtain⟨v,vR,vw,v1,v2⟩:=hV;have ev:=h.ht (n.cl h).1 n.ring.mem (r.ring.mem v vR) (t r n B vR) F<|Ip vw;have:dB (wt N) (λe=> !bJ N v e) Q=dB (wt N) (λe=> !bJ N m e) Q:=wu _ λe P i=>by
   cases q:bJ N m e
   .cases g:bJ N v e
    .rfl
    .have:=rI N _ _ _ v1 g;rw[inU P i q] at this;cases this
   .cases g:bJ N v e
    .rcases rJ N m e v q with x|x
     .rw[g] at x;cases x
     .rw[v2] at x;cases x
    .rfl
  have f:=r.ring.fc h G vR Q (n.cl h).1 (n.cl h).2;refine gR.Rl h gQ (λe=>t r n B (mem G)<|e▸mem H) cz cy ?_ ?_<;>omega
 .have eu:=h.ht (r.cl h).1 r.ring.mem (n.ring.mem u uQ) (t n r B.symm uQ) F<|Ip uW.1;have:dB (wt N) (λe=> !bJ N m e) R=dB (wt N) (λe=> !bJ N u e) R:=wu _ λe P i=>by
   cases q:bJ N m e
   .cases g:bJ N u e
    .rfl
    .exact absurd ⟨e,P,i,g,q⟩ hV
   .cases g:bJ N u e
    .rcases rJ N m e u q with x|x
     .rw[g] at x;cases x
     .rw[uW.2] at x;cases x
    .rfl
  have f:=n.ring.fc h H uQ R (r.cl h).1 (r.cl h).2;omega
end
def Ins(n:N3)(s:w):Prop:=on (rl n s.1) (rl n s.2)=aP/\rl n s.1≠(0,0)/\rl n s.2≠(0,0)
theorem DC(x y z:O):i y y*L x z=L x y*i y z+i x y*L y z/\i y y*i x z=i x y*i y z-L x y*L y z:=by
 unfold L i;constructor<;>grind
theorem n8{D x y:O}(c:D≠(0,0))(e:L D x=0)(f:L D y=0)(g:i D x*i D y<=0):on x y=aP:=by
 obtain⟨a,b⟩:=DC x D y;have d:=W.dI c;rw[da D x,e,f] at a b;rw[iy x D] at a b;refine(hJ _ _).2 ⟨(dz d).1 (by rw[a];simp),?_⟩;apply gP;intro q;have:=bD d (show 0<i x y by omega);simp at b;omega
theorem aeo{D:O}{n:N3}{s:w}(c:L D (rl n s.1)=0)(d:L D (rl n s.2)=0)(a:i D (rl n s.1)*i D (rl n s.2)<0):Ins n s:=by
 have b:D≠(0,0):=λe=>by rw[e] at a;simp[i] at a
 refine⟨n8 b c d U,λe=>?_,λe=>?_⟩
 .rw[e] at a;simp[i] at a
 .rw[e] at a;simp[i] at a
theorem Ins.line{n:N3}(a:0<n.2.2){s:w}(h:Ins n s):L (dr s) (rl n s.1)=0/\L (dr s) (rl n s.2)=0/\i (dr s) (rl n s.1)<0/\0<i (dr s) (rl n s.2):=by
 obtain⟨o,b,c⟩:=h;obtain⟨d,e⟩:=(hJ _ _).1 o;have:=W.dI b;have:=W.dI c;have:n.2.2*L (dr s) (rl n s.1)= -L (rl n s.1) (rl n s.2):=by unfold L dr rl rel;simp only;grind
 have:n.2.2*i (dr s) (rl n s.1)=i (rl n s.1) (rl n s.2)-i (rl n s.1) (rl n s.1):=by unfold i dr rl rel;simp only;grind
 have:n.2.2*L (dr s) (rl n s.2)= -L (rl n s.1) (rl n s.2):=by unfold L dr rl rel;simp only;grind
 have:n.2.2*i (dr s) (rl n s.2)=i (rl n s.2) (rl n s.2)-i (rl n s.1) (rl n s.2):=by unfold i dr rl rel;simp only;grind
 exact⟨(dz a).1 U,(dz a).1 U,(W.neg_mul a).1 U,(bI a).1 U⟩
theorem Rp{n:N3}(a b:O)(D:O):n.2.2*L D (dr (a,b))=L D (rl n b)-L D (rl n a)/\n.2.2*i D (dr (a,b))=i D (rl n b)-i D (rl n a):=by
 unfold L i dr rl rel;simp only;constructor<;>grind
section
variable{S:V w}{nx:w->w}
theorem Wd.same(h:Wd S nx){s t:w}(b:s∈S)(f:t∈S){n:N3}(g:0<n.2.2)(I:Ins n s)(J:Ins n t)(m:L (dr s) (dr t)=0):s=t:=by
 obtain⟨k,P,Q,N⟩:=I.line g;obtain⟨D,F,R,j⟩:=J.line g;have H:=W.dI<|h.ei b;have c:=W.dI<|h.ei f;have p:=DC (dr s) (dr t)<|rl n t.1;have r:=DC (dr s) (dr t)<|rl n t.2;rw[m,D] at p;rw[m,F] at r;have v:L (dr s) (rl n t.1)=0:=(dz c).1 (by rw[p.1];simp);have B:L (dr s) (rl n t.2)=0:=(dz c).1 (by rw[r.1];simp);have o:i (dr t) (dr t)*i (dr s) (rl n t.1)=i (dr s) (dr t)*i (dr t) (rl n t.1):=by rw[p.2];simp
 have u:i (dr t) (dr t)*i (dr s) (rl n t.2)=i (dr s) (dr t)*i (dr t) (rl n t.2):=by rw[r.2];simp
 have G:i (dr s) (dr t)≠0:=λq=>by
  have:=DC (dr s) (dr t)<|dr s;rw[m,q] at this;have:=bD c H;simp at*;omega
 have l:∀(x y z:O),L (dr s) (rl n x)=0->L (dr s) (rl n y)=0->L (dr s) (rl n z)=0->i (dr s) (rl n y)<=i (dr s) (rl n x)->i (dr s) (rl n x)<=i (dr s) (rl n z)->on (dr (x,y)) (dr (x,z))=aP:=λx y z T V X Y Z=>by
  obtain⟨p1,p2⟩:=Rp (n:=n) x y<|dr s;obtain⟨q1,q2⟩:=Rp (n:=n) x z<|dr s;refine n8 (h.ei b) ((dz g).1 U) ((dz g).1 U) ?_;have K:i (dr s) (dr (x,y))<=0:=by
   apply gP;intro q;have:=bD g (show 0<i (dr s) (dr (x,y)) by omega);omega
  have M:0<=i (dr s) (dr (x,z)):=by
   apply gP;intro q;have:=(W.neg_mul g).2 (show i (dr s) (dr (x,z))<0 by omega);omega
  exact su K M
 rcases VS G with d|d
 .exfalso;have A:0<i (dr s) (rl n t.1):=(bI c).1 (by rw[o];exact EY d R);have C:i (dr s) (rl n t.2)<0:=(W.neg_mul c).1 (by rw[u];exact sy d j);have e:s.1=t.2:=by
   rcases sx (i (dr s)<|rl n t.2) (i (dr s)<|rl n s.1) with q|q
   .rcases h.rF s b t f (by rw[oR];exact l s.1 t.2 t.1 k B v q U) with a|a
    .rw[a] at Q;omega
    .exact a
   .rcases h.yV t f s b (l t.2 s.1 s.2 B k P q U) with a|a
    .exact a.symm
    .rw[a] at C;omega
  have:=h.two s b t f e;rw[(dE _ _).2 ⟨by rw[e9];omega,by rw[jJ];omega⟩] at this;cases this
 .have A:i (dr s) (rl n t.1)<0:=(W.neg_mul c).1 (by rw[o];exact oz d R);have C:0<i (dr s) (rl n t.2):=(bI c).1 (by rw[u];exact bD d j);have e:s.1=t.1:=by
   rcases sx (i (dr s)<|rl n t.1) (i (dr s)<|rl n s.1) with q|q
   .rcases h.rF s b t f (l s.1 t.1 t.2 k v B q U) with a|a
    .exact a
    .rw[a] at Q;omega
   .rcases h.rF t f s b (l t.1 s.1 s.2 v k P q U) with a|a
    .exact a.symm
    .rw[a] at A;omega
  exact h.one s b t f e<|(dE _ _).2 ⟨m,d⟩
variable{RL:V (V w)}
end
end Gb
section
open Go.RowKit
def d9(g:V RS)(i:Nat):Nat:=(List.range i).foldl (λk j=>if N.pc (bp g j).1.1 (bp g k).1.1<0 then j else k) 0
theorem zO(g:V RS)(i:Nat):d9 g (i+1)=if N.pc (bp g i).1.1 (bp g<|d9 g i).1.1<0 then i else d9 g i:=by
 unfold d9;rw[lZ,nw];rfl
theorem Jl(g:V RS):∀i,d9 g i<=i
 |0=>by simp[d9]
 |i+1=>by
  have:=Jl g i;rw[zO];split<;>omega
theorem TU(g:V RS):∀i,0<i->d9 g i<i
 |0,h=>U
 |i+1,_=>by
  rw[zO];rcases wS i with h|h
  .subst h;split<;>simp[d9]
  .have:=TU g i h;split<;>omega
structure m8(g:V RS):Prop where
 ne:0<g.length
 le:g.length<=100000000
 sm:∀s∈g,ib s
 q:∀s∈g,cS s.1.1/\cS s.1.2
def cG(g:V RS):Bool:=decide (0<fE (bp g (if d9 g g.length=0 then g.length-1 else d9 g g.length-1)) (bp g<|d9 g g.length))
theorem TV(g:V RS)(v:Y)(w:G)(hR:w.ownsRow 0 265 14 v g.length (eA g))(hg:m8 g):
  M 141 #[v] w (ai (aC<|cG g) w):=by
 obtain⟨so,cap,rfl⟩:=jX hR;obtain⟨d,rfl,hX,S⟩:=mN hR hg.ne;have r:H ((∀(k:Nat)(s:RS),g[k]?=K s->jt w d k s)/\d<w.heap.size):=⟨S,hX⟩;have HG:H (m8 g):=hg;have:=hg.le;have hn0:=hg.ne;clear hR S hX hg;go_enter func141,ntmps141;go_wp2_with fail
 go_loopg [3,4] g.length (λm kv iv wr=>∃i:Nat,i+m=g.length/\iv=I J i/\kv=I J (d9 g i)/\H (ag w wr))
 case atStart=>exact⟨0,U,rfl,rfl,Below.refl _ _⟩
 case round=>
  obtain⟨i,him,rfl,rfl,Q⟩:=hrel;have hk:=Jl g i;obtain⟨k,x⟩:=am<|d9 g i;have HK:H (d9 g (i+1)=if N.pc (bp g i).1.1 (bp g k).1.1<0 then i else k):=by show _=_;rw[zO,x]
  rw[<-x] at hk⊢;by_cases o:i<g.length
  .obtain⟨a,z⟩:∃a,g[i]?=K a:=⟨_,be o⟩;obtain⟨c,L⟩:∃c,g[k]?=K c:=⟨_,be U⟩;obtain⟨x0,x1,x2,x3,_⟩:=(r.o.1 i a z).mv Q.o r.o.2;obtain⟨y0,y1,y2,y3,_⟩:=(r.o.1 k c L).mv Q.o r.o.2;have HV:H (d9 g (i+1)=if N.pc a.1.1 c.1.1<0 then i else k):=by show _=_;rw[HK.o,gn z,gn L]
   have HP:=hid<|λw1=>Bu _ _ w1 (HG.o.q a<|bB z).1 (HG.o.q c<|bB L).1;have:(i:Int)<(g.length:Int):=U;have hkk:(k:Int)<(g.length:Int):=U;have HM:H (i+gk=g.length/\i<g.length):=⟨U,o⟩;have t:=hid<|bg r.o.2 Q.o.size;generalize N.pc a.1.1 c.1.1=f at*;simp only[qA] at HP;clear z L x HK him o hk;go_wp2_with fail;go_region_held3 (λw'=>apS w' d (i*14) (I J a.1.1.1.1) (I J a.1.1.1.2) (I J a.1.1.2.1) (I J a.1.1.2.2)/\apS w' d (k*14) (I J c.1.1.1.1) (I J c.1.1.1.2) (I J c.1.1.2.1) (I J c.1.1.2.2)) (go_keep) (first
    |(go_at_call 47;refine(HP.o _).mono ?_;rintro e w2 ⟨rfl,P⟩;have:=aR P x0 t.o;have:=aR P x1 t.o;have:=aR P x2 t.o;have:=aR P x3 t.o;have h0:=aR P y0 t.o;have:=aR P y1 t.o;have:=aR P y2 t.o;have:=aR P y3 t.o))
   have vB:=hid<|cU Q.o.drew P<|aX _;by_cases hz:f<0
   .have T:H (d9 g (i+1)=i):=by show _=_;rw[HV.o,y hz]
    go_wp2_with fail;go_roundg (gk-1)
    case measure=>have:=HM.o;omega
    case rel=>exact⟨i+1,by have:=HM.o;omega,af,by rw[T.o],vB⟩
   .have T:H (d9 g (i+1)=k):=by show _=_;rw[HV.o,X hz]
    go_wp2_with fail;go_roundg (gk-1)
    case measure=>have:=HM.o;omega
    case rel=>exact⟨i+1,by have:=HM.o;omega,af,by rw[T.o],vB⟩
  .have hi:i=g.length:=U;subst hi;have hk2:k<g.length:=by rw[x];exact TU g _ hn0
   obtain⟨n,hn⟩:=am<|g.length-1;obtain⟨a,z⟩:∃a,g[n]?=K a:=⟨_,be U⟩;obtain⟨c,L⟩:∃c,g[k]?=K c:=⟨_,be U⟩;have w1:J.wrap ((g.length:Int)-1)=(n:Int):=by rw[ah];omega
   have:(n:Int)<(g.length:Int):=U;have hkk:(k:Int)<(g.length:Int):=U;have HA:=hid<|(r.o.1 n a z).mv Q.o r.o.2;have HC:=hid<|(r.o.1 k c L).mv Q.o r.o.2;have B:H (g[n]?=K a/\g[k]?=K c/\k<g.length/\n=g.length-1/\k=d9 g g.length):=⟨z,L,hk2,hn,x⟩;have O:H (cG g=decide (0<fE (bp g (if k=0 then n else k-1)) (bp g k))):=by show _=_;unfold cG;rw[<-x,<-hn]
   have zP:=bg r.o.2 Q.o.size;clear hn x hk him o z L hk2 HK;obtain⟨x0,x1,x2,x3,x4,x5,x6,x7,x8,x9,qG,qH,lS,lT⟩:=HA.o;obtain⟨y0,y1,y2,y3,y4,y5,y6,y7,y8,y9,Ji,Jj,Jk,y13⟩:=HC.o;have S:∃b:RS,H (ib b)/\H (cG g=decide (0<fE b c))/\((¬(0:Int)<(k:Int)/\b=a)\/((0:Int)<(k:Int)/\∃m:Nat,J.wrap ((k:Int)-1)=(m:Int)/\(m:Int)<(g.length:Int)/\jt wr d m b)):=by
    rcases wS k with h0|h0
    .exact⟨a,HG.o.sm a<|bB B.o.1,by show _=_;rw[O.o,y h0,gn B.o.1,gn B.o.2.1],j ⟨U,rfl⟩⟩
    .obtain⟨b,P⟩:∃b,g[k-1]?=K b:=⟨_,be (by have:=B.o.2.2.1;omega)⟩;exact⟨b,HG.o.sm b<|bB P,by show _=_;rw[O.o,X U,gn P,gn B.o.2.1],F ⟨U,k-1,by rw[ah];omega,U,(r.o.1 (k-1) b P).mv Q.o r.o.2⟩⟩
   obtain⟨b,Jm,HV,⟨vY,wK⟩|⟨vY,m,w2,tq,z0,z1,z2,z3,z4,z5,z6,z7,z8,z9,Jn,Jo,z12,Jp⟩⟩:=S
   all_goals
    first
     |subst wK
     |skip
    have wm:H (∀w1,M 188 #[u (rA b),u<|rA c] w1 (ai (I J<|fE b c) w1)):=λw1=>Jh b c w1 Jm.o<|HG.o.sm c<|bB B.o.2.1;have R:=aa wr<|.cells (rA b) 265;have hL:=cU Q.o (dS wr<|.cells (rA b) 265)<|aX _;have Uk:=HC.o.mv (dS wr<|.cells (rA b) 265) zP;obtain⟨W,hW⟩:=am<|wr.alloc<|.cells (rA b) 265;rw[<-hW] at R hL Uk;generalize fE b c=f at*;simp only[rA] at wm hW R;clear O;go_wp2_with fail;rw[<-hW];clear hW x0 x1 x2 x3 x4 x5 x6 x7 x8 x9 qG qH lS lT y0 y1 y2 y3 y4 y5 y6 y7 y8 y9 Ji Jj Jk y13
    try clear z0 z1 z2 z3 z4 z5 z6 z7 z8 z9 Jn Jo z12 Jp
    obtain⟨y0,y1,y2,y3,y4,y5,y6,y7,y8,y9,Ji,Jj,Jk,y13⟩:=Uk;obtain⟨p0,p1,p2,p3,p4,p5,p6,p7,p8,p9,Eg,Eh,Ei,Ej⟩:=c14 R;have p:=hid<|apJ R;have q:=hid<|bg r.o.2 hL.size;go_region_held3 (λw'=>apW w' wr.heap.size (I J b.1.1.1.1) (I J b.1.1.1.2) (I J b.1.1.2.1) (I J b.1.1.2.2) (I J b.1.2.1.1) (I J b.1.2.1.2) (I J b.1.2.2.1) (I J b.1.2.2.2) (I J b.2.1.1) (I J b.2.1.2) (I J b.2.2.1.1) (I J b.2.2.1.2) (I J b.2.2.2.1) (I J b.2.2.2.2)/\apX w' d (k*14) (I J c.1.1.1.1) (I J c.1.1.1.2) (I J c.1.1.2.1) (I J c.1.1.2.2) (I J c.1.2.1.1) (I J c.1.2.1.2) (I J c.1.2.2.1) (I J c.1.2.2.2) (I J c.2.1.1) (I J c.2.1.2) (I J c.2.2.1.1) (I J c.2.2.1.2) (I J c.2.2.2.1) (I J c.2.2.2.2)) (go_keep) (first
     |(go_at_call 188;refine(wm.o _).mono ?_;rintro e w3 ⟨rfl,l⟩;have:=aR l p0 p.o;have:=aR l p1 p.o;have:=aR l p2 p.o;have:=aR l p3 p.o;have:=aR l p4 p.o;have:=aR l p5 p.o;have:=aR l p6 p.o;have:=aR l p7 p.o;have:=aR l p8 p.o;have:=aR l p9 p.o;have:=aR l Eg p.o;have:=aR l Eh p.o;have:=aR l Ei p.o;have:=aR l Ej p.o;have:=aR l y0 q.o;have:=aR l y1 q.o;have:=aR l y2 q.o;have:=aR l y3 q.o;have:=aR l y4 q.o;have:=aR l y5 q.o;have:=aR l y6 q.o;have:=aR l y7 q.o;have:=aR l y8 q.o;have:=aR l y9 q.o;have:=aR l Ji q.o;have:=aR l Jj q.o;have:=aR l Jk q.o;have:=aR l y13 q.o))
    go_wp2_with fail;go_ret;exact⟨by rw[HV.o];rfl,cU hL.drew l<|aX _⟩
def mF(e:Ed)(p:N.Qt):Int:=((e.2.1-e.1.1)*(p.2.1-e.1.2*p.2.2)*p.1.2-(e.2.2-e.1.2)*(p.1.1-e.1.1*p.1.2)*p.2.2).sign
def ug(p:N.Qt)(s:RS):Bool:=decide ((if s.2.2.2.1-s.2.2.1.1<0 then -mF s.2.2 p else mF s.2.2 p)<0)&&((decide (0<=N.fc p.1 s.1.1.1)&&decide (N.fc p.1 s.1.2.1<0))||(decide (0<=N.fc p.1 s.1.2.1)&&decide (N.fc p.1 s.1.1.1<0)))
def eE(g:V RS)(p:N.Qt):Bool:=g.foldl (λb s=>b != ug p s) aQ
theorem ag3{g:V RS}{p:N.Qt}{i:Nat}{s:RS}(h:g[i]?=K s):eE (g.take<|i+1) p=(eE (g.take i) p != ug p s):=by
 unfold eE;rw[fg,h,nw];rfl
theorem jt.drew{w:G}{X k:Nat}{s:RS}(h:jt w X k s):jt w.drew X k s:=h
theorem TW(g:V RS)(p:N.Qt)(v:Y)(w:G)(hR:w.ownsRow 0 265 14 v g.length (eA g))(hl:g.length<=100000000)(hq:∀s∈g,(cS s.1.1/\cS s.1.2)/\cM s.2.2)(hp:cS p):
  M 189 #[v,u<|qA p] w (ai (aC<|eE g p) w):=by
 obtain⟨so,cap,rfl⟩:=jX hR;have HR:H (w.ownsRow 0 265 14 (D so g.length cap) g.length<|eA g):=hR;have HQ:H ((∀s∈g,(cS s.1.1/\cS s.1.2)/\cM s.2.2)/\cS p):=⟨hq,hp⟩;obtain⟨⟨f,k⟩,n,c⟩:=p;have tJ:H (mD w w.heap.size f k n c<|w.alloc<|.cells #[I J f,I J k,I J n,I J c] 100):=⟨dS _ _,agU w f k n c⟩;simp only[qA];go_enter func189,ntmps189;go_wp2_with fail;generalize w.alloc (.cells #[I J f,I J k,I J n,I J c] 100)=W at*
 go_loopg [5,6] g.length (λm bv iv wr=>∃i:Nat,i+m=g.length/\iv=I J i/\bv=aC (eE (g.take i) ((f,k),n,c))/\H (mD w w.heap.size f k n c wr))
 case atStart=>exact⟨0,U,rfl,rfl,tJ⟩
 case round=>
  obtain⟨i,him,rfl,rfl,HI⟩:=hrel;by_cases hlt:i<g.length
  .obtain⟨b,yF,hX,hcs⟩:=mN HR.o U;subst yF;obtain⟨s,hs⟩:∃s,g[i]?=K s:=⟨_,be hlt⟩;have HS:H (jt wr b i s):=(hcs i s hs).mv HI.o.dg hX;obtain⟨hq1,hq2⟩:=HQ.o.1 s<|bB hs;have q:H ((cS s.1.1/\cS s.1.2)/\cM s.2.2):=⟨hq1,hq2⟩;have HT:H (eE (g.take<|i+1) ((f,k),n,c)=(eE (g.take i) ((f,k),n,c) != ug ((f,k),n,c) s)):=ag3 hs;have zY:H (ug ((f,k),n,c) s=(decide ((if s.2.2.2.1-s.2.2.1.1<0 then -mF s.2.2 ((f,k),n,c) else mF s.2.2 ((f,k),n,c))<0)&&((decide (0<=N.fc (f,k) s.1.1.1)&&decide (N.fc (f,k) s.1.2.1<0))||(decide (0<=N.fc (f,k) s.1.2.1)&&decide (N.fc (f,k) s.1.1.1<0))))):=rfl;have H1:H (∀w1,M 49 #[u #[I J f,I J k],u #[I J s.1.1.1.1,I J s.1.1.1.2]] w1 (ai (I J<|N.fc (f,k) s.1.1.1) w1)):=λw1=>TG f k s.1.1.1.1 s.1.1.1.2 w1 HQ.o.2 q.o.1.1;have H2:H (∀w1,M 49 #[u #[I J f,I J k],u #[I J s.1.2.1.1,I J s.1.2.1.2]] w1 (ai (I J<|N.fc (f,k) s.1.2.1) w1)):=λw1=>TG f k s.1.2.1.1 s.1.2.1.2 w1 HQ.o.2 q.o.1.2;have H3:H (∀w1,M 133 #[u #[I J s.2.2.1.1,I J s.2.2.1.2,I J s.2.2.2.1,I J s.2.2.2.2],u #[I J f,I J k,I J n,I J c]] w1 (ai (I J<|mF s.2.2 ((f,k),n,c)) w1)):=λw1=>Bn _ _ _ _ _ _ _ _ w1 q.o.2.a q.o.2.b q.o.2.c q.o.2.d HQ.o.2;have H4:H (∀w1,M 135 #[u #[I J s.2.2.1.1,I J s.2.2.1.2,I J s.2.2.2.1,I J s.2.2.2.2]] w1 (ai (I J<|s.2.2.2.1-s.2.2.1.1) w1)):=λw1=>pZ _ _ _ _ w1 q.o.2.a q.o.2.c;have: -1<=mF s.2.2 ((f,k),n,c)/\mF s.2.2 ((f,k),n,c)<=1:=by unfold mF;exact F5 _
   have:(i:Int)<(g.length:Int):=U;have HM:H (i+gk=g.length/\i<g.length):=⟨U,hlt⟩;have HXW:H (b<wr.heap.size):=bg hX HI.o.dg.size;generalize eE (g.take i) ((f,k),n,c)=a at*;generalize ug ((f,k),n,c) s=HT' at*;generalize mF s.2.2 ((f,k),n,c)=R at*;generalize N.fc (f,k) s.1.1.1=S at*;generalize N.fc (f,k) s.1.2.1=o at*;generalize s.2.2.2.1-s.2.2.1.1=O at*;have:J.wrap (-R)= -R:=by rw[ah];omega
   have r:∃t,((O<0/\t= -R)\/(¬O<0/\t=R))/\((¬t<0/\H (eE (g.take<|i+1) ((f,k),n,c)=a))\/(t<0/\0<=S/\o<0/\H (eE (g.take<|i+1) ((f,k),n,c)= !a))\/(t<0/\0<=S/\¬o<0/\H (eE (g.take<|i+1) ((f,k),n,c)=a))\/(t<0/\¬0<=S/\0<=o/\H (eE (g.take<|i+1) ((f,k),n,c)= !a))\/(t<0/\¬0<=S/\¬0<=o/\H (eE (g.take<|i+1) ((f,k),n,c)=a))):=by
    unfold H Hid;rw[HT.o,zY.o];refine⟨if O<0 then -R else R,?_,?_⟩
    .by_cases h:O<0
     .exact j ⟨h,y h⟩
     .exact F ⟨h,X h⟩
    .generalize(if O<0 then -R else R)=t;by_cases h1:t<0<;>by_cases h2:0<=S<;>by_cases h3:o<0<;>by_cases h4:0<=o<;>by_cases h5:S<0<;>first |omega |simp[h1,h2,h3,h4,h5]
   have d:H (mD w w.heap.size f k n c wr/\jt wr b i s/\b<wr.heap.size):=⟨HI.o,HS.o,HXW.o⟩;obtain⟨x0,x1,x2,x3,x4,x5,x6,x7,x8,x9,x,B,P,Q⟩:=d.o.2.1;obtain⟨z,L,p2,p3⟩:=d.o.1.p.cs;go_wp2_with fail;go_region_held3 (λw'=>apT w' b (i*14) (I J s.1.1.1.1) (I J s.1.1.1.2)/\apR w' w.heap.size (I J f) (I J k)) (go_keep) (first
    |(go_at_call 49;refine(H1.o _).mono ?_;rintro e w2 ⟨rfl,l⟩;have:=aR l x0 d.o.2.2;have:=aR l x1 d.o.2.2;have:=aR l z (apJ d.o.1.p);have:=aR l L (apJ d.o.1.p)))
   replace d:H (mD w w.heap.size f k n c w2/\jt w2 b i s/\b<w2.heap.size):=⟨(mD.mk d.o.1.dg.drew d.o.1.p).next l,d.o.2.1.drew.mv l d.o.2.2,bg d.o.2.2 l.size⟩;obtain⟨x0,x1,x2,x3,x4,x5,x6,x7,x8,x9,x,B,P,Q⟩:=d.o.2.1;obtain⟨z,L,p2,p3⟩:=d.o.1.p.cs;go_wp2_with fail;go_region_held3 (λw'=>w'.cell? ⟨b,i*14+4,Z⟩=K (I J s.1.2.1.1)/\w'.cell? ⟨b,i*14+5,Z⟩=K (I J s.1.2.1.2)/\apR w' w.heap.size (I J f) (I J k)) (go_keep) (first
    |(go_at_call 49;refine(H2.o _).mono ?_;rintro e w3 ⟨rfl,l⟩;have:=aR l x4 d.o.2.2;have:=aR l x5 d.o.2.2;have:=aR l z (apJ d.o.1.p);have:=aR l L (apJ d.o.1.p)))
   replace d:H (mD w w.heap.size f k n c w3/\jt w3 b i s/\b<w3.heap.size):=⟨(mD.mk d.o.1.dg.drew d.o.1.p).next l,d.o.2.1.drew.mv l d.o.2.2,bg d.o.2.2 l.size⟩;obtain⟨x0,x1,x2,x3,x4,x5,x6,x7,x8,x9,x,B,P,Q⟩:=d.o.2.1;obtain⟨z,L,p2,p3⟩:=d.o.1.p.cs;go_wp2_with fail;go_region_held3 (λw'=>w'.cell? ⟨b,i*14+10,Z⟩=K (I J s.2.2.1.1)/\w'.cell? ⟨b,i*14+11,Z⟩=K (I J s.2.2.1.2)/\w'.cell? ⟨b,i*14+12,Z⟩=K (I J s.2.2.2.1)/\w'.cell? ⟨b,i*14+13,Z⟩=K (I J s.2.2.2.2)/\apQ w' w.heap.size (I J f) (I J k) (I J n) (I J c)) (go_keep) (first
    |(go_at_call 133;refine(H3.o _).mono ?_;rintro e w4 ⟨rfl,l⟩;have:=aR l x d.o.2.2;have:=aR l B d.o.2.2;have:=aR l P d.o.2.2;have:=aR l Q d.o.2.2;have:=aR l z (apJ d.o.1.p);have:=aR l L (apJ d.o.1.p);have:=aR l p2 (apJ d.o.1.p);have:=aR l p3 (apJ d.o.1.p)))
   replace d:H (mD w w.heap.size f k n c w4/\jt w4 b i s/\b<w4.heap.size):=⟨(mD.mk d.o.1.dg.drew d.o.1.p).next l,d.o.2.1.drew.mv l d.o.2.2,bg d.o.2.2 l.size⟩;obtain⟨x0,x1,x2,x3,x4,x5,x6,x7,x8,x9,x,B,P,Q⟩:=d.o.2.1;obtain⟨z,L,p2,p3⟩:=d.o.1.p.cs;go_wp2_with fail;obtain⟨t,ms,r⟩:=r;refine(H4.o _).mono ?_;rintro e w5 ⟨rfl,l⟩;replace d:H (mD w w.heap.size f k n c w5/\jt w5 b i s/\b<w5.heap.size):=⟨d.o.1.next l,d.o.2.1.mv l d.o.2.2,bg d.o.2.2 l.size⟩;rcases ms with⟨hd,he⟩|⟨hd,he⟩<;>rcases r with⟨k1,T⟩|⟨k1,k2,k3,T⟩|⟨k1,k2,k3,T⟩|⟨k1,k2,k3,T⟩|⟨k1,k2,k3,T⟩
   all_goals
    rw[he] at k1;go_wp2_with fail;go_roundg (gk-1)
    case measure=>have:=HM.o;omega
    case rel=>exact⟨i+1,by have:=HM.o;omega,af,by rw[T.o],d.o.1⟩
  .have hk:i=g.length:=U;subst hk;rw[dV];go_wp2_with fail;go_ret;exact⟨rfl,HI.o.dg⟩
def cN(τ:TypeId)(w:G)(v:Y)(l:V RS):Prop:=w.ownsRow 0 τ 14 v l.length<|eA l
theorem gf(τ:TypeId):kR [τ] (cN τ):=λw w' v x h c=>tc h λk a b=>c k a _ b E
def qI(p:RS):RS:=((p.1.2,p.1.1),(-p.2.1.1, -p.2.1.2),p.2.2)
def kM(r:Int)(L R:RS->Int)(p:RS):V RS:=if(N.takes r (L p)&& !N.takes r (R p))=aP then[p] else if(N.takes r (R p)&& !N.takes r (L p))=aP then[qI p] else[]
def jO(r:Int)(L R:RS->Int)(P:V RS):V RS:=P.flatMap<|kM r L R
theorem ag8(r:Int)(L R:RS->Int)(p:RS):(kM r L R p).length<=1:=by
 unfold kM
 repeat' split
 all_goals simp
theorem ag9(r:Int)(L R:RS->Int){P:V RS}{i:Nat}{p:RS}(h:P[i]?=K p):jO r L R (P.take<|i+1)=jO r L R (P.take i)++kM r L R p:=by
 unfold jO;rw[fg,h];simp
theorem TZ(r:Int)(L R:RS->Int):∀P:V RS,(jO r L R P).length<=P.length
 |[]=>by simp[jO]
 |p::P=>by
  have:=TZ r L R P;have:=ag8 r L R p;have e:jO r L R (p::P)=kM r L R p++jO r L R P:=by simp[jO]
  rw[e,bG,dc];omega
theorem aha(l:V Ed)(r:Int)(v:Y)(w:G)(L R:RS->Int)(hR:je w v l)(hl:l.length<=1000)(he:∀e∈l,cM e)(hr:N.rule r=aP)(hpl:(ki l).length<=100000000)(hpw:∀p∈ki l,ib p)
  (HS:H (∀p∈ki l,∀w1,je w1 v l->M 186 #[v,u<|rA p] w1 (ai (aG #[I J (L p),I J<|R p]) w1))):
  M 139 #[v,I .u8 r] w λe w'=>∃v',e=aJ v'/\eZ 265 w v' (jO r L R<|ki l) w':=by
 obtain⟨so,cap,rfl⟩:=uY hR;obtain⟨i0,hi,hz0,hz1,hz2⟩:=aH CE;have HR:=hid hR;have vj:H (∀w1,je w1 (D so l.length cap) l->M 185 #[D so l.length cap] w1 λe w'=>∃v',e=aJ v'/\eZ 263 w1 v' (ki l) w'):=λw1 h1=>abF l _ w1 h1 hl he;have n:H (∀t w1,M 23 #[I .u8 r,I J t] w1 λe w'=>e=aJ (aG #[aC (N.takes r t),aC aP])/\w'=w1):=λt w1=>by
  have:=TF r t w1;rw[hr] at this;exact this
 have Bi:=hid hpw;generalize ki l=P at*
 go_enter func139,ntmps139;go_wp2_with fail;refine(vj.o _ HR.o).mono ?_;rintro e w1 ⟨pv,rfl,hP⟩;obtain⟨ps,pc,rfl⟩:=jX hP.own;have y:H (cN 263 w1 (D ps P.length pc) P/\ag w w1):=⟨iF hP.own,hP.dg⟩;go_wp2_with fail
 go_loopg [5,7] P.length (λm ov iv wr=>∃i:Nat,i+m=P.length/\iv=I J i/\H (eZ 265 w ov (jO r L R<|P.take i) wr/\cN 263 wr (D ps P.length pc) P))
 case atStart=>exact⟨0,U,rfl,⟨ak _ _ _ _,y.o.2⟩,y.o.1⟩
 case round=>
  obtain⟨i,him,rfl,Q⟩:=hrel;by_cases hlt:i<P.length
  .obtain⟨X,yF,hX,x⟩:=mN Q.o.2 U;subst yF;obtain⟨p,hp⟩:∃p,P[i]?=K p:=⟨_,be hlt⟩;have o:=hid<|x i p hp;have hpm:=bB hp;have F:=hid<|HS.o p hpm;have q:H (ib p):=Bi.o p hpm;have s:=hid<|ag9 r L R hp;have HBS:H (kM r L R p=if(N.takes r (L p)&& !N.takes r (R p))=aP then[p] else if(N.takes r (R p)&& !N.takes r (L p))=aP then[qI p] else[]):=rfl;have hOL:(jO r L R<|P.take i).length<=100000000:=by
    have:=TZ r L R<|P.take i;have h2:(P.take i).length<=P.length:=aq;omega
   have S:H (i+gk=P.length/\i<P.length):=⟨U,hlt⟩;have iH:(i:Int)<(P.length:Int):=U;have HRE:=hid<|fk GM HR.o Q.o.1.dg;have HL:=n.o<|L p;have z:=n.o<|R p;have HL:=hid<|n.o<|L p;have z:=hid<|n.o<|R p;generalize jO r L R (P.take i)=O at*;generalize kM r L R p=BS at*;generalize N.takes r (L p)=W at*;generalize N.takes r (R p)=TR at*;generalize L p=LP at*;generalize R p=RP at*;have T:=hid hX;simp only[rA] at F;obtain⟨x0,x1,x2,x3,x4,x5,x6,x7,x8,x9,qG,qH,lS,lT⟩:=o.o;go_wp2_with fail;refine(F.o _ HRE.o).mono ?_;rintro e w2 ⟨rfl,hb⟩;have a:H (eZ 265 w u5 O w2/\cN 263 w2 (D (K ⟨X,0,Z⟩) P.length pc) P):=⟨Q.o.1.next hb,fk (gf _) Q.o.2 hb⟩;have g:H (jt w2 X i p/\X<w2.heap.size):=⟨o.o.mv hb T.o,bg T.o hb.size⟩;go_wp2_with fail;refine(HL.o _).mono ?_;rintro e w3 ⟨rfl,hw3⟩;subst hw3;go_wp2_with fail;refine(z.o _).mono ?_;rintro e j ⟨rfl,hw4⟩;subst hw4;have x:(W=TR/\H (BS=[]))\/(W=aP/\TR=aQ/\H (BS=[p]))\/(W=aQ/\TR=aP/\H (BS=[qI p])):=by
    unfold H Hid;rw[HBS.o];cases W<;>cases TR<;>simp
   rcases x with⟨rfl,c⟩|⟨rfl,rfl,c⟩|⟨rfl,rfl,c⟩
   .have d:H (jO r L R (P.take<|i+1)=O):=by show _=_;rw[s.o,c.o,lY]
    cases W
    all_goals
     go_wp2_with fail;go_roundg (gk-1)
     case measure=>have:=S.o;omega
     case rel=>exact⟨i+1,by have:=S.o;omega,af,by rw[d.o];exact a.o.1,a.o.2⟩
   .skip
    have ho:=a.o.1.own;have ne:u5.ownBlock≠K X:=λe=>own_ne a.o.1.own a.o.2 ae X rfl e.symm;have hws:=a.o.1.dg.size;have zP:=g.o.2;obtain⟨x0,x1,x2,x3,x4,x5,x6,x7,x8,x9,qG,qH,lS,lT⟩:=g.o.1;go_wp2_with fail;go_region_held3 (λw'=>w'.cell? ⟨X,i*14,Z⟩=K (I J p.1.1.1.1)/\w'.cell? ⟨X,i*14+1,Z⟩=K (I J p.1.1.1.2)/\w'.cell? ⟨X,i*14+2,Z⟩=K (I J p.1.1.2.1)/\w'.cell? ⟨X,i*14+3,Z⟩=K (I J p.1.1.2.2)/\w'.cell? ⟨X,i*14+4,Z⟩=K (I J p.1.2.1.1)/\w'.cell? ⟨X,i*14+5,Z⟩=K (I J p.1.2.1.2)/\w'.cell? ⟨X,i*14+6,Z⟩=K (I J p.1.2.2.1)/\w'.cell? ⟨X,i*14+7,Z⟩=K (I J p.1.2.2.2)/\w'.cell? ⟨X,i*14+8,Z⟩=K (I J p.2.1.1)/\w'.cell? ⟨X,i*14+9,Z⟩=K (I J p.2.1.2)/\w'.cell? ⟨X,i*14+10,Z⟩=K (I J p.2.2.1.1)/\w'.cell? ⟨X,i*14+11,Z⟩=K (I J p.2.2.1.2)/\w'.cell? ⟨X,i*14+12,Z⟩=K (I J p.2.2.2.1)/\w'.cell? ⟨X,i*14+13,Z⟩=K (I J p.2.2.2.2))
     (first
      |go_keep
      |(
       go_split_ands
       refine⟨?_,?_,?_,?_,?_,?_,?_,?_,?_,?_,?_,?_,?_,?_⟩
       all_goals(rw[b.cell_far _ aq (lu ne)];assumption)))
     ((refine aba _ (by rfl) _ _ _ (by rfl) w.heap.size 265 i0 _ 14 112 underlying217 hi hz0 hz1 hz2 rfl ae u5 O.length (eA O) (by rfl) (ed ho) ⟨j.heap.size,0,Z⟩ 1 1 [I J p.1.1.1.1,I J p.1.1.1.2,I J p.1.1.2.1,I J p.1.1.2.2,I J p.1.2.1.1,I J p.1.2.1.2,I J p.1.2.2.1,I J p.1.2.2.2,I J p.2.1.1,I J p.2.1.2,I J p.2.2.1.1,I J p.2.2.1.2,I J p.2.2.2.1,I J p.2.2.2.2] (by rfl) (by rfl) (aai (cs:= #[I J p.1.1.1.1,I J p.1.1.1.2,I J p.1.1.2.1,I J p.1.1.2.2,I J p.1.2.1.1,I J p.1.2.1.2,I J p.1.2.2.1,I J p.1.2.2.2,I J p.2.1.1,I J p.2.1.2,I J p.2.2.1.1,I J p.2.2.1.2,I J p.2.2.2.1,I J p.2.2.2.2]) (t:=265) (fr:=(0,0))<|aa j _) au ae ar U aq (j.heap.size+1) E ?_;intro g' f w6 B b ajY Mn))
    have d:H (eZ 265 w (D (K ⟨g',0,Z⟩) (O.length+1) f) (jO r L R<|P.take<|i+1) w6/\cN 263 w6 (D (K ⟨X,0,Z⟩) P.length pc) P):=by
     refine⟨?_,OF (gf _) b (λk hk=>fJ ho hk) ae a.o.2⟩;rw[s.o,c.o];exact a.o.1.grown b (by rw[vA,bG];exact B)
    go_wp2_with fail;go_roundg (gk-1)
    case measure=>have:=S.o;omega
    case rel=>exact⟨i+1,by have:=S.o;omega,af,d⟩
   .have kT:J.wrap (-p.2.1.1)= -p.2.1.1:=by rw[ah];have:=q.o.1;have:=q.o.2.1;omega
    have BC:J.wrap (-p.2.1.2)= -p.2.1.2:=by rw[ah];have:=q.o.2.2.1;have:=q.o.2.2.2;omega
    have ho:=a.o.1.own;have ne:u5.ownBlock≠K X:=λe=>own_ne a.o.1.own a.o.2 ae X rfl e.symm;have hws:=a.o.1.dg.size;have zP:=g.o.2;obtain⟨x0,x1,x2,x3,x4,x5,x6,x7,x8,x9,qG,qH,lS,lT⟩:=g.o.1;go_wp2_with fail;go_region_held3 (λw'=>w'.cell? ⟨X,i*14,Z⟩=K (I J p.1.1.1.1)/\w'.cell? ⟨X,i*14+1,Z⟩=K (I J p.1.1.1.2)/\w'.cell? ⟨X,i*14+2,Z⟩=K (I J p.1.1.2.1)/\w'.cell? ⟨X,i*14+3,Z⟩=K (I J p.1.1.2.2)/\w'.cell? ⟨X,i*14+4,Z⟩=K (I J p.1.2.1.1)/\w'.cell? ⟨X,i*14+5,Z⟩=K (I J p.1.2.1.2)/\w'.cell? ⟨X,i*14+6,Z⟩=K (I J p.1.2.2.1)/\w'.cell? ⟨X,i*14+7,Z⟩=K (I J p.1.2.2.2)/\w'.cell? ⟨X,i*14+8,Z⟩=K (I J p.2.1.1)/\w'.cell? ⟨X,i*14+9,Z⟩=K (I J p.2.1.2)/\w'.cell? ⟨X,i*14+10,Z⟩=K (I J p.2.2.1.1)/\w'.cell? ⟨X,i*14+11,Z⟩=K (I J p.2.2.1.2)/\w'.cell? ⟨X,i*14+12,Z⟩=K (I J p.2.2.2.1)/\w'.cell? ⟨X,i*14+13,Z⟩=K (I J p.2.2.2.2))
     (first
      |go_keep
      |(
       go_split_ands
       refine⟨?_,?_,?_,?_,?_,?_,?_,?_,?_,?_,?_,?_,?_,?_⟩
       all_goals(rw[b.cell_far _ aq (lu ne)];assumption)))
     ((refine aba _ (by rfl) _ _ _ (by rfl) w.heap.size 265 i0 _ 14 112 underlying217 hi hz0 hz1 hz2 rfl ae u5 O.length (eA O) (by rfl) (ed ho) ⟨j.heap.size,0,Z⟩ 1 1 [I J p.1.2.1.1,I J p.1.2.1.2,I J p.1.2.2.1,I J p.1.2.2.2,I J p.1.1.1.1,I J p.1.1.1.2,I J p.1.1.2.1,I J p.1.1.2.2,I J<|-p.2.1.1,I J<|-p.2.1.2,I J p.2.2.1.1,I J p.2.2.1.2,I J p.2.2.2.1,I J p.2.2.2.2] (by rfl) (by rfl) (aai (cs:= #[I J p.1.2.1.1,I J p.1.2.1.2,I J p.1.2.2.1,I J p.1.2.2.2,I J p.1.1.1.1,I J p.1.1.1.2,I J p.1.1.2.1,I J p.1.1.2.2,I J<|-p.2.1.1,I J<|-p.2.1.2,I J p.2.2.1.1,I J p.2.2.1.2,I J p.2.2.2.1,I J p.2.2.2.2]) (t:=265) (fr:=(0,0))<|aa j _) au ae ar U aq (j.heap.size+1) E ?_;intro g' f w6 B b ajY Mn))
    have d:H (eZ 265 w (D (K ⟨g',0,Z⟩) (O.length+1) f) (jO r L R<|P.take<|i+1) w6/\cN 263 w6 (D (K ⟨X,0,Z⟩) P.length pc) P):=by
     refine⟨?_,OF (gf _) b (λk hk=>fJ ho hk) ae a.o.2⟩;rw[s.o,c.o];exact a.o.1.grown b (by rw[vA,bG];exact B)
    go_wp2_with fail;go_roundg (gk-1)
    case measure=>have:=S.o;omega
    case rel=>exact⟨i+1,by have:=S.o;omega,af,d⟩
  .have hk:i=P.length:=U;subst hk;rw[dV] at Q;go_wp2_with fail;go_ret;exact⟨_,rfl,Q.o.1⟩
end
end Go.Proofs.YtkjhhooecopolaaGreatDoor
