import Derived.Test.YtkjhhooecopolaaGreatDoorAz41
set_option maxRecDepth 100000
set_option maxHeartbeats 4000000
namespace Go.Proofs.YtkjhhooecopolaaGreatDoor
open Go.Proofs.Tryz
open Value renaming int->I,complex->A,agg->u,bool->aC,string->aD,slice->D,tuple->aG
open IntKind renaming i64->J
open FloatKind renaming f64->C
open Ending renaming returned->aJ
open Go renaming World->G,Value->Y
open Option renaming some->K,none->Z
open Bool renaming true->aP,false->aQ
namespace Gb
open N W
variable{a b c d u v W:Int}
def Ln(e:O×O)(a:Nd):Prop:=(e.2.1-e.1.1)*(a.2.1-e.1.2*a.2.2)-(e.2.2-e.1.2)*(a.1-e.1.1*a.2.2)=0
theorem al1{D E:Int}(h:D*(b-v*W)-E*(a-u*W)=0)(k:D*(d-v*W)-E*(c-u*W)=0):D*(d-b)=E*(c-a):=by grind
theorem al2{D E x y:Int}(h:D*(b-v*W)-E*(a-u*W)=0)(z:D*(d-b)=E*(c-a)):D*((a-x)*(d-y)-(b-y)*(c-x))=(c-a)*(D*(y-v*W)-E*(x-u*W)):=by
 grind
theorem ag6{M:Int}(R:0<M){n:Nd}(Q:0<n.2.2){a b:Nd}(J:OK M a)(K:OK M b){s:RS}(hs:s.1=(T a,T b))(hd:dr s.2.2≠(0,0))(la:Ln s.2.2 a)(lb:Ln s.2.2 b):ug (T n) s=decide (up (rl (nM M n)<|PM M a) (rl (nM M n)<|PM M b)≠0):=by have h:=bD R Q;have hc:OK (M*n.2.2) n:=⟨Q,Vq ..⟩;have eC:PM (M*n.2.2) n=(M*n.1,M*n.2.1):=(by unfold PM;rw[Int.mul_ediv_cancel _ U];grind);have H:∀{x:Nd},OK M x->rl (nM M n) (PM M x)=dr (PM (M*n.2.2) n,PM (M*n.2.2) x):=λ{x} j=>(by rw[(zN R Q j).2,eC];rfl);obtain⟨⟨p,q⟩,dd,⟨⟨f,g⟩,l,m⟩⟩:=s;obtain⟨rfl,rfl⟩:p=T a/\q=T b:=⟨bd Prod.fst hs,bd Prod.snd hs⟩;have sc:∀{x:Nd},OK M x->Ln ((f,g),(l,m)) x->(l-f)*((PM (M*n.2.2) x).2-g*(M*n.2.2))-(m-g)*((PM (M*n.2.2) x).1-f*(M*n.2.2))=0:=λ{x} j O=>(by obtain⟨k,_,e1,e2⟩:=od h (zN R Q j).1.p (zN R Q j).1.d;rw[e2,<-e1];unfold Ln at O;grind);have o:=sc J la;have V:=sc K lb;obtain⟨a1,_,a3,_⟩:=zM h (zN R Q J).1;obtain⟨b1,_,b3,_⟩:=zM h (zN R Q K).1;obtain⟨u,c2,c3,c4⟩:=zM h hc;have f2:=Ef h u a1 c3 a3;have f3:=Ef h u b1 c3 b3;have g2:fc ((T n).1.1,(T n).1.2) ((T a).1.1,(T a).1.2)=fc (T n).1 (T a).1:=rfl;have g3:fc ((T n).1.1,(T n).1.2) ((T b).1.1,(T b).1.2)=fc (T n).1 (T b).1:=rfl;rw[g2] at f2;rw[g3] at f3;have Y:(0<mF ((f,g),(l,m)) (T n)↔0<(l-f)*((PM (M*n.2.2) n).2-g*(M*n.2.2))-(m-g)*((PM (M*n.2.2) n).1-f*(M*n.2.2)))/\(mF ((f,g),(l,m)) (T n)<0↔(l-f)*((PM (M*n.2.2) n).2-g*(M*n.2.2))-(m-g)*((PM (M*n.2.2) n).1-f*(M*n.2.2))<0):=(by unfold mF;simp only;have t:=xP (x:=(l-f)*((T n).2.1-g*(T n).2.2)*(T n).1.2-(m-g)*((T n).1.1-f*(T n).1.2)*(T n).2.2);have e:(M*n.2.2)*((l-f)*((T n).2.1-g*(T n).2.2)*(T n).1.2-(m-g)*((T n).1.1-f*(T n).1.2)*(T n).2.2)=((T n).1.2*(T n).2.2)*((l-f)*((PM (M*n.2.2) n).2-g*(M*n.2.2))-(m-g)*((PM (M*n.2.2) n).1-f*(M*n.2.2))):=(by clear eC H o V sc t;grind);have s:=gC h (bD u c2) e;omega);rw[H J,H K];unfold ug;simp only;generalize PM (M*n.2.2) a=A at*;generalize PM (M*n.2.2) b=B at*;generalize PM (M*n.2.2) n=C at*;generalize M*n.2.2=W at*;generalize fc (T n).1 (T a).1=F at*;generalize fc (T n).1 (T b).1=G at*;generalize mF ((f,g),(l,m)) (T n)=σ at*;have hD:¬(l-f=0/\m-g=0):=λw=>hd<|dj w.1 w.2;obtain⟨v,S⟩:=am<|l-f;obtain⟨D2,I⟩:=am<|m-g;rw[<-S,<-I] at o V Y hD;rw[<-S];obtain⟨τ,hτ⟩:=am<|v*(C.2-g*W)-D2*(C.1-f*W);rw[<-hτ] at Y;have z:=al1 o V;have k:v*L (dr (C,A)) (dr (C,B))=(B.1-A.1)*τ:=(by rw[hτ];exact al2 o z);unfold up;have w1:(dr (C,A)).1=A.1-C.1:=rfl;have w2:(dr (C,B)).1=B.1-C.1:=rfl;rw[w1,w2];generalize L (dr (C,A)) (dr (C,B))=c at*;have i:v=0->B.1-A.1=0:=λe=>(by rw[e,acp] at z;rcases wX.1 z.symm with w|w;omega;exact w);have P:∀{p q r t:Int},0<p->0<q->p*r=q*t->(0<r↔0<t)/\(r<0↔t<0):=λhp hq e=>⟨(gC hp hq e).1,(gC hp hq e).2.1⟩;have Z:=λa b=>P a b k;have P2:0<v->B.1-A.1<0->(0<c↔0< -τ)/\(c<0↔ -τ<0):=λa b=>P (q:= -(B.1-A.1)) a U (by grind);have P3:v<0->0<B.1-A.1->(0<c↔0< -τ)/\(c<0↔ -τ<0):=λa b=>P (p:= -v) U b (by rw[fG,pF,k]);have P4:v<0->B.1-A.1<0->(0<c↔0<τ)/\(c<0↔τ<0):=λa b=>P (p:= -v) (q:= -(B.1-A.1)) U U (by rw[fG,fG,k]);refine ke.2 ?_;simp only[jl,E1,iE,ne_eq];obtain⟨f21,f22,f23⟩:=f2;obtain⟨f31,f32,f33⟩:=f3;obtain⟨s1,s2⟩:=Y;constructor;rintro⟨x,⟨y1,y2⟩|⟨y1,y2⟩⟩;rcases dG v 0 with q|q|q;grind;grind;grind;rcases dG v 0 with q|q|q;grind;grind;grind;intro x;by_cases h1:A.1-C.1<=0/\0<B.1-C.1/\c<0;rcases dG v 0 with q|q|q;grind;grind;grind;rw[X h1] at x;by_cases h2:B.1-C.1<=0/\0<A.1-C.1/\0<c;rcases dG v 0 with q|q|q;grind;grind;grind;rw[X h2] at x;omega
theorem TY{α:Type}{P:α->Bool}{g:α->Int}:∀(L:V α)(b:Bool),(∀x∈L,P x=decide (g x≠0)/\ -1<=g x/\g x<=1)->L.foldl (λb e=>b != P e) b=(b != decide ((L.map g).sum%2=1))
 |[],b,_=>by simp
 |x::L,b,h=>by obtain⟨a,d,f⟩:=h x E;rw[ls,TY L _ λy c=>h y<|bW _ c,a,gU,uy];generalize(L.map g).sum=S;rcases(show g x= -1\/g x=0\/g x=1 by omega) with e|e|e<;>rw[e];grind;simp;grind
def SN(M:Int)(γ:RS->w)(s:RS):Prop:=∃a b:Nd,OK M a/\OK M b/\s.1=(T a,T b)/\γ s=(PM M a,PM M b)/\dr s.2.2≠(0,0)/\Ln s.2.2 a/\Ln s.2.2 b
section
variable{S:V w}{nx:w->w}{γ:RS->w}
theorem ag7(h:Wd S nx){M:Int}(n:0<M){g:V RS}(P:∀s∈g,SN M γ s)(x:Cl (g.map γ))(B:∀e∈g.map γ,e∈S){f t:Nd}(c:OK M f)(l:OK M t)(p:(PM M f,PM M t)∈S)(Q:(PM M f,PM M t)∉g.map γ):eE g (T<|bo f t)=decide (Lf (g.map γ) (PM M f,PM M t)%2=1):=by
 have R:0<(bo f t).2.2:=by have:=c.p;have:=l.p;show 0<f.2.2+t.2.2;omega
 unfold eE;rw[TY (g:=λs=>up (rl (nM M<|bo f t) (γ s).1)<|rl (nM M<|bo f t) (γ s).2) g aQ λs p=>by
  obtain⟨a,b,u,w,q,m,d,i,o⟩:=P s p;refine⟨?_,agY _ _⟩;rw[m];exact ag6 n R u w q d i o]
 have e:(g.map λs=>up (rl (nM M<|bo f t) (γ s).1)<|rl (nM M<|bo f t) (γ s).2).sum=UU (g.map γ) (nM M<|bo f t):=(by unfold UU total;rw[eS];rfl);have r:nM M (bo f t)=(f.2.2*(PM M f).1+t.2.2*(PM M t).1,f.2.2*(PM M f).2+t.2.2*(PM M t).2,f.2.2+t.2.2):=(by obtain⟨k,_,q,m⟩:=od n c.p c.d;obtain⟨j,_,y,v⟩:=od n l.p l.d;rw[m,v];unfold nM bo;grind);rw[e,r,h.agX x B p Q c.p l.p];simp
end
def ot(l:V Nd)(q:Qt):Nd:=(l.find? λn=>decide (T n=q)).getD (0,0,1)
def gS(l:V Nd)(s:RS):w:=(PM (aZ l)<|ot l s.1.1,PM (aZ l)<|ot l s.1.2)
def abB(l:V Nd)(p:RS):Nd:=bo (ot l p.1.1)<|ot l p.1.2
def abI(es:V Ed)(l:V Nd)(p:RS):Int×Int:=vz (abB l p).1 (abB l p).2.1 (abB l p).2.2 p.2.1.1 p.2.1.2 es
def abC(r:Int)(es:V Ed)(l:V Nd):V RS:=jO r (λp=>(abI es l p).1) (λp=>(abI es l p).2)<|ki es
section
variable{es:V (O×O)}{l:V Nd}
theorem sr(a:bZ es l){n:Nd}(b:n∈l):ot l (T n)=n:=by unfold ot;cases h:l.find? λm=>decide (T m=T n) with|none=>grind|some m=>have c:=ajv h;have d:=List.find?_some h;exact oN (a.can m c) (a.can n b)<|by grind
theorem wO(a:bZ es l){e:O×O}{n:Nd}(h:n∈held e l):Ln e n:=by obtain⟨b,c⟩:=fP.1 h;exact N.n8 (P:=(n.1,n.2.1)) (a.can n b).pos c
theorem Va(a:bZ es l){e:O×O}(d:e∈es){f t:Nd}(h:(f,t)∈apO (held e l)):Pm (e6 e) (wv f t):=by obtain⟨k,m⟩:=mA h;obtain⟨_,_,p⟩:=dJ.facts a ⟨e,d,h⟩;have q:=wO a k;have r:=wO a m;have b:=a.ne e d;have n:bF (e6 e):=(by unfold e6 bF;grind);have g:(e.2.1-e.1.1)*(wv f t).2-(e.2.2-e.1.2)*(wv f t).1=0:=(by unfold wv;unfold Ln at q r;grind);have c:L (e6 e) (wv f t)=0:=(by unfold e6 L;grind);exact Rc<|(dE _ _).2 ⟨c,jw n p c⟩
theorem Vb{rg:V (V O)}(b:bZ (o rg) l){e:O×O}(r:e∈o rg){f t:Nd}(h:(f,t)∈apO (held e l)):abI (o rg) l ((T f,T t),e6 e,e)=(LL (o rg) f t,RR (o rg) f t):=by have c:dJ (o rg) l f t:=⟨e,r,h⟩;obtain⟨Q,R,S⟩:=c.facts b;have g:=c.kJ b;have d:=Va b r h;have B:abB l ((T f,T t),e6 e,e)=bo f t:=(by unfold abB;simp only;rw[sr b Q,sr b R]);have z:(e6 e).1=0↔(wv f t).1=0:=(by obtain⟨p,q,m,n,a,_⟩:=d;exact(gC m n a).2.2);have P:ix (bo f t).1 (bo f t).2.1 (bo f t).2.2 (e6 e).1 (e6 e).2 (o rg)=total (fb (bo f t)<|wv f t) (o rg):=(by rw[<-along g];unfold ix;congr 1;refine abH λx _=>?_;unfold nS;have a:fo ((bo f t).1,(bo f t).2.1) (bo f t).2.2 x=on (rl (bo f t) x.1) (rl (bo f t) x.2):=rfl;rw[a];split;obtain⟨p,q,m,n,a,s⟩:=d;have k:p*((x.2.1-x.1.1)*(e6 e).1+(x.2.2-x.1.2)*(e6 e).2)=q*((wv f t).1*(x.2.1-x.1.1)+(wv f t).2*(x.2.2-x.1.2)):=(by grind);have:=(gC m n k).1;omega;rfl);unfold abI vz;rw[B];simp only;rw[P];by_cases w:(e6 e).1=0;rw[y w];have a:total (fs ((bo f t).1,(bo f t).2.1) (bo f t).2.2) (o rg)=RR (o rg) f t:=aiC g<|z.1 w;rw[a];rfl;rw[X w];have a:total (fu ((bo f t).1,(bo f t).2.1) (bo f t).2.2) (o rg)=LL (o rg) f t:=aiB g λv=>w<|z.2 v;rw[a];refine dj rfl ?_;show LL (o rg) f t-_=RR (o rg) f t;unfold LL RR;omega
structure J4(es:V (O×O))(l:V Nd)(bm:Int->Bool)(s:RS)(f t:Nd):Prop where
 sd:Sd es l bm f t
 q:s.1=(T f,T t)
 pm:Pm s.2.1 (wv f t)
 e:s.2.2∈es
 l1:Ln s.2.2 f
 l2:Ln s.2.2 t
 dir:s.2.1=e6 s.2.2\/s.2.1=neg (e6 s.2.2)
theorem aiD{rg:V (V O)}(a:bZ (o rg) l){r:Int}{p:RS}(q:p∈ki (o rg)){s:RS}(c:s∈kM r (λp=>(abI (o rg) l p).1) (λp=>(abI (o rg) l p).2) p):∃f t,J4 (o rg) l (takes r) s f t/\((s=p/\bF (wv f t))\/(s=qI p/\bF (wv t f))):=by obtain⟨e,d,f,t,h,rfl⟩:=a.pieces.2.1 p q;have b:dJ (o rg) l f t:=⟨e,d,h⟩;obtain⟨k,m⟩:=mA h;have n:=(b.facts a).2.2;have g:=Va a d h;unfold kM at c;simp only[Vb a d h] at c;split at c;rename_i w;simp only[jl,uw] at w;rw[cI.1 c];exact⟨f,t,⟨j ⟨b,w.1,w.2⟩,rfl,g,d,wO a k,wO a m,j rfl⟩,j ⟨rfl,n⟩⟩;split at c;rename_i w;simp only[jl,uw] at w;rw[cI.1 c];refine⟨t,f,⟨F ⟨b,w.1,w.2⟩,rfl,?_,d,wO a m,wO a k,F rfl⟩,F ⟨rfl,n⟩⟩;rw[eI f t];exact g.neg;cases c
theorem aiE{rg:V (V O)}(b:bZ (o rg) l){r:Int}{f t:Nd}(h:Sd (o rg) l (takes r) f t):∃s∈abC r (o rg) l,s.1=(T f,T t):=by have g:∀{f t:Nd},dJ (o rg) l f t->∃p∈ki (o rg),p.1=(T f,T t)/\abI (o rg) l p=(LL (o rg) f t,RR (o rg) f t):=λ{f t} a=>(by obtain⟨p,d,c⟩:=b.pieces.2.2 f t a;obtain⟨e,n,S,i,q,rfl⟩:=b.pieces.2.1 p d;obtain⟨v,x,_⟩:=a.facts b;obtain⟨B,P,_⟩:=dJ.facts b ⟨e,n,q⟩;have Q:=oN (b.can _ B) (b.can _ v)<|bd Prod.fst c;have R:=oN (b.can _ P) (b.can _ x)<|bd Prod.snd c;subst Q R;exact⟨_,d,rfl,Vb b n q⟩);rcases h with⟨a,w1,m⟩|⟨a,w1,m⟩;obtain⟨p,d,c,k⟩:=g a;refine⟨p,lw.2 ⟨p,d,?_⟩,c⟩;unfold kM;grind;obtain⟨p,d,c,k⟩:=g a;refine⟨qI p,lw.2 ⟨p,d,?_⟩,?_⟩;unfold kM;grind;unfold qI;rw[c]
theorem aiF{rg:V (V O)}(d:bZ (o rg) l)(r:Int):(abC r (o rg) l).Pairwise λs t=>s.1≠t.1:=by unfold abC jO;have k:∀p∈ki (o rg),∃f t,p.1=(T f,T t)/\f∈l/\t∈l/\bF (wv f t):=λp g=>(by obtain⟨e,z,f,t,C,rfl⟩:=d.pieces.2.1 p g;obtain⟨a,b,c⟩:=dJ.facts d ⟨e,z,C⟩;grind);have m:∀{L R:RS->Int}{p s:RS},s∈kM r L R p->s=p\/s=qI p:=λ{L R p s} h=>(by unfold kM at h;grind);have turn:∀p∈ki (o rg),∀q∈ki (o rg),p.1≠(qI q).1:=λp g q v e=>(by obtain⟨f,t,i,A,D,B⟩:=k p g;obtain⟨J,K,u,P,Q,n⟩:=k q v;unfold qI at e;rw[i,u] at e;have H:=oN (d.can _ A) (d.can _ Q)<|bd Prod.fst e;have I:=oN (d.can _ D) (d.can _ P)<|bd Prod.snd e;rw[H,I,eI] at B;unfold bF at B n;unfold neg at B;omega);rw[List.flatMap,xf];refine⟨λx S=>?_,?_⟩;obtain⟨p,g,rfl⟩:=bA.1 S;unfold kM;split;simp;split;simp;simp;rw[ic];refine kQ (λ{p q} g v w x S y G e=>?_) d.pieces.1;rcases m S with rfl|rfl<;>rcases m G with rfl|rfl;grind;grind;grind;exact w (dj (bd Prod.snd e)<|bd Prod.fst e)
theorem nh{rg:V (V O)}(a:bZ (o rg) l){r:Int}{s:RS}(d:s∈abC r (o rg) l):∃f t,J4 (o rg) l (takes r) s f t:=by obtain⟨p,c,b⟩:=lw.1 d;obtain⟨f,t,h,_⟩:=aiD a c b;grind
end
section
variable{rg:V (V O)}{l:V Nd}{r:Int}{Xs:V PB}
theorem nj(a:bZ (o rg) l){s:RS}{f t:Nd}(h:J4 (o rg) l (takes r) s f t):f∈l/\t∈l/\ot l s.1.1=f/\ot l s.1.2=t/\gS l s=(PM (aZ l) f,PM (aZ l) t):=by
 obtain⟨_,d,e⟩:=fZ a h.sd.pc;have b:ot l s.1.1=f:=by rw[h.q];exact sr a d
 have c:ot l s.1.2=t:=by rw[h.q];exact sr a e
 exact⟨d,e,b,c,by unfold gS;rw[b,c]⟩
theorem SX.rb(h:SX rg l r Xs):RB (sS (aZ l) Xs) (gS l) (abC r (o rg) l):=by have b:=h.nl;obtain⟨M,G⟩:=bZ.ok b;have K:∀{f t:Nd},Sd (o rg) l (takes r) f t->(PM (aZ l) f,PM (aZ l) t)∈sS (aZ l) Xs:=λ{f t} c=>(by obtain⟨x,H,Q,R⟩:=h.all f t c;exact bA.2 ⟨x,H,by unfold ph;rw[Q,R]⟩);refine⟨λs c=>?_,λi j m y e=>?_,λu hu=>?_,λs c t z=>?_,λs c=>?_,λs c t z=>?_⟩;obtain⟨f,t,k⟩:=nh b c;rw[(nj b k).2.2.2.2];exact K k.sd;obtain⟨f,t,k⟩:=nh b<|gE m;obtain⟨S,W,n⟩:=nh b<|gE y;obtain⟨d,v,_,_,a5⟩:=nj b k;obtain⟨D,B,_,_,P⟩:=nj b n;rw[a5,P] at e;have Q:=mB b d D<|bd Prod.fst e;have R:=mB b v B<|bd Prod.snd e;have eq:(bp (abC r (o rg) l) i).1=(bp (abC r (o rg) l) j).1:=(by rw[k.q,n.q,Q,R]);have nd:=jm.1<|aiF b r;have F:∀{a:Nat}(N:a<(abC r (o rg) l).length),(abC r (o rg) l)[a]=bp (abC r (o rg) l) a:=λN=>(gn<|be N).symm;grind;obtain⟨x,H,rfl⟩:=bA.1 hu;obtain⟨s,c,e⟩:=aiE b<|h.mem x H;obtain⟨i,m,Z⟩:=ig.1 c;refine⟨i,m,?_⟩;rw[gn (s:=s)<|by grind];obtain⟨_,hf,z⟩:=fZ b (h.mem x H).pc;unfold gS ph;rw[e];simp only;rw[sr b hf,sr b z];obtain⟨f,W,k⟩:=nh b c;obtain⟨S,L,n⟩:=nh b z;obtain⟨d,v,_,_,a5⟩:=nj b k;obtain⟨D,B,_,_,P⟩:=nj b n;rw[a5,P,k.q,n.q];simp only;constructor;intro e;rw[oN (b.can _ d) (b.can _ B) e];intro e;rw[mB b d B e];obtain⟨f,t,k⟩:=nh b c;obtain⟨d,v,_,_,a5⟩:=nj b k;rw[a5];obtain⟨p,q,hp,hq,Q,R⟩:=k.pm;obtain⟨A,C,I,J,X,Y⟩:=iN M (G f d)<|G t v;refine⟨p*C,q*A,bD hp J,bD hq I,?_,?_⟩;grind;grind;obtain⟨f,W,k⟩:=nh b c;obtain⟨S,L,n⟩:=nh b z;obtain⟨d,v,_,_,a5⟩:=nj b k;obtain⟨D,B,_,_,P⟩:=nj b n;rw[a5,P,k.q,n.q];simp only;have g:=agT M (G S D)<|G f d;have sw:=uV (T S)<|T f;rw[sw];constructor;intro w q;have O:=g.1.1 U;unfold bF dr at O;unfold ge dr at q;grind;intro w;have:bF (dr (PM (aZ l) f,PM (aZ l) S)):=(by refine Di ((vW _ _).resolve_right w) λe=>w ?_;rw[e];exact tZ _);grind
theorem SX.ref(h:SX rg l r Xs)(w:BD Xs){G:V (V RS)}(Z:G=(jj (nI<|abC r (o rg) l) (abC r (o rg) l) (abC r (o rg) l).length).2.map (fR<|abC r (o rg) l)):mG (λg=>T<|abB l<|bp g 0) G=(fin Xs).map (λp=>p.1.map T::p.2.map (·.map T)):=by
 have n:=SX.wd h w;have m:=h.nl;obtain⟨hM,P⟩:=bZ.ok m;have k:=SX.rb h;have d:=k.gr n;rw[<-Z] at d;have i:=SX.canon h w;obtain⟨J,K⟩:=d.canon n m k (nq:=ot l) (λs v=>by
   obtain⟨f,t,b⟩:=nh m v;obtain⟨Q,_,S,_,a5⟩:=nj m b;rw[S,a5,b.q];grind) (mq:=λg=>T (abB l (bp g 0))) (λg q x c D=>by
   obtain⟨R,a,C,rl⟩:=d.rl n k q;obtain⟨R',a',C',rl'⟩:=d.rl n k c;obtain⟨f,t,b⟩:=nh m<|d.sub g q _ rl.z;obtain⟨Q,F,S,I,a5⟩:=nj m b;have A:=k.mem _<|d.sub g q _ rl.z;unfold abB;rw[S,I];rw[a5] at A D⊢;have u:Cl (x.map<|gS l):=by
    obtain⟨b0,_,j,_⟩:=jL (d.ring x c).ne;exact Cl.path ((d.ring x c).path j) λs v=>n.ne s<|(d.ring x c).mem s v
   exact ag7 n hM (λs v=>by
    obtain⟨U,t',B⟩:=nh m (d.sub x c s v);obtain⟨L,M,_,_,N⟩:=nj m B;refine⟨U,t',P _ L,P _ M,B.q,N,λe=>?_,B.l1,B.l2⟩;exact m.ne _ B.e (mU.1 e)) u (d.ring x c).mem (P _ Q) (P _ F) A D) (λH z v=>by
   obtain⟨p,hp,y,hy,O⟩:=i.c3 H z v;obtain⟨R,r1,r2,r3,r4⟩:=i.c1 p hp;obtain⟨E,W,h2,X,Y⟩:=r4 y hy;have:E=H:=W.zi n z (X.symm.trans O);grind)
 rw[K,J.eq n m i]
end
end Gb
section
open Go.RowKit
theorem Vc:∀(L O:V RS),(L.foldl fM O).length<=O.length+L.length
 |[],O=>E
 |a::L,O=>by have:=Vc L<|fM O a;have:(fM O a).length<=O.length+1:=(by unfold fM;grind);grind
theorem ti{α β:Type}{f:α->V β}{m:Nat}:∀L:V α,(∀x∈L,(f x).length<=m)->(L.flatMap f).length<=m*L.length
 |[],_=>E
 |a::L,h=>by have:=ti L λx b=>h x<|bW _ b;have:=h a E;rw[nn,bG,dc,Nat.mul_succ];omega
theorem aiH{es:V Ed}(h:es.length<=402):(ki es).length<=324012:=by have a:=Vc (es.flatMap<|kH es) [];have:=ti (f:=kH es) (m:=806) es λe _=>(by have:=Nq es e;unfold kH;grind);have:=Nat.mul_le_mul_left 806 h;show((es.flatMap<|kH es).foldl fM []).length<=324012;grind
theorem aiI(r:Int)(L R:RS->Int)(P:V RS):(jO r L R P).length<=P.length:=by
 have:=ti (f:=kM r L R) (m:=1) P λp _=>by unfold kM;grind
 unfold jO;omega
theorem Vd{α:Type}:∀G:V (V α),(∀g∈G,0<g.length)->G.length<=G.flatten.length/\∀g∈G,g.length<=G.flatten.length
 |[],_=>E
 |a::G,h=>by obtain⟨d,c⟩:=Vd G λg b=>h g<|bW _ b;grind
theorem Ve{α:Type}[DecidableEq α]:∀{a b:V α},a.Nodup->(∀x∈a,x∈b)->a.length<=b.length
 |[],_,_,_=>E
 |x::a,b,h,k=>by obtain⟨f,g⟩:=ux.1 h;have c:=k x E;have l:=Ve (b:=b.erase x) g λy d=>(List.mem_erase_of_ne (a:=y) (b:=x)<|λe=>f (by grind)).2<|k y<|bW _ d;grind
theorem Vf{f t:N.Nd}(h:iI f)(k:iI t):cS (N.T<|W.bo f t)/\oK (N.T<|W.bo f t).1.1 (N.T<|W.bo f t).1.2 (N.T<|W.bo f t).2.1 (N.T<|W.bo f t).2.2 (W.bo f t).1 (W.bo f t).2.1 (W.bo f t).2.2:=by have:(W.bo f t).1.natAbs<=6000000:=(by have:=h.x;have:=k.x;show(f.1+t.1).natAbs<=_;omega);have:(W.bo f t).2.1.natAbs<=6000000:=(by have:=h.y;have:=k.y;show(f.2.1+t.2.1).natAbs<=_;omega);have a:0<(W.bo f t).2.2/\(W.bo f t).2.2<=40000:=(by have:=h.d;have:=k.d;show 0<f.2.2+t.2.2/\f.2.2+t.2.2<=_;omega);generalize W.bo f t=m at*;have:=Ee (n:=m.1) (d:=m.2.2) a.1;have:=Ee (n:=m.2.1) (d:=m.2.2) a.1;have l:cS (N.T m):=⟨by show _<=(N.bu m.1 m.2.2).1/\(N.bu m.1 m.2.2).1<=_;omega,by show _<(N.bu m.1 m.2.2).2/\(N.bu m.1 m.2.2).2<=_;omega,by show _<=(N.bu m.2.1 m.2.2).1/\(N.bu m.2.1 m.2.2).1<=_;omega,by show _<(N.bu m.2.1 m.2.2).2/\(N.bu m.2.1 m.2.2).2<=_;omega⟩;refine⟨l,l,?_,?_⟩;obtain⟨g,_,b,c,e⟩:=N.kE (n:=m.1) (d:=m.2.2) U;exact⟨g,e.2 a.1,b,c⟩;obtain⟨g,_,b,c,e⟩:=N.kE (n:=m.2.1) (d:=m.2.2) U;exact⟨g,e.2 a.1,b,c⟩
theorem J5{e:Ed}(h:cM e):(-100<=(e6 e).1/\(e6 e).1<=100)/\ -100<=(e6 e).2/\(e6 e).2<=100:=by obtain⟨a,b,c,d⟩:=h;unfold small at a b c d;unfold e6;grind
section
variable{rg:V (V N.O)}{l:V N.Nd}{r:Int}{Xs:V PB}
theorem aiJ(hX:SX rg l r Xs)(hB:BD Xs)(X:∀e∈N.o rg,cM e)(hl:(N.o rg).length<=402)(hr:N.rule r=aP)(v:Y)(w:G)(hR:je w v (N.o rg)):
  M 84 #[v,I .u8 r] w λe w'=>∃v' vs,e=aJ v'/\PY w.heap.size w' v' vs ((Gb.fin Xs).map oq)/\ag w w':=by
 have i:=hX.nl;have P:=λn O=>He X (i.can n O)<|i.node.2 ⟨n,O,rfl⟩;have D:=λn O=>TE<|TD (i.can n O)<|P n O;have jK:=λ{f t} hf ht w1=>abr f t w1 (i.can f hf) (i.can t ht) (P f hf)<|P t ht;have hpl:=aiH hl;obtain⟨B,y⟩:=am<|Gb.abC r (N.o rg) l;have hBl:B.length<=324012:=(by rw[y];exact el (aiI _ _ _ _) hpl);have hW:=Gb.SX.wd hX hB;have k:=Gb.SX.rb hX;have h:∀s∈B,∃f t,f∈l/\t∈l/\s.1=(N.T f,N.T t)/\Gb.abB l s=W.bo f t/\ib s/\cM s.2.2:=λs S=>(by rw[y] at S;obtain⟨f,t,b⟩:=Gb.nh i S;obtain⟨Q,R,H,Z,_⟩:=Gb.nj i b;have sm:=J5<|X _ b.e;refine⟨f,t,Q,R,b.q,by unfold Gb.abB;rw[H,Z],?_,X _ b.e⟩;unfold ib;rcases b.dir with q|q<;>rw[q];omega;unfold W.neg;omega);have C:=k.gr hW;have kn:=(k.ni hW).2;have kl:=(k.ni hW).1.lt;rw[<-y] at k C kn kl;obtain⟨a,hG⟩:=am<|(jj (Gb.nI B) B B.length).2.map<|fR B;have ref:=Gb.SX.ref hX hB (G:=a) (by rw[hG,y]);rw[<-hG] at C;have J:∀g∈a,0<g.length:=λg m=>(by have:=fT.2 (C.ring g m).ne;grind);have gl:a.length<=B.length/\∀g∈a,g.length<=B.length:=(by have F:=Vd (a.map λg=>g.map<|Gb.gS l) λg m=>(by grind);have h2:(a.map λg=>g.map<|Gb.gS l).flatten.length<=(B.map<|Gb.gS l).length:=(by refine Ve C.nd λc hu=>?_;obtain⟨L,hL,hu⟩:=pG.1 hu;obtain⟨g,m,rfl⟩:=bA.1 hL;obtain⟨s,hs',rfl⟩:=bA.1 hu;exact bA.2 ⟨s,C.sub g m s hs',rfl⟩);rw[eK] at F h2;refine⟨U,λg m=>?_⟩;have:=F.2 (g.map<|Gb.gS l)<|bA.2 ⟨g,m,rfl⟩;grind);have zz:∀g∈a,∃s,g[0]?=K s/\bp g 0=s/\s∈B:=λg m=>(by have e:=be<|J g m;exact⟨_,e,gn e,C.sub g m _<|eo _⟩)
 have A:=aib r v w B a (λg=>N.T<|Gb.abB l<|bp g 0) U (λg m=>by
   have hgl:=gl.2 g m;refine⟨⟨J g m,U,λs S=>?_,λs S=>?_⟩,⟨U,λs S=>?_⟩,?_⟩
   .obtain⟨f,t,_,_,_,_,a5,_⟩:=h s<|C.sub g m s S;exact a5
   .obtain⟨f,t,Q,R,H,_,_,_⟩:=h s<|C.sub g m s S;grind
   .obtain⟨f,t,Q,R,H,_,_,a6⟩:=h s<|C.sub g m s S;grind
   .obtain⟨s,_,e2,S⟩:=zz g m;obtain⟨f,t,Q,R,_,Z,_,_⟩:=h s S;show cS (N.T (Gb.abB l (bp g 0)));rw[e2,Z];exact(Vf (P f Q) (P t R)).1) ?_ ?_ ?_
 rw[ref] at A;have e:(Gb.fin Xs).map (λp=>p.1.map N.T::p.2.map (·.map N.T))=(Gb.fin Xs).map oq:=rfl;grind
 .have:=aha (N.o rg) r v w (λp=>(Gb.abI (N.o rg) l p).1) (λp=>(Gb.abI (N.o rg) l p).2) hR U X hr U (λp hp=>by
    obtain⟨e,he,f,t,_,rfl⟩:=i.pieces.2.1 p hp;have:=J5 (X e he);show ib ((N.T f,N.T t),e6 e,e);unfold ib;grind) (λp hp w1 F=>by
    obtain⟨e,he,f,t,O,rfl⟩:=i.pieces.2.1 p hp;obtain⟨Q,R,_⟩:=W.dJ.facts i ⟨e,he,O⟩;have em:Gb.abB l ((N.T f,N.T t),e6 e,e)=W.bo f t:=by unfold Gb.abB;simp only;rw[Gb.sr i Q,Gb.sr i R]
    have sm:=J5 (X e he);have mi:=Vf (P f Q) (P t R);have:=abA (N.o rg) v ((N.T f,N.T t),e6 e,e) (N.T (W.bo f t)) (W.bo f t).1 (W.bo f t).2.1 (W.bo f t).2.2 w1 F U X mi.2 (by have:=(P f Q).d;have:=(P t R).d;show 0<f.2.2+t.2.2;omega) ⟨sm.1.1,sm.1.2,sm.2.1,sm.2.2⟩ (jK Q R);unfold Gb.abI;grind)
  rw[y];exact this
 .intro z w1 F;have:=ahu B (Gb.nI B) z w1 F U (λs S=>by
   grind) (λj hj=>⟨kl j hj,kn j hj⟩)
  grind
 intro g m z w1 F;obtain⟨s,e1,e2,S⟩:=zz g m;obtain⟨f,t,Q,R,H,Z,_,_⟩:=h s S;show M _ #[z] w1 (ai (u<|qA<|N.T<|Gb.abB l<|bp g 0) w1);rw[e2,Z];refine ahd g (N.T<|W.bo f t) z w1 F s e1 ?_;rw[H];exact jK Q R
end
theorem aiK(a:Option Addr)(cap:Nat)(w:G):M 45 #[D a 0 cap] w (ai (aD ⟨S3.toArray⟩) w):=by go_enter func45,ntmps45;go_wp2_with fail;go_ret;exact⟨rfl,Below.refl _ _⟩
theorem aiL{B:Nat}{w:G}{v:Y}{vs:V Y}{ps:V (V<|V N.Qt)}(h:PY B w v vs ps):zJ w v ps:=
 ⟨vs,h.len,by rw[<-h.len];exact iF h.own,λi u p a b=>by
  obtain⟨us,k⟩:=h.rows i u p a b;exact k.row⟩
theorem aiM{F:V Gb.NP}(l:Jg F)(r:(Gb.pe F).length<=20000000000)(v:Y)(w:G)(q:Gl w)(m:zJ w v (F.map oq)):M 45 #[v] w (ai (aD<|ba<|Gb.pe F) w):=by by_cases b:F=[];subst b;obtain⟨t,cap,rfl⟩:=oH m;exact aiK t cap w;obtain⟨k,s⟩:=aiG l b r;have a:∀p∈F,∀c∈p.1::p.2,c≠[]:=λp d c h e=>(by have:=(l.q p d c h).1;grind);refine agE (Gb.pe F) (F.map oq) v w q m (by grind) ?_ (agS b λp d=>⟨a p d _ E,λg f=>a p d g<|by simp[f]⟩) U s λp d=>⟨(k p d).2.1,λg f=>((k p d).2.2 g f).1⟩;intro o n g f;refine⟨?_,((k o n).2.2 g f).2⟩;obtain⟨p,d,rfl⟩:=bA.1 n;obtain⟨c,h,rfl⟩:=bA.1 f;grind
theorem aiN{rg:V (V N.O)}{l:V N.Nd}{r:Int}{Xs:V PB}(v:∀e∈N.o rg,cM e)(b:SX rg l r Xs)(h:BD Xs):Jg (Gb.fin Xs):=by have f:=Gb.SX.canon b h;have s:=Gb.SX.wd b h;have d:=λn a=>TD (b.nl.can n a)<|He v (b.nl.can n a)<|b.nl.node.2 ⟨n,a,rfl⟩;have m:∀{c:V N.Nd}{R:V Gb.w},Gb.LR (Gb.sS (Gb.aZ l) Xs) (Gb.iU (Gb.aZ l) Xs) R->c.map (Gb.PM<|Gb.aZ l)=Gb.fQ R->3<=c.length:=λ{c R} k e=>(by have:=k.agQ s;grind);refine⟨λp g c t=>?_⟩;obtain⟨R,P,_,Q,S⟩:=f.c1 p g;rcases bK.1 t with q|q;subst q;exact⟨m P Q,λn a=>d n<|(f.nd p g).1 n a⟩;obtain⟨H,x,_,B,_⟩:=S c q;exact⟨m x B,λn a=>d n<|(f.nd p g).2 c q n a⟩
theorem aiO{rg:V (V N.O)}{r:Int}{T:V UInt8}(b:∀e∈N.o rg,cM e)(Q:(N.o rg).length<=402)(R:N.rule r=aP)(h:lP rg r T):∃ps,(∀v w,je w v (N.o rg)->M 84 #[v,I .u8 r] w λe w'=>∃c,e=aJ c/\zJ w' c ps/\ag w w')/\∀v w,Gl w->zJ w v ps->M 45 #[v] w (ai (aD<|ba T) w):=by have a:=Gb.agP b h;obtain⟨n,l,f,q,g,s,B⟩:=h;have m:=zr (r:=r) f q g;have k:=zG (r:=r) f b g s;generalize lg r (N.o rg) n=Xs at*;have p:T=Gb.pe (Gb.fin Xs):=(by rw[B];exact Gb.I5 Xs);refine⟨(Gb.fin Xs).map oq,λv w d=>(aiJ m k b Q R v w d).mono ?_,λv w t d=>?_⟩;rintro e w' ⟨c,vs,rfl,x,P⟩;exact⟨c,rfl,aiL x,P⟩;rw[p] at a⊢;exact aiM (aiN b m k) a v w t d
theorem aiP(s:ByteArray)(r:Int)(w:G)(A:s.size<=maxLen)(hG:Gl w){T:V UInt8}{E P:Nat}(hF:pj s.data.toList r T E P):
  M 56 #[aD s,I .u8 r] w (ai (aG #[aD (ba T),I J (E:Nat),I J (P:Nat)]) w):=by
 have g:H (∀w1,M 23 #[I .u8 r,I J 0] w1 λe w'=>(∃b,e=aJ (aG #[aC b,aC<|N.rule r]))/\w'=w1):=λw1=>(TF r 0 w1).mono λe w' h=>⟨⟨_,h.1⟩,h.2⟩;rcases hF with⟨k,rfl,rfl,rfl⟩|⟨k,n,rfl,rfl,rfl⟩|⟨k,n,hT,rfl,rfl⟩;have:(((Pl.err s.data.toList).1:Int) != 0)=aP:=(by rw[qL];omega);have q:H (∀w1,M 14 #[aD s] w1 λe w'=>ag w1 w'/\∃W c a pc,e=aJ (aG #[u #[aD W,D c a pc,I J 0],I J (Pl.err s.data.toList).1,I J (Pl.err s.data.toList).2])):=λw1=>(by refine(FT s w1 A).mono ?_;rintro e w' ⟨x,W,c,a,pc,rfl,_⟩;exact⟨x,W,c,a,pc,rfl⟩);generalize(Pl.err s.data.toList).1=E at*;generalize(Pl.err s.data.toList).2=Pp at*;go_enter func56,ntmps56;go_wp2_with fail;refine(q.o _).mono ?_;rintro e w1 ⟨d,W,c,a,pc,rfl⟩;go_wp2_with fail;go_ret3;exact⟨rfl,d.alloc d.size _⟩;have m:=(tf k).2.1;have q:H (∀w1,M 14 #[aD s] w1 λe w'=>ag w1 w'/\∃W c a pc,e=aJ (aG #[u #[aD W,D c a pc,I J 0],I J 0,I J 0])):=λw1=>(by refine(FT s w1 A).mono ?_;rintro e w' ⟨x,W,c,a,pc,rfl,_⟩;exact⟨x,W,c,a,pc,by rw[k,m];rfl⟩);rw[n] at g;go_enter func56,ntmps56;go_wp2_with fail;refine(q.o _).mono ?_;rintro e w1 ⟨d,W,c,a,pc,rfl⟩;have f:H (ag w<|w1.alloc<|.cells #[aD W,D c a pc,I J 0] 29):=d.alloc d.size _;go_wp2_with fail;generalize w1.alloc (.cells #[aD W,D c a pc,I J 0] 29)=w2 at*;refine(g.o _).mono ?_;rintro e Z ⟨⟨b,rfl⟩,rfl⟩;go_wp2_with fail;go_ret3;exact⟨rfl,f.o⟩
 .have m:=(tf k).2.1;obtain⟨ps,F,K⟩:=aiO (Gz k).2.2.1 (Pl.No k) n hT;have HF:=hid F;have HT:=hid K;have q:H (∀w1,M 14 #[aD s] w1 λe w'=>ag w1 w'/\∃W c a pc,e=aJ (aG #[u #[aD W,D c a pc,I J 0],I J 0,I J 0])/\
    kD w' (D c a pc) (Pl.bO (Pl.all s.data.toList)).2.2/\mg (Pl.bO (Pl.all s.data.toList)).2.2):=λw1=>by
   refine(FT s w1 A).mono ?_;rintro e w' ⟨x,W,c,a,pc,rfl,n⟩;exact⟨x,W,c,a,pc,by rw[k,m];rfl,aax k n⟩
  have Q:H (∀(W:ByteArray)(v:Y) w1,kD w1 v (Pl.bO<|Pl.all s.data.toList).2.2->mg (Pl.bO<|Pl.all s.data.toList).2.2->M 79 #[u #[aD W,v,I J 0]] w1 λe w'=>∃v,e=aJ v/\je w' v (N.o<|Pl.rings s.data.toList)/\ag w1 w'):=λW v w1 h1 h2=>XH _ W v w1 h1 h2;rw[n] at g;generalize N.o (Pl.rings s.data.toList)=ES at*;generalize(Pl.bO<|Pl.all s.data.toList).2.2=PS at*;have R:H (Gl w):=hG;go_enter func56,ntmps56;go_wp2_with fail;refine(q.o _).mono ?_;rintro e w1 ⟨d,W,c,a,pc,rfl,O,C⟩;have t:H (kD (w1.alloc<|.cells #[aD W,D c a pc,I J 0] 29) (D c a pc) PS/\mg PS):=⟨fk AY O<|aj _ _,C⟩;have f:H (ag w<|w1.alloc<|.cells #[aD W,D c a pc,I J 0] 29):=d.alloc d.size _;go_wp2_with fail;refine(g.o _).mono ?_;rintro e Z ⟨⟨b,rfl⟩,rfl⟩;go_wp2_with fail;generalize w1.alloc (.cells #[aD W,D c a pc,I J 0] 29)=w2 at*;refine(Q.o _ _ _ t.o.1 t.o.2).mono ?_;rintro e Z ⟨lv,rfl,X,j⟩;have p:=hid<|f.o.trans<|j.mono f.o.size;have i:=hid X;go_wp2_with fail;refine(HF.o _ _ i.o).mono ?_;rintro e w4 ⟨pv,rfl,L,y⟩;have l:=hid<|p.o.trans<|y.mono p.o.size;have S:=hid L;go_wp2_with fail;refine(HT.o _ _ (I9 R.o l.o) S.o).mono ?_;rintro e w5 ⟨rfl,z⟩;have B:=hid<|l.o.trans<|z.mono l.o.size;go_wp2_with fail;go_ret3;exact⟨rfl,B.o⟩
end
end Go.Proofs.YtkjhhooecopolaaGreatDoor
