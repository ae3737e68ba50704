import Derived.Test.YtkjhhooecopolaaGreatDoorAz00
import Derived.Test.YtkjhhooecopolaaGreatDoorProg
set_option maxRecDepth 100000
set_option maxHeartbeats 4000000
namespace Go.Proofs.YtkjhhooecopolaaGreatDoor
open Value renaming int->I,complex->A,agg->u,slice->D
open IntKind renaming i64->J
open FloatKind renaming f64->C
open Go renaming World->G,Value->Y
open Option renaming some->K,none->Z
open Bool renaming true->aP,false->aQ
namespace W
open N
variable{n:N3}{z a l l':O}
theorem vO{d d':O}:jK d d' z=aP↔bf d z=aP/\bf z d'=aP:=by unfold jK;simp
structure tQ(es:V (O×O))(n:N3)(bm:Int->Bool)(z:O):Prop where
 mem:z∈arms es n
 out:bm (dA es n z)=aQ
 bm:bm (dZ es n z)=aP
theorem CW{es:V (O×O)}{bm:Int->Bool}:∀(m:Nat)(d a:O),d≠(0,0)->a≠(0,0)->bf d a=aP->(arms es n).countP (jK d a)<=m->bm (dZ es n d)=aQ->bm (dA es n a)=aP->∃z,tQ es n bm z/\bf d z=aP/\bf z a=aP:=by
 intro m;induction m with
 |zero=>
  intro d a p b h G k l;exfalso;rw[G6 p b h λz e=>by
   grind] at k
  grind
 |succ m F=>
  intro d a p b h G k l;by_cases w:∀z∈arms es n,jK d a z=aQ
  .exfalso;rw[G6 p b h w] at k;grind
  .have B:∃z,z∈arms es n/\jK d a z=aP:=by
    grind
   obtain⟨z,e,f⟩:=B;have c:=(jx.1 e).1;obtain⟨t,v⟩:=vO.1 f;cases r:bm (dA es n z)
   .cases q:bm (dZ es n z)
    .have Q:(arms es n).countP (jK z a)<(arms es n).countP (jK d a):=tP _ (λx R g=>by
      obtain⟨S,i⟩:=vO.1 g;exact vO.2 ⟨gA p c (jx.1 R).1 t S,i⟩) ⟨z,e,f,by unfold jK;rw[mP];rfl⟩
     obtain⟨y,s,j,o⟩:=F z a c b v U q l;exact⟨y,s,gA p c (jx.1 s.mem).1 t j,o⟩
    .exact⟨z,⟨e,r,q⟩,t,v⟩
   .have Q:(arms es n).countP (jK d z)<(arms es n).countP (jK d a):=tP _ (λx R g=>by
      obtain⟨S,i⟩:=vO.1 g;exact vO.2 ⟨S,gA (jx.1 R).1 c b i v⟩) ⟨z,e,f,by unfold jK;rw[mP];simp⟩
    obtain⟨y,s,j,o⟩:=F d z p c t U k r;exact⟨y,s,j,gA (jx.1 s.mem).1 c b o v⟩
theorem G7{es:V (O×O)}{bm:Int->Bool}:∀(m:Nat)(a:O),a≠(0,0)->(arms es n).countP (λz=>bf z a)<=m->bm (PP es n)=aQ->bm (dA es n a)=aP->∃z,tQ es n bm z/\bf z a=aP:=by
 have B:∀a,(∀z∈arms es n,bf z a=aQ)->dA es n a=PP es n:=λa h=>by
  have e:AS es n (λz=>nz z&&bf z a)=AS es n (λ_=>aQ):=vN (by unfold nz;simp) λz d=>by grind
  unfold dA;rw[e,G5];omega
 intro m;induction m with
 |zero=>
  grind
 |succ m S=>
  intro a b Q p g;by_cases P:∀z∈arms es n,bf z a=aQ
  grind
  .have r:∃z,z∈arms es n/\bf z a=aP:=by
    grind
   obtain⟨z,d,c⟩:=r;have f:=(jx.1 d).1;cases l:bm (dA es n z)
   .cases k:bm (dZ es n z)
    .obtain⟨y,q,_,v⟩:=CW _ z a f b c (aX _) k g;grind
    .exact⟨z,⟨d,l,k⟩,c⟩
   .have:(arms es n).countP (λx=>bf x z)<(arms es n).countP (λx=>bf x a):=tP _ (λx R t=>gA (jx.1 R).1 f b t c) ⟨z,d,c,mP z⟩;obtain⟨y,q,v⟩:=S z f U p l;exact⟨y,q,gA (jx.1 q.mem).1 f b v c⟩
theorem O3{rg:V (V O)}{bm:Int->Bool}:∀(m:Nat)(d:O),d≠(0,0)->(arms (o rg) n).countP (λz=>bf d z)<=m->bm (dZ (o rg) n d)=aQ->bm (PP (o rg) n)=aP->∃z,tQ (o rg) n bm z/\bf d z=aP:=by
 have B:∀d,d≠(0,0)->(∀z∈arms (o rg) n,bf d z=aQ)->dZ (o rg) n d=PP (o rg) n:=λd c h=>(by have e:AS (o rg) n nz=AS (o rg) n (λz=>nz z&&bf z d)+AS (o rg) n (λz=>bh z d):=(by have Q:AS (o rg) n nz=AS (o rg) n (λz=>nz z&&(bf z d||bh z d)):=vN (by unfold nz;simp) λz b=>(by have a:=(jx.1 b).1;have k:=ik a c;grind);have R:AS (o rg) n (λz=>nz z&&(bf z d||bh z d))=AS (o rg) n (λz=>nz z&&bf z d)+AS (o rg) n (λz=>bh z d):=(by refine yM λz=>?_;by_cases b:z=(0,0);rw[b,vK];rfl;have k:=ik b c;have:nz z=aP:=ff b;rw[this];revert k;cases bf z d<;>cases bh z d<;>cases bf d z<;>decide);rw[Q,R]);have:=G4 rg n;unfold dZ dA;omega)
 intro m;induction m with
 |zero=>
  grind
 |succ m w=>
  intro d c S g q;by_cases P:∀z∈arms (o rg) n,bf d z=aQ
  grind
  .have s:∃z,z∈arms (o rg) n/\bf d z=aP:=by
    grind
   obtain⟨z,b,f⟩:=s;have a:=(jx.1 b).1;cases p:bm (dA (o rg) n z)
   .cases l:bm (dZ (o rg) n z)
    .have i:(arms (o rg) n).countP (λx=>bf z x)<(arms (o rg) n).countP (λx=>bf d x):=tP _ (λx j v=>gA c a (jx.1 j).1 f v) ⟨z,b,f,mP z⟩;obtain⟨y,r,G⟩:=w z a U l q;exact⟨y,r,gA c a (jx.1 r.mem).1 f G⟩
    .exact⟨z,⟨b,p,l⟩,f⟩
   .obtain⟨y,r,F,_⟩:=CW _ d z c a f (aX _) g p;grind
theorem ab3{rg:V (V O)}{bm:Int->Bool}(c:a≠(0,0))(d:bm (dA (o rg) n a)=aP)(e:bm (dZ (o rg) n a)=aQ):∃z,tQ (o rg) n bm z:=by cases h:bm (PP (o rg) n);obtain⟨z,b,_⟩:=G7 _ a c (aX _) h d;grind;obtain⟨z,b,_⟩:=O3 _ a c (aX _) e h;grind
def cw(a l l':O):Bool:=(bf l a&&bf l' a&&bf l' l)||(bf l a&&bf a l')||(bf a l&&bf a l'&&bf l' l)
theorem kk:cw a l l'=aP↔(bf l a=aP/\bf l' a=aP/\bf l' l=aP)\/(bf l a=aP/\bf a l'=aP)\/(bf a l=aP/\bf a l'=aP/\bf l' l=aP):=by unfold cw;grind
theorem O4{rg:V (V O)}{bm:Int->Bool}{a':O}(e:a≠(0,0))(b:a'≠(0,0))(R:bh a a'=aQ)
  (Q:bm (dA (o rg) n a)=aP)(B:bm (dZ (o rg) n a)=aQ)(d:bm (dA (o rg) n a')=aP)(h:bm (dZ (o rg) n a')=aQ)
  (f:l≠(0,0))(m:bh l a=aQ)(c:bh l a'=aQ):∃z,tQ (o rg) n bm z/\(cw a z l=aP\/cw a' z l=aP):=by
 have P:∀{a a':O},a≠(0,0)->a'≠(0,0)->bf a a'=aP->bm (dA (o rg) n a)=aP->bm (dZ (o rg) n a)=aQ->bm (dA (o rg) n a')=aP->bm (dZ (o rg) n a')=aQ->bh l a=aQ->bh l a'=aQ->∃z,tQ (o rg) n bm z/\(cw a z l=aP\/cw a' z l=aP):=by
  intro a a' e b s Q B d h m c;have S:=ik f e;have i:=ik f b;rw[m] at S;rw[c] at i;cases p:bf l a
  .rw[p] at S;have q:bf a l=aP:=(by grind);cases r:bf l a';rw[r] at i;have y:bf a' l=aP:=(by grind);obtain⟨z,g,x,u⟩:=CW _ a a' e b s (aX _) B d;exact⟨z,g,F<|kk.2<|F<|j ⟨u,y⟩⟩
   ·
    cases w:bm (PP (o rg) n)
    .obtain⟨z,g,x⟩:=G7 _ a e (aX _) w Q;exact⟨z,g,j<|kk.2<|F<|j ⟨x,q⟩⟩
    .obtain⟨z,g,x⟩:=O3 _ a' b (aX _) h w;have v:=(jx.1 g.mem).1;exact⟨z,g,j<|kk.2<|F<|F ⟨gA e b v s x,q,gA f b v r x⟩⟩
  ·
   obtain⟨z,g,x,u⟩:=CW _ a a' e b s (aX _) B d;have v:=(jx.1 g.mem).1;exact⟨z,g,F<|kk.2<|j ⟨u,gA f e b p s,gA f e v p x⟩⟩
 have t:=ik e b;rw[R] at t;cases p:bf a a';rw[p] at t;have q:bf a' a=aP:=(by grind);grind;grind
def Tri(P Q R:Int):Prop:=
 (0<P->0<=Q->0<R)/\(0<=P->0<Q->0<R)/\(P=0->Q=0->R=0)/\(P<0->Q<=0->R<0)/\(P<=0->Q<0->R<0)
theorem rE{p q r:O}(c:bF p)(d:bF q)(e:bF r):Tri (L p q) (L q r) (L p r):=by have a:=CV c d e;have b:=CV e d c;rw[da p r,da q r,da p q] at b;refine⟨a.1,a.2.1,a.2.2,λf g=>?_,λf g=>?_⟩;omega;omega
def tC(u l l':O):Int:=if((L u l').sign-(L u l).sign).sign=0 then(L l l').sign else((L u l').sign-(L u l).sign).sign
theorem sg(z:Int):(z<0/\z.sign= -1)\/(z=0/\z.sign=0)\/(0<z/\z.sign=1):=by grind
theorem O5(u l l':O):tC u l l'<0↔(L u l').sign<(L u l).sign\/((L u l').sign=(L u l).sign/\L l l'<0):=by unfold tC;grind
theorem G8{w:O}(h:bh z w=aQ)(b:L z w=0):i z w<=0:=by apply wT.1;intro a;rw[(dE z w).2 ⟨b,a⟩] at h;cases h
theorem vP(k:a≠(0,0))(r:l≠(0,0))(h:l'≠(0,0))(P:bh l a=aQ)(v:bh l' a=aQ):tC (neg a) l l'<0↔cw a l l'=aP:=by rw[O5,kk];have n1:=G8 P;have Q:=G8 v;rw[kX,kX,kX,kX,kX];have x:L (neg a) l= -L a l:=e8 a l;have B:L (neg a) l'= -L a l':=e8 a l';have c:=sg<|L (neg a) l;have d:=sg<|L (neg a) l';rw[x] at c⊢;rw[B] at d⊢;have w1:=da a l;have s:=da a l';have R:=da l l';rw[w1] at n1⊢;rw[s] at Q⊢;rw[R];by_cases g:bF a<;>by_cases rl:bF l<;>by_cases b:bF l';have t:=rE g rl b;have m:=jw rl g;have n:=jw b g;grind;have t:=rE g rl<|fN h b;have m:=jw rl g;rw[w1] at m;rw[e9,e9] at t;obtain⟨p,q,t3,t4,t5⟩:=t;grind;have t:=rE g (fN r rl) b;have n:=jw b g;rw[s] at n;rw[e9,e8] at t;obtain⟨p,q,t3,t4,t5⟩:=t;grind;have t:=rE g (fN r rl)<|fN h b;rw[e9,e8,e9,e9] at t;obtain⟨p,q,t3,t4,t5⟩:=t;grind;have t:=rE (fN k g) rl b;rw[e8,e8] at t;obtain⟨p,q,t3,t4,t5⟩:=t;grind;have t:=rE (fN k g) rl<|fN h b;have n:=jw (fN h b)<|fN k g;rw[e8,e9,s,nX,jJ] at n;rw[e8,e9,e8,e9] at t;obtain⟨p,q,t3,t4,t5⟩:=t;grind;have t:=rE (fN k g) (fN r rl) b;have m:=jw (fN r rl)<|fN k g;rw[e8,e9,w1,nX,jJ] at m;rw[e8,e9,e8,e8] at t;obtain⟨p,q,t3,t4,t5⟩:=t;grind;have t:=rE (fN k g) (fN r rl)<|fN h b;have m:=jw (fN r rl)<|fN k g;rw[e8,e9,w1,nX,jJ] at m;have n:=jw (fN h b)<|fN k g;rw[e8,e9,s,nX,jJ] at n;grind
end W
namespace Gb
open N W
variable{b n:O}
abbrev w:=O×O
def n1(a:O):N3:=(a.1,a.2,1)
def dr(s:w):O:=(s.2.1-s.1.1,s.2.2-s.1.2)
def rv(s:w):w:=(s.2,s.1)
theorem eG(a z:O):rl (n1 a) z=dr (a,z):=by unfold rl rel n1 dr;simp
theorem ko(a b:O):wv (n1 a) (n1 b)=dr (a,b):=by unfold wv n1 dr;simp
theorem mS(s:w):dr (rv s)=neg (dr s):=by unfold dr rv neg;grind
theorem mU{s:w}:dr s=(0,0)↔s.1=s.2:=by unfold dr;grind
structure Pf(s u:w):Prop where
 fs:ju (n1 s.1) (n1 s.2) (dr s) u.1 u.2
 c1:kj (n1 s.1) (n1 s.2) (dr s) u.1
 c2:kj (n1 s.1) (n1 s.2) (dr s) u.2
theorem ada{f t:N3}{D u v:O}(h:ju f t D u v):ju f t D v u:=by refine⟨λx y z=>?_,λx y z=>?_⟩;have:=h.2 x y z;rw[da (rl f u)<|rl f v,da (rl t u)<|rl t v];omega;have:=h.1 x y z;rw[da (rl f u)<|rl f v,da (rl t u)<|rl t v];omega
theorem Pf.rv{s u:w}(h:Pf s u):Pf s (rv u):=⟨ada h.fs,h.c2,h.c1⟩
structure Wd(S:V w)(nx:w->w):Prop where
 ne:∀s∈S,s.1≠s.2
 pf:∀s∈S,∀u∈S,(bF (dr s)->Pf s u)/\(¬bF (dr s)->Pf (rv s) u)
 rF:∀s∈S,∀u∈S,on (dr (s.1,u.1)) (dr (s.1,u.2))=aP->s.1=u.1\/s.1=u.2
 yV:∀s∈S,∀u∈S,on (dr (s.2,u.1)) (dr (s.2,u.2))=aP->s.2=u.1\/s.2=u.2
 one:∀s∈S,∀u∈S,s.1=u.1->bh (dr s) (dr u)=aP->s=u
 one':∀s∈S,∀u∈S,s.2=u.2->bh (dr s) (dr u)=aP->s=u
 two:∀s∈S,∀u∈S,s.1=u.2->bh (dr s) (neg<|dr u)=aQ
 tX:∀s∈S,nx s∈S/\(nx s).1=s.2
 inj:∀s∈S,∀u∈S,nx s=nx u->s=u
 w1:∀s∈S,∀u∈S,u.1=s.2->cw (neg<|dr s) (dr u) (dr<|nx s)=aQ
 w2:∀s∈S,∀u∈S,u.2=s.2->cw (neg<|dr s) (neg<|dr u) (dr<|nx s)=aQ
def Cl(es:V w):Prop:=∃rg,o rg=es
def In(S es:V w):Prop:=∀e∈es,e∈S\/rv e∈S
def Lf(es:V w)(s:w):Int:=dZ es (n1 s.1)<|dr s
def Rt(es:V w)(s:w):Int:=dA es (n1 s.1)<|dr s
section
variable{S:V w}{nx:w->w}{es:V w}
theorem Wd.aaT(h:Wd S nx){s:w}(a:s∈S):dr s≠(0,0):=λe=>h.ne s a<|mU.1 e
theorem Wd.kJ(h:Wd S nx)(g:In S es){s:w}(d:s∈S):(bF (dr s)->kV es (n1 s.1) (n1 s.2))/\(¬bF (dr s)->kV es (n1 s.2) (n1 s.1)):=by refine⟨λc=>?_,λc=>?_⟩;have b:∀e∈es,Pf s e:=λe a=>(by rcases g e a with k|k;exact(h.pf s d e k).1 c;exact((h.pf s d _ k).1 c).rv);exact⟨by show(0:Int)<1;decide,by show(0:Int)<1;decide,by rw[ko];exact c,λe a=>by rw[ko];exact(b e a).fs,λe a=>by rw[ko];exact⟨(b e a).c1,(b e a).c2⟩⟩;have b:∀e∈es,Pf (rv s) e:=λe a=>(by rcases g e a with k|k;exact(h.pf s d e k).2 c;exact((h.pf s d _ k).2 c).rv);have f:bF (dr<|rv s):=(by rw[mS];exact fN (h.aaT d) c);exact⟨by show(0:Int)<1;decide,by show(0:Int)<1;decide,by rw[ko];exact f,λe a=>by rw[ko];exact(b e a).fs,λe a=>by rw[ko];exact⟨(b e a).c1,(b e a).c2⟩⟩
theorem Wd.at_end(h:Wd S nx)(g:Cl es)(k:In S es){s:w}(l:s∈S):Lf es s=dA es (n1 s.2) (neg<|dr s)/\Rt es s=dZ es (n1 s.2) (neg<|dr s):=by obtain⟨d,f⟩:=h.kJ k l;obtain⟨rg,rfl⟩:=g;by_cases c:bF (dr s);have a:=oS<|d c;have b:=tN<|d c;rw[ko] at a b;unfold Lf Rt;grind;have a:=oS<|f c;have b:=tN<|f c;rw[ko] at a b;have e:dr (s.2,s.1)=neg (dr s):=mS s;rw[e] at a b;rw[neg_neg] at b;unfold Lf Rt;omega
theorem Wd.arm(h:Wd S nx)(n:In S es){s:w}(p:s∈S){z:O}(r:z∈arms es (n1 s.2)):∃u∈S,(u.1=s.2/\z=dr u)\/(u.2=s.2/\z=neg (dr u)):=by obtain⟨b,e,m,f,a⟩:=jx.1 r;rw[eG,eG] at f a;have d:∀u∈S,on (dr (s.2,u.1)) (dr (s.2,u.2))=aP->(z=dr (s.2,u.1)\/z=dr (s.2,u.2))->∃u∈S,(u.1=s.2/\z=dr u)\/(u.2=s.2/\z=neg (dr u)):=λu l g c=>(by rcases h.yV s p u l g with k|k;rcases c with q|q;rw[k] at q;exact absurd (q.trans<|mU.2 rfl) b;grind;rcases c with q|q;exact⟨u,l,F ⟨k.symm,by rw[q,k,<-mS];rfl⟩⟩;rw[k] at q;exact absurd (q.trans<|mU.2 rfl) b);rcases n e m with k|k;grind;exact d (rv e) k (by rw[oR];exact f) a.symm
theorem adb{n:N3}(B:Cl es){a l:O}(q:a≠(0,0))(h:l≠(0,0))(R:bh l a=aQ)(v:∀z∈arms es n,cw a z l=aQ):dZ es n l=dA es n a:=by have s:=ik h q;rw[R] at s;by_cases e:bf l a=aP;refine G6 h q e λz c=>?_;cases f:jK l a z;rfl;have k:=v z c;obtain⟨S,i⟩:=vO.1 f;have:cw a z l=aP:=kk.2<|j ⟨i,e,S⟩;grind;have d:bf a l=aP:=(by grind);have o:∀z∈arms es n,bf z a=aQ:=λz c=>(by cases f:bf z a;rfl;have:cw a z l=aP:=kk.2<|F<|j ⟨f,d⟩;grind);have u:∀z∈arms es n,bf l z=aQ:=λz c=>(by cases f:bf l z;rfl;have:cw a z l=aP:=kk.2<|F<|F ⟨gA q h (jx.1 c).1 d f,d,f⟩;grind);have w:AS es n (λz=>nz z&&bf z a)=0:=(by rw[vN (Q':=λ_=>aQ) (by simp[nz]) (λz c=>by grind),G5]);have y:AS es n (λz=>nz z&&bf z l)+AS es n (λz=>bh z l)=0:=(by obtain⟨rg,rfl⟩:=B;rw[<-G4 rg n,<-yM (Q:=λz=>(nz z&&bf z l)||bh z l)];refine(vN ?_ λz c=>?_);simp[nz,vK];have b:=(jx.1 c).1;have t:=ik b h;rw[u z c] at t;have r:nz z=aP:=(by unfold nz;grind);grind;intro z;by_cases b:z=(0,0);subst b;simp[nz,vK,bb];have t:=ik b h;have r:nz z=aP:=(by unfold nz;grind);simp only[r,wW];cases m:bf z l<;>cases p:bh z l<;>cases x:bf l z<;>rw[m,p,x] at t<;>simp[bb] at t⊢);unfold dZ dA;omega
theorem Wd.const(h:Wd S nx)(c:Cl es)(d:In S es){s:w}(a:s∈S):Lf es (nx s)=Lf es s:=by obtain⟨e,b⟩:=h.tX s a;rw[(h.at_end c d a).1];show dZ es (n1 (nx s).1) (dr<|nx s)=_;rw[b];refine adb c (iz<|h.aaT a) (h.aaT e) (h.two _ e _ a b) λz g=>?_;obtain⟨u,f,⟨k,rfl⟩|⟨k,rfl⟩⟩:=h.arm d a g;exact h.w1 s a u f k;exact h.w2 s a u f k
def it(nx:w->w):Nat->w->w
 |0,s=>s
 |k+1,s=>nx<|it nx k s
def yW(nx:w->w)(s u:w):Prop:=∃k,it nx k s=u
theorem Wd.abh(h:Wd S nx){s:w}(a:s∈S):∀k,it nx k s∈S
 |0=>a
 |k+1=>(h.tX _<|h.abh a k).1
theorem Wd.along(h:Wd S nx)(a:Cl es)(b:In S es){s u:w}(c:s∈S)(d:yW nx s u):Lf es u=Lf es s:=by obtain⟨k,rfl⟩:=d;induction k with|zero=>rfl|succ k e=>exact(h.const a b<|h.abh c k).trans e
end
def Path:O->V w->O->Prop
 |a,[],b=>a=b
 |a,s::T,b=>s.1=a/\Path s.2 T b
theorem Path.append:∀{L:V w}{a b c:O}{M:V w},Path a L c->Path c M b->Path a (L++M) b
 |[],_,_,_,_,h,k=>by have:_=_:=h;grind
 |s::T,_,_,_,_,h,k=>⟨h.1,Path.append h.2 k⟩
theorem Path.split:∀{L:V w}{a b:O}{M:V w},Path a (L++M) b->∃c,Path a L c/\Path c M b
 |[],a,_,_,h=>⟨a,rfl,h⟩
 |s::T,_,_,_,h=>by obtain⟨c,d,e⟩:=Path.split h.2;exact⟨c,⟨h.1,d⟩,e⟩
theorem Path.one{s:w}:Path s.1 [s] s.2:=⟨rfl,rfl⟩
theorem Path.rev:∀{L:V w}{a b:O},Path a L b->Path b (L.reverse.map rv) a
 |[],_,_,h=>by have:_=_:=h;exact this.symm
 |s::T,a,b,h=>by have c:=Path.rev h.2;rw[List.reverse_cons,abb];refine c.append ?_;exact⟨rfl,h.1⟩
theorem Path.zip:∀(T:V w)(s:w){b:O},Path s.2 T b->(s.1::T.map Prod.fst).zip (T.map Prod.fst++[b])=s::T
 |[],s,b,h=>by have e:s.2=b:=h;subst e;rfl
 |a::T,s,b,h=>by have c:=Path.zip T a h.2;have e:s=(s.1,a.1):=dj rfl h.1.symm;rw[gU,lW,EN,c,<-e]
theorem Cl.path{p:O}{L:V w}(h:Path p L p)(a:∀s∈L,s.1≠s.2):Cl L:=by refine⟨[L.map Prod.fst],?_⟩;unfold o;rw[nn,VK,lY];unfold gF;have e:closing (L.map Prod.fst)=L:=(by cases L with|nil=>rfl|cons s T=>have:=Path.zip T s h.2;rw[<-h.1] at this;exact this);rw[e,E5];grind
theorem Path.Qn:∀{L:V w}{a b:O},Path a L b->∀s∈L,s.2=b\/∃c∈L,c.1=s.2
 |[],_,_,_,s,d=>by grind
 |[t],_,_,h,s,d=>by rw[cI.1 d];exact j h.2
 |t::c::T,_,_,h,s,d=>by rcases bK.1 d with rfl|d;exact F ⟨c,E,h.2.1⟩;rcases Path.Qn h.2 s d with k|⟨v,e,k⟩;grind;grind
theorem Path.Dh:∀{M:V w}{z:w}{a b n:O},Path a (M++[z]) b->(∀s∈M++[z],s.1≠n)->∀s∈M,s.2≠n
 |[],_,_,_,_,_,_,s,d=>by grind
 |[t],z,_,_,n,h,e,s,d=>by rw[cI.1 d];have:z.1=t.2:=h.2.1;grind
 |t::c::M,z,_,_,n,h,e,s,d=>by rcases bK.1 d with rfl|d;have:c.1=s.2:=h.2.1;grind;exact Path.Dh (M:=c::M) h.2 (λv f=>e v<|bW _ f) s d
theorem Hp{F:O->O->Int}{a b:V w}(h:a.Perm b):total F a=total F b:=by induction h with|nil=>rfl|cons x _ e=>rw[aa8,aa8,e]|swap x y l=>simp only[aa8];omega|trans _ _ c d=>exact c.trans d
theorem yX(a b:V w)(n:N3)(Q:O->Bool):AS (a++b) n Q=AS a n Q+AS b n Q:=uR _ a b
def ge(n z:O):Prop:=0<(dr (n,z)).1\/((dr (n,z)).1=0/\0<=(dr (n,z)).2)
theorem vW(a b:O):ge a b\/ge b a:=by unfold ge dr;grind
theorem tY{a:O}(h:ge a b)(k:ge b a):a=b:=by unfold ge dr at h k;grind
theorem vX{a c:O}(h:ge a b)(k:ge b c):ge a c:=by unfold ge dr at*;grind
theorem tZ(a:O):ge a a:=by unfold ge dr;simp
theorem Di{a:O}(h:ge a b)(c:a≠b):bF (dr (a,b)):=by unfold ge at h;unfold bF;have:¬((dr (a,b)).1=0/\(dr (a,b)).2=0):=λk=>c<|mU.1<|dj k.1 k.2;omega
theorem Hq{es:V w}(h:∀e∈es,ge n e.1/\ge n e.2):PP es (n1 n)=0:=by refine rz λe q=>?_;obtain⟨a,b⟩:=h e q;rw[eG,eG];unfold ge at a b;generalize dr (n,e.1)=u at*;generalize dr (n,e.2)=v at*;unfold right;have m:u.1=0->L u v= -(u.2*v.1):=λk=>(by unfold L;grind);have p:v.1=0->L u v=u.1*v.2:=λk=>(by unfold L;grind);rw[X,X];rintro⟨g,l,f⟩;rcases b with b|⟨b,d⟩;omega;have:=gM (dU g) d;omega;rintro⟨g,l,f⟩;rcases a with a|⟨a,c⟩;omega;have:=gM c<|dU l;omega
theorem yY{es:V w}{Q:O->Bool}(h:∀e∈es,on (dr (n,e.1)) (dr (n,e.2))=aQ):AS es (n1 n) Q=0:=
 rz λe a=>by
  unfold W.arm;rw[eG,eG,h e a];rfl
theorem Hr{Q:O->Bool}{s:w}(h:s.2=n):W.arm Q (n1 n) s.1 s.2=bb (Q (0,0))-bb (Q<|neg<|dr s):=by subst h;unfold W.arm;rw[eG,eG,(mU (s:=(s.2,s.2))).2 rfl,oQ _ _<|F rfl];have e:dr (s.2,s.1)=neg (dr s):=mS s;grind
theorem Hs{Q:O->Bool}{s:w}(h:s.1=n):W.arm Q (n1 n) s.1 s.2=bb (Q<|dr s)-bb (Q (0,0)):=by subst h;unfold W.arm;rw[eG,eG,(mU (s:=(s.1,s.1))).2 rfl,oQ _ _<|j rfl];rfl
section
variable{S:V w}{nx:w->w}
theorem Wd.adc(h:Wd S nx){p q:O}{A C:V w}{a c:w}(i:Path p (A++[a]) q)(y:Path p (C++[c]) q)(P:∀s∈A++[a],s∈S)(R:∀s∈C++[c],s∈S)
  (K:∀s∈A++[a],s.1≠q)(L:∀s∈C++[c],s.1≠q)(T:yW nx a c\/yW nx c a):a=c:=by have r:a∈S:=P a E;have B:c∈S:=R c E;have d:a.2=q:=(by obtain⟨_,_,k⟩:=i.split;exact k.2);have cq:c.2=q:=(by obtain⟨_,_,k⟩:=y.split;exact k.2);have o:=i.Dh K;have z:=y.Dh L;have D:∀s∈(A++[a])++((C++[c]).reverse.map rv),s.1≠s.2:=λs m=>(by rcases dm.1 m with m|m;exact h.ne s (P s m);obtain⟨u,l,rfl⟩:=bA.1 m;exact(h.ne u<|R u<|VL.1 l).symm);have f:Cl ((A++[a])++((C++[c]).reverse.map rv)):=Cl.path (i.append y.rev) D;have g:In S ((A++[a])++((C++[c]).reverse.map rv)):=λe b=>(by rcases dm.1 b with b|b;exact j (P e b);obtain⟨u,l,rfl⟩:=bA.1 b;exact F<|R u<|VL.1 l);have n:Lf ((A++[a])++((C++[c]).reverse.map rv)) c=Lf ((A++[a])++((C++[c]).reverse.map rv)) a:=(by rcases T with k|k;exact h.along f g r k;exact(h.along f g B k).symm);rw[(h.at_end f g r).1,(h.at_end f g B).1,d,cq] at n;have v:∀Q,AS ((A++[a])++((C++[c]).reverse.map rv)) (n1 q) Q=bb (Q<|neg<|dr c)-bb (Q<|neg<|dr a):=λQ=>(by have M:(C++[c]).reverse.map rv=[rv c]++C.reverse.map rv:=E;have z1:AS A (n1 q) Q=0:=yY λe b=>(by cases x:on (dr (q,e.1)) (dr (q,e.2));rfl;rw[<-d] at x;rcases h.yV a r e (P e<|by simp[b]) x with k|k;exact absurd (k.symm.trans d) (K e<|by simp[b]);exact absurd (k.symm.trans d) (o e b));have z2:AS (C.reverse.map rv) (n1 q) Q=0:=yY λe b=>(by obtain⟨u,l,rfl⟩:=bA.1 b;have l:=VL.1 l;cases x:on (dr (q,(rv u).1)) (dr (q,(rv u).2));rfl;rw[oR,<-d] at x;rcases h.yV a r u (R u<|by simp[l]) x with k|k;exact absurd (k.symm.trans d) (L u<|by simp[l]);exact absurd (k.symm.trans d) (z u l));rw[M,yX,yX,yX,z1,z2];have Y:AS [a] (n1 q) Q=bb (Q (0,0))-bb (Q<|neg<|dr a):=(by unfold AS;rw[aa8,acK,Hr d];omega);have Z:AS [rv c] (n1 q) Q=bb (Q<|neg<|dr c)-bb (Q (0,0)):=(by unfold AS;rw[aa8,acK,Hs (s:=rv c) cq,mS];omega);rw[Y,Z];omega);have G:=iz<|h.aaT r;have H:=iz<|h.aaT B;have W:nz (neg<|dr a)=aP:=(by unfold nz;simpa using G);have X:nz (neg<|dr c)=aP:=(by unfold nz;simpa using H);unfold dA at n;rw[v,v] at n;simp only[W,X,wW,mP] at n;generalize PP ((A++[a])++((C++[c]).reverse.map rv)) (n1 q)=P0 at n;have t:=ik G H;have m:bh (neg<|dr a) (neg<|dr c)=aP:=(by cases I:bf (neg<|dr a) (neg<|dr c)<;>cases J:bf (neg<|dr c) (neg<|dr a)<;>cases N:bh (neg<|dr a) (neg<|dr c)<;>rw[I,J] at n<;>rw[I,J,N] at t<;>simp[bb] at n t⊢ <;>omega);refine h.one' a r c B (d.trans cq.symm) ?_;rw[dE] at m⊢;rw[e8,e9,nX,jJ] at m;omega
structure Rg(S:V w)(R:V w)(a:w)(M:V w)(z:w):Prop where
 eq:R=a::(M++[z])
 path:Path a.1 R a.1
 mem:∀s∈R,s∈S
 once:∀s∈M++[z],s.1≠a.1
 least:∀s∈R,ge a.1 s.1
variable{R M:V w}{a z:w}
theorem Rg.cl(h:Wd S nx)(k:Rg S R a M z):Cl R:=Cl.path k.path λs b=>h.ne s<|k.mem s b
theorem Rg.bm(k:Rg S R a M z):In S R:=λe b=>j<|k.mem e b
theorem Rg.ma(k:Rg S R a M z):a∈S:=k.mem a (by rw[k.eq];simp)
theorem Rg.mz(k:Rg S R a M z):z∈S:=k.mem z (by rw[k.eq];simp)
theorem Rg.z2(k:Rg S R a M z):z.2=a.1:=by have h:=k.path;rw[k.eq,<-lW] at h;obtain⟨_,_,q⟩:=h.split;exact q.2
theorem Rg.ends(k:Rg S R a M z):∀s∈R,ge a.1 s.2:=λs b=>by
 rcases k.path.Qn s b with q|⟨u,c,q⟩
 .rw[q];exact tZ _
 .rw[<-q];exact k.least u c
theorem Rg.PP(k:Rg S R a M z):W.PP R (n1 a.1)=0:=Hq λe b=>⟨k.least e b,k.ends e b⟩
theorem Rg.AS(h:Wd S nx)(k:Rg S R a M z)(Q:O->Bool):W.AS R (n1 a.1) Q=bb (Q<|dr a)-bb (Q<|neg<|dr z):=by have c:=k.path;rw[k.eq] at c;have d:=Path.Dh c.2 k.once;have m:W.AS M (n1 a.1) Q=0:=yY λe b=>(by cases f:on (dr (a.1,e.1)) (dr (a.1,e.2));rfl;rcases h.rF a k.ma e (k.mem e (by rw[k.eq];simp[b])) f with q|q;exact absurd q.symm (k.once e<|by simp[b]);exact absurd q.symm (d e b));have e:R=[a]++(M++[z]):=k.eq;have g:W.AS [a] (n1 a.1) Q=bb (Q<|dr a)-bb (Q (0,0)):=(by unfold W.AS;rw[aa8,acK,Hs rfl];omega);have l:W.AS [z] (n1 a.1) Q=bb (Q (0,0))-bb (Q<|neg<|dr z):=(by unfold W.AS;rw[aa8,acK,Hr k.z2];omega);rw[e,yX,yX,m,g,l];omega
theorem Rg.yZ(h:Wd S nx)(k:Rg S R a M z):bF (dr a):=Di (k.ends a (by rw[k.eq];simp))<|h.ne a k.ma
theorem Rg.za(h:Wd S nx)(k:Rg S R a M z):bF (neg<|dr z):=by have:=Di (k.least z (by rw[k.eq];simp))<|λe=>h.ne z k.mz<|e.symm.trans k.z2.symm;rw[<-k.z2] at this;rw[<-mS];exact this
theorem rG{d:O}(h:d≠(0,0)):nz d=aP:=by unfold nz;grind
theorem Rg.val(h:Wd S nx)(k:Rg S R a M z):Lf R a=if 0<L (dr z) (dr a) then 1 else 0:=by have f:=h.aaT k.ma;have m:=iz<|h.aaT k.mz;have g:bh (neg<|dr z) (dr a)=aQ:=(by cases q:bh (neg<|dr z) (dr a);rfl;have:=h.two a k.ma z k.mz k.z2.symm;rw[dE] at q;cases l:bh (dr a) (neg<|dr z);have:bh (dr a) (neg<|dr z)=aP:=(dE _ _).2 ⟨by rw[da];omega,by rw[iy];omega⟩;rw[l] at this;cases this;rw[l] at this;cases this);have e:bh (dr a) (dr a)=aP:=(dE _ _).2 ⟨by unfold L;grind,dI f⟩;unfold Lf dZ dA;rw[k.PP,k.AS h,k.AS h];simp only[rG f,rG m,mP,g,e,wW];have c:=k.yZ h;have d:=k.za h;have b:bf (neg<|dr z) (dr a)=aP↔0<L (neg<|dr z) (dr a):=(by rw[kX];constructor;rintro(⟨_,q⟩|⟨_,q⟩);exact absurd c q;exact q;intro q;exact F ⟨⟨λ_=>c,λ_=>d⟩,q⟩);rw[e8] at b;have n:L (dr z) (dr a)≠0:=λq=>(by have:=jw d c (by rw[e8];omega);have:bh (neg<|dr z) (dr a)=aP:=(dE _ _).2 ⟨by rw[e8];omega,this⟩;rw[g] at this;cases this);cases q:bf (neg<|dr z) (dr a);have:¬0< -L (dr z) (dr a):=λw=>(by rw[b.2 w] at q;cases q);rw[y U];simp[bb];have:=b.1 q;rw[X U];simp[bb]
theorem Rg.asym(h:Wd S nx){R' M':V w}{a' z':w}(k:Rg S R a M z)(c:Rg S R' a' M' z')(f:a≠a')(s:Lf R' a=1)(t:Lf R a'=1):False:=by have p:∀{R R' M M':V w}{a z a' z':w},Rg S R a M z->Rg S R' a' M' z'->ge a.1 a'.1->a.1≠a'.1->Lf R' a=0:=(by intro R R' M M' a z a' z' k c r d;have x:W.PP R' (n1 a.1)=0:=Hq λe n=>⟨vX r<|c.least e n,vX r<|c.ends e n⟩;have v:∀Q,W.AS R' (n1 a.1) Q=0:=λQ=>yY λe n=>(by cases P:on (dr (a.1,e.1)) (dr (a.1,e.2));rfl;rcases h.rF a k.ma e (c.mem e n) P with q|q;exact absurd (tY r (by rw[q];exact c.least e n)) d;exact absurd (tY r (by rw[q];exact c.ends e n)) d);unfold Lf dZ dA;rw[x,v,v];rfl);by_cases d:a.1=a'.1;have l:∀{R R' M M':V w}{a z a' z':w},Rg S R a M z->Rg S R' a' M' z'->a.1=a'.1->a≠a'->Lf R' a=1->bf (dr a') (dr a)=aP:=(by intro R R' M M' a z a' z' k c d f m;unfold Lf dZ dA at m;rw[d,c.PP,c.AS h,c.AS h] at m;have i:bh (dr a') (dr a)=aQ:=(by cases q:bh (dr a') (dr a);rfl;exact absurd (h.one a' c.ma a k.ma d.symm q).symm f);have B:=h.two a k.ma z' c.mz<|d.trans c.z2.symm;have j:bh (neg<|dr z') (dr a)=aQ:=(by cases q:bh (neg<|dr z') (dr a);rfl;rw[dE] at q;have:bh (dr a) (neg<|dr z')=aP:=(dE _ _).2 ⟨by rw[da];omega,by rw[iy];omega⟩;rw[B] at this;cases this);simp only[i,j,rG<|h.aaT c.ma,rG<|iz<|h.aaT c.mz,wW] at m;cases b:bf (dr a') (dr a);rw[b] at m;cases o:bf (neg<|dr z') (dr a)<;>rw[o] at m<;>simp[bb] at m;rfl);have u:=l k c d f s;have y:=l c k d.symm f.symm t;have:=yO (h.aaT c.ma) (h.aaT k.ma) u;rw[y] at this;cases this;rcases vW a.1 a'.1 with g|g;rw[p k c g d] at s;omega;rw[p c k g<|λe=>d e.symm] at t;omega
end
end Gb
namespace Gb
section
variable{ν:Type}{f:Nat->ν}{m:Nat}
theorem Ht{P:Nat->Prop}:∀{n:Nat},P n->∃k,k<=n/\P k/\∀j,j<k->¬P j:=by intro n;induction n using Nat.strongRecOn with|_ n f=>grind
def NC(f:Nat->ν)(m:Nat):Prop:=∀i j k l:Nat,i<=j->j<m->k<=l->l<m->f i=f k->f (j+1)=f (l+1)->(∀t,i<=t->t<=j->f t≠f (l+1))->(∀t,k<=t->t<=l->f t≠f (l+1))->j=l
theorem inter(B:NC f m){x t y u:Nat}(r:x<t)(j:t<=y)(v:y<u)(o:u<m)(q:f x=f (y+1))(R:f t=f (u+1))(d:f x≠f t):False:=by obtain⟨a,w,⟨Q,g⟩,h⟩:=Ht (P:=λa=>x<a/\f a=f t) (n:=t) ⟨r,rfl⟩;obtain⟨c,z,⟨l,b⟩,p⟩:=Ht (P:=λc=>y+1<=c/\f (c+1)=f t) (n:=u) ⟨v,R.symm⟩;have:=B x (a-1) (y+1) c U U l U q (by grind) (λs S i=>?_)<|λs S i=>?_;omega;grind;rw[b];by_cases e:s=y+1;grind;exact λk=>p (s-1) U ⟨U,by grind⟩
def abe(f:Nat->ν):ν->V Nat->ν->Prop
 |p,[],q=>p=q
 |p,x::O,q=>f x=p/\abe f (f<|x+1) O q
theorem abe.split:∀{a B:V Nat}{p q:ν},abe f p (a++B) q->∃c,abe f p a c/\abe f c B q
 |[],_,p,_,h=>⟨p,rfl,h⟩
 |x::a,_,_,_,h=>by obtain⟨c,b,d⟩:=abe.split h.2;exact⟨c,⟨h.1,b⟩,d⟩
theorem abe.snoc:∀{a:V Nat}{p:ν}{i:Nat},abe f p a (f i)->abe f p (a++[i]) (f<|i+1)
 |[],_,_,h=>⟨Eq.symm h,rfl⟩
 |_::_,_,_,h=>⟨h.1,abe.snoc h.2⟩
theorem abe.get:∀{c:V Nat}{p q:ν},abe f p c q->∀(k x d:Nat),c[k]?=K x->c[k+1]?=K d->f d=f (x+1)
 |[],_,_,_,_,_,_,h,_=>by simp at h
 |[_],_,_,_,_,_,_,_,h=>by simp at h
 |a::b::c,_,_,h,0,x,d,e,g=>by simp at e g;subst e g;exact h.2.1
 |a::b::c,_,_,h,k+1,x,d,e,g=>abe.get h.2 k x d (by simpa using e)<|by simpa using g
structure GD(f:Nat->ν)(m:Nat)(D:V Nat)(d:Nat):Prop where
 head:D.head?=K d
 inc:D.Pairwise (· < ·)
 lt:∀x∈D,x<m
 zb:abe f (f d) D (f d)
 iA:D.Pairwise (λx y=>f x≠f y)
 cls:∀z,D.getLast?=K z->∀t,d<t->t<=z->f t≠f d
 Hu:∀k x x':Nat,D[k]?=K x->D[k+1]?=K x'->(∀t,t<=x->f t≠f (x+1))/\(∀t,x'<t->t<m->f t≠f (x+1))
def rH(f:Nat->ν)(i:Nat)(a b:V Nat×V (V Nat)):Prop:=
 ((∀o∈a.1++[i],f o≠f (i+1))/\b=(a.1++[i],a.2))\/
 ∃c d D,a.1++[i]=c++d::D/\f d=f (i+1)/\(∀o∈c,f o≠f (i+1))/\b=(c,a.2++[d::D])
structure IV(f:Nat->ν)(m i:Nat)(s:V Nat×V (V Nat)):Prop where
 inc:s.1.Pairwise (· < ·)
 lt:∀o∈s.1,o<i
 zb:abe f (f 0) s.1 (f i)
 iA:s.1.Pairwise (λx y=>f x≠f y)
 old:∀t,t<i->t∉s.1->∃x y,x<=t/\t<=y/\y<i/\f x=f (y+1)/\∀o∈s.1,o<x\/y<o
 arr:∀o∈s.1,∀u,o<=u->u<i->f (u+1)≠f o
 per:(s.1++s.2.flatten).Perm (List.range i)
 good:∀D∈s.2,∃d,GD f m D d
theorem IV.start:IV f m 0 ([],[]):=⟨List.Pairwise.nil,E,rfl,List.Pairwise.nil,λt a=>U,E,E,E⟩
theorem IV.push{i:Nat}{s:V Nat×V (V Nat)}(h:IV f m i s):(s.1++[i]).Pairwise (· < ·)/\(s.1++[i]).Pairwise (λx y=>f x≠f y)/\abe f (f 0) (s.1++[i]) (f<|i+1):=by refine⟨?_,?_,h.zb.snoc⟩;rw[sB];exact⟨h.inc,E,λa c b d=>by rw[cI.1 d];exact h.lt a c⟩;rw[sB];refine⟨h.iA,E,λa c b d=>?_⟩;rw[cI.1 d];have g:=h.lt a c;have:=h.arr a c (i-1) U U;rw[show i-1+1=i by omega] at this;exact λe=>this e.symm
theorem IV.step{i:Nat}(hN:NC f m)(hne:∀b,b<m->f b≠f (b+1))(hi:i<m){s s':V Nat×V (V Nat)}(h:IV f m i s)(hs:rH f i s s'):IV f m (i+1) s':=by
 obtain⟨I,H,G⟩:=h.push;have L:∀o∈s.1++[i],o<i+1:=λo g=>(by rcases dm.1 g with g|g;have:=h.lt o g;omega;rw[cI.1 g];omega);have B:∀t,t<i+1->t∉s.1++[i]->∃x y,x<=t/\t<=y/\y<i/\f x=f (y+1)/\∀o∈s.1++[i],o<x\/y<o:=λt ht hn=>(by have h1:t∉s.1:=λk=>hn<|pK _ k;have h2:t≠i:=λk=>hn (by rw[k];simp);obtain⟨x,y,k1,k2,k3,k4,k5⟩:=h.old t U h1;refine⟨x,y,k1,k2,k3,k4,λo g=>?_⟩;rcases dm.1 g with g|g;exact k5 o g;rw[cI.1 g];exact F k3);rcases hs with⟨Y,rfl⟩|⟨N,d,D,v,W,Y,rfl⟩;refine⟨I,L,G,H,λt ht hn=>?_,λo g u h1 h2=>?_,?_,h.good⟩;obtain⟨x,y,k1,k2,k3,k4,k5⟩:=B t ht hn;exact⟨x,y,k1,k2,U,k4,k5⟩;by_cases e:u=i;rw[e];exact λk=>Y o g k.symm;rcases dm.1 g with g|g;exact h.arr o g u h1 U;have:=cI.1 g;omega;show((s.1++[i])++s.2.flatten).Perm _;rw[lZ];refine List.Perm.trans ?_<|h.per.append_right [i];rw[aaU,aaU];exact At _ Au
 .rw[v] at I H G L B;obtain⟨ade,R,adf⟩:=sB.1 I;obtain⟨ami,A,amj⟩:=sB.1 H;obtain⟨c,hc1,J⟩:=G.split;have Qo:c=f d:=J.1.symm;have hlast:∀z,(d::D).getLast?=K z->z=i:=λz hz=>(by have:(s.1++[i]).getLast?=K z:=(by rw[v,VM,hz];rfl);simpa using this.symm);have T:∀o∈N,o∈s.1/\o<d:=λo g=>(by have hod:o<d:=adf o g d E;have hom:o∈s.1++[i]:=(by rw[v];exact pK _ g);rcases dm.1 hom with k|k;exact⟨k,hod⟩;have:=cI.1 k;have:=L d E;omega);have S:∀x∈d::D,d<=x/\x<=i:=λx O=>(by have:=L x<|wU _ O;rcases bK.1 O with k|k;omega;have:=(fF.1 R).1 x k;omega);have hdi:d<i:=(by have:=S d E;by_cases e:d=i;rw[e] at W;exact absurd W<|hne i hi;omega);have hds:d∈s.1:=(by have:d∈s.1++[i]:=(by rw[v];simp);rcases dm.1 this with k|k;exact k;have:=cI.1 k;omega);refine⟨ade,λo g=>?_,?_,ami,λt ht hn=>?_,λo g u h1 h2=>?_,?_,λD' C=>?_⟩;have:=(T o g).2;show o<i+1;omega;show abe f (f 0) N (f<|i+1);rw[<-W,<-Qo];exact hc1;by_cases hm:t∈d::D;refine⟨d,i,(S t hm).1,(S t hm).2,U,W,λo g=>j (T o g).2⟩;have hn':t∉N++d::D:=λk=>(by rcases dm.1 k with k|k;exact hn k;exact hm k);obtain⟨x,y,k1,k2,k3,k4,k5⟩:=B t ht hn';exact⟨x,y,k1,k2,U,k4,λo g=>k5 o<|pK _ g⟩;by_cases e:u=i;rw[e];exact λk=>Y o g k.symm;exact h.arr o (T o g).1 u h1 U;show(N++(s.2++[d::D]).flatten).Perm _;have e1:(s.2++[d::D]).flatten=s.2.flatten++(d::D):=E;rw[e1,lZ];refine List.Perm.trans ?_<|h.per.append_right [i];have e2:(N++(s.2.flatten++(d::D))).Perm ((N++d::D)++s.2.flatten):=(by rw[aaU];exact At _ Au);refine e2.trans ?_;rw[<-v,aaU,aaU];exact At _ Au
  .rcases dm.1 C with C|C;exact h.good D' C
   .rw[cI.1 C];refine⟨d,rfl,R,λx O=>?_,?_,A,λz hz t h1 h2=>?_,λk x r O M=>?_⟩;have:=(S x O).2;omega;rw[Qo,<-W] at J;exact J;have:=hlast z hz;have a:=h.arr d hds (t-1) U U;rw[show t-1+1=t by omega] at a;exact a
    ·
     have Z:x∈d::D:=bB O;have Q:r∈d::D:=bB M;have hq:f r=f (x+1):=J.get k x r O M;have Bg:x<r:=by
      have X:=(bX.1 O);have l:=(bX.1 M);have:=(jm.1 R) k (k+1) X.1 l.1 U;rw[X.2,l.2] at this;exact this
     have adi:d<r:=by have:=(S x Z).1;omega
     have Dj:f d≠f r:=by
      rcases bK.1 Q with e|e
      .omega
      .exact(fF.1 A).1 r e
     have adj:=(S r Q).2;have hxs:x∈s.1:=by
      have:x∈s.1++[i]:=by rw[v];exact wU _ Z
      rcases dm.1 this with q|q
      .exact q
      .have:=cI.1 q;omega
     constructor
     .intro t0 ht0 zd;obtain⟨k0,vY,⟨X,l⟩,hk3⟩:=Ht (P:=λb=>b<=x/\f (x-b)=f (x+1)) (n:=x-t0) ⟨U,by rw[show x-(x-t0)=t0 by omega];exact zd⟩;have htx:x-k0≠x:=λe=>by
       rw[e] at l;exact hne x U l
      have hts:x-k0∉N++d::D:=λq=>by
       have hd2:∀o∈N++d::D,o<r->f o≠f r:=λo g hox=>by
        rcases dm.1 g with q|q
        .exact amj o q r Q
        .obtain⟨i1,hi1,e1⟩:=ig.1 q;have p:=(bX.1 M);have adk:i1<k+1:=by
          rcases sM i1 (k+1) with w|w|w
          .exact w
          .subst w;rw[p.2] at e1;omega
          .have:=(jm.1 R) (k+1) i1 p.1 hi1 w;rw[p.2,e1] at this;omega
         have:=(jm.1 A) i1 (k+1) hi1 p.1 adk;rw[p.2,e1] at this;exact this
       exact hd2 _ q U<|l.trans hq.symm
      obtain⟨a,y,y1,y2,y3,y4,y5⟩:=B (x-k0) U hts;have hyx:y<x:=by
       rcases y5 x (wU _ Z) with q|q
       .omega
       .exact q
      by_cases e:f a=f (x+1)
      .refine hk3 (x-(y+1)) U ⟨U,?_⟩;rw[show x-(x-(y+1))=y+1 by omega,<-y4,e]
      .refine inter hN (x:=a) (t:=x-k0) (y:=y) (u:=x) ?_ y2 hyx U y4 l (by rw[l];exact e);rcases Af a (x-k0) with w|w
       .exact w
       .have:a=x-k0:=U;rw[this] at e;exact absurd l e
     .intro t ht t6 hft;have hu:f (t-1+1)=f r:=by rw[show t-1+1=t by omega,hft,hq]
      rcases sM (t-1) i with w|w|w
      .have adl:r∈s.1:=by
        have:r∈s.1++[i]:=by rw[v];exact wU _ Q
        rcases dm.1 this with q|q
        .exact q
        .have:=cI.1 q;omega
       exact h.arr r adl (t-1) U w hu
      .rw[w] at hu;rw[<-W] at hu;exact Dj hu
      .exact inter hN (x:=d) (t:=r) (y:=i) (u:=t-1) adi adj w U W hu.symm Dj
theorem parted(r:NC f m)(e:∀j,j<m->f j≠f (j+1))(q:f m=f 0)(b:Nat->V Nat×V (V Nat))(g:b 0=([],[]))(k:∀i,i<m->rH f i (b i) (b<|i+1)):
  (b m).1=[]/\(b m).2.flatten.Perm (List.range m)/\∀a∈(b m).2,∃d,GD f m a d:=by have l:∀i,i<=m->IV f m i (b i):=λi=>(by induction i with|zero=>intro _;rw[g];exact IV.start|succ i t=>intro v;exact(t U).step r e U<|k i U);have h:=l m<|aX _;have p:(b m).1=[]:=(by cases c:(b m).1 with|nil=>rfl|cons o O=>exfalso;have n:=h.zb;rw[c] at n;have s:=h.lt o (by grind);have:=h.arr o (by grind) (m-1) U U;rw[show m-1+1=m by omega,q,n.1] at this;grind);refine⟨p,?_,h.good⟩;have:=h.per;grind
end
end Gb
namespace Gb
open N W
theorem qq(nx:w->w)(s:w):∀a b,it nx (a+b) s=it nx a (it nx b s)
 |0,b=>by rw[ir];rfl
 |a+1,b=>by rw[show a+1+b=(a+b)+1 by omega];show nx (it nx (a+b) s)=nx (it nx a<|it nx b s);rw[qq nx s a b]
theorem ze(nx:w->w)(s:w)(k:Nat):yW nx s (it nx k s):=⟨k,rfl⟩
def qr(nx:w->w)(s t:w):Prop:=t.1=s.2/\∃k,it nx k t=s/\∀j,0<j->j<=k->(it nx j t).1≠s.2
structure abc(S:V w)(nx:w->w)(R:V w):Prop where
 ne:R≠[]
 mem:∀s∈R,s∈S
 iA:R.Pairwise (λs t=>s.1≠t.1)
 mV:∀(k:Nat) s t,R[k]?=K s->R[k+1]?=K t->qr nx s t
 cls:∀s t,R.getLast?=K s->R.head?=K t->qr nx s t
section
variable{S:V w}{nx:w->w}
theorem Wd.Qp(h:Wd S nx):∀(k:Nat){s t:w},s∈S->t∈S->it nx k s=it nx k t->s=t
 |0,_,_,_,_,e=>e
 |k+1,_,_,a,b,e=>h.Qp k a b<|h.inj _ (h.abh a k) _ (h.abh b k) e
theorem Wd.oa(h:Wd S nx){s:w}(a:s∈S)(k:Nat):(it nx (k+1) s).1=(it nx k s).2:=(h.tX _<|h.abh a k).2
theorem qr.uniq(h:Wd S nx){s t t':w}(g:t∈S)(b:t'∈S)(p:qr nx s t)(r:qr nx s t'):t=t':=by have c:∀{t t':w}{k a:Nat},t∈S->t'∈S->k<=a->it nx k t=s->it nx a t'=s->t.1=s.2->(∀j,0<j->j<=a->(it nx j t').1≠s.2)->t=t':=(by intro t t' k a g b P d f v l;have e:t=it nx (a-k) t':=(by refine h.Qp k g (h.abh b _) ?_;rw[<-qq,show k+(a-k)=a by omega,d,f]);by_cases x:a-k=0;rw[x] at e;exact e;exact absurd (by rw[<-e];exact v) (l (a-k) U U));obtain⟨m,k,d,n1⟩:=p;obtain⟨n,a,f,B⟩:=r;rcases Nat.le_total k a with q|q;exact c g b q d f m B;exact(c b g q f d n n1).symm
theorem Hv{α:Type}(a:V α){b:V α}(h:b≠[]):(a++b).getLast?=b.getLast?:=by rw[VM];cases c:b.getLast? with|none=>simp_all|some x=>rfl
theorem abc.nd{R:V w}(h:abc S nx R):R.Nodup:=h.iA.imp λk e=>k<|by rw[e]
theorem abc.iM{A B:V w}(h:abc S nx (A++B)):abc S nx (B++A):=by rcases A with _|⟨a,A⟩;simpa using h;rcases B with _|⟨b,B⟩;simpa using h;refine⟨E,λs c=>h.mem s (by simp at c⊢;rcases c with k|k|k|k<;>simp[k]),?_,λk s t c d=>?_,λs t c d=>?_⟩;have:=h.iA;rw[sB] at this⊢;exact⟨this.2.1,this.1,λx f y g=>(this.2.2 y g x f).symm⟩;rcases sM (k+1) (b::B).length with q|q|q;rw[dQ U] at c;rw[dQ q] at d;refine h.mV ((a::A).length+k) s t ?_ ?_;rw[jc U,show(a::A).length+k-(a::A).length=k by omega];exact c;rw[jc U,show(a::A).length+k+1-(a::A).length=k+1 by omega];exact d;rw[dQ U] at c;rw[jc U,show k+1-(b::B).length=0 by omega] at d;refine h.cls s t ?_ ?_;rw[Hv _ E,lA,show(b::B).length-1=k by omega];exact c;simpa using d;rw[jc U] at c d;refine h.mV (k-(b::B).length) s t ?_ ?_;have:=(bX.1 c).1;rw[dQ this];exact c;have:=(bX.1 d).1;rw[show k-(b::B).length+1=k+1-(b::B).length by omega,dQ this];exact d;rw[Hv _ E] at c;have e:b=t:=(by simpa using d);refine h.mV ((a::A).length-1) s t ?_ ?_;rw[dQ E,<-lA];exact c;rw[jc E,show(a::A).length-1+1-(a::A).length=0 by simp];simp[e]
theorem abc.eq(h:Wd S nx){R R':V w}(k:abc S nx R)(a:abc S nx R')(b:R.head?=R'.head?):R=R':=by have f:∀{R R':V w},abc S nx R->abc S nx R'->R.head?=R'.head?->∀i,i<R.length->i<R'.length->R[i]?=R'[i]?:=(by intro R R' k a b i;induction i with|zero=>intro _ _;rw[<-E6,<-E6];exact b|succ i P=>intro r s;have e:=P U U;have c:R[i]?=K R[i]:=be U;have q:R[i+1]?=K R[i+1]:=be r;have g:R'[i+1]?=K R'[i+1]:=be s;have n:=k.mV i _ _ c q;have p:=a.mV i _ _ (e.symm.trans c) g;rw[q,g,n.uniq h (k.mem _<|eo r) (a.mem _<|eo s) p]);have len:∀{R R':V w},abc S nx R->abc S nx R'->R.head?=R'.head?->¬R.length<R'.length:=(by intro R R' k a b l;have m:0<R.length:=fT.2 k.ne;have e:=f k a b (R.length-1) U U;have c:R[R.length-1]?=K R[R.length-1]:=be U;have t:R.head?=K R[0]:=(by rw[E6];exact be m);have n:=k.cls _ _ (by rw[lA];exact c) t;have g:R'[R.length-1+1]?=K R'[R.length]:=(by rw[show R.length-1+1=R.length by omega];exact be l);have p:=a.mV (R.length-1) _ _ (e.symm.trans c) g;have v:=n.uniq h (k.mem _<|eo m) (a.mem _<|eo l) p;have x:R'[0]?=K R[0]:=(by rw[<-E6,<-b];exact t);have d:=bX.1 x;have:=(jm.1 a.iA) 0 R.length d.1 l m;rw[d.2,v] at this;exact this rfl);refine sJ λi=>?_;have Q:=len k a b;have j:=len a k b.symm;by_cases B:i<R.length;exact f k a b i B U;rw[sK U,sK U]
structure vZ(nx:w->w)(s:w)(m:Nat):Prop where
 pos:0<m
 per:it nx m s=s
 nd:∀i j,i<m->j<m->it nx i s=it nx j s->i=j
theorem Wd.path(h:Wd S nx){s:w}(a:s∈S)(i:Nat):∀n,Path (it nx i s).1 ((List.range' i n).map<|λj=>it nx j s) (it nx (i+n) s).1
 |0=>rfl
 |n+1=>by rw[List.range'_concat,abb];refine(h.path a i n).append ?_;simp only[Ku,gU,Kv];exact⟨rfl,by show(it nx (i+n) s).2=(it nx (i+(n+1)) s).1;rw[<-Nat.add_assoc,h.oa a]⟩
theorem Wd.nc(h:Wd S nx){s:w}(n:s∈S){m:Nat}(o:vZ nx s m):NC (λi=>(it nx i s).1) m:=by
 intro i c k l p B r P y z n1 C;have f:∀i c,i<=c->(List.range' i<|c-i).map (λt=>it nx t s)++[it nx c s]=(List.range' i<|c-i+1).map (λt=>it nx t s):=λi c g=>(by rw[List.range'_concat,abb];simp only[Ku,gU,Kv];rw[show i+(c-i)=c by omega]);have Q:Path (it nx i s).1 ((List.range' i<|c-i).map (λt=>it nx t s)++[it nx c s]) (it nx (l+1) s).1:=(by rw[f i c p];have:=h.path n i<|c-i+1;rw[show i+(c-i+1)=c+1 by omega] at this;have x:(it nx (c+1) s).1=(it nx (l+1) s).1:=z;rw[<-x];exact this);have R:Path (it nx i s).1 ((List.range' k<|l-k).map (λt=>it nx t s)++[it nx l s]) (it nx (l+1) s).1:=(by rw[f k l r];have:=h.path n k<|l-k+1;rw[show k+(l-k+1)=l+1 by omega] at this;have v:(it nx i s).1=(it nx k s).1:=y;rw[v];exact this);have mem:∀i c,i<=c->∀u∈(List.range' i<|c-i).map (λt=>it nx t s)++[it nx c s],∃t,i<=t/\t<=c/\u=it nx t s:=λi c g u d=>(by rw[f i c g] at d;obtain⟨t,A,rfl⟩:=bA.1 d;rw[Av] at A;exact⟨t,U,U,rfl⟩)
 have e:=h.adc Q R (λu d=>by
   obtain⟨t,_,_,rfl⟩:=mem i c p u d;exact h.abh n t) (λu d=>by
   obtain⟨t,_,_,rfl⟩:=mem k l r u d;exact h.abh n t) (λu d=>by
   obtain⟨t,a,b,rfl⟩:=mem i c p u d;exact n1 t a b) (λu d=>by
   obtain⟨t,a,b,rfl⟩:=mem k l r u d;exact C t a b) (by
   rcases Nat.le_total c l with q|q
   .refine j ?_;have:=ze nx (it nx c s)<|l-c;rw[<-qq,show l-c+c=l by omega] at this;exact this
   .refine F ?_;have:=ze nx (it nx l s) (c-l);rw[<-qq,show c-l+l=c by omega] at this;exact this)
 exact o.nd c l B P e
theorem wc{α β:Type}(g:α->β)(l:V α):(l.map g).getLast?=l.getLast?.map g:=E
theorem GD.ring(h:Wd S nx){s:w}(r:s∈S){m:Nat}(R:vZ nx s m){D:V Nat}{d:Nat}(l:GD (λi=>(it nx i s).1) m D d):abc S nx (D.map λi=>it nx i s):=by have per:∀j,it nx (m+j) s=it nx j s:=λj=>(by rw[Nat.add_comm,qq,R.per]);refine⟨λe=>?_,λb p=>?_,?_,λk b t p v=>?_,λb t p v=>?_⟩;have:=l.head;rw[oB.1 e] at this;cases this;obtain⟨t,_,rfl⟩:=bA.1 p;exact h.abh r t;rw[ic];exact l.iA;rw[aa9] at p v;obtain⟨x,q,rfl⟩:=oC.1 p;obtain⟨f,g,rfl⟩:=oC.1 v;have P:(it nx f s).1=(it nx (x+1) s).1:=l.zb.get k x f q g;obtain⟨n1,M⟩:=l.Hu k x f q g;rw[h.oa r] at P;have N:=l.lt x<|bB q;have H:=l.lt f<|bB g;refine⟨P,m-f+x,?_,λj z F=>?_⟩;rw[<-qq,show m-f+x+f=m+x by omega,per];rw[<-qq];by_cases y:j+f<m;have:=M (j+f) U y;simp only[h.oa r x] at this;exact this;have:=n1 (j+f-m) U;simp only[h.oa r x] at this;rw[show j+f=m+(j+f-m) by omega,per];exact this;rw[wc] at p;rw[List.head?_map] at v;obtain⟨x,q,rfl⟩:=oC.1 p;obtain⟨f,g,rfl⟩:=oC.1 v;rw[l.head] at g;obtain rfl:d=f:=fV g;have B:x∈D:=oD q;have n:(it nx (x+1) s).1=(it nx d s).1:=(by obtain⟨L,Q⟩:=List.getLast?_eq_some_iff.1 q;have k:=l.zb;rw[Q] at k;obtain⟨c,_,G⟩:=k.split;exact G.2);rw[h.oa r] at n;have o:d<=x:=(by have e:=l.head;cases D with|nil=>cases e|cons a D=>have:a=d:=fV e;subst this;rcases bK.1 B with k|k;omega;have:=(fF.1 l.inc).1 x k;omega);refine⟨n.symm,x-d,?_,λj z F=>?_⟩;rw[<-qq,show x-d+d=x by omega];rw[<-qq,n];exact l.cls x q (j+d) U U
end
def Fc(S:V w)(s u:w):Prop:=∀es,Cl es->In S es->Lf es s=Lf es u
theorem Fc.refl(S:V w)(s:w):Fc S s s:=λ_ _ _=>rfl
theorem Fc.symm{S:V w}{s u:w}(h:Fc S s u):Fc S u s:=λes a b=>(h es a b).symm
theorem Fc.trans{S:V w}{s u v:w}(h:Fc S s u)(k:Fc S u v):Fc S s v:=λes a b=>(h es a b).trans<|k es a b
structure LR(S:V w)(nx:w->w)(R:V w):Prop where
 ring:abc S nx R
 least:∀a,R.head?=K a->∀s∈R,ge a.1 s.1
def shl(R:V w):Prop:=∃a z,R.head?=K a/\R.getLast?=K z/\0<L (dr z) (dr a)
theorem Qq:∀(R:V w),R≠[]->∃a∈R,∀s∈R,ge a.1 s.1
 |[],h=>absurd rfl h
 |[a],_=>⟨a,E,λs d=>by rw[cI.1 d];exact tZ _⟩
 |a::b::R,_=>by obtain⟨c,g,f⟩:=Qq (b::R) E;rcases vW a.1 c.1 with k|k;refine⟨a,E,λs d=>?_⟩;rcases bK.1 d with e|e;rw[e];exact tZ _;exact vX k (f s e);grind
section
variable{S:V w}{nx:w->w}
theorem Wd.fc(h:Wd S nx){s u:w}(c:s∈S)(d:yW nx s u):Fc S s u:=λ_ a b=>(h.along a b c d).symm
theorem qr.fc(h:Wd S nx){s t:w}(a:t∈S)(k:qr nx s t):Fc S s t:=by obtain⟨_,n,e,_⟩:=k;rw[<-e];exact(h.fc a<|ze nx t n).symm
theorem abc.fc(h:Wd S nx){R:V w}(k:abc S nx R){a s:w}(d:R.head?=K a)(f:s∈R):Fc S a s:=by have b:∀(i:Nat)(s:w),R[i]?=K s->Fc S a s:=λi=>(by induction i with|zero=>intro s e;rw[<-E6,d] at e;rw[fV e];exact Fc.refl _ _|succ i g=>intro s e;have c:=(bX.1 e).1;have e0:R[i]?=K R[i]:=be U;exact(g _ e0).trans<|(k.mV i _ _ e0 e).fc h<|k.mem s<|bB e);obtain⟨i,c,e⟩:=ig.1 f;exact b i s<|by rw[be c,e]
theorem Qr:∀(T:V w)(a:w),(∀(k:Nat) s t,(a::T)[k]?=K s->(a::T)[k+1]?=K t->t.1=s.2)->∀z,(a::T).getLast?=K z->Path a.1 (a::T) z.2
 |[],a,_,z,c=>by have:a=z:=(by grind);rw[this];exact Path.one
 |b::T,a,h,z,c=>by refine⟨rfl,?_⟩;have e:b.1=a.2:=h 0 a b rfl rfl;rw[<-e];exact Qr T b (λk s t d f=>h (k+1) s t (by grind)<|by grind) z<|by grind
theorem abc.path{R:V w}(k:abc S nx R){a:w}(c:R.head?=K a):Path a.1 R a.1:=by cases R with|nil=>cases c|cons b T=>obtain rfl:b=a:=fV c;obtain⟨z,d⟩:∃z,(b::T).getLast?=K z:=(by cases e:(b::T).getLast? with|none=>exact absurd (qP.1 e) E|some z=>exact⟨z,rfl⟩);have:=Qr T b (λi s t f g=>(k.mV i s t f g).1) z d;rw[<-(k.cls z b d rfl).1] at this;exact this
theorem abc.Qs{R:V w}(k:abc S nx R):∃A B,R=A++B/\LR S nx (B++A):=by obtain⟨a,d,g⟩:=Qq R k.ne;obtain⟨A,B,e⟩:=VO d;refine⟨A,a::B,e,?_,λb f s c=>?_⟩;rw[e] at k;exact k.iM;obtain rfl:a=b:=(by simpa using f);refine g s ?_;rw[e];simp at c⊢;rcases c with q|q|q<;>simp[q]
theorem LR.rg(h:Wd S nx){R:V w}(k:LR S nx R){a z:w}(c:R.head?=K a)(g:R.getLast?=K z):∃M,Rg S R a M z:=by have d:=k.ring.path c;cases R with|nil=>cases c|cons b T=>obtain rfl:b=a:=fV c;have f:T≠[]:=λe=>(by rw[e] at d;exact h.ne b (k.ring.mem b E) d.2.symm);obtain⟨M,y,e⟩:∃M y,T=M++[y]:=⟨T.dropLast,T.getLast f,(List.dropLast_concat_getLast f).symm⟩;obtain rfl:y=z:=(by grind);exact⟨M,by rw[e],d,k.ring.mem,λs l=>((fF.1 k.ring.iA).1 s (by grind)).symm,k.least b rfl⟩
theorem jL{R:V w}(h:R≠[]):∃a z,R.head?=K a/\R.getLast?=K z:=by cases e:R.getLast? with|none=>simp_all|some z=>cases R with|nil=>grind|cons a T=>simp
theorem LR.val(h:Wd S nx){R:V w}(k:LR S nx R){a:w}(m:R.head?=K a):(shl R->Lf R a=1)/\(¬shl R->Lf R a=0):=by obtain⟨f,z,d,l⟩:=jL k.ring.ne;obtain rfl:f=a:=fV<|d.symm.trans m;obtain⟨M,p⟩:=k.rg h d l;have e:=p.val h;constructor;rintro⟨b,c,n,r,g⟩;grind;intro q;rw[X<|λg=>q ⟨f,z,d,l,g⟩] at e;exact e
theorem LR.cl(h:Wd S nx){R:V w}(k:LR S nx R):Cl R/\In S R:=by obtain⟨a,z,c,d⟩:=jL k.ring.ne;obtain⟨M,b⟩:=k.rg h c d;exact⟨b.cl h,b.bm⟩
theorem LR.one(h:Wd S nx){R R':V w}(k:LR S nx R)(d:LR S nx R')(B:shl R)(p:shl R'){a a':w}(f:R.head?=K a)(c:R'.head?=K a')(r:Fc S a a'):R=R':=by apply gP;intro n;have m:a≠a':=λe=>n (k.ring.eq h d.ring<|by grind);obtain⟨b,z,t,P⟩:=jL k.ring.ne;obtain rfl:b=a:=fV<|t.symm.trans f;obtain⟨s,j,g,q⟩:=jL d.ring.ne;obtain rfl:s=a':=fV<|g.symm.trans c;obtain⟨M,x⟩:=k.rg h f P;obtain⟨i,l⟩:=d.rg h c q;have v:=(k.val h f).1 B;have Q:=(d.val h c).1 p;exact x.asym h l m ((r R' (d.cl h).1 (d.cl h).2).trans Q)<|(r.symm R (k.cl h).1 (k.cl h).2).trans v
theorem LR.eq(h:Wd S nx){R R':V w}(k:LR S nx R)(n:LR S nx R'){s:w}(U:s∈R)(P:s∈R'):R=R':=by obtain⟨c,B,e⟩:=VO U;obtain⟨Q,o,y⟩:=VO P;have r:abc S nx (s::B++c):=(by have:=k.ring;rw[e] at this;exact this.iM);have Y:abc S nx (s::o++Q):=(by have:=n.ring;rw[y] at this;exact this.iM);have O:=r.eq h Y E;have mem:∀d,d∈R↔d∈R':=λd=>(by have W:d∈R↔d∈s::B++c:=(by rw[e];simp;constructor<;>(rintro(q|q|q)<;>simp[q]));have X:d∈R'↔d∈s::o++Q:=(by rw[y];simp;constructor<;>(rintro(q|q|q)<;>simp[q]));rw[W,X,O]);obtain⟨a,z,m,_⟩:=jL k.ring.ne;obtain⟨g,z',f,_⟩:=jL n.ring.ne;have L:a∈R:=(by cases R with|nil=>cases m|cons b T=>rw[<-fV m];simp);have l:g∈R':=(by cases R' with|nil=>cases f|cons b T=>rw[<-fV f];simp);have F:a.1=g.1:=tY (k.least a m g<|(mem g).2 l)<|n.least g f a<|(mem a).1 L;have N:a=g:=(by apply gP;intro x;have v:=(mem g).2 l;obtain⟨i,G,p⟩:=ig.1 L;obtain⟨j,H,t⟩:=ig.1 v;have M:=jm.1 k.ring.iA;rcases sM i j with q|q|q;have:=M i j G H q;rw[p,t] at this;exact this F;subst q;exact x<|p.symm.trans t;have:=M j i H G q;rw[p,t] at this;exact this F.symm);exact k.ring.eq h n.ring<|by rw[m,f,N]
def tG:w->V w->V w
 |_,[]=>[]
 |b,s::a=>if L (dr b) (dr s)=0 then tG s a else s::tG s a
def s0:w:=((0,0),(0,0))
def fQ(R:V w):V O:=(tG (R.getLastD s0) R).map Prod.fst
theorem adm{x y z:O}(a:bh x z=aP)(b:bh y z=aP):bh (x.1+y.1,x.2+y.2) z=aP:=by rw[dE] at a b⊢;unfold L i at*;grind
theorem zg{x y z:O}(a:bh x y=aP)(b:bh y z=aP):bh x z=aP:=by rw[dE] at*;have c:=dI<|qk (D:=x) (r:=y) U;have d:i y y*L x z=L x y*i y z+i x y*L y z:=(by unfold L i;grind);have e:i y y*i x z=i x y*i y z-L x y*L y z:=(by unfold L i;grind);rw[a.1,b.1] at d e;have f:=dz (z:=L x z) c;have g:=bI (z:=i x z) c;have:=bD a.2 b.2;omega
theorem zh{z w:O}(h:bh z w=aP):bh w z=aP:=by rw[dE] at*;rw[da,iy];omega
theorem we{x:O}(h:x≠(0,0)):bh x x=aP:=(dE _ _).2 ⟨by unfold L;grind,dI h⟩
theorem Wd.Qu(h:Wd S nx){b s:w}(a:b∈S)(d:s∈S)(e:s.1=b.2)(c:L (dr b) (dr s)=0):bh (dr b) (dr s)=aP:=by refine(dE _ _).2 ⟨c,?_⟩;have t:=h.two s d b a e;rcases dG (i (dr b)<|dr s) 0 with q|q|q;have:bh (dr s) (neg<|dr b)=aP:=(dE _ _).2 ⟨by rw[e9,da];omega,by rw[jJ,iy];omega⟩;rw[t] at this;cases this;exfalso;have f:i (dr b) (dr b)*i (dr s) (dr s)=i (dr b) (dr s)*i (dr b) (dr s)+L (dr b) (dr s)*L (dr b) (dr s):=(by unfold i L;grind);rw[q,c] at f;have:=bD (dI<|h.aaT a)<|dI<|h.aaT d;omega;exact q
theorem adn(a b c:O):dr (a,c)=((dr (a,b)).1+(dr (b,c)).1,(dr (a,b)).2+(dr (b,c)).2):=by unfold dr;grind
theorem Wd.Hw(h:Wd S nx):∀(T:V w)(b:w)(e:O),b∈S->(∀s∈T,s∈S)->Path b.2 T e->(tG b T=[]->bh (dr (b.1,e)) (dr b)=aP)/\(∀t U,tG b T=t::U->bh (dr (b.1,t.1)) (dr b)=aP)
 |[],b,e,d,_,c=>by have:b.2=e:=c;subst this;exact⟨λ_=>we<|h.aaT d,λt U k=>by cases k⟩
 |s::T,b,e,d,l,c=>by have m:=l s E;unfold tG;by_cases f:L (dr b) (dr s)=0;rw[y f];obtain⟨q,r⟩:=h.Hw T s e m (λa p=>l a<|bW _ p) c.2;have n:=h.Qu d m c.1 f;have g:∀x,bh (dr (s.1,x)) (dr s)=aP->bh (dr (b.1,x)) (dr b)=aP:=λx k=>(by rw[adn b.1 s.1 x];refine adm ?_<|zg k<|zh n;rw[c.1];exact we<|h.aaT d);exact⟨λk=>g e<|q k,λt U k=>g t.1<|r t U k⟩;rw[X f];refine⟨λk=>(by cases k),λt U k=>?_⟩;injection k with v _;rw[<-v,c.1];exact we<|h.aaT d
theorem ado{R:V w}{z:w}(h:R.getLast?=K z)(d:w):R.getLastD d=z:=by grind
theorem LR.wf(h:Wd S nx){R:V w}(k:LR S nx R):∃a T t b,R=a::T/\tG a T=t::b/\fQ R=a.1::t.1::b.map Prod.fst/\bh (dr (a.1,t.1)) (dr a)=aP:=by obtain⟨a,z,p,m⟩:=jL k.ring.ne;obtain⟨M,c⟩:=k.rg h p m;have f:L (dr z) (dr a)≠0:=λq=>(by have n:=jw (c.za h) (c.yZ h) (by rw[e8];omega);have g:bh (dr a) (neg<|dr z)=aP:=(dE _ _).2 ⟨by rw[e9,da];omega,by rw[iy];exact n⟩;rw[h.two a c.ma z c.mz c.z2.symm] at g;cases g);have l:=c.path;have d:=c.eq;obtain⟨v,x⟩:=h.Hw (M++[z]) a a.1 c.ma (λs r=>c.mem s (by grind)) (by rw[d] at l;exact l.2);cases e:tG a (M++[z]) with|nil=>have:=v e;rw[(mU (s:=(a.1,a.1))).2 rfl,vK] at this;grind|cons t b=>refine⟨a,M++[z],t,b,d,e,?_,x t b e⟩;unfold fQ;rw[ado m,d];show(if L (dr z) (dr a)=0 then tG a (M++[z]) else a::tG a (M++[z])).map Prod.fst=_;grind
theorem LR.zi(h:Wd S nx){R R':V w}(k:LR S nx R)(m:LR S nx R')(d:fQ R=fQ R'):R=R':=by obtain⟨a,T,t,U,p,_,r,n⟩:=k.wf h;obtain⟨c,x,P,B,b,_,f,g⟩:=m.wf h;rw[r,f] at d;injection d with q d;injection d with v _;have s:a∈S:=k.ring.mem a (by grind);have l:c∈S:=m.ring.mem c (by grind);rw[q,v] at n;have e:a=c:=h.one a s c l q<|zg (zh n) g;exact k.ring.eq h m.ring (by grind)
end
end Gb
end Go.Proofs.YtkjhhooecopolaaGreatDoor
namespace Go.Proofs
open Tryz
open Option renaming some->K
open Go.Shelf
def Tryz.sortRg_ren:Go.Shelf.Ren:=⟨fun |6=>173|15=>164|14=>215|28=>208|29=>209|20=>258|21=>259|22=>260|23=>261|24=>262|25=>263|26=>264|27=>265|46=>291|47=>249|48=>250|49=>292|50=>293|57=>305|n=>n,fun |22=>183|24=>185|25=>246|3=>3|39=>238|0=>0|53=>280|55=>282|4=>4|46=>274|45=>273|50=>70|5=>5|9=>9|66=>313|70=>317|76=>346|77=>172|n=>n,fun |n=>n⟩
theorem Tryz.sortRg:Go.Proofs.SlLaysF.n6 prog Tryz.sortRg_ren:={
 mixed:=z
 f6:=⟨Tryz.f173.name,ae,func173.trans<|bd K z⟩
 f14:=⟨Tryz.f215.name,ae,func215.trans<|bd K z⟩
 f15:=func164.trans<|bd K z
 f20:=⟨Tryz.f258.name,ae,func258.trans<|bd K z⟩
 f21:=⟨Tryz.f259.name,ae,func259.trans<|bd K z⟩
 f22:=⟨Tryz.f260.name,ae,func260.trans<|bd K z⟩
 f23:=⟨Tryz.f261.name,ae,func261.trans<|bd K z⟩
 f24:=⟨Tryz.f262.name,ae,func262.trans<|bd K z⟩
 f25:=⟨Tryz.f263.name,ae,func263.trans<|bd K z⟩
 f26:=⟨Tryz.f264.name,ae,func264.trans<|bd K z⟩
 f27:=⟨Tryz.f265.name,ae,func265.trans<|bd K z⟩
 f28:=func208.trans<|bd K z
 f29:=func209.trans<|bd K z
 f46:=⟨Tryz.f291.name,ae,func291.trans<|bd K z⟩
 f47:=func249.trans<|bd K z
 f48:=func250.trans<|bd K z
 f49:=⟨Tryz.f292.name,ae,func292.trans<|bd K z⟩
 f50:=⟨Tryz.f293.name,ae,func293.trans<|bd K z⟩
 f57:=⟨Tryz.f305.name,ae,func305.trans<|bd K z⟩
 t0:=underlying0
 a0:=isAgg0
 z0:=sizeOf0
 v0:=zeroValue0
 t3:=underlying3
 a3:=isAgg3
 z3:=sizeOf3
 v3:=zeroValue3
 t4:=underlying4
 a4:=isAgg4
 z4:=sizeOf4
 v4:=zeroValue4
 t5:=underlying5
 a5:=isAgg5
 z5:=sizeOf5
 v5:=zeroValue5
 t9:=underlying9
 a9:=isAgg9
 z9:=sizeOf9
 v9:=zeroValue9
 t22:=underlying183
 a22:=isAgg183
 z22:=sizeOf183
 v22:=zeroValue183
 a24:=isAgg185
 z24:=sizeOf185
 t25:=underlying246
 a25:=isAgg246
 z25:=sizeOf246
 v25:=zeroValue246
 t39:=underlying238
 a39:=isAgg238
 z39:=sizeOf238
 v39:=zeroValue238
 t45:=underlying273
 a45:=isAgg273
 z45:=sizeOf273
 v45:=zeroValue273
 t46:=underlying274
 a46:=isAgg274
 z46:=sizeOf274
 v46:=zeroValue274
 t50:=underlying70
 a50:=isAgg70
 z50:=sizeOf70
 v50:=zeroValue70
 t53:=underlying280
 a53:=isAgg280
 z53:=sizeOf280
 v53:=zeroValue280
 t55:=underlying282
 a55:=isAgg282
 z55:=sizeOf282
 v55:=zeroValue282
 t66:=underlying313
 a66:=isAgg313
 z66:=sizeOf313
 v66:=zeroValue313
 t70:=underlying317
 a70:=isAgg317
 z70:=sizeOf317
 v70:=zeroValue317
 t76:=underlying346
 a76:=isAgg346
 z76:=sizeOf346
 v76:=zeroValue346
 t77:=underlying172
 a77:=isAgg172
 z77:=sizeOf172
 v77:=zeroValue172}
end Go.Proofs
