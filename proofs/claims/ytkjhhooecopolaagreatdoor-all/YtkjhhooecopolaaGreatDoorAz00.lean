import Derived.Test.YtkjhhooecopolaaGreatDoorAza
set_option maxRecDepth 100000
set_option maxHeartbeats 4000000
namespace Go.Proofs.YtkjhhooecopolaaGreatDoor
open Value renaming int->I,complex->A,agg->u,slice->D
open IntKind renaming i64->J
open FloatKind renaming f64->C
open Go renaming World->G,Value->Y
open Option renaming some->K,none->Z
open Bool renaming true->aP,false->aQ
namespace N
variable{a b d XN XD x:Int}
abbrev O:=Int×Int
def rel(n:O)(d:Int)(a:O):O:=(d*a.1-n.1,d*a.2-n.2)
def L(u v:O):Int:=u.1*v.2-u.2*v.1
def i(u v:O):Int:=u.1*v.1+u.2*v.2
def on(u v:O):Bool:=decide (L u v=0)&&decide (i u v<=0)
def right(u v:O):Int:=if u.1<=0/\0<v.1/\0<L u v then 1 else if 0<u.1/\v.1<=0/\L u v<0 then -1 else 0
def up(u v:O):Int:=if u.1<=0/\0<v.1/\L u v<0 then -1 else if v.1<=0/\0<u.1/\0<L u v then 1 else 0
def q(u:O):Int:=if 0<u.1 then 1 else 0
theorem Xt(c:0<a)(d:0<b):0<a*b:=bD c d
theorem LU(c:a<=0)(d:0<b):a*b<=0:=su c<|dU d
theorem LV{c:Int}(h:a*d-b*c=0)(m:a<=0)(g:0<c):a*c+b*d<=0:=by have e:c*(a*c+b*d)=a*(c*c+d*d):=(by grind);have n:0<c*c+d*d:=(by have:=bD g g;have:0<=d*d:=(by rcases sx 0 d with h|h;exact gM h h;exact mI h h);omega);have l:=LU m n;rw[<-e] at l;rcases(show a*c+b*d<=0\/0<a*c+b*d by omega) with f|f;exact f;have:=Xt g f;omega
theorem step(u v:O)(h:on u v=aQ):right u v-up u v=q v-q u:=by
 obtain⟨a,b⟩:=u;obtain⟨c,d⟩:=v;have k:¬(a*d-b*c=0/\a*c+b*d<=0):=by
  rintro⟨l,m⟩;have:on (a,b) (c,d)=aP:=by simp only[on,L,i,l,m,decide_true,Bool.and_self]
  grind
 have n:∀(_:a<=0)(_:0<c),a*d-b*c≠0:=λf g e=>k ⟨e,LV e f g⟩;have p:∀(_:0<a)(_:c<=0),a*d-b*c≠0:=λf g e=>k ⟨e,by
  have:=LV (a:=c) (b:=d) (c:=a) (d:=b) (by grind) g f;grind⟩
 simp only[right,up,q,L];omega
theorem Xu(u v:O):(on u v=aP)↔L u v=0/\u.1*v.1<=0/\u.2*v.2<=0:=by obtain⟨a,b⟩:=u;obtain⟨c,d⟩:=v;simp only[on,L,i,jl];constructor;rintro⟨f,g⟩;have m:a*d-b*c=0:=ft f;have p:a*c+b*d<=0:=ft g;clear f g;refine⟨m,?_⟩;have n:(a*c)*(b*d)=(a*d)*(a*d):=(by grind);have s:0<=(a*c)*(b*d):=(by rw[n];rcases sx 0 (a*d) with h|h;exact gM h h;exact mI h h);generalize a*c=x at*;generalize b*d=y at*;rcases dG x 0 with k|k|k;refine⟨U,?_⟩;rcases(show y<=0\/0<y by omega) with l|l;exact l;have:=sy k l;omega;omega;exfalso;have l:y<0:=U;have:=sy l k;grind;grind
def closing:V O->V (O×O)
 |[]=>[]
 |a::r=>(a::r).zip<|r++[a]
def gF(g:V O):V (O×O):=(closing g).filter λe=>decide (e.1≠e.2)
def o(rg:V (V O)):V (O×O):=rg.flatMap gF
def total(f:O->O->Int)(l:V (O×O)):Int:=(l.map λe=>f e.1 e.2).sum
theorem acK(f:O->O->Int):total f []=0:=rfl
theorem aa8(f:O->O->Int)(e:O×O)(l:V (O×O)):total f (e::l)=f e.1 e.2+total f l:=by simp[total]
theorem uR(f:O->O->Int)(l k:V (O×O)):total f (l++k)=total f l+total f k:=by induction l with|nil=>simp[total]|cons e l a=>rw[lW,aa8,aa8,a];omega
theorem Bj(f g:O->O->Int)(k:O->Int):∀(r:V O)(a z:O),(∀p,p∈(a::r).zip (r++[z])->f p.1 p.2-g p.1 p.2=k p.2-k p.1)->
  total f ((a::r).zip<|r++[z])-total g ((a::r).zip<|r++[z])=k z-k a
 |[],a,z,h=>by have c:=h (a,z) E;simp only[qM,EN,List.zip_nil_left,aa8,acK];simp only at c;omega
 |b::r,a,z,h=>by
  have c:=h (a,b) E;have:=Bj f g k r b z (λp d=>h p (by
   rw[lW,EN];exact bW _ d))
  rw[lW,EN,aa8,aa8];simp only at c⊢;omega
theorem Bk(f:O->O->Int)(c:∀a,f a a=0)(l:V (O×O)):total f (l.filter λe=>decide (e.1≠e.2))=total f l:=by induction l with|nil=>rfl|cons e l b=>rw[Vo];by_cases h:e.1=e.2;rw[X (by simp[h]),b,aa8,h,c];omega;rw[y (by simp[h]),aa8,aa8,b]
def fr(n:O)(d:Int)(a b:O):Int:=right (rel n d a) (rel n d b)
def fu(n:O)(d:Int)(a b:O):Int:=up (rel n d a)<|rel n d b
def fo(n:O)(d:Int)(e:O×O):Bool:=on (rel n d e.1)<|rel n d e.2
theorem amv(n:O)(d:Int)(a:O):fr n d a a=0:=by unfold fr right;rw[X U,X U]
theorem amw(n:O)(d:Int)(a:O):fu n d a a=0:=by unfold fu up;rw[X U,X U]
theorem anU(n:O)(d:Int)(g:V O)(h:∀e,e∈gF g->fo n d e=aQ):total (fr n d) (gF g)=total (fu n d) (gF g):=by
 unfold gF at*;rw[Bk _<|amv n d,Bk _<|amw n d];cases g with
 |nil=>rfl
 |cons a r=>
  have:=Bj (fr n d) (fu n d) (λp=>q<|rel n d p) r a a (λp c=>by
   by_cases b:p.1=p.2
   .rw[b,amv,amw];omega
   .exact step _ _ (h p (et.2 ⟨c,by simp[b]⟩)))
  have e:closing (a::r)=(a::r).zip (r++[a]):=rfl;rw[e];omega
theorem amx(n:O)(d:Int):∀(rg:V (V O)),(∀e,e∈o rg->fo n d e=aQ)->total (fr n d) (o rg)=total (fu n d) (o rg)
 |[],_=>rfl
 |g::rg,h=>by
  have e:o (g::rg)=gF g++o rg:=nn;rw[e] at h⊢;rw[uR,uR,anU n d g<|λe a=>h e<|pK _ a,
   amx n d rg (λe a=>h e (wU _ a))]
theorem xD{k z:Int}(a:0<k):(k*z).sign=z.sign:=by rw[Al,kw a,ui]
theorem FV{YN YD y g1 g2:Int}(a b:O)(c:x=g1*XN)(e:d=g1*XD)(f:y=g2*YN)(g:d=g2*YD)(n:0<g1)(p:0<g2):
  ((b.1-a.1)*(YN-a.2*YD)*XD-(b.2-a.2)*(XN-a.1*XD)*YD).sign=(L (rel (x,y) d a)<|rel (x,y) d b).sign:=by rw[<-xD<|bD n p];congr 1;simp only[L,rel];grind
theorem uS{g:Int}(b:x=g*XN)(c:d=g*XD)(p:0<g):(XN*1-a*XD).sign= -(d*a-x).sign:=by rw[<-xD p,<-EO];grind
theorem LY(g:V O):(closing g).length=g.length:=by cases g with|nil=>rfl|cons a r=>simp[closing]
def oJ(g:V O)(n:Nat):Option O:=if n+1<g.length then g[n+1]? else g[0]?
theorem LZ{g:V O}{n:Nat}{p q:O}(c:g[n]?=K p)(b:oJ g n=K q):(closing g)[n]?=K (p,q):=by cases g with|nil=>grind|cons a r=>show((a::r).zip<|r++[a])[n]?=_;rw[Kd];refine⟨c,?_⟩;unfold oJ at b;grind
def gZ(g:V O)(n:Nat):V (O×O):=((closing g).take n).filter λe=>decide (e.1≠e.2)
theorem L0(g:V O):gZ g 0=[]:=by simp[gZ]
theorem Bp(g:V O):gZ g g.length=gF g:=by unfold gZ gF;rw[<-LY g,dV]
theorem L1{g:V O}{n:Nat}{p q:O}(c:g[n]?=K p)(d:oJ g n=K q)(h:p=q):gZ g (n+1)=gZ g n:=by obtain⟨a,b⟩:=bX.1<|LZ c d;unfold gZ;rw[lV a,b,nr];simp[h]
theorem L2{g:V O}{n:Nat}{p q:O}(c:g[n]?=K p)(d:oJ g n=K q)(h:p≠q):gZ g (n+1)=gZ g n++[(p,q)]:=by obtain⟨a,b⟩:=bX.1<|LZ c d;unfold gZ;rw[lV a,b,nr];simp[h]
theorem Bq(g:V O)(n:Nat):(gZ g n).length<=g.length:=by unfold gZ;refine el (pB _ _) ?_;rw[fU,LY];omega
theorem all_append(a b:V (V O)):o (a++b)=o a++o b:=by simp[o]
theorem L3{p:V (V O)}{k:Nat}{g:V O}(h:p[k]?=K g):o (p.take<|k+1)=o (p.take k)++gF g:=by obtain⟨a,b⟩:=bX.1 h;rw[lV a,b,all_append];simp[o]
theorem Xv{ps:V (V<|V O)}{i:Nat}{p:V (V O)}(h:ps[i]?=K p):o (ps.take<|i+1).flatten=o (ps.take i).flatten++o p:=by obtain⟨a,b⟩:=bX.1 h;rw[lV a,b,Ah,all_append];simp
theorem Br(B:Nat):∀(p:V (V O)),(∀g∈p,g.length<=B)->(o p).length<=p.length*B
 |[],_=>by simp[o]
 |g::p,h=>by have e:o (g::p)=gF g++o p:=nn;have:=Br B p (λx a=>h x<|by simp[a]);have:=h g E;have:(gF g).length<=g.length:=(by rw[<-Bp];exact Bq g _);rw[e,bG,dc,Ak];omega
theorem ti(B a:Nat):∀(ps:V (V<|V O)),(∀p∈ps,p.length<=a/\∀g∈p,g.length<=B)->(o ps.flatten).length<=ps.length*(a*B)
 |[],_=>by simp[o]
 |p::ps,h=>by rw[um,all_append,bG,dc,Ak];have:=ti B a ps (λx c=>h x<|by simp[c]);have b:=h p E;have:=Br B p b.2;have:=Am B b.1;omega
theorem Xw{g:V O}{e:O×O}(h:e∈gF g):e.1∈g/\e.2∈g:=by unfold gF at h;have b:=(et.1 h).1;cases g with|nil=>simp[closing] at b|cons a r=>obtain⟨x,y⟩:=e;have c:=List.of_mem_zip b;grind
theorem Xx{rg:V (V O)}{e:O×O}(h:e∈o rg):∃g∈rg,e.1∈g/\e.2∈g:=by unfold o at h;obtain⟨g,b,a⟩:=lw.1 h;exact⟨g,b,Xw a⟩
theorem FX{rg:V (V O)}{e:O×O}(h:e∈o rg):e.1≠e.2:=by unfold o at h;obtain⟨g,b,a⟩:=lw.1 h;unfold gF at a;grind
end N
namespace W
open N
variable{w k a b:Int}{rg:V (V O)}{v r s d x:O}
def mt(u v:O):Int:=if L u v=0/\0<v.1/\v.2<0/\0<=u.2 then 1 else if L u v=0/\0<u.1/\u.2<0/\0<=v.2 then -1 else 0
def mu(u v:O):Int:=if L u v=0/\u.1<=0/\u.2<0/\0<=v.2 then 1 else if L u v=0/\v.1<=0/\v.2<0/\0<=u.2 then -1 else 0
def oO(w:Int)(u:O):Int:=if 0<u.1/\u.1<=w/\u.2<0 then 1 else 0
def sh(w:Int)(u:O):O:=(u.1-w,u.2)
def bi(p:Prop)[Decidable p]:Int:=if p then 1 else 0
def yG(w:Int)(u v:O):Prop:=
 (u.2<0->0<=v.2->L u v<=0\/0<=L (sh w u) (sh w v))/\(v.2<0->0<=u.2->0<=L u v\/L (sh w u) (sh w v)<=0)
theorem da(u v:O):L v u= -L u v:=by unfold L;grind
theorem GU(u v:O):right v u= -right u v:=by unfold right;rw[da u v];omega
theorem abJ(u v:O):mt v u= -mt u v:=by unfold mt;rw[da u v];omega
theorem abK(u v:O):mu v u= -mu u v:=by unfold mu;rw[da u v];omega
theorem upA{u:O}(d:u.2<0)(c:0<=v.2):right u v+mt u v=bi (u.1<=0)-bi (L u v<=0):=by have:u.1<=0->0<L u v->0<v.1:=λa b=>(by apply Int.not_le.1;intro h;have e:u.1*v.2<=0:=su a c;have f:0<=u.2*v.1:=mI U h;unfold L at b;omega);have:0<u.1->L u v<=0->v.1<=0:=λa b=>(by apply wT.1;intro h;have e:0<=u.1*v.2:=gM U c;have f:u.2*v.1<0:=sy d h;unfold L at b;omega);unfold right mt bi;omega
theorem upB{u:O}(d:u.2<0)(c:0<=v.2):right u v+mu u v=bi (u.1<=0)-bi (L u v<0):=by have:u.1<=0->0<L u v->0<v.1:=λa b=>(by apply Int.not_le.1;intro h;have e:u.1*v.2<=0:=su a c;have f:0<=u.2*v.1:=mI U h;unfold L at b;omega);have:0<u.1->L u v<=0->v.1<=0:=λa b=>(by apply wT.1;intro h;have e:0<=u.1*v.2:=gM U c;have f:u.2*v.1<0:=sy d h;unfold L at b;omega);unfold right mu bi;omega
theorem OR(l:0<w){u:O}(h:yG w u v)(d:u.2<0)(e:0<=v.2):right (sh w u) (sh w v)+mu (sh w u) (sh w v)-right u v-mt u v=oO w u-oO w v:=by have:=upA d e;have:=upB (u:=sh w u) (v:=sh w v) d e;have:=h.1 d e;have f:oO w u=bi (u.1<=w)-bi (u.1<=0):=(by unfold oO bi;omega);have g:oO w v=0:=X U;have:bi ((sh w u).1<=0)=bi (u.1<=w):=(by have:(sh w u).1=u.1-w:=rfl;unfold bi;omega);have:bi (L u v<=0)=bi (L (sh w u) (sh w v)<0):=(by have:L (sh w u) (sh w v)=L u v-w*(v.2-u.2):=(by unfold L sh;grind);have:0<w*(v.2-u.2):=bD l U;unfold bi;omega);omega
theorem abN(r:0<w){u:O}(h:yG w u v):right (sh w u) (sh w v)+mu (sh w u) (sh w v)-right u v-mt u v=oO w u-oO w v:=by by_cases q:u.2<0;(.by_cases m:v.2<0;(.have c:∀t:Int,right (sh t u) (sh t v)=bi (u.1<=t)-bi (v.1<=t):=λt=>(by have s:u.1<=t->t<v.1->0<L (sh t u) (sh t v):=λa b=>(by have n:0<=(u.1-t)*v.2:=mI U U;have p:u.2*(v.1-t)<0:=sy q U;show 0<(u.1-t)*v.2-u.2*(v.1-t);omega);have x:t<u.1->v.1<=t->L (sh t u) (sh t v)<0:=λa b=>(by have n:(u.1-t)*v.2<0:=oz U m;have p:0<=u.2*(v.1-t):=mI U U;show(u.1-t)*v.2-u.2*(v.1-t)<0;omega);have f:(sh t u).1=u.1-t:=rfl;have g:(sh t v).1=v.1-t:=rfl;unfold right bi;omega);have e:∀z:O,sh 0 z=z:=λz=>(by unfold sh;rw[uu]);have d:=c 0;rw[e,e] at d;have k:mu (sh w u) (sh w v)=0:=(by have f:(sh w u).2=u.2:=rfl;have g:(sh w v).2=v.2:=rfl;unfold mu;omega);have l:mt u v=0:=(by unfold mt;omega);rw[c w,d,k,l];unfold oO bi;omega);exact OR r h q U);.by_cases m:v.2<0;have B:yG w v u:=(by refine⟨λa b=>?_,λa b=>?_⟩;have:=h.2 a b;rw[da u v,da (sh w u)<|sh w v];omega;omega);have:=OR r B m U;rw[GU u v,abJ u v,GU (sh w u)<|sh w v,abK (sh w u)<|sh w v] at this;omega;.have c:∀t:Int,right (sh t u) (sh t v)=0:=λt=>(by have s:u.1<=t->t<v.1->¬0<L (sh t u) (sh t v):=λa b=>(by have n:(u.1-t)*v.2<=0:=su U U;have p:0<=u.2*(v.1-t):=gM U U;show ¬0<(u.1-t)*v.2-u.2*(v.1-t);omega);have x:t<u.1->v.1<=t->¬L (sh t u) (sh t v)<0:=λa b=>(by have n:0<=(u.1-t)*v.2:=gM U U;have p:u.2*(v.1-t)<=0:=An U U;show ¬(u.1-t)*v.2-u.2*(v.1-t)<0;omega);have f:(sh t u).1=u.1-t:=rfl;have g:(sh t v).1=v.1-t:=rfl;unfold right;omega);have e:∀z:O,sh 0 z=z:=λz=>(by unfold sh;rw[uu]);have d:=c 0;rw[e,e] at d;have k:mu (sh w u) (sh w v)=0:=(by have f:(sh w u).2=u.2:=rfl;have g:(sh w v).2=v.2:=rfl;unfold mu;omega);have l:mt u v=0:=(by unfold mt;omega);rw[c w,d,k,l];unfold oO;omega
def rl(n:Int×Int×Int)(z:O):O:=rel (n.1,n.2.1) n.2.2 z
def wv(a b:Int×Int×Int):O:=(a.2.2*b.1-b.2.2*a.1,a.2.2*b.2.1-b.2.2*a.2.1)
def bF(D:O):Prop:=0<D.1\/(D.1=0/\0<D.2)
def cA(n:Int×Int×Int)(D:O)(u v:O):Int:=
 if L (rl n u) (rl n v)=0/\0<(rl n v).1/\L D (rl n v)<0/\0<=L D (rl n u) then 1
 else if L (rl n u) (rl n v)=0/\0<(rl n u).1/\L D (rl n u)<0/\0<=L D (rl n v) then -1 else 0
def cB(n:Int×Int×Int)(D:O)(u v:O):Int:=
 if L (rl n u) (rl n v)=0/\(rl n u).1<=0/\L D (rl n u)<0/\0<=L D (rl n v) then 1
 else if L (rl n u) (rl n v)=0/\(rl n v).1<=0/\L D (rl n v)<0/\0<=L D (rl n u) then -1 else 0
def GV(a b:Int×Int×Int)(D u v:O):Prop:=
 (L D (rl a u)<0->0<=L D (rl a v)->L (rl a u) (rl a v)<=0\/0<=L (rl b u) (rl b v))/\(L D (rl a v)<0->0<=L D (rl a u)->0<=L (rl a u) (rl a v)\/L (rl b u) (rl b v)<=0)
def apN(a b:Int×Int×Int)(D:O):Prop:=(0<D.1/\0<(wv a b).1/\L D (wv a b)=0)\/(D.1=0/\0<D.2/\(wv a b).1=0/\0<(wv a b).2)
def tr(D r:O):O:=(r.1,L D r)
def sc(k:Int)(u:O):O:=(k*u.1,k*u.2)
theorem yH(D r s:O):L (tr D r) (tr D s)=D.1*L r s:=by unfold tr L;grind
theorem yI(k:Int)(r s:O):L (sc k r) (sc k s)=k*k*L r s:=by unfold sc L;grind
theorem bI{z:Int}(c:0<k):0<k*z↔0<z:=by constructor;intro h;exact Int.pos_of_mul_pos_right (a:=k) h |> λh=>(by omega);exact bD c
theorem neg_mul{z:Int}(a:0<k):k*z<0↔z<0:=by have:=bI (z:= -z) a;grind
theorem dz{z:Int}(a:0<k):k*z=0↔z=0:=by have:=bI (z:=z) a;have:=neg_mul (z:=z) a;omega
theorem jY(a b:Int×Int×Int)(z:O):a.2.2*(rl b z).1=b.2.2*(rl a z).1-(wv a b).1/\a.2.2*(rl b z).2=b.2.2*(rl a z).2-(wv a b).2:=by unfold rl rel wv;grind
theorem OS{D:O}(a:0<D.1)(r s:O):right (tr D r) (tr D s)=right r s:=by have:=bI (z:=L r s) a;have:=neg_mul (z:=L r s) a;unfold right;rw[yH];have b:(tr D r).1=r.1:=rfl;have c:(tr D s).1=s.1:=rfl;omega
theorem vH(b:0<k)(r s:O):right (sc k r) (sc k s)=right r s:=by have a:=bD b b;have:=bI (z:=L r s) a;have:=neg_mul (z:=L r s) a;have:=bI (z:=r.1) b;have:=bI (z:=s.1) b;unfold right;rw[yI];have c:(sc k r).1=k*r.1:=rfl;have d:(sc k s).1=k*s.1:=rfl;omega
theorem abO{n:Int×Int×Int}{D:O}(g:0<D.1)(a:0<k)(u v:O):mt (sc k<|tr D<|rl n u) (sc k<|tr D<|rl n v)=cA n D u v:=by
 have b:=bD (bD a a) g;have:=dz (z:=L (rl n u)<|rl n v) b;have:=bI (z:=(rl n u).1) a;have:=bI (z:=(rl n v).1) a;have:=neg_mul (z:=L D<|rl n u) a;have:=neg_mul (z:=L D<|rl n v) a;unfold mt cA;rw[yI,yH];have e0:k*k*(D.1*L (rl n u) (rl n v))=k*k*D.1*L (rl n u) (rl n v):=by grind
 have c:(sc k<|tr D<|rl n u).1=k*(rl n u).1:=rfl;have d:(sc k<|tr D<|rl n v).1=k*(rl n v).1:=rfl;have e:(sc k<|tr D<|rl n u).2=k*L D (rl n u):=rfl;have f:(sc k<|tr D<|rl n v).2=k*L D (rl n v):=rfl;grind
theorem abP{n:Int×Int×Int}{D:O}(g:0<D.1)(a:0<k)(u v:O):mu (sc k<|tr D<|rl n u) (sc k<|tr D<|rl n v)=cB n D u v:=by
 have b:=bD (bD a a) g;have:=dz (z:=L (rl n u)<|rl n v) b;have:=bI (z:=(rl n u).1) a;have:=bI (z:=(rl n v).1) a;have:=neg_mul (z:=L D<|rl n u) a;have:=neg_mul (z:=L D<|rl n v) a;unfold mu cB;rw[yI,yH];have e0:k*k*(D.1*L (rl n u) (rl n v))=k*k*D.1*L (rl n u) (rl n v):=by grind
 have c:(sc k<|tr D<|rl n u).1=k*(rl n u).1:=rfl;have d:(sc k<|tr D<|rl n v).1=k*(rl n v).1:=rfl;have e:(sc k<|tr D<|rl n u).2=k*L D (rl n u):=rfl;have f:(sc k<|tr D<|rl n v).2=k*L D (rl n v):=rfl;grind
def yJ(a b:Int×Int×Int)(D z:O):Int:=if D.1=0 then 0 else oO (wv a b).1 (sc b.2.2<|tr D<|rl a z)
theorem abQ{a b:Int×Int×Int}{D:O}(l:0<a.2.2)(h:0<b.2.2)(Z:apN a b D){u:O}(H:GV a b D u v):
  right (rl b u) (rl b v)+cB b D u v-right (rl a u) (rl a v)-cA a D u v=yJ a b D u-yJ a b D v:=by rcases Z with⟨d,o,hp⟩|⟨d,g,o,P⟩;have w:∀z,sh (wv a b).1 (sc b.2.2<|tr D<|rl a z)=sc a.2.2 (tr D<|rl b z):=λz=>(by obtain⟨t,i⟩:=jY a b z;refine dj ?_ ?_;show b.2.2*(rl a z).1-(wv a b).1=a.2.2*(rl b z).1;omega;show b.2.2*(D.1*(rl a z).2-D.2*(rl a z).1)=a.2.2*(D.1*(rl b z).2-D.2*(rl b z).1);unfold L at hp;grind);have W:L (sc b.2.2<|tr D<|rl a u) (sc b.2.2<|tr D<|rl a v)=b.2.2*b.2.2*D.1*L (rl a u) (rl a v):=(by rw[yI,yH];grind);have Y:L (sc a.2.2<|tr D<|rl b u) (sc a.2.2<|tr D<|rl b v)=a.2.2*a.2.2*D.1*L (rl b u) (rl b v):=(by rw[yI,yH];grind);have p:=bD (bD h h) d;have q:=bD (bD l l) d;have q1:=bI (z:=L (rl a u)<|rl a v) p;have q2:=neg_mul (z:=L (rl a u)<|rl a v) p;have q3:=bI (z:=L (rl b u)<|rl b v) q;have q4:=neg_mul (z:=L (rl b u)<|rl b v) q;have:=neg_mul (z:=L D<|rl a u) h;have:=neg_mul (z:=L D<|rl a v) h;have hfree:yG (wv a b).1 (sc b.2.2<|tr D<|rl a u) (sc b.2.2<|tr D<|rl a v):=(by unfold yG;rw[w,w,W,Y];have B:(sc b.2.2<|tr D<|rl a u).2=b.2.2*L D (rl a u):=rfl;have j:(sc b.2.2<|tr D<|rl a v).2=b.2.2*L D (rl a v):=rfl;rw[B,j];obtain⟨A,C⟩:=H;omega);have Q:=abN o hfree;rw[w,w,vH l,OS d,vH h,OS d,abO d h,abP d l] at Q;unfold yJ;omega;.unfold yJ;rw[y d,y d];obtain⟨t,i⟩:=jY a b u;obtain⟨B,j⟩:=jY a b v;rw[o] at t B;have x1:=bI (z:=(rl b u).1) l;have x2:=bI (z:=(rl b v).1) l;have x3:=bI (z:=(rl a u).1) h;have x4:=bI (z:=(rl a v).1) h;have E:L D (rl a u)= -(D.2*(rl a u).1):=(by unfold L;grind);have F:L D (rl a v)= -(D.2*(rl a v).1):=(by unfold L;grind);have I:L D (rl b u)= -(D.2*(rl b u).1):=(by unfold L;grind);have J:L D (rl b v)= -(D.2*(rl b v).1):=(by unfold L;grind);have:=bI (z:=(rl a u).1) g;have:=bI (z:=(rl a v).1) g;have T:=bI (z:=(rl b u).1) g;have V:=bI (z:=(rl b v).1) g;have:a.2.2*a.2.2*L (rl b u) (rl b v)=b.2.2*b.2.2*L (rl a u) (rl a v)+b.2.2*(wv a b).2*((rl a v).1-(rl a u).1):=(by have k:a.2.2*a.2.2*L (rl b u) (rl b v)=(a.2.2*(rl b u).1)*(a.2.2*(rl b v).2)-(a.2.2*(rl b u).2)*(a.2.2*(rl b v).1):=(by unfold L;grind);rw[k,t,i,B,j];unfold L;grind);have p:=bD l l;have q:=bD h h;have G:=bD h P;have q1:=bI (z:=L (rl a u)<|rl a v) q;have q2:=neg_mul (z:=L (rl a u)<|rl a v) q;have q3:=bI (z:=L (rl b u)<|rl b v) p;have q4:=neg_mul (z:=L (rl b u)<|rl b v) p;have:=bI (z:=(rl a v).1-(rl a u).1) G;have:=neg_mul (z:=(rl a v).1-(rl a u).1) G;obtain⟨A,C⟩:=H;rw[E,F] at A C;unfold right cA cB;rw[E,F,I,J];grind
theorem GW(F:O->O->Int)(k:O->Int)(c:∀a,F a a=0):∀(rg:V (V O)),(∀e∈o rg,F e.1 e.2=k e.1-k e.2)->total F (o rg)=0
 |[],_=>rfl
 |g::rg,h=>by
  have e:o (g::rg)=gF g++o rg:=nn;rw[e] at h⊢;rw[uR,GW F k c rg<|λe b=>h e<|wU _ b];have f:∀e∈gF g,F e.1 e.2=k e.1-k e.2:=λe b=>h e<|pK _ b;unfold gF at*;rw[Bk _ c];cases g with
  |nil=>rfl
  |cons a r=>
   have d:=Bj (λ_ _=>0) F k r a a (λp m=>by
    by_cases b:p.1=p.2
    .rw[b,c];omega
    .have:=f p (et.2 ⟨m,by simp[b]⟩);omega)
   have e0:∀l:V (O×O),total (λ_ _=>0) l=0:=λl=>by
    induction l with
    |nil=>rfl
    |cons x l n=>rw[aa8,n];rfl
   rw[e0] at d;have e:closing (a::r)=(a::r).zip (r++[a]):=rfl;rw[e];omega
theorem CL(F G:O->O->Int):∀l:V (O×O),total (λa v=>F a v+G a v) l=total F l+total G l
 |[]=>rfl
 |e::l=>by rw[aa8,aa8,aa8,CL F G l];omega
theorem yK(F G:O->O->Int):∀l:V (O×O),total (λa v=>F a v-G a v) l=total F l-total G l
 |[]=>rfl
 |e::l=>by rw[aa8,aa8,aa8,yK F G l];omega
def PP(es:V (O×O))(n:Int×Int×Int):Int:=total (λu v=>right (rl n u) (rl n v)) es
theorem OT(u:O):right u u=0:=by unfold right;omega
theorem abR(n:Int×Int×Int)(D u:O):cA n D u u=0:=by unfold cA;omega
theorem abS(n:Int×Int×Int)(D u:O):cB n D u u=0:=by unfold cB;omega
theorem along{a b:Int×Int×Int}{D:O}(f:0<a.2.2)(g:0<b.2.2)(c:apN a b D)(d:∀e∈o rg,GV a b D e.1 e.2):
  PP (o rg) b+total (cB b D) (o rg)=PP (o rg) a+total (cA a D) (o rg):=by have h:=GW (λu v=>right (rl b u) (rl b v)+cB b D u v-right (rl a u) (rl a v)-cA a D u v) (yJ a b D) (λz=>by rw[OT,OT,abR,abS];rfl) rg<|λe k=>abQ f g c<|d e k;rw[yK,yK,CL] at h;unfold PP;omega
abbrev N3:=Int×Int×Int
def lam(D:O)(n:N3)(z:O):Int:=L D<|rl n z
theorem OU{a b:N3}{D:O}(h:apN a b D):L D (wv a b)=0:=by rcases h with⟨_,_,h⟩|⟨c,_,d,_⟩;exact h;unfold L;grind
theorem GX{a b:N3}{D:O}(h:apN a b D)(z:O):a.2.2*lam D b z=b.2.2*lam D a z:=by have:=OU h;obtain⟨c,d⟩:=jY a b z;unfold lam L at*;grind
theorem mw{a b:N3}{D:O}(c:0<a.2.2)(d:0<b.2.2)(h:apN a b D)(z:O):(lam D b z<0↔lam D a z<0)/\(0<lam D b z↔0<lam D a z):=by have:=GX h z;have:=bI (z:=lam D b z) c;have:=neg_mul (z:=lam D b z) c;have:=bI (z:=lam D a z) d;have:=neg_mul (z:=lam D a z) d;omega
theorem abT{a b:N3}{D:O}(h:apN a b D)(u v:O):∃k m:Int,0<k/\0<m/\k*(a.2.2*a.2.2*L (rl b u) (rl b v))=k*(b.2.2*b.2.2*L (rl a u) (rl a v))-b.2.2*(m*(lam D a v-lam D a u)):=by obtain⟨f,g⟩:=jY a b u;obtain⟨l,n⟩:=jY a b v;have k:a.2.2*a.2.2*L (rl b u) (rl b v)=(a.2.2*(rl b u).1)*(a.2.2*(rl b v).2)-(a.2.2*(rl b u).2)*(a.2.2*(rl b v).1):=(by unfold L;grind);rw[f,g,l,n] at k;rcases h with⟨c,d,e⟩|⟨c,d,e,p⟩;refine⟨D.1,(wv a b).1,c,d,?_⟩;rw[k];unfold lam;unfold L at*;grind;refine⟨D.2,(wv a b).2,d,p,?_⟩;rw[k];unfold lam;unfold L at*;grind
theorem CM{a b:N3}{D:O}(d:0<a.2.2)(c:0<b.2.2)(h:apN a b D){u:O}(x:lam D a u<lam D a v):(0<=L (rl b u) (rl b v)->0<L (rl a u) (rl a v))/\(L (rl a u) (rl a v)<=0->L (rl b u) (rl b v)<0):=by obtain⟨k,m,f,n,e⟩:=abT h u v;have g:=bD f<|bD d d;have l:=bD f<|bD c c;have p:=bI (z:=L (rl a u)<|rl a v) l;have q:=neg_mul (z:=L (rl a u)<|rl a v) l;have s:=bI (z:=L (rl b u)<|rl b v) g;have t:=neg_mul (z:=L (rl b u)<|rl b v) g;have:=bD c<|bD n (show 0<lam D a v-lam D a u by omega);grind
theorem GY{a b:N3}{D:O}(c:0<a.2.2)(d:0<b.2.2)(h:apN a b D){u:O}(e:lam D a v<lam D a u):(L (rl b u) (rl b v)<=0->L (rl a u) (rl a v)<0)/\(0<=L (rl a u) (rl a v)->0<L (rl b u) (rl b v)):=by have:=CM c d h e;rw[da (rl b u)<|rl b v,da (rl a u)<|rl a v] at this;omega
def ju(f t:N3)(D u v:O):Prop:=
 (lam D f u<=0->0<=lam D f v->lam D f u<lam D f v->L (rl f u) (rl f v)<=0\/0<=L (rl t u) (rl t v))/\
 (lam D f v<=0->0<=lam D f u->lam D f v<lam D f u->0<=L (rl f u) (rl f v)\/L (rl t u) (rl t v)<=0)
def kj(f t:N3)(D z:O):Prop:=lam D f z=0->i D (rl f z)<=0\/0<=i D (rl t z)
def yL(a b:N3)(D:O):Prop:=a=b\/apN a b D
theorem OV{a b:N3}{D:O}(c:0<a.2.2)(d:0<b.2.2)(h:yL a b D){u:O}(e:lam D a u<lam D a v):(0<=L (rl b u) (rl b v)->0<=L (rl a u) (rl a v))/\(L (rl a u) (rl a v)<=0->L (rl b u) (rl b v)<=0):=by rcases h with rfl|h;omega;have:=CM c d h e;omega
theorem OW{a b:N3}{D:O}(c:0<a.2.2)(d:0<b.2.2)(h:yL a b D){u:O}(e:lam D a v<lam D a u):(L (rl b u) (rl b v)<=0->L (rl a u) (rl a v)<=0)/\(0<=L (rl a u) (rl a v)->0<=L (rl b u) (rl b v)):=by rcases h with rfl|h;omega;have:=GY c d h e;omega
theorem OX{a b:N3}{D:O}(c:0<a.2.2)(d:0<b.2.2)(h:yL a b D)(z:O):(lam D b z<0↔lam D a z<0)/\(0<lam D b z↔0<lam D a z):=by rcases h with rfl|h;omega;exact mw c d h z
theorem GZ{f t a b:N3}{D u:O}(g:0<f.2.2)(n:0<t.2.2)(c:0<a.2.2)(e:0<b.2.2)(h:ju f t D u v)(d:yL f a D)(l:apN a b D)(m:yL b t D):GV a b D u v:=by have:=OX g c d u;have:=OX g c d v;have:=mw c e l u;have:=mw c e l v;refine⟨λx y=>?_,λx y=>?_⟩;change lam D a u<0 at x;change 0<=lam D a v at y;rcases h.1 U U U with k|k;exact j ((OV g c d U).2 k);exact F ((OV e n m U).1 k);change lam D a v<0 at x;change 0<=lam D a u at y;rcases h.2 U U U with k|k;exact j ((OW g c d U).2 k);exact F ((OW e n m U).1 k)
theorem vI{f t q:N3}{D u:O}(c:0<f.2.2)(e:0<t.2.2)(a:0<q.2.2)(h:ju f t D u v)(b:apN f q D)(d:apN q t D):
  (lam D q u<=0->0<=lam D q v->lam D q u<lam D q v->L (rl q u) (rl q v)≠0)/\(lam D q v<=0->0<=lam D q u->lam D q v<lam D q u->L (rl q u) (rl q v)≠0):=by have:=mw c a b u;have:=mw c a b v;refine⟨λx y z=>?_,λx y z=>?_⟩;rcases h.1 U U U with k|k;have:=(CM c a b (u:=u) (v:=v) U).2 k;omega;have:=(CM a e d (u:=u) (v:=v) U).1 k;omega;rcases h.2 U U U with k|k;have:=(GY c a b (u:=u) (v:=v) U).2 k;omega;have:=(GY a e d (u:=u) (v:=v) U).1 k;omega
def bo(f t:N3):N3:=(f.1+t.1,f.2.1+t.2.1,f.2.2+t.2.2)
theorem OY(f t:N3):wv f (bo f t)=wv f t:=by unfold wv bo;grind
theorem abU(f t:N3):wv (bo f t) t=wv f t:=by unfold wv bo;grind
theorem tM{f t:N3}(h:bF (wv f t)):apN f t (wv f t):=by rcases h with h|⟨a,b⟩;exact j ⟨h,h,by unfold L;grind⟩;exact F ⟨a,b,a,b⟩
theorem CO{f t:N3}(h:bF (wv f t)):apN f (bo f t) (wv f t):=by unfold apN;rw[OY];exact tM h
theorem G0{f t:N3}(h:bF (wv f t)):apN (bo f t) t (wv f t):=by unfold apN;rw[abU];exact tM h
theorem rz{F:O->O->Int}:∀{l:V (O×O)},(∀e∈l,F e.1 e.2=0)->total F l=0
 |[],_=>rfl
 |e::l,h=>by rw[aa8,h e E,rz λx a=>h x<|bW _ a];rfl
theorem kI{F G:O->O->Int}:∀{l:V (O×O)},(∀e∈l,F e.1 e.2=G e.1 e.2)->total F l=total G l
 |[],_=>rfl
 |e::l,h=>by rw[aa8,aa8,h e E,kI λx a=>h x<|bW _ a]
theorem OZ{f t:N3}(a:0<f.2.2)(q:0<t.2.2)(p:bF (wv f t))(n:∀e∈o rg,ju f t (wv f t) e.1 e.2):
  PP (o rg) (bo f t)=PP (o rg) f+total (cA f<|wv f t) (o rg):=by have d:0<(bo f t).2.2:=(by show 0<f.2.2+t.2.2;omega);have b:=CO p;have m:=G0 p;have:=along a d b (rg:=rg) λe c=>GZ a q a d (n e c) (j rfl) b<|F m;have:total (cB (bo f t)<|wv f t) (o rg)=0:=rz λe c=>(by obtain⟨r,s⟩:=vI a q d (n e c) b m;unfold cB;rw[X<|λ⟨g,_,k,l⟩=>r (dU k) l (by unfold lam;omega) g,X<|λ⟨g,_,k,l⟩=>s (dU k) l (by unfold lam;omega) g]);omega
theorem abV{f t:N3}(p:0<f.2.2)(a:0<t.2.2)(q:bF (wv f t))(n:∀e∈o rg,ju f t (wv f t) e.1 e.2):
  PP (o rg) (bo f t)=PP (o rg) t+total (cB t<|wv f t) (o rg):=by have d:0<(bo f t).2.2:=(by show 0<f.2.2+t.2.2;omega);have m:=CO q;have b:=G0 q;have:=along d a b (rg:=rg) λe c=>GZ p a d a (n e c) (F m) b<|j rfl;have:total (cA (bo f t)<|wv f t) (o rg)=0:=rz λe c=>(by obtain⟨r,s⟩:=vI p a d (n e c) m b;unfold cA;rw[X<|λ⟨g,_,k,l⟩=>s (dU k) l (by unfold lam;omega) g,X<|λ⟨g,_,k,l⟩=>r (dU k) l (by unfold lam;omega) g]);omega
def g9(z:O):Bool:=decide (0<z.1\/(z.1=0/\0<z.2))
def bf(z w:O):Bool:=(g9 z&& !g9 w)||((g9 z == g9 w)&&decide (0<L z w))
def bh(z w:O):Bool:=decide (L z w=0)&&decide (0<i z w)
def neg(D:O):O:=(-D.1, -D.2)
def bb(b:Bool):Int:=if b then 1 else 0
def arm(Q:O->Bool)(n:N3)(u v:O):Int:=if on (rl n u) (rl n v) then bb (Q<|rl n v)-bb (Q<|rl n u) else 0
def AS(es:V (O×O))(n:N3)(Q:O->Bool):Int:=total (arm Q n) es
def fb(q:N3)(D u v:O):Int:=if on (rl q u) (rl q v) then(D.1*(v.1-u.1)+D.2*(v.2-u.2)).sign else 0
theorem hJ(r s:O):on r s=aP↔L r s=0/\i r s<=0:=by unfold on;simp
theorem sq_pos(h:a≠0\/b≠0):0<a*a+b*b:=by have k:∀x:Int,0<=x*x:=λx=>(by rcases sx 0 x with h|h;exact gM h h;exact mI h h);have c:∀x:Int,x≠0->0<x*x:=λx d=>(by rcases dG x 0 with h|h|h;exact EY h h;omega;exact bD h h);have:=k a;have:=k b;rcases h with h|h;have:=c a h;omega;have:=c b h;omega
theorem dI(h:r≠(0,0)):0<i r r:=by refine sq_pos ?_;grind
theorem G1{D:O}(h:L D r≠0):r≠(0,0):=λe=>h (by rw[e];unfold L;simp)
theorem qk{D:O}(h:i D r≠0):r≠(0,0):=λe=>h (by rw[e];unfold i;simp)
theorem jg{D:O}(h:bF D):D≠(0,0):=λe=>by
 rw[e] at h;rcases h with h|⟨_,h⟩
 omega
 omega
theorem ql{D:O}(h:L r s=0):L D s*i r r=L D r*i r s:=by unfold L i at*;grind
theorem iy(r s:O):i r s=i s r:=by unfold i;grind
theorem rB{D:O}(h:L r s=0)(c:L D r<0):i r s<=0↔0<=L D s:=by have p:=dI<|G1 (D:=D) (r:=r) U;have:=ql (D:=D) h;have a:=neg_mul (z:=L D s) p;rw[dw] at a;have b:=bI (z:=i r s) (k:= -L D r) U;grind
theorem CP{D:O}(h:L r s=0)(b:0<L D r):i r s<=0↔L D s<=0:=by have p:=dI<|G1 (D:=D) (r:=r) U;have:=ql (D:=D) h;have a:=bI (z:=L D s) p;rw[dw] at a;have:=bI (z:=i r s) b;omega
theorem oP(h:L r s=0):L s r=0:=by rw[da];omega
theorem CQ{D:O}(g:bF D)(z:O):bf z D=aP↔0<z.1/\L D z<0:=by have l:g9 D=aP:=(by unfold g9;exact ff g);have e:L z D= -L D z:=da D z;unfold bf;rw[l,e];by_cases a:g9 z=aP;rw[a];simp;have d:=ft (by unfold g9 at a;exact a);intro h;rcases d with b|⟨b,k⟩;exact b;exfalso;rcases g with c|⟨c,m⟩;have:=bD c k;unfold L at h;grind;unfold L at h;grind;have f:g9 z=aQ:=(by grind);rw[f];simp;intro h;exfalso;apply a;unfold g9;grind
theorem G2{D:O}(k:bF D)(z:O):bf (neg D) z=aP↔z.1<=0/\L D z<0:=by have l:g9 (neg D)=aQ:=(by unfold g9 neg;refine jd λh=>?_;rcases k with f|⟨f,c⟩<;>simp only at h<;>omega);have e:L (neg D) z= -L D z:=(by unfold L neg;grind);unfold bf;rw[l,e];by_cases d:g9 z=aP;rw[d];simp;have b:=ft (by unfold g9 at d;exact d);intro m;rcases b with g|⟨g,f⟩;omega;unfold L;rw[g];rcases k with c|⟨c,n⟩;have:=bD c f;omega;grind;have a:g9 z=aQ:=(by grind);rw[a];simp;have b:=Kr (by unfold g9 at a;exact a);omega
theorem abW{D:O}(c:bF D)(n:N3)(u v:O):cA n D u v=arm (λz=>bf z D) n u v:=by unfold cA arm;generalize rl n u=r;generalize rl n v=s;have d:=CQ c r;have amE:=CQ c s;by_cases b:L r s=0;(.have a:=hJ r s;have k:L D s<0->(i r s<=0↔0<=L D r):=λh=>(by have:=rB (oP b) h;rw[iy] at this;omega);have l:L D r<0->(i r s<=0↔0<=L D s):=λh=>rB b h;unfold bb;grind);have a:on r s=aQ:=(by cases h:on r s;rfl;exact absurd ((hJ r s).1 h).1 b);grind
theorem abX{D:O}(c:bF D)(n:N3)(u v:O):cB n D u v= -arm (λz=>bf (neg D) z) n u v:=by unfold cB arm;generalize rl n u=r;generalize rl n v=s;have d:=G2 c r;have amE:=G2 c s;by_cases b:L r s=0;(.have a:=hJ r s;have k:L D s<0->(i r s<=0↔0<=L D r):=λh=>(by have:=rB (oP b) h;rw[iy] at this;omega);have l:L D r<0->(i r s<=0↔0<=L D s):=λh=>rB b h;unfold bb;grind);have a:on r s=aQ:=(by cases h:on r s;rfl;exact absurd ((hJ r s).1 h).1 b);grind
theorem G3(F:O->O->Int):∀l:V (O×O),total (λa v=> -F a v) l= -total F l
 |[]=>rfl
 |e::l=>by rw[aa8,aa8,G3 F l];omega
theorem abY{f t:N3}(c:0<f.2.2)(d:0<t.2.2)(a:bF (wv f t))(b:∀e∈o rg,ju f t (wv f t) e.1 e.2):
  PP (o rg) (bo f t)=PP (o rg) f+AS (o rg) f (λz=>bf z<|wv f t):=by rw[OZ c d a b];unfold AS;rw[kI λe _=>abW a f e.1 e.2]
theorem abZ{f t:N3}(d:0<f.2.2)(g:0<t.2.2)(a:bF (wv f t))(c:∀e∈o rg,ju f t (wv f t) e.1 e.2):
  PP (o rg) (bo f t)=PP (o rg) t-AS (o rg) t (λz=>bf (neg<|wv f t) z):=by rw[abV d g a c];unfold AS;have b:total (cB t<|wv f t) (o rg)=total (λu v=> -arm (λz=>bf (neg<|wv f t) z) t u v) (o rg):=kI λe _=>abX a t e.1 e.2;rw[b,G3];omega
theorem jw{z:O}(l:bF z)(g:bF d)(h:L z d=0):0<i z d:=by rcases l with a|⟨a,f⟩;rcases g with b|⟨b,c⟩;have:i z d*z.1=d.1*i z z:=(by unfold L at h;unfold i;grind);have:=bD b<|dI (r:=z)<|jg<|j a;have k:=bI (z:=i z d) a;grind;exfalso;unfold L at h;rw[b] at h;have:=bD a c;omega;rcases g with b|⟨b,c⟩;exfalso;unfold L at h;rw[a] at h;have:=bD f b;omega;unfold i;rw[a];have:=bD f c;omega
theorem rC(z:O):g9 z=aP↔bF z:=by unfold g9 bF;simp
theorem fN{z:O}(a:z≠(0,0))(h:¬bF z):bF (neg z):=by unfold bF neg at*;grind
theorem iz{D:O}(h:D≠(0,0)):neg D≠(0,0):=λe=>h (by
 unfold neg at e;grind)
theorem neg_neg(D:O):neg (neg D)=D:=by unfold neg;simp
theorem e8(z d:O):L (neg z) d= -L z d:=by unfold L neg;grind
theorem e9(z d:O):L z (neg d)= -L z d:=by unfold L neg;grind
theorem nX(z d:O):i (neg z) d= -i z d:=by unfold i neg;grind
theorem jJ(z d:O):i z (neg d)= -i z d:=by unfold i neg;grind
theorem ik{z:O}(r:z≠(0,0))(q:d≠(0,0)):bb (bf z d)+bb (bh z d)+bb (bf d z)=1:=by have n:bh z d=aP↔L z d=0/\0<i z d:=(by unfold bh;simp);have:=da z d;by_cases m:bF z;(.have c:=(rC z).2 m;by_cases b:bF d;(.have a:=(rC d).2 b;have k:=jw m b;have f:bf z d=decide (0<L z d):=(by unfold bf;grind);have g:bf d z=decide (0<L d z):=(by unfold bf;grind);rw[f,g];cases l:bh z d<;>rw[l] at n<;>unfold bb<;>simp at* <;>repeat' omega);have a:g9 d=aQ:=(by cases h:g9 d;rfl;exact absurd ((rC d).1 h) b);have k:=jw m<|fN q b;rw[e9,jJ] at k;have f:bf z d=aP:=(by unfold bf;grind);have g:bf d z=aQ:=(by unfold bf;grind);have p:bh z d=aQ:=(by grind);rw[f,g,p];rfl);.have c:g9 z=aQ:=(by cases h:g9 z;rfl;exact absurd ((rC z).1 h) m);by_cases b:bF d;have a:=(rC d).2 b;have k:=jw (fN r m) b;rw[e8,nX] at k;have f:bf z d=aQ:=(by unfold bf;grind);have g:bf d z=aP:=(by unfold bf;grind);have p:bh z d=aQ:=(by grind);rw[f,g,p];rfl;.have a:g9 d=aQ:=(by cases h:g9 d;rfl;exact absurd ((rC d).1 h) b);have k:=jw (fN r m)<|fN q b;rw[e8,nX,e9,jJ] at k;have f:bf z d=decide (0<L z d):=(by unfold bf;grind);have g:bf d z=decide (0<L d z):=(by unfold bf;grind);rw[f,g];cases l:bh z d<;>rw[l] at n<;>unfold bb<;>simp at* <;>repeat' omega
def nz(z:O):Bool:=decide (z≠(0,0))
theorem vJ(z:O):L (0,0) z=0/\L z (0,0)=0/\i (0,0) z=0/\i z (0,0)=0:=by unfold L i;simp
theorem oQ(r s:O)(h:r=(0,0)\/s=(0,0)):on r s=aP:=by rw[hJ];rcases h with h|h<;>rw[h];have:=vJ s;omega;have:=vJ r;omega
theorem G4(rg:V (V O))(n:N3):AS (o rg) n nz=0:=by refine GW _ (λz=> -bb (nz<|rl n z)) (λa=>?_) rg λe _=>?_;unfold arm;omega;unfold arm;cases h:on (rl n e.1) (rl n e.2);have b:nz (rl n e.1)=aP:=ff λk=>(by rw[oQ _ _<|j k] at h;cases h);have c:nz (rl n e.2)=aP:=ff λk=>(by rw[oQ _ _<|F k] at h;cases h);grind;grind
theorem yM{es:V (O×O)}{n:N3}{Q Q1 Q2:O->Bool}(h:∀z,bb (Q z)=bb (Q1 z)+bb (Q2 z)):AS es n Q=AS es n Q1+AS es n Q2:=by unfold AS;rw[<-CL];refine kI λe _=>?_;unfold arm;grind
theorem CR{es:V (O×O)}{n:N3}{Q Q':O->Bool}(h:∀e∈es,on (rl n e.1) (rl n e.2)=aP->Q (rl n e.1)=Q' (rl n e.1)/\Q (rl n e.2)=Q' (rl n e.2)):AS es n Q=AS es n Q':=by refine kI λe b=>?_;unfold arm;grind
def dA(es:V (O×O))(n:N3)(d:O):Int:=PP es n+AS es n (λz=>nz z&&bf z d)
def dZ(es:V (O×O))(n:N3)(d:O):Int:=dA es n d+AS es n (λz=>bh z d)
theorem O0{z:O}(h:bF d):(nz z&&bf z d)=bf z d:=by unfold nz;by_cases a:z=(0,0);have:bf z d=aQ:=(by cases b:bf z d;rfl;have:=(CQ h z).1 b;grind);grind;simp[a]
theorem vK(d:O):bh (0,0) d=aQ:=by unfold bh;rw[(vJ d).2.2.1];simp
theorem ab0(h:bF d):bf (neg d) (0,0)=aQ:=by cases a:bf (neg d) (0,0);rfl;have:=(G2 h (0,0)).1 a;have:=(vJ d).2.1;omega
theorem ab1{n:N3}(h:bF d):
  AS (o rg) n (λz=>nz z&&bf z (neg d))+AS (o rg) n (λz=>bh z<|neg d)= -AS (o rg) n (λz=>bf (neg d) z):=by have b:AS (o rg) n nz=AS (o rg) n (λz=>nz z&&(bf z (neg d)||bh z (neg d)))+AS (o rg) n (λz=>bf (neg d) z):=(by refine yM λz=>?_;by_cases a:z=(0,0);rw[a,ab0 h];rfl;have k:=ik a<|iz<|jg h;have:nz z=aP:=ff a;rw[this];unfold bb at*;grind);have c:AS (o rg) n (λz=>nz z&&(bf z (neg d)||bh z (neg d)))=AS (o rg) n (λz=>nz z&&bf z (neg d))+AS (o rg) n (λz=>bh z<|neg d):=(by refine yM λz=>?_;by_cases a:z=(0,0);rw[a,vK];rfl;have k:=ik a<|iz<|jg h;have:nz z=aP:=ff a;rw[this];unfold bb at*;grind);have:=G4 rg n;omega
theorem par{D:O}(e:D≠(0,0))(a:L D r=0)(b:L D s=0):L r s=0/\i D r*i D s=i D D*i r s:=by have c:i D D*L r s=L D s*i D r-L D r*i D s:=(by unfold L i;grind);have d:i D r*i D s=i D D*i r s-L D r*L D s:=(by unfold L i;grind);rw[a,b] at c;rw[a,b] at d;have:=dz (z:=L r s)<|dI e;omega
theorem qm{D:O}(c:D≠(0,0))(d:L D r=0)(e:L D s=0):on r s=aP↔i D r*i D s<=0:=by obtain⟨a,b⟩:=par c d e;rw[hJ,b];have:=bI (z:=i r s)<|dI c;omega
theorem yN(c:0<a)(d:0<b):¬a*b<=0:=by have:=bD c d;omega
theorem vL(c:a<0)(d:b<0):¬a*b<=0:=by have:=EY c d;omega
theorem vM(c:a<=0)(d:0<=b):a*b<=0:=su c d
theorem CS(c:0<=a)(d:b<=0):a*b<=0:=An c d
theorem place{f t:N3}(a:0<f.2.2)(d:0<t.2.2)(m:bF (wv f t)){z:O}(e:kj f t (wv f t) z)(h:lam (wv f t) f z=0):
  (i (wv f t) (rl f z)<=0/\i (wv f t) (rl (bo f t) z)<0/\i (wv f t) (rl t z)<0)\/(0<i (wv f t) (rl f z)/\0<i (wv f t) (rl (bo f t) z)/\0<=i (wv f t) (rl t z)):=by have r:=dI<|jg m;have c:=jY f t z;have b:=jY f (bo f t) z;rw[OY] at b;have l:(bo f t).2.2=f.2.2+t.2.2:=rfl;rw[l] at b;have k:=e h;generalize g:wv f t=D at*;have n:f.2.2*i D (rl t z)=t.2.2*i D (rl f z)-i D D:=(by have:f.2.2*i D (rl t z)=D.1*(f.2.2*(rl t z).1)+D.2*(f.2.2*(rl t z).2):=(by unfold i;grind);rw[this,c.1,c.2];unfold i;grind);have p:f.2.2*i D (rl (bo f t) z)=(f.2.2+t.2.2)*i D (rl f z)-i D D:=(by have:f.2.2*i D (rl (bo f t) z)=D.1*(f.2.2*(rl (bo f t) z).1)+D.2*(f.2.2*(rl (bo f t) z).2):=(by unfold i;grind);rw[this,b.1,b.2];unfold i;grind);have s:=neg_mul (z:=i D<|rl t z) a;have v:=bI (z:=i D<|rl t z) a;have x:=neg_mul (z:=i D<|rl (bo f t) z) a;have B:=bI (z:=i D<|rl (bo f t) z) a;have P:=bI (z:=i D<|rl f z) d;have Q:=bI (z:=i D<|rl f z) a;grind
theorem CT{f t:N3}(d:0<f.2.2)(B:0<t.2.2)(l:bF (wv f t)){u:O}(r:ju f t (wv f t) u v)(s:¬(lam (wv f t) f u=0/\lam (wv f t) f v=0)):on (rl (bo f t) u) (rl (bo f t) v)=aQ:=by have e:0<(bo f t).2.2:=(by show 0<f.2.2+t.2.2;omega);have c:=CO l;obtain⟨m,n⟩:=vI d B e r c<|G0 l;have:=mw d e c u;have:=mw d e c v;cases h:on (rl (bo f t) u) (rl (bo f t) v);rfl;exfalso;obtain⟨a,b⟩:=(hJ _ _).1 h;have g:=rB (D:=wv f t) a;have k:=CP (D:=wv f t) a;have p:=rB (D:=wv f t)<|oP a;have q:=CP (D:=wv f t)<|oP a;rw[iy] at p q;unfold lam at*;omega
theorem CU{D:O}(c:on r s=aP)(b:L s D=0)(d:s≠(0,0)):L D r=0/\L D s=0:=by have a:L D s=0:=oP b;have e:=ql (D:=D)<|oP<|((hJ _ _).1 c).1;rw[a] at e;have p:=dz (z:=L D r)<|dI d;grind
theorem oR(r s:O):on r s=on s r:=by unfold on;rw[da r s,iy];simp
theorem dE(z w:O):bh z w=aP↔L z w=0/\0<i z w:=by unfold bh;simp
theorem nY{f t:N3}(a:0<f.2.2)(c:0<t.2.2)(b:bF (wv f t))(z:O):lam (wv f t) t z=0↔lam (wv f t) f z=0:=by have:=mw a c (tM b) z;omega
theorem rD{f t:N3}(a:0<f.2.2)(c:0<t.2.2)(b:bF (wv f t))(z:O):lam (wv f t) (bo f t) z=0↔lam (wv f t) f z=0:=by have:=mw a (show 0<(bo f t).2.2 by show 0<f.2.2+t.2.2;omega) (CO b) z;omega
theorem O1{f t:N3}(d:0<f.2.2)(e:0<t.2.2)(a:bF (wv f t)){u:O}(T:ju f t (wv f t) u v)(V:kj f t (wv f t) u)(W:kj f t (wv f t) v):
  fb (bo f t) (wv f t) u v=arm (λz=>bh z<|wv f t) f u v/\fb (bo f t) (wv f t) u v= -arm (λz=>bh z<|neg<|wv f t) t u v:=by have K:0<(bo f t).2.2:=(by show 0<f.2.2+t.2.2;omega);have F:=jg a;by_cases p:lam (wv f t) f u=0/\lam (wv f t) f v=0;obtain⟨x,B⟩:=p;have X:=place d e a V x;have Y:=place d e a W B;have M:=(nY d e a u).2 x;have N:=(nY d e a v).2 B;have G:(bo f t).2.2*((wv f t).1*(v.1-u.1)+(wv f t).2*(v.2-u.2))=i (wv f t) (rl (bo f t) v)-i (wv f t) (rl (bo f t) u):=(by unfold i rl rel;grind);have Z:=bI (z:=(wv f t).1*(v.1-u.1)+(wv f t).2*(v.2-u.2)) K;have s2:=neg_mul (z:=(wv f t).1*(v.1-u.1)+(wv f t).2*(v.2-u.2)) K;rw[G] at Z s2;have oq:=qm F ((rD d e a u).2 x)<|(rD d e a v).2 B;have I:=qm F x B;have J:=qm F M N;have w:=dE (rl f u)<|wv f t;have y:=dE (rl f v)<|wv f t;have P:=dE (rl t u)<|neg<|wv f t;have Q:=dE (rl t v)<|neg<|wv f t;rw[e9,jJ] at P Q;rw[iy] at w y;rw[iy<|rl t u] at P;rw[iy<|rl t v] at Q;have c3:L (rl t u) (wv f t)=0:=oP M;have c4:L (rl t v) (wv f t)=0:=oP N;unfold fb arm;dsimp only;generalize wv f t=D at*;rcases X with⟨R,S,A⟩|⟨R,S,A⟩<;>rcases Y with⟨j,o,C⟩|⟨j,o,C⟩;have g:on (rl (bo f t) u) (rl (bo f t) v)=aQ:=(by cases h:on (rl (bo f t) u) (rl (bo f t) v);rfl;exact absurd (oq.1 h)<|vL S o);grind;have g:=oq.2<|vM (dU S)<|dU o;have l:=I.2<|vM R<|dU j;have H:=J.2<|vM (dU A) C;have b:bh (rl f u) D=aQ:=(by grind);have c:bh (rl f v) D=aP:=y.2 ⟨(oP B),j⟩;have m:bh (rl t u) (neg D)=aP:=P.2 ⟨U,U⟩;have n:bh (rl t v) (neg D)=aQ:=(by grind);have sg:(D.1*(v.1-u.1)+D.2*(v.2-u.2)).sign=1:=kw U;rw[g,l,H,b,c,m,n,sg];decide;have g:=oq.2<|CS (dU S)<|dU o;have l:=I.2<|CS (dU R) j;have H:=J.2<|CS A<|dU C;have b:bh (rl f u) D=aP:=w.2 ⟨(oP x),R⟩;have c:bh (rl f v) D=aQ:=(by grind);have m:bh (rl t u) (neg D)=aQ:=(by grind);have n:bh (rl t v) (neg D)=aP:=Q.2 ⟨U,U⟩;have sg:(D.1*(v.1-u.1)+D.2*(v.2-u.2)).sign= -1:=qN U;rw[g,l,H,b,c,m,n,sg];decide;have g:on (rl (bo f t) u) (rl (bo f t) v)=aQ:=(by cases h:on (rl (bo f t) u) (rl (bo f t) v);rfl;exact absurd (oq.1 h)<|yN S o);have l:on (rl f u) (rl f v)=aQ:=(by cases h:on (rl f u) (rl f v);rfl;exact absurd (I.1 h)<|yN R j);grind;have g:=CT d e a T p;have zf:arm (λz=>bh z<|wv f t) f u v=0:=(by unfold arm;dsimp only;cases r:on (rl f u) (rl f v);rfl;have b:bh (rl f u) (wv f t)=aQ:=(by cases h:bh (rl f u) (wv f t);rfl;exfalso;obtain⟨k,s⟩:=(dE _ _).1 h;have:=CU (by rw[oR];exact r) k<|qk (D:=wv f t) (by rw[iy];omega);exact p ⟨this.2,this.1⟩);have c:bh (rl f v) (wv f t)=aQ:=(by cases h:bh (rl f v) (wv f t);rfl;exfalso;obtain⟨k,s⟩:=(dE _ _).1 h;have:=CU r k<|qk (D:=wv f t) (by rw[iy];omega);exact p ⟨this.1,this.2⟩);grind);have zt:arm (λz=>bh z<|neg<|wv f t) t u v=0:=(by have q:¬(lam (wv f t) t u=0/\lam (wv f t) t v=0):=(by rw[nY d e a,nY d e a];exact p);unfold arm;dsimp only;cases r:on (rl t u) (rl t v);rfl;have b:bh (rl t u) (neg<|wv f t)=aQ:=(by cases h:bh (rl t u) (neg<|wv f t);rfl;exfalso;obtain⟨k,s⟩:=(dE _ _).1 h;rw[e9] at k;rw[jJ] at s;have:=CU (D:=wv f t) (by rw[oR];exact r) U<|qk (D:=wv f t) (by rw[iy];omega);exact q ⟨this.2,this.1⟩);have c:bh (rl t v) (neg<|wv f t)=aQ:=(by cases h:bh (rl t v) (neg<|wv f t);rfl;exfalso;obtain⟨k,s⟩:=(dE _ _).1 h;rw[e9] at k;rw[jJ] at s;have:=CU (D:=wv f t) r U<|qk (D:=wv f t) (by rw[iy];omega);exact q ⟨this.1,this.2⟩);grind);rw[zf,zt];unfold fb;grind
structure kV(es:V (O×O))(f t:N3):Prop where
 pf:0<f.2.2
 pt:0<t.2.2
 r:bF (wv f t)
 s:∀e∈es,ju f t (wv f t) e.1 e.2
 c:∀e∈es,kj f t (wv f t) e.1/\kj f t (wv f t) e.2
def RR(es:V (O×O))(f t:N3):Int:=PP es<|bo f t
def LL(es:V (O×O))(f t:N3):Int:=PP es (bo f t)+total (fb (bo f t)<|wv f t) es
theorem oS{f t:N3}(h:kV (o rg) f t):RR (o rg) f t=dA (o rg) f (wv f t)/\LL (o rg) f t=dZ (o rg) f (wv f t):=by have:=abY h.pf h.pt h.r h.s;have b:total (fb (bo f t)<|wv f t) (o rg)=AS (o rg) f (λz=>bh z<|wv f t):=kI λe a=>(O1 h.pf h.pt h.r (h.s e a) (h.c e a).1 (h.c e a).2).1;have c:AS (o rg) f (λz=>nz z&&bf z (wv f t))=AS (o rg) f (λz=>bf z<|wv f t):=CR λe _ _=>⟨O0 h.r,O0 h.r⟩;unfold RR LL dA dZ dA;omega
theorem tN{f t:N3}(h:kV (o rg) f t):RR (o rg) f t=dZ (o rg) t (neg<|wv f t)/\LL (o rg) f t=dA (o rg) t (neg<|wv f t):=by have:=abZ h.pf h.pt h.r h.s;have b:total (fb (bo f t)<|wv f t) (o rg)= -AS (o rg) t (λz=>bh z<|neg<|wv f t):=(by unfold AS;rw[<-G3];exact kI λe a=>(O1 h.pf h.pt h.r (h.s e a) (h.c e a).1 (h.c e a).2).2);have:=ab1 (rg:=rg) (n:=t) h.r;unfold RR LL dZ dA;omega
theorem ab2(x y z:O):L x z*y.1=L x y*z.1+L y z*x.1:=by unfold L;grind
theorem tO(h:bF x):0<=x.1:=by rcases h with h|⟨h,_⟩<;>omega
theorem O2{y:O}(c:bF x)(d:bF y)(h:0<L x y):0<x.1:=by rcases c with a|⟨a,b⟩;exact a;exfalso;have:=gM (dU b)<|tO d;unfold L at h;grind
theorem CV{y z:O}(l:bF x)(d:bF y)(g:bF z):(0<L x y->0<=L y z->0<L x z)/\(0<=L x y->0<L y z->0<L x z)/\(L x y=0->L y z=0->L x z=0):=by
 have e:=ab2 x y z;have R:=tO l;have:=tO d;have S:=tO g;refine⟨λa b=>?_,λa b=>?_,λa b=>?_⟩
 .have f:=O2 l d a;rcases d with q|⟨q,c⟩;rcases g with r|⟨r,m⟩;have B:=bD a r;have P:=gM b R;have k:=bI (z:=L x z) q;grind;have:0<x.1*z.2:=bD f m;unfold L;grind
  ·
   have v:0<=y.1*z.2-y.2*z.1:=b;rw[q] at v;have:z.1=0:=by
    rcases dG z.1 0 with h|h|h
    .omega
    .exact h
    .have:=bD c h;omega
   rcases g with r|⟨r,m⟩
   .omega
   .have:0<x.1*z.2:=bD f m;unfold L;grind
 have f:=O2 d g b;have Q:0<x.1:=(by rcases l with q|⟨q,c⟩;exact q;exfalso;have:0<x.2*y.1:=bD c f;unfold L at a;grind);have B:=gM a S;have P:=bD b Q;have k:=bI (z:=L x z) f;grind;rw[a,b] at e;rcases d with q|⟨q,c⟩;have k:=dz (z:=L x z) q;grind;unfold L at a b⊢;rw[q] at a b;have n:=dz (z:=x.1) c;have p:=dz (z:=z.1) c;grind
theorem kX{z w:O}:bf z w=aP↔(bF z/\¬bF w)\/((bF z↔bF w)/\0<L z w):=by have a:=rC z;have b:=rC w;unfold bf;grind
theorem gA{y z:O}(f:x≠(0,0))(g:y≠(0,0))(h:z≠(0,0))(d:bf x y=aP)(e:bf y z=aP):bf x z=aP:=by rw[kX] at*;by_cases a:bF x<;>by_cases b:bF y<;>by_cases c:bF z;have:=CV a b c;grind;grind;grind;grind;grind;grind;grind;have:=CV (fN f a) (fN g b)<|fN h c;simp only[e8,e9,Int.neg_neg] at this;grind
theorem mP(x:O):bf x x=aQ:=by
 have:L x x=0:=by unfold L;grind
 unfold bf;grind
theorem yO{y:O}(a:x≠(0,0))(c:y≠(0,0))(h:bf x y=aP):bf y x=aQ:=by cases b:bf y x;rfl;have:=gA a c a h b;rw[mP] at this;grind
def arms(es:V (O×O))(n:N3):V O:=((es.filter λe=>on (rl n e.1)<|rl n e.2).flatMap λe=>[rl n e.1,rl n e.2]).filter nz
theorem jx{es:V (O×O)}{n:N3}{z:O}:z∈arms es n↔z≠(0,0)/\∃e∈es,on (rl n e.1) (rl n e.2)=aP/\(z=rl n e.1\/z=rl n e.2):=by unfold arms;rw[et,lw];constructor;rintro⟨⟨e,a,c⟩,b⟩;obtain⟨d,f⟩:=et.1 a;exact⟨ft b,e,d,f,by grind⟩;rintro⟨b,e,a,g,c⟩;exact⟨⟨e,et.2 ⟨a,g⟩,by grind⟩,ff b⟩
theorem vN{es:V (O×O)}{n:N3}{Q Q':O->Bool}(c:Q (0,0)=Q' (0,0))(h:∀z∈arms es n,Q z=Q' z):AS es n Q=AS es n Q':=by refine CR λe d f=>?_;have a:∀z,z=rl n e.1\/z=rl n e.2->Q z=Q' z:=λz g=>(by by_cases b:z=(0,0);grind;exact h z (jx.2 ⟨b,e,d,f,g⟩));grind
theorem G5(es:V (O×O))(n:N3):AS es n (λ_=>aQ)=0:=rz λe _=>by unfold arm;simp
theorem tP{α:Type}{p q:α->Bool}:∀(l:V α),(∀x∈l,q x=aP->p x=aP)->(∃x∈l,p x=aP/\q x=aQ)->l.countP q<l.countP p
 |[],_,h=>by grind
 |a::l,d,n=>by obtain⟨x,c,k,m⟩:=n;have:l.countP q<=l.countP p:=ajq λb g=>d b<|bW _ g;rcases bK.1 c with e|c;grind;have:=tP l (λb g=>d b<|bW _ g) ⟨x,c,k,m⟩;grind
def jK(d a z:O):Bool:=bf d z&&bf z a
theorem G6{es:V (O×O)}{n:N3}{d':O}(l:d≠(0,0))(b:d'≠(0,0))(h:bf d d'=aP)(R:∀z∈arms es n,jK d d' z=aQ):dZ es n d=dA es n d':=by
 have e:AS es n (λz=>nz z&&bf z d')=AS es n (λz=>nz z&&bf z d)+AS es n (λz=>bh z d):=by
  have P:AS es n (λz=>nz z&&bf z d')=AS es n (λz=>nz z&&(bf z d||bh z d)):=vN rfl λz f=>by
   have a:=(jx.1 f).1;have c:=R z f;have:nz z=aP:=ff a;rw[this,wW,wW];have k:=ik a l;unfold jK at c;cases t:bf z d'
   .have p:bf z d=aQ:=(by cases p:bf z d;rfl;have:=gA a l b p h;rw[t] at this;cases this)
    have r:bh z d=aQ:=by
     cases r:bh z d;rfl
     .exfalso;obtain⟨j,o⟩:=(dE z d).1 r;have x:=ik a b;rw[t] at x;have g:bf d' z=aP\/bh z d'=aP:=(by revert x;cases bh z d'<;>cases bf d' z<;>decide);rcases g with g|g;have:=gA l b a h g;rw[this,r,p] at k;revert k;decide
      ·
       obtain⟨u,w⟩:=(dE z d').1 g;have S:L d z=0:=by rw[da];omega
       have v:L d d'=0:=by
        have:=ql (D:=d) u;rw[S] at this;have q:=dz (z:=L d d')<|dI a;rw[dw] at q;exact q.1 U
       have m:0<i d d':=by
        have s:i d d'*i z z=i z d*i z d'+L z d*L z d':=by unfold i L;grind
        rw[j] at s;have:=bD o w;have q:=bI (z:=i d d')<|dI a;rw[dw] at q;exact q.1 U
       have B:=ik l b;have Q:bh d d'=aP:=(dE _ _).2 ⟨v,m⟩;rw[h,Q] at B;revert B;cases bf d' d<;>decide
    rw[p,r];rfl
   rw[t,anu] at c;rw[c] at k;revert k;cases bf z d<;>cases bh z d<;>decide
  have s:AS es n (λz=>nz z&&(bf z d||bh z d))=AS es n (λz=>nz z&&bf z d)+AS es n (λz=>bh z d):=(by refine yM λz=>?_;by_cases f:z=(0,0);rw[f,vK];rfl;have k:=ik f l;have:nz z=aP:=ff f;rw[this];revert k;cases bf z d<;>cases bh z d<;>cases bf d z<;>decide);rw[P,s]
 unfold dZ dA;omega
end W
end Go.Proofs.YtkjhhooecopolaaGreatDoor
