import Derived.Test.YtkjhhooecopolaaGreatDoorAz38
set_option maxRecDepth 100000
set_option maxHeartbeats 4000000
namespace Go.Proofs.YtkjhhooecopolaaGreatDoor
open Value renaming complex->A
open Go renaming World->G,Value->Y
open Option renaming some->K
open Bool renaming true->aP,false->aQ
section
namespace Gb
open N W
theorem LR.agQ{S:V w}{nx:w->w}(h:Wd S nx){R:V w}(k:LR S nx R):3<=(fQ R).length:=by obtain⟨a,T,t,c,rfl,j,o,H⟩:=k.wf h;rw[o];cases c with|cons d c=>simp|nil=>exfalso;have P:(a::T).getLast?=K (T.getLastD a):=(by rw[List.getLast?_cons,jF]);have N:=k.ring.mem _<|oD P;have B:=k.ring.mem a E;have n:=k.ring.path (a:=a) rfl;have F:∀(T:V w)(b:w)(e:O),b∈S->(∀s∈T,s∈S)->Path b.2 T e->∀t,tG b T=[t]->bh (dr (t.1,e)) (dr<|T.getLastD b)=aP:=(by intro T;induction T with|nil=>intro b e _ _ _ t p;simp[tG] at p|cons s T W=>intro b e hb v n t p;have m:=v s E;have l:∀x∈T,x∈S:=λx M=>v x<|bW _ M;rw[List.getLastD_cons];have f:(if L (dr b) (dr s)=0 then tG s T else s::tG s T)=[t]:=p;by_cases q:L (dr b) (dr s)=0;rw[y q] at f;exact W s e m l n.2 t f;rw[X q] at f;injection f with G r;subst G;have Y:=(h.Hw T s e m l n.2).1 r;have Q:=h.DU T s s e m l n.2<|we<|h.aaT m;rw[r] at Q;exact zg Y Q);have g:=F T a a.1 B (λs m=>k.ring.mem s<|bW _ m) n.2 t j;have z2:a.1=(T.getLastD a).2:=(k.ring.cls _ a P rfl).1;have i:=h.two a B _ N z2;have e:dr (t.1,a.1)=neg (dr (a.1,t.1)):=mS (a.1,t.1);rw[e] at g;have z:bh (dr (a.1,t.1)) (neg<|dr<|T.getLastD a)=aP:=(by rw[dE] at g⊢;rw[e8,nX] at g;rw[e9,jJ];omega);rw[zg (zh H) z] at i;cases i
end Gb
open N Go.RowKit
def cq(c:V Nd):V Qt:=(c++c.take 1).map T
def pq(p:Gb.NP):V (V Qt):=(p.1::p.2).map cq
def oq(p:Gb.NP):V (V Qt):=(p.1::p.2).map (·.map T)
theorem Tw{F:V Gb.NP}(h:F≠[]):Gb.pe F=Pl.fA++([32,40]++(Pl.df Pl.pX (F.map pq)++[41])):=by have e:(F.map λp=>qC (Gb.sf p.1)<|p.2.map Gb.sf)=(F.map pq).map Pl.pX:=(by rw[eS];refine abH λp _=>?_;show qC (Gb.sf p.1) (p.2.map Gb.sf)=Pl.pX (pq p);unfold qC Pl.pX;rw[<-Gb.zL];unfold pq;rw[eS];rfl);unfold Gb.pe wJ;rw[e,X (by simpa using h),Gb.zL];simp[r8,Pl.fA]
def jT{α:Type}(f:α->V UInt8):Bool->V α->V UInt8
 |_,[]=>[41]
 |b,x::a=>(if b then[] else[44,32])++(f x++jT f aQ a)
theorem Je{α:Type}(f:α->V UInt8):∀a:V α,jT f aP a=Pl.df f a++[41]
 |[]=>rfl
 |[x]=>by simp[jT,Pl.df]
 |x::y::a=>by have b:=Je f (y::a);simp[jT,Pl.df] at b⊢;exact b
theorem Ty(a:Qt):∀g:V Qt,nT a g=Pl.df Pl.fC (g++[a])++[41]
 |[]=>rfl
 |[x]=>by simp[nT,Pl.df]
 |x::y::g=>by have b:=Ty a (y::g);simp[nT,Pl.df] at b⊢;exact b
def rO(g:V Qt):V UInt8:=[40]++nT (g.headD ((0,1),(0,1))) g
def pO(a:V (V Qt)):V UInt8:=[40]++iT aP a
theorem Tz:∀(b:Bool)(a:V (V Qt)),iT b a=jT rO b a
 |_,[]=>rfl
 |b,g::a=>by unfold iT jT rO;rw[Tz aQ a,aaU];rfl
theorem TB:∀(b:Bool)(ps:V (V<|V Qt)),oT b ps=jT pO b ps
 |_,[]=>rfl
 |b,p::ps=>by unfold oT jT pO;rw[TB aQ ps,aaU];rfl
theorem TC{α β:Type}{f:α->V UInt8}{g:β->V UInt8}:∀{a:V α}{b:V β},a.map f=b.map g->Pl.df f a=Pl.df g b:=λ{a b} h=>by
 rw[<-Gb.zL,<-Gb.zL,h]
theorem agR{c:V Nd}(h:c≠[]):rO (c.map T)=Pl.rX (cq c):=by cases c with|nil=>exact absurd rfl h|cons a r=>unfold rO Pl.rX cq;rw[Ty];simp
theorem agS{F:V Gb.NP}(h:F≠[])(a:∀p∈F,p.1≠[]/\∀g∈p.2,g≠[]):Gb.pe F=r8++oT aP (F.map oq):=by
 rw[Tw h,TB,Je];have e:Pl.df pO (F.map oq)=Pl.df Pl.pX (F.map pq):=TC (by
  rw[eS,eS];refine abH λp b=>?_;show pO (oq p)=Pl.pX (pq p);unfold pO Pl.pX;rw[Tz,Je];have d:Pl.df rO (oq p)=Pl.df Pl.rX (pq p):=TC (by
   unfold oq pq;rw[eS,eS];refine abH λc f=>?_;show rO (c.map T)=Pl.rX (cq c);refine agR ?_;rcases bK.1 f with q|q
   .rw[q];exact(a p b).1
   .exact(a p b).2 c q)
  rw[d];rfl)
 rw[e];simp[r8,Pl.fA]
theorem Ec{α:Type}{f:α->V UInt8}(b:∀x,1<=(f x).length):∀a:V α,a.length<=(Pl.df f a).length
 |[]=>E
 |[x]=>by simpa[Pl.df] using b x
 |x::y::a=>by have c:=Ec b (y::a);simp[Pl.df] at c⊢;omega
theorem Jf{α:Type}{f:α->V UInt8}:∀{a:V α}{x:α},x∈a->(f x).length<=(Pl.df f a).length
 |[],_,h=>by simp at h
 |[y],x,h=>by have:x=y:=(by simpa using h);rw[this];exact aX _
 |y::z::a,x,h=>by rcases bK.1 h with q|q;rw[q];simp[Pl.df];have b:=Jf (f:=f) q;simp[Pl.df] at b⊢;omega
theorem Ee{n d:Int}(f:0<d):(bu n d).1.natAbs<=n.natAbs/\(bu n d).2<=d/\0<(bu n d).2:=by obtain⟨g,k,a,b,c⟩:=kE (n:=n) (d:=d) U;have l:0<g:=c.2 f;have h:=(lG (n:=n) (d:=d) U).pos;refine⟨?_,?_,h⟩;have e:=bd Int.natAbs a;rw[kz] at e;rw[e];exact Kj _ U;have:=Vt (show 1<=g by omega) (show 0<=(bu n d).2 by omega);rw[ui,<-b] at this;exact this
theorem TD{n:Nd}(c:N.Can n)(a:iI n):Pl.Jd (T n):=by have b:=c.pos;have:=Ee (n:=n.1) b;have:=Ee (n:=n.2.1) b;have:=a.x;have:=a.y;have:=a.d;refine⟨⟨lG U,?_,?_⟩,⟨lG U,?_,?_⟩⟩;show -10000000<=(bu n.1 n.2.2).1/\(bu n.1 n.2.2).1<=10000000;omega;show(bu n.1 n.2.2).2<=1000000;omega;show -10000000<=(bu n.2.1 n.2.2).1/\(bu n.2.1 n.2.2).1<=10000000;omega;show(bu n.2.1 n.2.2).2<=1000000;omega
theorem TE{q:Qt}(h:Pl.Jd q):cS q:=⟨h.1.n,⟨h.1.red.pos,h.1.d⟩,h.2.n,⟨h.2.red.pos,h.2.d⟩⟩
structure Jg(F:V Gb.NP):Prop where
 q:∀p∈F,∀c∈p.1::p.2,3<=c.length/\∀n∈c,Pl.Jd (T n)
end
section
open N
namespace Gb
open W
theorem zM{M:Int}(m:0<M){a:Nd}(b:OK M a):0<(T a).1.2/\0<(T a).2.2/\(PM M a).1*(T a).1.2=(T a).1.1*M/\(PM M a).2*(T a).2.2=(T a).2.1*M:=by obtain⟨k,_,c,e⟩:=od m b.p b.d;obtain⟨g,_,s,t,v⟩:=kE (n:=a.1) (d:=a.2.2) (by have:=b.p;omega);obtain⟨r,_,f,h,l⟩:=kE (n:=a.2.1) (d:=a.2.2) (by have:=b.p;omega);have p:=(lG (n:=a.1) (d:=a.2.2) (by have:=b.p;omega)).pos;have q:=(lG (n:=a.2.1) (d:=a.2.2) (by have:=b.p;omega)).pos;refine⟨p,q,?_,?_⟩;rw[e];show a.1*k*(bu a.1 a.2.2).2=(bu a.1 a.2.2).1*M;rw[<-c];grind;rw[e];show a.2.1*k*(bu a.2.1 a.2.2).2=(bu a.2.1 a.2.2).1*M;rw[<-c];grind
theorem xP{x:Int}:(0<x.sign↔0<x)/\(x.sign<0↔x<0)/\(x.sign=0↔x=0):=by rcases dG x 0 with q|q|q;rw[qN q];omega;subst q;simp;rw[kw q];omega
theorem Ef{M x y A B p q:Int}(a:0<M)(b:0<p)(c:0<q)(d:A*p=x*M)(f:B*q=y*M):(0<fc (x,p) (y,q)↔B<A)/\(fc (x,p) (y,q)<0↔A<B)/\(fc (x,p) (y,q)=0↔A=B):=by
 unfold fc;simp only;have e:M*(x*q-y*p)=(p*q)*(A-B):=by grind
 have s:=gC a (bD b c) e;have t:=xP (x:=x*q-y*p);refine⟨t.1.trans<|s.1.trans U,t.2.1.trans<|s.2.1.trans U,t.2.2.trans<|s.2.2.trans U⟩
theorem agT{M:Int}(c:0<M){a b:Nd}(x:OK M a)(B:OK M b):(0<pc (T a) (T b)↔bF (dr (PM M b,PM M a)))/\(pc (T a) (T b)=0↔PM M a=PM M b):=by obtain⟨h,k,l,m⟩:=zM c x;obtain⟨n,p,r,s⟩:=zM c B;obtain⟨e,P,d⟩:=Ef c h n l r;obtain⟨f,Q,g⟩:=Ef c k p m s;have t:fc ((T a).1.1,(T a).1.2) ((T b).1.1,(T b).1.2)=fc (T a).1 (T b).1:=rfl;have v:fc ((T a).2.1,(T a).2.2) ((T b).2.1,(T b).2.2)=fc (T a).2 (T b).2:=rfl;rw[t] at e P d;rw[v] at f Q g;unfold pc bF dr;simp only;by_cases q:fc (T a).1 (T b).1=0;rw[y q];have:=d.1 q;refine⟨by rw[f];omega,by rw[g];exact⟨λz=>dj this z,λz=>by rw[z]⟩⟩;rw[X q];have:(PM M a).1≠(PM M b).1:=λz=>q<|d.2 z;refine⟨by rw[e];omega,⟨λz=>absurd z q,λz=>absurd (by rw[z]) this⟩⟩
end Gb
end
end Go.Proofs.YtkjhhooecopolaaGreatDoor
