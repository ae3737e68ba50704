import Derived.Test.YtkjhhooecopolaaGreatDoorSz09
set_option maxRecDepth 100000
set_option maxHeartbeats 4000000
namespace Go.Proofs.YtkjhhooecopolaaGreatDoor
open Tryz
open Value renaming int->az,complex->aA,float->aB,agg->aC,bool->aD,string->aF,slice->aG,pointer->aH,tuple->aI
open IntKind renaming i64->aJ
open FloatKind renaming f64->aK
open Ending renaming returned->aL
open Go renaming World->aM,Value->aN,floatOfInt->aO
namespace Gb
open Ge Ga
variable{n:N3}
theorem acn{s t:Sg}(hp:Pf s t)(hr:bz (dr s))(hn:0<n.2.2)(h1:on (rl n s.1) (rl n s.2)=true)(h2:on (rl n t.1) (rl n t.2)=true)(hc:cr (dr s) (dr t)≠0):rl n s.1=(0,0)\/rl n s.2=(0,0):=by
 apply iV;intro hno;have x0:rl n s.1≠(0,0):=λq=>hno (aS q)
 have y0:rl n s.2≠(0,0):=λq=>hno (aR q)
 obtain⟨o1,o2⟩:=(jX _ _).1 h1;have dx:=Ga.dC x0;have dy:=Ga.dC y0;have hx:wv (n1 s.1) n=neg (rl n s.1):=by unfold wv n1 rl rel neg;exact dN (by simp only;omega) (by simp only;omega)
 have hy:wv n (n1 s.2)=rl n s.2:=by unfold wv n1 rl rel;exact dN (by simp only;omega) (by simp only;omega)
 have c1:n.2.2*cr (dr s) (neg (rl n s.1))=cr (rl n s.1) (rl n s.2):=by unfold cr dr neg rl rel;simp only;grind
 have c2:n.2.2*dt (dr s) (neg (rl n s.1))=dt (rl n s.1) (rl n s.1)-dt (rl n s.1) (rl n s.2):=by unfold dt dr neg rl rel;simp only;grind
 have c3:n.2.2*cr (dr s) (rl n s.2)= -cr (rl n s.1) (rl n s.2):=by unfold cr dr rl rel;simp only;grind
 have c4:n.2.2*dt (dr s) (rl n s.2)=dt (rl n s.2) (rl n s.2)-dt (rl n s.1) (rl n s.2):=by unfold dt dr rl rel;simp only;grind
 have b1:Behind (n1 s.1) n (dr s):=by
  refine ql hr ?_ ?_
  .rw[hx];exact(dP hn).1 aa
  .rw[hx];exact(bT hn).1 aa
 have b2:Behind n (n1 s.2) (dr s):=by
  refine ql hr ?_ ?_
  .rw[hy];exact(dP hn).1 aa
  .rw[hy];exact(bT hn).1 aa
 obtain⟨f1,f2⟩:=Dr (show(0:Int)<1 by decide) (show(0:Int)<1 by decide) hn hp.fs b1 b2
 obtain⟨p1,p2⟩:=(jX _ _).1 h2;have hl:cr (dr s) (rl n t.2)-cr (dr s) (rl n t.1)=n.2.2*cr (dr s) (dr t):=by unfold cr dr rl rel;simp only;grind
 have hl0:n.2.2*cr (dr s) (dr t)≠0:=λq=>hc ((dP hn).1 q)
 unfold lam at f1 f2;rcases gf (cr (dr s) (rl n t.1)) 0 with q|q|q
 .exact f1 aa ((yU p1 q).1 p2) (by have:=(yU p1 q).1 p2;omega) p1
 .rcases Wy (show cr (dr s) (rl n t.2)≠0 by omega) with w|w
  .exact f2 aa aa aa p1
  .exact f1 aa aa aa p1
 .exact f2 ((Kk p1 q).1 p2) aa (by have:=(Kk p1 q).1 p2;omega) p1
section
variable{S:List Sg}{nx:Sg->Sg}
theorem Wd.meet(h:Wd S nx){s t:Sg}(hs:s∈S)(ht:t∈S){n:N3}(hn:0<n.2.2)(h1:on (rl n s.1) (rl n s.2)=true)(h2:on (rl n t.1) (rl n t.2)=true)(hc:cr (dr s) (dr t)≠0):rl n s.1=(0,0)\/rl n s.2=(0,0):=by
 by_cases hr:bz (dr s)
 .exact acn ((h.pf s hs t ht).1 hr) hr hn h1 h2 hc
 .have hr':bz (dr (rv s)):=by rw[rR];exact ie (h.gw hs) hr
  exact(acn (s:=rv s) ((h.pf s hs t ht).2 hr) hr' hn (by rw[uZ];exact h1) h2 (by rw[rR,fU];omega)).symm
theorem LR.turn(h:Wd S nx){a:Sg}{T:List Sg}(k:LR S nx (a::T)):cr (dr (T.getLastD a)) (dr a)≠0:=λq=>by
 have hl:(a::T).getLast?=some (T.getLastD a):=by rw[FK,nG]
 obtain⟨M,hg⟩:=k.rg h (a:=a) rfl hl;have k1:=h.DK hg.mz hg.ma hg.z2.symm q;exact MD ((Ce k1).2 (hg.Kz h)) (hg.KA h)
structure Rs(S:List Sg)(nx:Sg->Sg)(RL:List (List Sg)):Prop where
 lr:∀R∈RL,LR S nx R
 per:RL.flatten.Perm S
variable{RL:List (List Sg)}
theorem Rs.gpC(r:Rs S nx RL)(h:Wd S nx){a:Sg}{T:List Sg}(hR:a::T∈RL):closing (cM (a::T))=gp (λp=>(cM (a::T)).contains p) a.1 T a.1/\ID (λp=>(cM (a::T)).contains p) a T:=by
 have k:=r.lr _ hR;obtain⟨e1,e2⟩:=k.ring.M9 (k.turn h);constructor
 .rw[Tq];generalize hW:(λs:Sg=>(cM (a::T)).contains s.1)=W at*
  rw[e1];rfl
 .have:Cr (λb s=>(cM (a::T)).contains s.1=false->bg (dr b) (dr s)=true) a T:=by
   refine Cr.of λi s t h1 h2 hV=>?_
   have hs:=k.ring.mem s (bA h1);have ht:=k.ring.mem t (bA h2);refine h.DK hs ht (k.ring.od i s t h1 h2).1 ?_;apply iV;intro q;rw[(e2 i s t h1 h2).2 q] at hV;cases hV
  have conv:∀{W:Pt->Bool}{T:List Sg}{a:Sg},Cr (λb s=>W s.1=false->bg (dr b) (dr s)=true) a T->ID W a T:=by
   intro W T;induction T with
   |nil=>intro a _;trivial
   |cons x T ih=>intro a h;exact⟨h.1,ih h.2⟩
  exact conv this
theorem Tw{n:N3}(_hn:0<n.2.2){v z:Pt}(h:rl n v=(0,0)):rl n z=(n.2.2*(dr (v,z)).1,n.2.2*(dr (v,z)).2):=by
 have h1:=aZ Prod.fst h;have h2:=aZ Prod.snd h;unfold rl rel at h1 h2;unfold rl rel dr;simp only at h1 h2⊢;exact dN (by simp only;rw[rP];omega) (by simp only;rw[rP];omega)
theorem anl{n:N3}(hn:0<n.2.2){v:Pt}(h:rl n v=(0,0)){p q:Pt}(ho:on (rl n p) (rl n q)=true):on (dr (v,p)) (dr (v,q))=true:=by
 have k:∀z,Pm (dr (v,z)) (rl n z):=λz=>⟨n.2.2,1,hn,ah,by rw[Tw hn h];simp,by rw[Tw hn h];simp⟩
 rw[Pm.on (k p) (k q)];exact ho
end
def Ins(n:N3)(s:Sg):Prop:=on (rl n s.1) (rl n s.2)=true/\rl n s.1≠(0,0)/\rl n s.2≠(0,0)
def tg(W:Pt->Bool):Pt->List Sg->List (Pt×Sg)
 |_,[]=>[]
 |p,s::T=>(if W s.1 then s.1 else p,s)::tg W (if W s.1 then s.1 else p) T
theorem Ty(W:Pt->Bool):∀(T:List Sg)(p:Pt),(tg W p T).map Prod.snd=T
 |[],_=>rfl
 |s::T,p=>by
  unfold tg;rw[gM,Ty W T]
theorem Tz{W:Pt->Bool}(hn0:0<n.2.2):∀(T:List Sg)(b:Sg)(p c e:Pt),Path c T e->bg (dr (p,c)) (dr b)=true->(∀s∈T,s.1≠s.2)->ID W b T->∀g∈gp W p T e,Ins n g->
  (g.1=p/\Ins n (p,c))\/(∃s,(g.1,s)∈tg W p T/\Ins n s)\/∃(k:Nat)(x y:Sg),(b::T)[k]?=some x/\(b::T)[k+1]?=some y/\(g.1,y)∈tg W p T/\W y.1=false/\rl n y.1=(0,0)
 |[],b,p,c,e,hp,_,_,_,g,hg,ho=>by
  have:c=e:=hp;subst this;obtain rfl:g=(p,c):=by simpa[gp] using hg
  exact aS ⟨rfl,ho⟩
 |s::T,b,p,c,e,hp,hd,hn,hs,g,hg,ho=>by
  obtain⟨e1,hp'⟩:=hp;subst e1;have hn':∀s∈T,s.1≠s.2:=λx hx=>hn x (bV _ hx)
  have ds:dr s≠(0,0):=λq=>hn s af (lZ.1 q)
  unfold gp at hg;cases hW:W s.1
  .rw[hW,aP af] at hg
   have et:tg W p (s::T)=(p,s)::tg W p T:=by show(if W s.1 then s.1 else p,s)::tg W (if W s.1 then s.1 else p) T=_;rw[hW];rfl
   rw[et];have hd2:bg (dr (p,s.1)) (dr s)=true:=ve hd (hs.1 hW);rcases Tz hn0 T s p s.2 e hp' (by rw[KM p s.1 s.2];exact KJ hd2 (qK ds)) hn' hs.2 g hg ho with⟨q1,q2⟩|⟨t,ht,q⟩|⟨k,x,y,k1,k2,k3,k4⟩
   .by_cases z:rl n s.1=(0,0)
    .exact aR (aR ⟨0,b,s,rfl,rfl,by rw[q1];simp,hW,z⟩)
    .rcases anj hn0 (c:=s.1) (show bg (dr (p,s.1)) (dr (s.1,s.2))=true from hd2) q2.1 with w|w
     .exact aS ⟨q1,w,q2.2.1,z⟩
     .exact aR (aS ⟨s,by rw[q1];simp,w,z,q2.2.2⟩)
   .exact aR (aS ⟨t,bV _ ht,q⟩)
   .exact aR (aR ⟨k+1,x,y,by simpa using k1,by simpa using k2,bV _ k3,k4⟩)
  .rw[hW,aV rfl] at hg;have et:tg W p (s::T)=(s.1,s)::tg W s.1 T:=by show(if W s.1 then s.1 else p,s)::tg W (if W s.1 then s.1 else p) T=_;rw[hW];rfl
   rw[et];rcases bU.1 hg with q|q
   .subst q;exact aS ⟨rfl,ho⟩
   .rcases Tz hn0 T s s.1 s.2 e hp' (qK ds) hn' hs.2 g q ho with⟨q1,q2⟩|⟨t,ht,q⟩|⟨k,x,y,k1,k2,k3,k4⟩
    .exact aR (aS ⟨s,by rw[q1];simp,q2⟩)
    .exact aR (aS ⟨t,bV _ ht,q⟩)
    .exact aR (aR ⟨k+1,x,y,by simpa using k1,by simpa using k2,bV _ k3,k4⟩)
theorem Na(x y z:Pt):dt y y*cr x z=cr x y*dt y z+dt x y*cr y z/\dt y y*dt x z=dt x y*dt y z-cr x y*cr y z:=by
 unfold cr dt;constructor<;>grind
theorem Ca{D x y:Pt}(h0:D≠(0,0))(h1:cr D x=0)(h2:cr D y=0)(h3:dt D x*dt D y<=0):on x y=true:=by
 obtain⟨e1,e2⟩:=Na x D y;have d:=Ga.dC h0;rw[dh D x,h1,h2] at e1 e2;rw[jI x D] at e1 e2;refine(jX _ _).2 ⟨(dP d).1 (by rw[e1];simp),?_⟩
 apply iV;intro q;have:=bJ d (show 0<dt x y by omega)
 simp at e2;omega
theorem Nb{D:Pt}{s:Sg}(h1:cr D (rl n s.1)=0)(h2:cr D (rl n s.2)=0)(h3:dt D (rl n s.1)*dt D (rl n s.2)<0):Ins n s:=by
 have h0:D≠(0,0):=λe=>by rw[e] at h3;simp[dt] at h3
 refine⟨Ca h0 h1 h2 aa,λe=>?_,λe=>?_⟩
 .rw[e] at h3;simp[dt] at h3
 .rw[e] at h3;simp[dt] at h3
theorem Ins.line(hn:0<n.2.2){s:Sg}(h:Ins n s):cr (dr s) (rl n s.1)=0/\cr (dr s) (rl n s.2)=0/\dt (dr s) (rl n s.1)<0/\0<dt (dr s) (rl n s.2):=by
 obtain⟨o,x0,y0⟩:=h;obtain⟨o1,o2⟩:=(jX _ _).1 o;have dx:=Ga.dC x0;have dy:=Ga.dC y0;have c1:n.2.2*cr (dr s) (rl n s.1)= -cr (rl n s.1) (rl n s.2):=by unfold cr dr rl rel;simp only;grind
 have c2:n.2.2*dt (dr s) (rl n s.1)=dt (rl n s.1) (rl n s.2)-dt (rl n s.1) (rl n s.1):=by unfold dt dr rl rel;simp only;grind
 have c3:n.2.2*cr (dr s) (rl n s.2)= -cr (rl n s.1) (rl n s.2):=by unfold cr dr rl rel;simp only;grind
 have c4:n.2.2*dt (dr s) (rl n s.2)=dt (rl n s.2) (rl n s.2)-dt (rl n s.1) (rl n s.2):=by unfold dt dr rl rel;simp only;grind
 exact⟨(dP hn).1 aa,(dP hn).1 aa,(Ga.neg_mul hn).1 aa,(bT hn).1 aa⟩
theorem acp(a b:Pt)(D:Pt):n.2.2*cr D (dr (a,b))=cr D (rl n b)-cr D (rl n a)/\n.2.2*dt D (dr (a,b))=dt D (rl n b)-dt D (rl n a):=by
 unfold cr dt dr rl rel;simp only;constructor<;>grind
section
variable{S:List Sg}{nx:Sg->Sg}
theorem Wd.same(h:Wd S nx){s t:Sg}(hs:s∈S)(ht:t∈S){n:N3}(hn:0<n.2.2)(h1:Ins n s)(h2:Ins n t)(hc:cr (dr s) (dr t)=0):s=t:=by
 obtain⟨a1,a2,a3,a4⟩:=h1.line hn;obtain⟨b1,b2,b3,b4⟩:=h2.line hn;have dD:=Ga.dC (h.gw hs);have dE:=Ga.dC (h.gw ht);have k1:=Na (dr s) (dr t) (rl n t.1);have k2:=Na (dr s) (dr t) (rl n t.2);rw[hc,b1] at k1;rw[hc,b2] at k2;have v1:cr (dr s) (rl n t.1)=0:=(dP dE).1 (by rw[k1.1];simp)
 have v2:cr (dr s) (rl n t.2)=0:=(dP dE).1 (by rw[k2.1];simp)
 have m1:dt (dr t) (dr t)*dt (dr s) (rl n t.1)=dt (dr s) (dr t)*dt (dr t) (rl n t.1):=by rw[k1.2];simp
 have m2:dt (dr t) (dr t)*dt (dr s) (rl n t.2)=dt (dr s) (dr t)*dt (dr t) (rl n t.2):=by rw[k2.2];simp
 have d0:dt (dr s) (dr t)≠0:=λq=>by
  have:=Na (dr s) (dr t) (dr s);rw[hc,q] at this;have:=bJ dE dD;simp at*;omega
 have bt:∀(x y z:Pt),cr (dr s) (rl n x)=0->cr (dr s) (rl n y)=0->cr (dr s) (rl n z)=0->dt (dr s) (rl n y)<=dt (dr s) (rl n x)->dt (dr s) (rl n x)<=dt (dr s) (rl n z)->on (dr (x,y)) (dr (x,z))=true:=λx y z c1 c2 c3 d1 d2=>by
  obtain⟨p1,p2⟩:=acp (n:=n) x y (dr s);obtain⟨q1,q2⟩:=acp (n:=n) x z (dr s);refine Ca (h.gw hs) ((dP hn).1 aa) ((dP hn).1 aa) ?_
  have y1:dt (dr s) (dr (x,y))<=0:=by
   apply iV;intro q;have:=bJ hn (show 0<dt (dr s) (dr (x,y)) by omega)
   omega
  have y2:0<=dt (dr s) (dr (x,z)):=by
   apply iV;intro q;have:=(Ga.neg_mul hn).2 (show dt (dr s) (dr (x,z))<0 by omega)
   omega
  exact C8 y1 y2
 rcases Wy d0 with d|d
 .exfalso;have z1:0<dt (dr s) (rl n t.1):=(bT dE).1 (by rw[m1];exact JW d b3)
  have z2:dt (dr s) (rl n t.2)<0:=(Ga.neg_mul dE).1 (by rw[m2];exact uR d b4)
  have e:s.1=t.2:=by
   rcases Aq (dt (dr s) (rl n t.2)) (dt (dr s) (rl n s.1)) with q|q
   .rcases h.Bc s hs t ht (by rw[uZ];exact bt s.1 t.2 t.1 a1 v2 v1 q aa) with w|w
    .rw[w] at a3;omega
    .exact w
   .rcases h.Kv t ht s hs (bt t.2 s.1 s.2 v2 a1 a2 q aa) with w|w
    .exact w.symm
    .rw[w] at z2;omega
  have:=h.two s hs t ht e;rw[(dm _ _).2 ⟨by rw[fG];omega,by rw[kI];omega⟩] at this
  cases this
 .have z1:dt (dr s) (rl n t.1)<0:=(Ga.neg_mul dE).1 (by rw[m1];exact wK d b3)
  have z2:0<dt (dr s) (rl n t.2):=(bT dE).1 (by rw[m2];exact bJ d b4)
  have e:s.1=t.1:=by
   rcases Aq (dt (dr s) (rl n t.1)) (dt (dr s) (rl n s.1)) with q|q
   .rcases h.Bc s hs t ht (bt s.1 t.1 t.2 a1 v1 v2 q aa) with w|w
    .exact w
    .rw[w] at a3;omega
   .rcases h.Bc t ht s hs (bt t.1 s.1 s.2 v1 a1 a2 q aa) with w|w
    .exact w.symm
    .rw[w] at z1;omega
  exact h.one s hs t ht e ((dm _ _).2 ⟨hc,d⟩)
variable{RL:List (List Sg)}
theorem Rs.bw(r:Rs S nx RL)(h:Wd S nx){a:Sg}{T:List Sg}(hR:a::T∈RL){e:Sg}(he:e∈closing (cM (a::T))){n:N3}(hn:0<n.2.2)(ho:Ins n e):
  ∃y,(e.1,y)∈(a.1,a)::tg (λp=>(cM (a::T)).contains p) a.1 T/\y∈a::T/\(Ins n y\/∃x,mL (a::T) x y/\cr (dr x) (dr y)=0/\rl n y.1=(0,0)):=by
 have k:=r.lr _ hR;obtain⟨g1,g2⟩:=r.gpC h hR;rw[g1] at he;have hne:∀s∈a::T,s.1≠s.2:=λs hs=>h.ne s (k.ring.mem s hs)
 have tm:∀{p y},(p,y)∈tg (λp=>(cM (a::T)).contains p) a.1 T->y∈a::T:=λ{p y} q=>by
  have:y∈(tg (λp=>(cM (a::T)).contains p) a.1 T).map Prod.snd:=bQ.2 ⟨_,q,rfl⟩
  rw[Ty] at this;exact bV _ this
 rcases Tz hn T a a.1 a.2 a.1 (k.ring.path rfl).2 (qK λq=>hne a af (lZ.1 q)) (λs hs=>hne s (bV _ hs)) g2 e he ho with⟨q1,q2⟩|⟨t,ht,q⟩|⟨i,x,y,k1,k2,k3,k4,k5⟩
 .exact⟨a,by rw[q1];simp,af,aS q2⟩
 .exact⟨t,bV _ ht,tm ht,aS q⟩
 .refine⟨y,bV _ k3,tm k3,aR ⟨x,aS ⟨i,k1,k2⟩,?_,k5⟩⟩;apply iV;intro q;have:=((k.ring.M9 (k.turn h)).2 i x y k1 k2).2 q;rw[this] at k4;cases k4
theorem Rs.acq(r:Rs S nx RL)(h:Wd S nx){R R':List Sg}(hR:R∈RL)(hR':R'∈RL){e f:Sg}(he:e∈closing (cM R))(hf:f∈closing (cM R'))(hne:R≠R'\/e.1≠f.1){n:N3}(hn:0<n.2.2)(h1:Ins n e)(h2:Ins n f):False:=by
 cases R with
 |nil=>simp[cM,tG,closing] at he
 |cons a T=>
 cases R' with
 |nil=>simp[cM,tG,closing] at hf
 |cons a' T'=>
 obtain⟨y,t1,m1,c1⟩:=r.bw h hR he hn h1;obtain⟨y',t2,m2,c2⟩:=r.bw h hR' hf hn h2;have k:=r.lr _ hR;have k':=r.lr _ hR';have my:=k.ring.mem y m1;have Nc:=k'.ring.mem y' m2;have fin:y≠y':=λq=>by
  subst q;have eR:=k.eq h k' m1 m2;rcases hne with w|w
  .exact w eR
  .injection eR with ea eT;subst ea eT;have nd:(((a.1,a)::tg (λp=>(cM (a::T)).contains p) a.1 T).map Prod.snd).Nodup:=by
    rw[gM,Ty];exact k.ring.nd
   rw[List.Nodup,lF] at nd;have key:((e.1,y):Pt×Sg)=(f.1,y):=by
    obtain⟨i,hi,ei⟩:=jG.1 t1;obtain⟨j,hj,ej⟩:=jG.1 t2;have hp:=lW.1 nd;rcases Aw i j with q|q|q
    .exact absurd (by rw[ei,ej]) (hp i j hi hj q)
    .subst q;exact ei.symm.trans ej
    .exact absurd (by rw[ei,ej]) (hp j i hj hi q)
   exact w (Prod.mk.inj key).1
 have strict:∀{s t:Sg},s∈S->t∈S->Ins n s->rl n t.1=(0,0)->False:=λ{s t} hs ht q w=>by
  rcases h.Bc t ht s hs (anl hn w q.1) with z|z
  .exact q.2.1 (by rw[<-z];exact w)
  .exact q.2.2 (by rw[<-z];exact w)
 rcases c1 with c1|⟨x,f1,s1,z1⟩<;>rcases c2 with c2|⟨x',f2,s2,z2⟩
 .by_cases hc:cr (dr y) (dr y')=0
  .exact fin (h.same my Nc hn c1 c2 hc)
  .rcases h.meet my Nc hn c1.1 c2.1 hc with q|q
   .exact c1.2.1 q
   .exact c1.2.2 q
 .exact strict my Nc c1 z2
 .exact strict Nc my c2 z1
 .refine fin (h.al6 k.ring k'.ring f1 f2 ?_ s1 s2);have e1:=Tw hn z1 (z:=y'.1);rw[z2] at e1;have p1:=aZ Prod.fst e1;have p2:=aZ Prod.snd e1;have q1:=(dP hn).1 p1.symm;have q2:=(dP hn).1 p2.symm;exact lZ.1 (dN q1 q2:dr (y.1,y'.1)=(0,0))
end
end Gb
section
open Go.RowKit
variable{z a1 a2 a3 a4 b1 b2 b3 b4 c2 c3 c4:Int}{a b o:List Nat}{n cap k d x y e i s c j S f g X p q r l A B C:Nat}{w w' wr W W' W0:aM}{v c0' c1' sl P0 P1 Q0 Q1 u:aN}
theorem IE(m:Nat)(h:m<9223372036854775808):bits .and aJ (m:Int) 1073741823=((m%1073741824:Nat):Int):=by
 have h1:(BitVec.ofInt 64 (m:Int)).toNat=m:=by
  rw[BitVec.ofInt_natCast,BitVec.toNat_ofNat];exact Di aa
 have h2:(BitVec.ofInt 64 (1073741823:Int)).toNat=2 ^ 30-1:=ah
 have h3:m&&& (2 ^ 30-1)=m%1073741824:=Nat.and_two_pow_sub_one_eq_mod m 30;show IntKind.i64.wrap ((BitVec.ofInt 64 (m:Int)&&& BitVec.ofInt 64 (1073741823:Int)).toNat:Int)=_;rw[BitVec.toNat_and,h1,h2,h3,IntKind.wrap_i64];omega
def val:List Nat->Nat
 |[]=>0
 |d::a=>d+1073741824*val a
theorem Nf(a:List Nat)(d:Nat):val (a++[d])=val a+1073741824 ^ a.length*d:=by
 induction a with
 |nil=>simp[val]
 |cons x a ih=>
  simp only[mr,val,ih,dG,yM];rw[tO,<-tM,Wc 1073741824 (1073741824 ^ a.length)];omega
structure Cn(a:List Nat)(x:Nat):Prop where
 v:val a=x
 d:∀e∈a,e<1073741824
 h:∀e,a.getLast?=some e->e≠0
def dQ(w:aM)(v:aN)(a:List Nat):Prop:=w.ownsRow 0 3 1 v a.length (a.map λd:Nat=>Value.int aJ (d:Int))
theorem IG:(Tryz.prog.info? 3).map (λi=>(i.zero,i.size,i.bytes))=some (some (az aJ 0),1,8):=ag
theorem acr(n:Nat)(w:aM)(hn:n<=1000000000000):
  ak 132 #[az aJ n] w λe w'=>∃v,e=aL v/\∃a,dQ w' v a/\Cn a n/\a.length<=2/\aj w w':=by
 obtain⟨i0,hi,hz0,hz1,hz2⟩:=info_parts IG
 go_enter func132,ntmps132
 go_wp2_with fail
 go_loopg [0,3] n (λg nv av wr=>∃(m:Nat)(a:List Nat),m=g/\nv=az aJ m/\m<=1000000000000/\a.length<=100/\Hid (wr.ownsRow w.heap.size 3 1 av a.length (a.map λd:Nat=>Value.int aJ (d:Int))/\aj w wr/\n=val a+1073741824 ^ a.length*m/\(∀e∈a,e<1073741824)/\(m=0->∀e,a.getLast?=some e->e≠0)/\(m≠0->a.length<=1/\(a.length=1->m<1073741824))/\a.length<=2))
 case atStart=>exact⟨n,[],rfl,rfl,hn,af,World.ownsRow_nil _ _ _ _,Below.refl _ _,by simp[val],af,af,af,af⟩
 case round=>
  obtain⟨m,a,rfl,rfl,hm,hal,HI⟩:=hrel;obtain⟨hown,aX,hv,hd,hh,hq,ha2⟩:=HI.out;by_cases h0:m=0
  .subst h0;clear HI
   go_wp2_with fail
   go_ret
   refine⟨_,rfl,a,xz hown,⟨rfl,hd,hh trivial⟩,ha2,aX⟩
  .have h1:(0:Int)<(m:Int):=aa
   have hsz:=aX.size;have hmk:=IE m aa
   have HN:Hid (n=val a+1073741824 ^ a.length*m/\(∀e∈a,e<1073741824)/\(m≠0->a.length<=1/\(a.length=1->m<1073741824))/\m≠0):=⟨hv,hd,hq,h0⟩;clear HI hv hd hh hq h0
   go_wp2_with (at_builtin;refine wpList_append_lies _ rfl (.tmp 6) (.tmp 9) 142 rfl w.heap.size 3 i0 _ 1 8 underlying142 hi hz0 hz1 hz2 rfl ah u3 a.length (a.map λd:Nat=>Value.int aJ (d:Int)) rfl (bG hown (λk hk=>Below.heap_alloc _ _ _ (bn hown k hk).2)) ⟨wr.heap.size,0,none⟩ 1 1 [az aJ ((m%1073741824:Nat):Int)] rfl rfl (World.news_of_block (cs:= #[az aJ ((m%1073741824:Nat):Int)]) (t:=3) (fr:=(0,0)) (heap_alloc_new wr _)) (by simp[Value.oneCell']) ah (by unfold maxLen;omega) aa (by simp;omega) (wr.heap.size+1) af ?_;intro gg cap' w9 ho hgrow hat sI)
   go_wp2_with fail
   obtain⟨hv,hd,hq,h0⟩:=HN.out;obtain⟨q1,q2⟩:=hq h0
   go_roundg (m/1073741824)
   case measure=>omega
   case rel=>
    refine⟨m/1073741824,a++[m%1073741824],rfl,aZ _ aa,aa,by simp;omega,?_,?_,?_,?_,?_,?_,by simp;omega⟩
    .simpa using ho
    .exact(aX.alloc aX.size _).grown hgrow (by simp;omega) (λk hk=>(bn hown k hk).1)
    .rw[Nf,hv,bX,Pw,yM];have e:=ahu m 1073741824;have e2:1073741824 ^ a.length*m=1073741824 ^ a.length*(1073741824*(m/1073741824)+m%1073741824):=by rw[e]
     rw[e2,tO,tM];omega
    .intro x hx;rcases dF.1 hx with z|z
     .exact hd x z
     .rw[dB.1 z];exact uU _ ah
    .intro z x hx;have:m%1073741824=x:=by simpa using hx
     omega
    .intro z;have hl0:a.length=0:=by
      rcases nW 0 a.length with y|y
      .have:=q2 aa
       omega
      .omega
     refine⟨by rw[bX,Pw];omega,λ_=>aa⟩
theorem lR(h:dQ w v a):∃so cap,v=aG so a.length cap:=by
 rcases h.2 with⟨hv,h0⟩|⟨b,cap,cur,hv,_⟩
 .exact⟨none,0,by rw[hv,h0]⟩
 .exact⟨_,cap,hv⟩
theorem vY{so:Option Addr}(h:dQ w (aG so n cap) a)(hd:a[k]?=some d):∃b,so=some ⟨b,0,none⟩/\b<w.heap.size/\w.cell? ⟨b,k,none⟩=some (az aJ (d:Int)):=by
 obtain⟨b,c,hv,hb,hc⟩:=Y4 h (o:=k) (u:=az aJ (d:Int)) (by simp[hd])
 injection hv with hv;exact⟨b,hv,hb,hc⟩
theorem acs(a b:List Nat):val (a++b)=val a+1073741824 ^ a.length*val b:=by
 induction a with
 |nil=>simp[val]
 |cons x a ih=>
  simp only[mr,val,ih,dG,yM];rw[tO,<-tM,Wc 1073741824 (1073741824 ^ a.length)];omega
theorem val_zero:∀{a:List Nat},(∀d∈a,d=0)->val a=0
 |[],_=>rfl
 |x::a,h=>by
  have h1:=h x af
  have h2:=val_zero λd hd=>h d (bV _ hd)
  simp[val,h1,h2]
theorem anm{so:Option Addr}(h:dQ w (aG so n cap) a)(_hn:n=a.length)(hk:k<=a.length):dQ w (aG so k cap) (a.take k):=by
 have hl:(a.take k).length=k:=by rw[iE];omega
 refine⟨by rw[gG,hl,Pc],?_⟩
 rw[hl];rcases h.2 with⟨hv,h0⟩|⟨b,cp,cur,hv,h1,h2,h3,h4,h5,h6⟩
 .injection hv with e1 e2 e3;left;have:k=0:=aa
  rw[this,e1,e3];exact⟨rfl,rfl⟩
 .injection hv with e1 e2 e3;subst e1 e3;refine aR ⟨b,cap,cur,rfl,h1,h2,aa,h4,h5,?_⟩
  rw[Pc] at h6⊢;rw[WD,<-h6,AK,Dc hk]
theorem acu(a:List Nat)(v:aN)(w:aM)(hR:dQ w v a)(hl:a.length<=100)(hd:∀d∈a,d<1073741824):
  ak 184 #[v] w λe w'=>∃v',e=aL v'/\∃b,dQ w' v' b/\Cn b (val a)/\b.length<=a.length/\aj w w':=by
 obtain⟨so,cap,rfl⟩:=lR hR;have HR:Hid (dQ w (aG so a.length cap) a):=hR;have HD:Hid (∀d∈a,d<1073741824):=hd;have hcap:a.length<=cap:=by
  rcases hR.2 with⟨hv,h0⟩|⟨b,cp,cur,hv,_,_,h3,_⟩
  .omega
  .injection hv with _ _ hv;omega
 clear hR hd
 go_enter func184,ntmps184
 go_wp2_with fail
 go_loopg [3] a.length (λg nv wr=>∃m:Nat,m=g/\nv=az aJ m/\m<=a.length/\Hid (aj w wr/\wr.heap=w.heap/\∀d∈a.drop m,d=0))
 case atStart=>exact⟨_,rfl,rfl,aY _,Below.refl _ _,rfl,af⟩
 case round=>
  obtain⟨m,rfl,rfl,hm,HI⟩:=hrel;obtain⟨aX,IH,hz⟩:=HI.out;have fin:(∀e,(a.take m).getLast?=some e->e≠0)->∃b,dQ wr (aG so m cap) b/\Cn b (val a)/\b.length<=a.length/\aj w wr:=λhe=>by
   refine⟨a.take m,?_,⟨?_,λe h=>HD.out e (rN h),he⟩,by rw[iE];omega,aX⟩
   .have:=anm HR.out rfl hm;exact Bu this λk cur hc=>by rw[IH]
   .have e:=acs (a.take m) (a.drop m);rw[AE,val_zero hz] at e;omega
  have II:Hid ((∀e,(a.take m).getLast?=some e->e≠0)->∃b,dQ wr (aG so m cap) b/\Cn b (val a)/\b.length<=a.length/\aj w wr):=fin;have HZ0:Hid (∀d∈a.drop m,d=0):=hz;clear HI fin hz;by_cases h0:m=0
  .subst h0;have hf:=II.out af
   clear II
   go_wp2_with fail
   go_ret
   exact⟨_,rfl,hf⟩
  .obtain⟨j,hj⟩:∃j,m=j+1:=⟨m-1,aa⟩
   have hjl:j<a.length:=aa
   obtain⟨d,hd⟩:∃d,a[j]?=some d:=⟨_,bo hjl⟩;obtain⟨b,rfl,hb,e0⟩:=vY HR.out hd;have r0:wr.cell? ⟨b,j,none⟩=some (az aJ (d:Int)):=aQ aX e0 hb;have hlast:(a.take m).getLast?=some d:=by
    rw[hj,qD hjl,(cG.1 hd).2];simp
   have HJ:Hid (m=j+1/\a[j]?=some d):=⟨hj,hd⟩;have hw:IntKind.i64.wrap ((m:Int)-1)=(j:Int):=by rw[IntKind.wrap_i64];omega
   have hmp:(0:Int)<(m:Int):=aa
   have Mm:(j:Int)<(a.length:Int):=aa
   have Ng:m≠0:=h0;by_cases hd0:d=0
   .subst hd0;have HZ:Hid (aj w wr/\wr.heap=w.heap):=⟨aX,IH⟩;clear hj hd hlast II e0 h0 aX IH
    go_wp2_with fail
    obtain⟨hj,hd⟩:=HJ.out
    go_roundg j
    case measure=>omega
    case rel=>
     refine⟨j,rfl,rfl,aa,HZ.out.1,HZ.out.2,λx hx=>?_⟩
     rw[rK hjl,(cG.1 hd).2] at hx;rcases bU.1 hx with z|z
     .exact z
     .exact HZ0.out x (by rw[hj];exact z)
   .have hf:=II.out (λe he=>by rw[hlast] at he;injection he with he;omega)
    have IJ:((d:Int) == 0)=false:=by rw[tJ];omega
    have HF:Hid (∃TB,dQ wr (aG (some ⟨b,0,none⟩) m cap) TB/\Cn TB (val a)/\TB.length<=a.length/\aj w wr):=hf;have HH:Hid (wr.heap=w.heap):=IH;clear hj hd hlast II e0 h0 hf aX IH
    go_wp2_with fail
    go_ret
    exact⟨_,rfl,HF.out⟩
theorem Nh{b:Nat}(h:Below b w w')(q:Nat):Below b w (w'.drewN q):=⟨h.os,h.tape,h.output,h.size,h.block⟩
theorem Ni:∀{a:List Nat},(∀d∈a,d<1073741824)->val a<1073741824 ^ a.length
 |[],_=>ah
 |x::a,h=>by
  have h1:=h x af
  have h2:=Ni λd hd=>h d (bV _ hd)
  rw[dG,yM,Wc];show x+1073741824*val a<_;omega
theorem EY(h:a[k]?=some d):val a=val (a.take k)+1073741824 ^ k*(d+1073741824*val (a.drop (k+1))):=by
 obtain⟨hk,hd⟩:=cG.1 h;have e:=acs (a.take k) (a.drop k);rw[AE,rK hk,hd,iE,Dc aa] at e
 exact e
theorem ano(h:∀d∈a,d<1073741824)(hk:k<=a.length):val (a.take k)<1073741824 ^ k:=by
 have:=Ni (a:=a.take k) λd hd=>h d (rN hd)
 rwa[iE,Dc hk] at this
theorem Cn.lt(ha:Cn a x)(hb:Cn b y)(h:a.length<b.length):x<y:=by
 have h1:=Ni ha.d;have hk:b.length-1<b.length:=aa
 have e:=EY (bo hk);have hl:=hb.h _ (by rw[nX];exact bo hk)
 rw[ha.v] at h1;rw[hb.v] at e;have h2:1073741824 ^ a.length<=1073741824 ^ (b.length-1):=Px ah aa
 have h3:1073741824 ^ (b.length-1)*1<=1073741824 ^ (b.length-1)*(b[b.length-1]+1073741824*val (b.drop (b.length-1+1))):=Nat.mul_le_mul_left _ aa
 omega
theorem acv(ha:∀x∈a,x<1073741824)(h1:a[k]?=some d)(h2:b[k]?=some e)(hs:a.drop (k+1)=b.drop (k+1))(h:d<e):val a<val b:=by
 rw[EY h1,EY h2,hs];have:=ano ha (k:=k) (by have:=(cG.1 h1).1;omega)
 have h3:1073741824 ^ k*(d+1073741824*val (b.drop (k+1))+1)<=1073741824 ^ k*(e+1073741824*val (b.drop (k+1))):=Nat.mul_le_mul_left _ aa
 rw[tO (1073741824 ^ k) _ 1] at h3;omega
theorem anp(a b:List Nat)(x y:Nat)(v u:aN)(w:aM)(hR:dQ w v a)(hS:dQ w u b)(ha:Cn a x)(hb:Cn b y)(lJ:a.length<=100)(hlb:b.length<=100):
  ak 129 #[v,u] w λe w'=>∃r:Int,e=aL (az aJ r)/\(0<=r↔y<=x)/\aj w w':=by
 obtain⟨so,cap,rfl⟩:=lR hR;obtain⟨to,xR,rfl⟩:=lR hS;have HR:Hid (dQ w (aG so a.length cap) a):=hR;have HS:Hid (dQ w (aG to b.length xR) b):=hS;have HC:Hid (Cn a x/\Cn b y):=⟨ha,hb⟩;clear hR hS ha hb
 go_enter func129,ntmps129
 by_cases hn:a.length=b.length
 .have hnb:((a.length:Int) != (b.length:Int))=false:=by rw[hn];simp
  have HN:Hid (a.length=b.length):=hn;clear hn
  go_wp2_with fail
  go_loopg [5] a.length (λg nv wr=>∃(m:Nat)(i:Int),m=g/\i=(m:Int)-1/\nv=az aJ i/\m<=a.length/\Hid (aj w wr/\a.drop m=b.drop m))
  case atStart=>exact⟨_,_,rfl,rfl,by congr 1,aY _,Below.refl _ _,by rw[FW,HN.out,FW]⟩
  case round=>
   obtain⟨m,i,rfl,hi,rfl,hg,HI⟩:=hrel;rcases m with _|j
   .have e:i= -1:=aa
    subst e;have hf:(0<=(0:Int)↔y<=x)/\aj w wr:=by
     have:=HI.out.2;rw[Ke,Ke] at this;have h1:=HC.out.1.v;rw[this,HC.out.2.v] at h1;exact⟨⟨λ_=>aa,λ_=>aa⟩,HI.out.1⟩
    have HF:Hid ((0<=(0:Int)↔y<=x)/\aj w wr):=hf;clear hf HI hi
    go_wp2_with fail
    go_ret
    exact⟨_,rfl,HF.out⟩
   .have e:i=(j:Int):=aa
    subst e;have hjl:j<a.length:=aa
    have hjb:j<b.length:=by have:=HN.out;omega
    obtain⟨d,hd⟩:∃d,a[j]?=some d:=⟨_,bo hjl⟩;obtain⟨e,he⟩:∃d,b[j]?=some d:=⟨_,bo hjb⟩;obtain⟨p,rfl,hp,e0⟩:=vY HR.out hd;obtain⟨q,rfl,hq,e1⟩:=vY HS.out he;have r0:wr.cell? ⟨p,j,none⟩=some (az aJ (d:Int)):=aQ HI.out.1 e0 hp;have r1:wr.cell? ⟨q,j,none⟩=some (az aJ (e:Int)):=aQ HI.out.1 e1 hq;have hd1:=HC.out.1.d d (bA hd);have he1:=HC.out.2.d e (bA he);have HD:Hid (a[j]?=some d/\b[j]?=some e):=⟨hd,he⟩;have hjp:(0:Int)<=(j:Int):=aa
    have Mm:(j:Int)<(a.length:Int):=aa
    have auK:(j:Int)<(b.length:Int):=aa
    by_cases hde:d=e
    .subst hde;clear hd he e0 e1 hi
     go_wp2_with fail
     go_quiet (fail)
     go_wp2_with fail
     go_roundg j
     case measure=>omega
     case rel=>
      refine⟨_,_,rfl,rfl,by congr 1,aa,Nh HI.out.1 _,?_⟩
      rw[rK hjl,rK hjb,(cG.1 HD.out.1).2,(cG.1 HD.out.2).2,HI.out.2]
    .have IJ:((d:Int) != (e:Int))=true:=by rw[Az];omega
     have hf:(0<=(d:Int)-(e:Int)↔y<=x)/\aj w wr:=by
      refine⟨?_,HI.out.1⟩;have hs:=HI.out.2;rcases nW d e with z|z
      .have:=acv HC.out.1.d hd he hs z;rw[HC.out.1.v,HC.out.2.v] at this;omega
      .have:=acv HC.out.2.d he hd hs.symm aa
       rw[HC.out.1.v,HC.out.2.v] at this;omega
     have HF:Hid ((0<=(d:Int)-(e:Int)↔y<=x)/\aj w wr):=hf;have hwr:IntKind.i64.wrap ((d:Int)-(e:Int))=(d:Int)-(e:Int):=by rw[IntKind.wrap_i64];omega
     clear hf hd he e0 e1 hi HI hde
     go_wp2_with fail
     go_quiet (fail)
     go_wp2_with fail
     go_quiet (fail)
     go_wp2_with fail
     go_ret
     exact⟨_,rfl,HF.out.1,Nh (Nh HF.out.2 _) _⟩
 .have hnb:((a.length:Int) != (b.length:Int))=true:=by rw[Az];omega
  have HF:Hid (0<=(a.length:Int)-(b.length:Int)↔y<=x):=by
   rcases nW a.length b.length with z|z
   .have:=HC.out.1.lt HC.out.2 z;show _↔_;omega
   .have:=HC.out.2.lt HC.out.1 aa
    show _↔_;omega
  have hwr:IntKind.i64.wrap ((a.length:Int)-(b.length:Int))=(a.length:Int)-(b.length:Int):=by rw[IntKind.wrap_i64];omega
  clear hn
  go_wp2_with fail
  go_ret
  exact⟨_,rfl,HF.out,Below.refl _ _⟩
def dg(a:List Nat)(i:Nat):Nat:=a[i]?.getD 0
theorem sU(h:a[i]?=some d):dg a i=d:=by rw[dg,h];rfl
theorem vZ(h:a.length<=i):dg a i=0:=by rw[dg,yK h];rfl
theorem Nj(a:List Nat)(i:Nat):val (a.drop i)=dg a i+1073741824*val (a.drop (i+1)):=by
 rcases nW i a.length with h|h
 .rw[rK h,sU (bo h)];rfl
 .rw[vZ h,AR h,AR aa];rfl
theorem Nk(h:∀d∈a,d<1073741824)(i:Nat):dg a i<1073741824:=by
 rcases nW i a.length with h1|h1
 .rw[sU (bo h1)];exact h _ (iw h1)
 .rw[vZ h1];decide
theorem TC(h:Cn a x)(hi:i+1=a.length):dg a i≠0:=by
 have hk:i<a.length:=aa
 rw[sU (bo hk)];exact h.h _ (by rw[nX,<-hi];exact bo hk)
structure zU(a b:List Nat)(s i c:Nat)(o:List Nat):Prop where
 l:o.length=i
 v:val o+1073741824 ^ i*(c+val (a.drop i)+val (b.drop i))=s
 d:∀e∈o,e<1073741824
 h:a.length<=i->b.length<=i->c=0->∀e,o.getLast?=some e->e≠0
 c:c<=1
theorem zU.step(h:zU a b s i c o)(ha:Cn a x)(hb:Cn b y)(hgo:i<a.length\/i<b.length\/0<c):zU a b s (i+1) ((c+dg a i+dg b i)/1073741824) (o++[(c+dg a i+dg b i)%1073741824]):=by
 have h1:=Nk ha.d i;have h2:=Nk hb.d i;have h3:=h.c;refine⟨by simp[h.l],?_,?_,?_,aa⟩
 .rw[<-h.v,Nf,h.l,Nj a i,Nj b i,yM];have e:=ahu (c+dg a i+dg b i) 1073741824;generalize(c+dg a i+dg b i)/1073741824=q at*;generalize hr:(c+dg a i+dg b i)%1073741824=r at*;generalize val (a.drop (i+1))=A;generalize val (b.drop (i+1))=B;have:c+(dg a i+1073741824*A)+(dg b i+1073741824*B)=r+1073741824*(q+A+B):=aa
  generalize 1073741824 ^ i=P;rw[this,tO P r,<-tM P];omega
 .intro z hz;rcases dF.1 hz with q|q
  .exact h.d z q
  .rw[dB.1 q];exact uU _ ah
 .intro q1 q2 q3 z hz;have hz':(c+dg a i+dg b i)%1073741824=z:=by simpa using hz
  have:dg a i≠0\/dg b i≠0\/0<c:=by
   rcases hgo with g|g|g
   .exact aS (TC ha aa)
   .exact aR (aS (TC hb aa))
   .exact aR (aR g)
  omega
theorem zU.done(h:zU a b s i 0 o)(h1:a.length<=i)(h2:b.length<=i):Cn o s:=by
 refine⟨?_,h.d,h.h h1 h2 rfl⟩;have:=h.v;rw[AR h1,AR h2] at this;simpa[val] using this
theorem anq(a b:List Nat)(x y:Nat)(v u:aN)(w:aM)(hR:dQ w v a)(hS:dQ w u b)(ha:Cn a x)(hb:Cn b y)(M:Nat)(lJ:a.length<=M)(hlb:b.length<=M)(hM:M<=100):
  ak 128 #[v,u] w λe w'=>∃v,e=aL v/\∃o,dQ w' v o/\Cn o (x+y)/\o.length<=M+1/\aj w w':=by
 obtain⟨i0,hi,hz0,hz1,hz2⟩:=info_parts IG;obtain⟨so,cap,rfl⟩:=lR hR;obtain⟨to,xR,rfl⟩:=lR hS;have HR:Hid (dQ w (aG so a.length cap) a):=hR;have HS:Hid (dQ w (aG to b.length xR) b):=hS;have HC:Hid (Cn a x/\Cn b y):=⟨ha,hb⟩;clear hR hS ha hb
 go_enter func128,ntmps128
 go_wp2_with fail
 go_loopg [5,6,7] (M+1) (λg ov cv iv wr=>∃(i c:Nat)(o:List Nat),i+g=M+1/\cv=az aJ c/\iv=az aJ i/\c<=1/\o.length<=102/\Hid (wr.ownsRow w.heap.size 3 1 ov o.length (o.map λd:Nat=>Value.int aJ (d:Int))/\aj w wr/\zU a b (x+y) i c o/\(i=M+1->c=0)))
 case atStart=>
  refine⟨0,0,[],aa,rfl,rfl,aa,af,World.ownsRow_nil _ _ _ _,Below.refl _ _,⟨rfl,?_,af,af,aa⟩,λ_=>rfl⟩
  rw[Ke,Ke,HC.out.1.v,HC.out.2.v];simp[val]
 case round=>
  obtain⟨i,c,o,hg,rfl,rfl,hc1,hol,HI⟩:=hrel;by_cases hend:a.length<=i/\b.length<=i/\c=0
  .obtain⟨n1,n2,rfl⟩:=hend;obtain⟨hown,aX,zS,hm⟩:=HI.out;have hf:∃o',dQ wr _ o'/\Cn o' (x+y)/\o'.length<=M+1/\aj w wr:=⟨o,xz hown,zS.done n1 n2,by rw[zS.l];omega,aX⟩
   have HF:Hid _:=hf;have m1:¬(i:Int)<(a.length:Int):=aa
   have m2:¬(i:Int)<(b.length:Int):=aa
   clear hown aX zS hm hf HI n1 n2
   go_wp2_with fail
   go_ret
   exact⟨_,rfl,HF.out⟩
  .have hstep:∃T,T=c+dg a i+dg b i/\T<2147483648/\zU a b (x+y) (i+1) (T/1073741824) (o++[T%1073741824])/\i<=M/\(i=M->T/1073741824=0):=by
    obtain⟨hown,aX,zS,hm⟩:=HI.out;have h1:=Nk HC.out.1.d i;have h2:=Nk HC.out.2.d i;refine⟨_,rfl,aa,zS.step HC.out.1 HC.out.2 aa,aa,λe=>?_⟩
    rw[vZ (a:=a) aa,vZ (a:=b) aa]
    omega
   obtain⟨T,hT,hTb,HST⟩:=hstep;have HT:Hid (zU a b (x+y) (i+1) (T/1073741824) (o++[T%1073741824])/\i<=M/\(i=M->T/1073741824=0)):=HST;clear HST;have Ig:(∃d,a[i]?=some d)\/a.length<=i:=by
    rcases nW i a.length with h|h
    .exact aS ⟨_,bo h⟩
    .exact aR h
   have hcb:(∃d,b[i]?=some d)\/b.length<=i:=by
    rcases nW i b.length with h|h
    .exact aS ⟨_,bo h⟩
    .exact aR h
   have hown:=HI.out.1;have aX:=HI.out.2.1;have hsz:=aX.size;have hil:(i:Int)<9223372036854775807:=aa
   rcases Ig with⟨d,hd⟩|hna
   .obtain⟨p,rfl,hp,e0⟩:=vY HR.out hd;have r0:wr.cell? ⟨p,i,none⟩=some (az aJ (d:Int)):=aQ aX e0 hp;have pB:=HC.out.1.d d (bA hd);have m1:(i:Int)<(a.length:Int):=by have:=(cG.1 hd).1;omega
    have jN:=sU hd;rcases hcb with⟨e,he⟩|hnb
    .obtain⟨q,rfl,hq,e1⟩:=vY HS.out he;have r1:wr.cell? ⟨q,i,none⟩=some (az aJ (e:Int)):=aQ aX e1 hq;have hel:=HC.out.2.d e (bA he);have m2:(i:Int)<(b.length:Int):=by have:=(cG.1 he).1;omega
     have hmk:bits .and aJ ((c:Int)+(d:Int)+(e:Int)) 1073741823=((T%1073741824:Nat):Int):=by
      have:=IE T aa
      rw[<-this,hT,jN,sU he];rfl
     have ru:Hid (T=c+d+e):=by rw[hT,jN,sU he];rfl
     clear HI hend hT hd he jN e0 e1
     go_wp2_with (at_builtin;refine wpList_append_lies _ rfl (.tmp 44) (.tmp 47) 142 rfl w.heap.size 3 i0 _ 1 8 underlying142 hi hz0 hz1 hz2 rfl ah u5 o.length (o.map λd:Nat=>Value.int aJ (d:Int)) rfl (bG hown (λk hk=>Below.heap_alloc _ _ _ (bn hown k hk).2)) ⟨wr.heap.size,0,none⟩ 1 1 [az aJ ((T%1073741824:Nat):Int)] rfl rfl (World.news_of_block (cs:= #[az aJ ((T%1073741824:Nat):Int)]) (t:=3) (fr:=(0,0)) (heap_alloc_new wr _)) (by simp[Value.oneCell']) ah (by unfold maxLen;omega) aa (by simp;omega) (wr.heap.size+1) af ?_;intro gg cap' w9 ho hgrow hat sI)
     go_wp2_with fail
     have xS:=ru.out;obtain⟨s1,s2,s3⟩:=HT.out
     go_roundg (M-i)
     case measure=>omega
     case rel=>
      refine⟨i+1,T/1073741824,o++[T%1073741824],aa,aZ _ aa,aZ _ aa,s1.c,by rw[s1.l];omega,by simpa using ho,(aX.alloc aX.size _).grown hgrow (by simp;omega) (λk hk=>(bn hown k hk).1),s1,λe=>s3 aa⟩
    .have m2:¬(i:Int)<(b.length:Int):=aa
     have hmk:bits .and aJ ((c:Int)+(d:Int)) 1073741823=((T%1073741824:Nat):Int):=by
      have:=IE T aa
      rw[<-this,hT,jN,vZ hnb];rfl
     have ru:Hid (T=c+d):=by rw[hT,jN,vZ hnb];rfl
     clear HI hend hT hd jN e0 hnb
     go_wp2_with (at_builtin;refine wpList_append_lies _ rfl (.tmp 44) (.tmp 47) 142 rfl w.heap.size 3 i0 _ 1 8 underlying142 hi hz0 hz1 hz2 rfl ah u5 o.length (o.map λd:Nat=>Value.int aJ (d:Int)) rfl (bG hown (λk hk=>Below.heap_alloc _ _ _ (bn hown k hk).2)) ⟨wr.heap.size,0,none⟩ 1 1 [az aJ ((T%1073741824:Nat):Int)] rfl rfl (World.news_of_block (cs:= #[az aJ ((T%1073741824:Nat):Int)]) (t:=3) (fr:=(0,0)) (heap_alloc_new wr _)) (by simp[Value.oneCell']) ah (by unfold maxLen;omega) aa (by simp;omega) (wr.heap.size+1) af ?_;intro gg cap' w9 ho hgrow hat sI)
     go_wp2_with fail
     have xS:=ru.out;obtain⟨s1,s2,s3⟩:=HT.out
     go_roundg (M-i)
     case measure=>omega
     case rel=>
      refine⟨i+1,T/1073741824,o++[T%1073741824],aa,aZ _ aa,aZ _ aa,s1.c,by rw[s1.l];omega,by simpa using ho,(aX.alloc aX.size _).grown hgrow (by simp;omega) (λk hk=>(bn hown k hk).1),s1,λe=>s3 aa⟩
   .have m1:¬(i:Int)<(a.length:Int):=aa
    have jN:=vZ hna;rcases hcb with⟨e,he⟩|hnb
    .obtain⟨q,rfl,hq,e1⟩:=vY HS.out he;have r1:wr.cell? ⟨q,i,none⟩=some (az aJ (e:Int)):=aQ aX e1 hq;have hel:=HC.out.2.d e (bA he);have m2:(i:Int)<(b.length:Int):=by have:=(cG.1 he).1;omega
     have hmk:bits .and aJ ((c:Int)+(e:Int)) 1073741823=((T%1073741824:Nat):Int):=by
      have:=IE T aa
      rw[<-this,hT,jN,sU he];rfl
     have ru:Hid (T=c+e):=by rw[hT,jN,sU he];rfl
     clear HI hend hT he jN e1 hna
     go_wp2_with (at_builtin;refine wpList_append_lies _ rfl (.tmp 44) (.tmp 47) 142 rfl w.heap.size 3 i0 _ 1 8 underlying142 hi hz0 hz1 hz2 rfl ah u5 o.length (o.map λd:Nat=>Value.int aJ (d:Int)) rfl (bG hown (λk hk=>Below.heap_alloc _ _ _ (bn hown k hk).2)) ⟨wr.heap.size,0,none⟩ 1 1 [az aJ ((T%1073741824:Nat):Int)] rfl rfl (World.news_of_block (cs:= #[az aJ ((T%1073741824:Nat):Int)]) (t:=3) (fr:=(0,0)) (heap_alloc_new wr _)) (by simp[Value.oneCell']) ah (by unfold maxLen;omega) aa (by simp;omega) (wr.heap.size+1) af ?_;intro gg cap' w9 ho hgrow hat sI)
     go_wp2_with fail
     have xS:=ru.out;obtain⟨s1,s2,s3⟩:=HT.out
     go_roundg (M-i)
     case measure=>omega
     case rel=>
      refine⟨i+1,T/1073741824,o++[T%1073741824],aa,aZ _ aa,aZ _ aa,s1.c,by rw[s1.l];omega,by simpa using ho,(aX.alloc aX.size _).grown hgrow (by simp;omega) (λk hk=>(bn hown k hk).1),s1,λe=>s3 aa⟩
    .have xS:T=c:=by rw[hT,jN,vZ hnb];rfl
     have ru:Hid (T=c):=xS;have m2:¬(i:Int)<(b.length:Int):=aa
     have hc:c=1:=aa
     subst hc;have hmk:bits .and aJ 1 1073741823=((T%1073741824:Nat):Int):=by rw[xS];rfl
     clear HI hend hT hna hnb jN xS hc1
     go_wp2_with (at_builtin;refine wpList_append_lies _ rfl (.tmp 44) (.tmp 47) 142 rfl w.heap.size 3 i0 _ 1 8 underlying142 hi hz0 hz1 hz2 rfl ah u5 o.length (o.map λd:Nat=>Value.int aJ (d:Int)) rfl (bG hown (λk hk=>Below.heap_alloc _ _ _ (bn hown k hk).2)) ⟨wr.heap.size,0,none⟩ 1 1 [az aJ ((T%1073741824:Nat):Int)] rfl rfl (World.news_of_block (cs:= #[az aJ ((T%1073741824:Nat):Int)]) (t:=3) (fr:=(0,0)) (heap_alloc_new wr _)) (by simp[Value.oneCell']) ah (by unfold maxLen;omega) aa (by simp;omega) (wr.heap.size+1) af ?_;intro gg cap' w9 ho hgrow hat sI)
     go_wp2_with fail
     have xS:=ru.out;obtain⟨s1,s2,s3⟩:=HT.out
     go_roundg (M-i)
     case measure=>omega
     case rel=>
      refine⟨i+1,T/1073741824,o++[T%1073741824],aa,aZ _ aa,aZ _ aa,s1.c,by rw[s1.l];omega,by simpa using ho,(aX.alloc aX.size _).grown hgrow (by simp;omega) (λk hk=>(bn hown k hk).1),s1,λe=>s3 aa⟩
structure DI(a b:List Nat)(x y i c:Nat)(o:List Nat):Prop where
 l:o.length=i
 v:val o+y+1073741824 ^ i*val (a.drop i)=x+1073741824 ^ i*(c+val (b.drop i))
 d:∀e∈o,e<1073741824
 c:c<=1
theorem DI.step{t c':Nat}(h:DI a b x y i c o)(ht:t+c+dg b i=dg a i+1073741824*c')(h1:t<1073741824)(h2:c'<=1):DI a b x y (i+1) c' (o++[t]):=by
 refine⟨by simp[h.l],?_,?_,h2⟩
 .have hv:=h.v;rw[Nj a i,Nj b i] at hv;rw[Nf,h.l,yM];generalize val (a.drop (i+1))=A at*;generalize val (b.drop (i+1))=B at*;generalize 1073741824 ^ i=P at*;have e:P*(t+c+dg b i)=P*(dg a i+1073741824*c'):=by rw[ht]
  simp only[tO,tM] at*;omega
 .intro z hz;rcases dF.1 hz with q|q
  .exact h.d z q
  .rw[dB.1 q];exact h1
theorem DI.done(h:DI a b x y a.length c o)(hb:b.length<=a.length)(hyx:y<=x):val o=x-y:=by
 have hv:=h.v;rw[FW,AR hb] at hv;have h2:=Ni h.d;rw[h.l] at h2;have h3:=h.c;have hc:c=0\/c=1:=aa
 simp only[val,Nat.mul_zero,rM] at hv;rcases hc with rfl|rfl
 .omega
 .omega
theorem acx(a b:List Nat)(x y:Nat)(v u:aN)(w:aM)(hR:dQ w v a)(hS:dQ w u b)(ha:Cn a x)(hb:Cn b y)(lJ:a.length<=100)(hyx:y<=x):
  ak 130 #[v,u] w λe w'=>∃v,e=aL v/\∃o,dQ w' v o/\Cn o (x-y)/\o.length<=a.length/\aj w w':=by
 obtain⟨i0,hi,hz0,hz1,hz2⟩:=info_parts IG;have EZ:b.length<=a.length:=by
  rcases nW a.length b.length with z|z
  .have:=ha.lt hb z;omega
  .exact z
 obtain⟨so,cap,rfl⟩:=lR hR;obtain⟨to,xR,rfl⟩:=lR hS;have HR:Hid (dQ w (aG so a.length cap) a):=hR;have HS:Hid (dQ w (aG to b.length xR) b):=hS;have HC:Hid (Cn a x/\Cn b y/\y<=x/\b.length<=a.length):=⟨ha,hb,hyx,EZ⟩;clear hR hS ha hb hyx EZ
 go_enter func130,ntmps130
 go_wp2_with fail
 go_loopg [5,6,7] a.length (λg ov cv iv wr=>∃(i c:Nat)(o:List Nat),i+g=a.length/\cv=az aJ c/\iv=az aJ i/\c<=1/\o.length<=100/\Hid (wr.ownsRow w.heap.size 3 1 ov o.length (o.map λd:Nat=>Value.int aJ (d:Int))/\aj w wr/\DI a b x y i c o))
 case atStart=>
  refine⟨0,0,[],aa,rfl,rfl,aa,af,World.ownsRow_nil _ _ _ _,Below.refl _ _,⟨rfl,?_,af,aa⟩⟩
  rw[Ke,Ke,HC.out.1.v,HC.out.2.1.v];simp[val];omega
 case round=>
  obtain⟨i,c,o,hg,rfl,rfl,hc1,hol,HI⟩:=hrel;have hown:=HI.out.1;have aX:=HI.out.2.1;have hsz:=aX.size;rcases nW i a.length with hia|hia
  .obtain⟨d,hd⟩:∃d,a[i]?=some d:=⟨_,bo hia⟩;obtain⟨p,rfl,hp,e0⟩:=vY HR.out hd;have r0:wr.cell? ⟨p,i,none⟩=some (az aJ (d:Int)):=aQ aX e0 hp;have pB:=HC.out.1.d d (bA hd);have m1:(i:Int)<(a.length:Int):=aa
   have jN:=sU hd;rcases nW i b.length with hib|hib
   .obtain⟨e,he⟩:∃d,b[i]?=some d:=⟨_,bo hib⟩;obtain⟨q,rfl,hq,e1⟩:=vY HS.out he;have r1:wr.cell? ⟨q,i,none⟩=some (az aJ (e:Int)):=aQ aX e1 hq;have hel:=HC.out.2.1.d e (bA he);have m2:(i:Int)<(b.length:Int):=aa
    by_cases hn:(d:Int)-(c:Int)-(e:Int)<0
    .obtain⟨t,ht⟩:∃t:Nat,(d:Int)-(c:Int)-(e:Int)+1073741824=(t:Int):=⟨((d:Int)-(c:Int)-(e:Int)+1073741824).toNat,aa⟩
     have HT:Hid (DI a b x y (i+1) 1 (o++[t])):=HI.out.2.2.step (by rw[jN,sU he];omega) aa aa
     clear HI hd he jN e0 e1 hia hib
     go_wp2_with (at_builtin;refine wpList_append_lies _ rfl (.tmp 35) (.tmp 37) 142 rfl w.heap.size 3 i0 _ 1 8 underlying142 hi hz0 hz1 hz2 rfl ah u5 o.length (o.map λd:Nat=>Value.int aJ (d:Int)) rfl (bG hown (λk hk=>Below.heap_alloc _ _ _ (bn hown k hk).2)) ⟨wr.heap.size,0,none⟩ 1 1 [az aJ (t:Int)] rfl rfl (World.news_of_block (cs:= #[az aJ (t:Int)]) (t:=3) (fr:=(0,0)) (heap_alloc_new wr _)) (by simp[Value.oneCell']) ah (by unfold maxLen;omega) aa (by simp;omega) (wr.heap.size+1) af ?_;intro gg cap' w9 ho hgrow hat sI)
     go_wp2_with fail
     have s1:=HT.out
     go_roundg (a.length-(i+1))
     case measure=>omega
     case rel=>exact⟨i+1,1,o++[t],aa,rfl,aZ _ aa,s1.c,by rw[s1.l];omega,by simpa using ho,(aX.alloc aX.size _).grown hgrow (by simp;omega) (λk hk=>(bn hown k hk).1),s1⟩
    .obtain⟨t,ht⟩:∃t:Nat,(d:Int)-(c:Int)-(e:Int)=(t:Int):=⟨((d:Int)-(c:Int)-(e:Int)).toNat,aa⟩
     have HT:Hid (DI a b x y (i+1) 0 (o++[t])):=HI.out.2.2.step (by rw[jN,sU he];omega) aa aa
     have htn:¬(t:Int)<0:=aa
     clear HI hd he jN e0 e1 hia hib
     go_wp2_with (at_builtin;refine wpList_append_lies _ rfl (.tmp 35) (.tmp 37) 142 rfl w.heap.size 3 i0 _ 1 8 underlying142 hi hz0 hz1 hz2 rfl ah u5 o.length (o.map λd:Nat=>Value.int aJ (d:Int)) rfl (bG hown (λk hk=>Below.heap_alloc _ _ _ (bn hown k hk).2)) ⟨wr.heap.size,0,none⟩ 1 1 [az aJ (t:Int)] rfl rfl (World.news_of_block (cs:= #[az aJ (t:Int)]) (t:=3) (fr:=(0,0)) (heap_alloc_new wr _)) (by simp[Value.oneCell']) ah (by unfold maxLen;omega) aa (by simp;omega) (wr.heap.size+1) af ?_;intro gg cap' w9 ho hgrow hat sI)
     go_wp2_with fail
     have s1:=HT.out
     go_roundg (a.length-(i+1))
     case measure=>omega
     case rel=>exact⟨i+1,0,o++[t],aa,rfl,aZ _ aa,s1.c,by rw[s1.l];omega,by simpa using ho,(aX.alloc aX.size _).grown hgrow (by simp;omega) (λk hk=>(bn hown k hk).1),s1⟩
   .have m2:¬(i:Int)<(b.length:Int):=aa
    by_cases hn:(d:Int)-(c:Int)<0
    .obtain⟨t,ht⟩:∃t:Nat,(d:Int)-(c:Int)+1073741824=(t:Int):=⟨((d:Int)-(c:Int)+1073741824).toNat,aa⟩
     have HT:Hid (DI a b x y (i+1) 1 (o++[t])):=HI.out.2.2.step (by rw[jN,vZ hib];omega) aa aa
     clear HI hd jN e0 hia hib
     go_wp2_with (at_builtin;refine wpList_append_lies _ rfl (.tmp 35) (.tmp 37) 142 rfl w.heap.size 3 i0 _ 1 8 underlying142 hi hz0 hz1 hz2 rfl ah u5 o.length (o.map λd:Nat=>Value.int aJ (d:Int)) rfl (bG hown (λk hk=>Below.heap_alloc _ _ _ (bn hown k hk).2)) ⟨wr.heap.size,0,none⟩ 1 1 [az aJ (t:Int)] rfl rfl (World.news_of_block (cs:= #[az aJ (t:Int)]) (t:=3) (fr:=(0,0)) (heap_alloc_new wr _)) (by simp[Value.oneCell']) ah (by unfold maxLen;omega) aa (by simp;omega) (wr.heap.size+1) af ?_;intro gg cap' w9 ho hgrow hat sI)
     go_wp2_with fail
     have s1:=HT.out
     go_roundg (a.length-(i+1))
     case measure=>omega
     case rel=>exact⟨i+1,1,o++[t],aa,rfl,aZ _ aa,s1.c,by rw[s1.l];omega,by simpa using ho,(aX.alloc aX.size _).grown hgrow (by simp;omega) (λk hk=>(bn hown k hk).1),s1⟩
    .obtain⟨t,ht⟩:∃t:Nat,(d:Int)-(c:Int)=(t:Int):=⟨((d:Int)-(c:Int)).toNat,aa⟩
     have HT:Hid (DI a b x y (i+1) 0 (o++[t])):=HI.out.2.2.step (by rw[jN,vZ hib];omega) aa aa
     have htn:¬(t:Int)<0:=aa
     clear HI hd jN e0 hia hib
     go_wp2_with (at_builtin;refine wpList_append_lies _ rfl (.tmp 35) (.tmp 37) 142 rfl w.heap.size 3 i0 _ 1 8 underlying142 hi hz0 hz1 hz2 rfl ah u5 o.length (o.map λd:Nat=>Value.int aJ (d:Int)) rfl (bG hown (λk hk=>Below.heap_alloc _ _ _ (bn hown k hk).2)) ⟨wr.heap.size,0,none⟩ 1 1 [az aJ (t:Int)] rfl rfl (World.news_of_block (cs:= #[az aJ (t:Int)]) (t:=3) (fr:=(0,0)) (heap_alloc_new wr _)) (by simp[Value.oneCell']) ah (by unfold maxLen;omega) aa (by simp;omega) (wr.heap.size+1) af ?_;intro gg cap' w9 ho hgrow hat sI)
     go_wp2_with fail
     have s1:=HT.out
     go_roundg (a.length-(i+1))
     case measure=>omega
     case rel=>exact⟨i+1,0,o++[t],aa,rfl,aZ _ aa,s1.c,by rw[s1.l];omega,by simpa using ho,(aX.alloc aX.size _).grown hgrow (by simp;omega) (λk hk=>(bn hown k hk).1),s1⟩
  .obtain rfl:i=a.length:=aa
   have m1:¬(a.length:Int)<(a.length:Int):=aa
   have HF:Hid (val o=x-y/\(∀e∈o,e<1073741824)/\o.length=a.length):=⟨HI.out.2.2.done HC.out.2.2.2 HC.out.2.2.1,HI.out.2.2.d,HI.out.2.2.l⟩;have hw0:=xz hown;have anr:=aX.size;clear HI hia hg
   go_wp2_with fail
   refine(acu o _ wr hw0 aa HF.out.2.1).mono ?_
   rintro e w4 ⟨v4,rfl,o4,nu,Nl,hl4,hb4⟩
   go_wp2_with fail
   go_ret
   refine⟨_,rfl,o4,nu,by rw[<-HF.out.1];exact Nl,by have:=HF.out.2.2;omega,aX.trans (hb4.mono anr)⟩
theorem acy(h:o[k]?=some d)(e:Nat):val (o.set k e)+1073741824 ^ k*d=val o+1073741824 ^ k*e:=by
 obtain⟨hk,hd⟩:=cG.1 h;have h1:=EY h;have h2:=EY (a:=o.set k e) (k:=k) (d:=e) (by rw[tK hk])
 rw[List.take_set_of_le (aY k),List.drop_set_of_lt aa] at h2
 rw[h1,h2,tO,tO];omega
theorem acz(h:b[j]?=some e):val (b.take (j+1))=val (b.take j)+1073741824 ^ j*e:=by
 obtain⟨hk,hd⟩:=cG.1 h;rw[qD hk,hd,Nf,iE,Dc aa]
structure MI(b:List Nat)(n S i j d c:Nat)(o:List Nat):Prop where
 l:o.length=n
 v:val o+1073741824 ^ (i+j)*c=S+1073741824 ^ i*d*val (b.take j)
 d:∀e∈o,e<1073741824
 z:∀k e,i+b.length<=k->o[k]?=some e->e=0
 c:c<1073741824
theorem acA(h:d<1073741824)(h':e<1073741824):d*e<=1073741823*1073741823:=De aa aa
theorem MI.step{T:Nat}(h:MI b n S i j d c o)(hb:b[j]?=some e)(he:e<1073741824)(hd:d<1073741824)(ho:o[i+j]?=some f)(hT:T=c+f+d*e):MI b n S i (j+1) d (T/1073741824) (o.set (i+j) (T%1073741824)):=by
 have h1:=acA hd he;have h2:=h.c;have h3:=h.d f (bA ho);refine⟨by rw[FU,h.l],?_,?_,?_,aa⟩
 .have hv:=h.v;have hs:=acy ho (T%1073741824);have ht:=acz hb;have hm:=ahu T 1073741824;rw[ht,<-agY i j 1,yM,tO];have e1:1073741824 ^ i*d*(1073741824 ^ j*e)=1073741824 ^ (i+j)*(d*e):=by
   rw[tL];ac_rfl
  have e2:1073741824 ^ (i+j)*T=1073741824 ^ (i+j)*(1073741824*(T/1073741824)+T%1073741824):=by rw[hm]
  have e3:1073741824 ^ (i+j)*T=1073741824 ^ (i+j)*(c+f+d*e):=by rw[<-hT]
  rw[e1];generalize 1073741824 ^ (i+j)=P at*;generalize T/1073741824=q at*;generalize T%1073741824=r at*;generalize d*e=m at*;rw[tO,tO] at e3;rw[tO,<-tM] at e2;omega
 .intro z hz;rcases WE hz with q|q
  .exact h.d z q
  .rw[q];exact uU _ ah
 .intro k z hk hz;have hjb:=(cG.1 hb).1;rw[wP aa] at hz
  exact h.z k z hk hz
theorem MI.row(h:MI b n S i b.length d c o)(hy:val b=y)(ho:o[i+b.length]?=some f):
  (o.set (i+b.length) c).length=n/\val (o.set (i+b.length) c)=S+1073741824 ^ i*d*y/\(∀e∈o.set (i+b.length) c,e<1073741824)/\(∀k e,i+1+b.length<=k->(o.set (i+b.length) c)[k]?=some e->e=0):=by
 refine⟨by rw[FU,h.l],?_,?_,?_⟩
 .have hf:=h.z _ f (aY _) ho;subst hf;have hs:=acy ho c;have hv:=h.v;rw[gv,hy] at hv;omega
 .intro z hz;rcases WE hz with q|q
  .exact h.d z q
  .rw[q];exact h.c
 .intro k z hk hz;rw[wP aa] at hz
  exact h.z k z aa hz
structure BI(w wr:aM)(g:Nat)(o:List Nat):Prop where
 h:wr.heap[g]?=some (.cells (o.map λd:Nat=>Value.int aJ (d:Int)).toArray 3 (0,0))
 g:w.heap.size<=g
 b:aj w wr
theorem BI.cell(h:BI w wr g o)(hk:o[k]?=some d):wr.cell? ⟨g,k,none⟩=some (az aJ (d:Int)):=by
 rw[cell_of h.h];simp[hk]
theorem BI.fr(h:BI w wr g o)(k:Nat):wr.frozen? ⟨g,k,none⟩=false:=bK h.h k
theorem BI.dn(h:BI w wr g o)(q:Nat):BI w (wr.drewN q) g o:=⟨h.h,h.g,Nh h.b q⟩
theorem BI.set(h:BI w wr g o)(k d:Nat):BI w (wr.setCell ⟨g,k,none⟩ (az aJ (d:Int))) g (o.set k d):=by
 refine⟨?_,h.g,h.b.setCell h.g _⟩;rw[heap_set h.h];congr 2;apply Array.ext';simp[List.map_set]
theorem BI.rd(h:BI w wr g o)(hl:o.length<=100):dQ wr (aG (some ⟨g,0,none⟩) o.length o.length) o:=by
 refine⟨af,aR ⟨g,o.length,(o.map λd:Nat=>Value.int aJ (d:Int)).toArray,rfl,aa,h.h,aa,by unfold maxLen;omega,af,?_⟩⟩
 rw[Pc,qE af]
theorem ans(a b:List Nat)(x y:Nat)(v u:aN)(w:aM)(hR:dQ w v a)(hS:dQ w u b)(ha:Cn a x)(hb:Cn b y)(lJ:a.length<=40)(hlb:b.length<=40):
  ak 131 #[v,u] w λe w'=>∃v,e=aL v/\∃o,dQ w' v o/\Cn o (x*y)/\o.length<=a.length+b.length/\aj w w':=by
 obtain⟨i0,hi,hz0,hz1,hz2⟩:=info_parts IG;obtain⟨so,cap,rfl⟩:=lR hR;obtain⟨to,xR,rfl⟩:=lR hS;have HR:Hid (dQ w (aG so a.length cap) a):=hR;have HS:Hid (dQ w (aG to b.length xR) b):=hS;have HC:Hid (Cn a x/\Cn b y):=⟨ha,hb⟩;obtain⟨n,hn⟩:∃n,n=a.length+b.length:=⟨_,rfl⟩;obtain⟨M,hM⟩:∃M,M=((List.replicate n 0).map λd:Nat=>Value.int aJ (d:Int)).toArray:=⟨_,rfl⟩
 have hmk:∀W:aM,(Instr.makeSlice 142 (az aJ ((a.length:Int)+(b.length:Int))) (az aJ ((a.length:Int)+(b.length:Int)))).run prog W=.ok (aG (some ⟨W.heap.size,0,none⟩) n n) (W.alloc (.cells M 3)):=λW=>by
  have h:=run_make_row' (P:=prog) 142 3 (az aJ 0) 8 underlying142 IG rfl aJ aJ n aa aa W
  have e:madeCells #[az aJ 0] n=M:=by
   rw[hM];apply Array.ext';rw[toList_madeCells_one];simp
  rw[e] at h;rw[<-h,hn,Int.natCast_add]
 have pD:Hid (BI w (w.alloc (.cells M 3)) w.heap.size (List.replicate n 0)):=⟨by rw[heap_alloc_new,hM],aY _,aw _ _⟩
 have HN:Hid (n=a.length+b.length):=hn;have kJ:n<=80:=aa
 clear hR hS ha hb hM hn
 go_enter func131,ntmps131
 go_wp2_with fail
 generalize w.alloc (.cells M 3)=W0 at*;obtain⟨g,hg⟩:∃g,g=w.heap.size:=⟨_,rfl⟩;rw[<-hg]
 replace pD:Hid (BI w W0 g (List.replicate n 0)):=by rw[hg];exact pD
 clear hmk hg
 go_loopg [6] a.length (λgh iv wr=>∃(i:Nat)(o:List Nat),i+gh=a.length/\iv=az aJ i/\Hid (BI w wr g o/\o.length=n/\val o=val (a.take i)*y/\(∀e∈o,e<1073741824)/\∀k e,i+b.length<=k->o[k]?=some e->e=0))
 case atStart=>
  refine⟨0,_,aa,rfl,pD.out,af,?_,?_,?_⟩
  .rw[val_zero af];simp[val]
  .intro e he;rw[(List.mem_replicate.1 he).2];decide
  .intro k e _ he;exact(List.mem_replicate.1 (bA he)).2
 case round=>
  obtain⟨i,o,hgh,rfl,HI⟩:=hrel;rcases nW i a.length with hia|hia
  .obtain⟨d,hd⟩:∃d,a[i]?=some d:=⟨_,bo hia⟩;have pB:=HC.out.1.d d (bA hd);have m1:(i:Int)<(a.length:Int):=aa
   have HD:Hid (a[i]?=some d):=hd;obtain⟨S,hS⟩:∃S,S=val (a.take i)*y:=⟨_,rfl⟩;have Cs:Hid (S=val (a.take i)*y):=hS;have HMI:Hid (∃o,BI w wr g o/\MI b n S i 0 d 0 o):=⟨o,HI.out.1,HI.out.2.1,by rw[HI.out.2.2.1,<-hS,ahk];rfl,HI.out.2.2.2.1,HI.out.2.2.2.2,ah⟩
   clear hd hS HI
   go_wp2_with fail
   go_loopg [7,8] b.length (λgh cv jv wr=>∃(j c:Nat)(o:List Nat),j+gh=b.length/\cv=az aJ c/\jv=az aJ j/\Hid (BI w wr g o/\MI b n S i j d c o))
   case atStart=>
    obtain⟨o,h1,h2⟩:=HMI.out;exact⟨0,0,o,aa,rfl,rfl,h1,h2⟩
   case round=>
    clear HMI;obtain⟨j,c,o,XP,rfl,rfl,HI⟩:=hrel;have hcl:=HI.out.2.c;have HL:Hid (o.length=n):=HI.out.2.l;rcases nW j b.length with hjb|hjb
    .obtain⟨e,he⟩:∃d,b[j]?=some d:=⟨_,bo hjb⟩;have hel:=HC.out.2.d e (bA he);obtain⟨f,hf⟩:∃f,o[i+j]?=some f:=⟨_,bo (by have:=HL.out;have:=HN.out;omega)⟩
     have hfl:=HI.out.2.d f (bA hf);obtain⟨p,rfl,hp,e0⟩:=vY HR.out HD.out;obtain⟨q,rfl,hq,e1⟩:=vY HS.out he;have r0:wr.cell? ⟨p,i,none⟩=some (az aJ (d:Int)):=aQ HI.out.1.b e0 hp;have r1:wr.cell? ⟨q,j,none⟩=some (az aJ (e:Int)):=aQ HI.out.1.b e1 hq;have r2:wr.cell? ⟨g,i+j,none⟩=some (az aJ (f:Int)):=HI.out.1.cell hf;have r3:wr.frozen? ⟨g,i+j,none⟩=false:=HI.out.1.fr _;have m2:(j:Int)<(b.length:Int):=aa
     have m3:(i:Int)+(j:Int)<(n:Int):=by have:=HN.out;omega
     have m4:(0:Int)<=(i:Int)+(j:Int):=aa
     have hmm:=acA pB hel;obtain⟨m,hm⟩:∃m:Nat,(d:Int)*(e:Int)=(m:Int):=⟨d*e,by rw[FM]⟩
     have TD:d*e=m:=by rw[<-FM] at hm;omega
     have kU:m<=1152921502459363329:=by rw[TD] at hmm;omega
     obtain⟨T,hT⟩:∃T,T=c+f+m:=⟨_,rfl⟩;have hTe:(c:Int)+(f:Int)+(m:Int)=(T:Int):=aa
     have mi:T<=1152921504606846975:=aa
     have hmk:=IE T aa
     have HT:Hid (∀q,BI w ((wr.drewN q).setCell ⟨g,i+j,none⟩ (az aJ ((T%1073741824:Nat):Int))) g (o.set (i+j) (T%1073741824))/\MI b n S i (j+1) d (T/1073741824) (o.set (i+j) (T%1073741824))):=λq=>⟨(HI.out.1.dn q).set _ _,HI.out.2.step he hel pB hf (by rw[TD];exact hT)⟩
     clear he hf e0 e1 hmm TD hT HI
     go_wp2_with fail
     go_quiet (fail)
     go_wp2_with fail
     go_roundg (b.length-(j+1))
     case measure=>omega
     case rel=>exact⟨j+1,T/1073741824,_,aa,aZ _ aa,aZ _ aa,HT.out _⟩
    .obtain rfl:j=b.length:=aa
     have m2:¬(b.length:Int)<(b.length:Int):=aa
     obtain⟨f,hf⟩:∃f,o[i+b.length]?=some f:=⟨_,bo (by have:=HL.out;have:=HN.out;omega)⟩
     have r2:wr.cell? ⟨g,i+b.length,none⟩=some (az aJ (f:Int)):=HI.out.1.cell hf;have r3:wr.frozen? ⟨g,i+b.length,none⟩=false:=HI.out.1.fr _;have m3:(i:Int)+(b.length:Int)<(n:Int):=by have:=HN.out;omega
     have m4:(0:Int)<=(i:Int)+(b.length:Int):=aa
     obtain⟨z1,z2,z3,z4⟩:=HI.out.2.row HC.out.2.v hf;have HT:Hid (BI w (wr.setCell ⟨g,i+b.length,none⟩ (az aJ (c:Int))) g (o.set (i+b.length) c)/\(o.set (i+b.length) c).length=n/\val (o.set (i+b.length) c)=val (a.take (i+1))*y/\(∀e∈o.set (i+b.length) c,e<1073741824)/\(∀k e,i+1+b.length<=k->(o.set (i+b.length) c)[k]?=some e->e=0)):=⟨HI.out.1.set _ _,z1,by rw[z2,Cs.out,acz HD.out,FO],z3,z4⟩
     clear z1 z2 z3 z4 hf HI hjb
     go_wp2_with fail
     go_roundg (a.length-(i+1))
     case measure=>omega
     case rel=>exact⟨i+1,_,aa,aZ _ aa,HT.out⟩
  .obtain rfl:i=a.length:=aa
   have m1:¬(a.length:Int)<(a.length:Int):=aa
   have mJ:=HI.out.1.rd (by rw[HI.out.2.1];omega)
   rw[HI.out.2.1] at mJ;have HF:Hid (val o=x*y/\(∀e∈o,e<1073741824)/\o.length=a.length+b.length/\aj w wr):=⟨by rw[HI.out.2.2.1,gv,HC.out.1.v],HI.out.2.2.2.1,by rw[HI.out.2.1];exact HN.out,HI.out.1.b⟩
   clear HI hia hgh
   go_wp2_with fail
   refine(acu o _ wr mJ (by rw[HF.out.2.2.1];omega) HF.out.2.1).mono ?_
   rintro e w4 ⟨v4,rfl,o4,nu,Nl,hl4,hb4⟩
   go_wp2_with fail
   go_ret
   exact⟨_,rfl,o4,nu,by rw[<-HF.out.1];exact Nl,by rw[<-HF.out.2.2.1];exact hl4,HF.out.2.2.2.trans (hb4.mono HF.out.2.2.2.size)⟩
def rA(w:aM)(v:aN)(z:Int)(L:Nat):Prop:=∃(neg:Bool)(sl:aN)(a:List Nat),v=aC #[aD neg,sl]/\dQ w sl a/\Cn a z.natAbs/\a.length<=L/\(neg=true->z<=0)/\(neg=false->0<=z)
theorem pE(h:dQ w v a)(hb:aj w w'):dQ w' v a:=
 Bu h λk _ hc=>hb.block k (lt_of_heap hc)
theorem rA.below{L:Nat}(h:rA w v z L)(hb:aj w w'):rA w' v z L:=by
 obtain⟨n,s,a,h1,h2,h3⟩:=h;exact⟨n,s,a,h1,pE h2 hb,h3⟩
def WC(W:aM)(X:Nat)(c0' c1':aN):Prop:=W.heap[X]?=some (.cells #[c0',c1'] 144 (0,0))
theorem WC.below(h:WC w X c0' c1')(hb:aj w w'):WC w' X c0' c1':=(hb.block X (lt_of_heap h)).trans h
theorem WC.c0(h:WC w X c0' c1'):w.cell? ⟨X,0,none⟩=some c0':=cell_of h 0
theorem WC.c1(h:WC w X c0' c1'):w.cell? ⟨X,1,none⟩=some c1':=cell_of h 1
theorem WC.fr(h:WC w X c0' c1')(o:Nat):w.frozen? ⟨X,o,none⟩=false:=bK h o
theorem TE(h:dQ w v a)(hX:WC w X c0' c1')(o:Nat)(u:aN):dQ (w.setCell ⟨X,o,none⟩ u) v a:=
 Bu h λk _ hc=>dS (λe=>by
  subst e;rw[show w.heap[k]?=_ from hX] at hc
  injection hc with hc;injection hc with _ hc;exact absurd hc ah) _
theorem E1{v0:aN}(hX:WC W X c0' c1')(ha:dQ W sl a)(hb:aj w W)(hx:w.heap.size<=X):
  dQ ((W.setCell ⟨X,0,none⟩ v0).setCell ⟨X,1,none⟩ sl) sl a/\aj w ((W.setCell ⟨X,0,none⟩ v0).setCell ⟨X,1,none⟩ sl):=by
 have h1:WC (W.setCell ⟨X,0,none⟩ v0) X v0 c1':=by
  show _=_;rw[heap_set hX];rfl
 exact⟨TE (TE ha hX 0 v0) h1 1 sl,(hb.setCell hx _).setCell hx _⟩
theorem anu(n:Int)(w:aM)(h1: -1000000000000<=n)(h2:n<=1000000000000):
  ak 77 #[az aJ n] w λe w'=>∃v,e=aL v/\rA w' v n 2/\aj w w':=by
 go_enter func77,ntmps77
 by_cases hn:n<0
 .obtain⟨m,hm⟩:∃m:Nat, -n=(m:Int):=⟨n.natAbs,aa⟩
  have kU:m<=1000000000000:=aa
  have HM:Hid (-n=(m:Int)):=hm
  go_wp2_with fail
  have uA:WC (w.alloc (.cells #[aD false,aG none 0 0] 144)) w.heap.size (aD false) (aG none 0 0):=heap_alloc_new w _;have hb0:aj w (w.alloc (.cells #[aD false,aG none 0 0] 144)):=aw _ _;refine(acr m _ kU).mono ?_;rintro e w4 ⟨v4,rfl,a,ha,hc,hl,hb⟩;obtain⟨so,cap,rfl⟩:=lR ha;have hX:=uA.below hb;have r0:=hX.c0;have r1:=hX.c1;have r2:=hX.fr 0;have r3:=hX.fr 1;have hf:=E1 (v0:=aD true) hX ha (hb0.trans (hb.mono hb0.size)) (aY _);have HF:Hid ((dQ ((w4.setCell ⟨w.heap.size,0,none⟩ (aD true)).setCell ⟨w.heap.size,1,none⟩ (aG so a.length cap)) (aG so a.length cap) a/\aj w ((w4.setCell ⟨w.heap.size,0,none⟩ (aD true)).setCell ⟨w.heap.size,1,none⟩ (aG so a.length cap)))/\Cn a m/\a.length<=2):=⟨hf,hc,hl⟩;clear uA hb0 ha hc hl hb hX hf
  go_wp2_with fail
  refine bodyPost_ret (v:=aC #[aD true,aG so a.length cap]) (by simp[results,results77,go_sem,r0,r1]) rfl ⟨_,rfl,⟨true,_,a,rfl,HF.out.1.1,by have:=HM.out;rw[show n.natAbs=m by omega];exact HF.out.2.1,HF.out.2.2,λ_=>by have:=HM.out;omega,af⟩,HF.out.1.2⟩
 .obtain⟨m,rfl⟩:∃m:Nat,n=(m:Int):=⟨n.natAbs,aa⟩
  have kU:m<=1000000000000:=aa
  have hnn:¬(m:Int)<0:=hn
  go_wp2_with fail
  have uA:WC (w.alloc (.cells #[aD false,aG none 0 0] 144)) w.heap.size (aD false) (aG none 0 0):=heap_alloc_new w _;have hb0:aj w (w.alloc (.cells #[aD false,aG none 0 0] 144)):=aw _ _;refine(acr m _ kU).mono ?_;rintro e w4 ⟨v4,rfl,a,ha,hc,hl,hb⟩;obtain⟨so,cap,rfl⟩:=lR ha;have hX:=uA.below hb;have r0:=hX.c0;have r1:=hX.c1;have r2:=hX.fr 0;have r3:=hX.fr 1;have hf:=E1 (v0:=aD false) hX ha (hb0.trans (hb.mono hb0.size)) (aY _);have HF:Hid ((dQ ((w4.setCell ⟨w.heap.size,0,none⟩ (aD false)).setCell ⟨w.heap.size,1,none⟩ (aG so a.length cap)) (aG so a.length cap) a/\aj w ((w4.setCell ⟨w.heap.size,0,none⟩ (aD false)).setCell ⟨w.heap.size,1,none⟩ (aG so a.length cap)))/\Cn a m/\a.length<=2):=⟨hf,hc,hl⟩;clear uA hb0 ha hc hl hb hX hf
  go_wp2_with fail
  refine bodyPost_ret (v:=aC #[aD false,aG so a.length cap]) (by simp[results,results77,go_sem,r0,r1]) rfl ⟨_,rfl,⟨false,_,a,rfl,HF.out.1.1,HF.out.2.1,HF.out.2.2,af,λ_=>aa⟩,HF.out.1.2⟩
theorem anv(v:aN)(z:Int)(L:Nat)(w:aM)(h:rA w v z L)(_hL:L<=100):
  ak 78 #[v] w λe w'=>e=aL (az aJ z.sign)/\aj w w':=by
 obtain⟨neg,sl,a,rfl,h2,h3,h4,h5,h6⟩:=h;obtain⟨so,cap,rfl⟩:=lR h2;have hb0:aj w (w.alloc (.cells #[aD neg,aG so a.length cap] 144)):=aw _ _;have HB:Hid (aj w (w.alloc (.cells #[aD neg,aG so a.length cap] 144))):=hb0;have HS:Hid (a.length≠0->(neg=true->z.sign= -1)/\(neg=false->z.sign=1)):=λhn=>by
  have hk:a.length-1<a.length:=aa
  have:=TC h3 (i:=a.length-1) aa
  have hz:z.natAbs≠0:=by
   rw[<-h3.v,EY (bo hk)];rw[sU (bo hk)] at this;have hp:0<1073741824 ^ (a.length-1):=Nat.pow_pos ah
   have:=FN hp (show 0<a[a.length-1]+1073741824*val (a.drop (a.length-1+1)) by omega)
   omega
  exact⟨λe=>yI (by have:=h5 e;omega),λe=>nV (by have:=h6 e;omega)⟩
 have HZ:Hid (a.length=0->z.sign=0):=λe=>by
  have:=h3.v;rw[iX.1 e] at this;have hz:z=0:=by simp only[val] at this;omega
  rw[hz];rfl
 clear hb0 h2 h3 h5 h6
 go_enter func78,ntmps78
 by_cases hn:a.length=0
 .have hs:=HZ.out hn;have hq:((a.length:Int) == 0)=true:=by rw[hn];rfl
  rw[hs];clear HS HZ hs hn
  go_wp2_with fail
  go_ret
  exact⟨rfl,HB.out⟩
 .have hq:((a.length:Int) == 0)=false:=by rw[tJ];omega
  have hs:=HS.out hn;cases neg with
  |true=>
   rw[hs.1 rfl];clear HS HZ hs hn
   go_wp2_with fail
   go_ret
   exact⟨rfl,HB.out⟩
  |false=>
   rw[hs.2 rfl];clear HS HZ hs hn
   go_wp2_with fail
   go_ret
   exact⟨rfl,HB.out⟩
structure W3(w W:aM)(p q r:Nat)(P0 P1 Q0 Q1:aN):Prop where
 fp:WC W p P0 P1
 fq:WC W q Q0 Q1
 fr:WC W r (aD false) (aG none 0 0)
 b:aj w W
 ge:w.heap.size<=r
 np:p≠r
 nq:q≠r
theorem W3.start(w:aM)(P0 P1 Q0 Q1:aN):W3 w (((w.alloc (.cells #[P0,P1] 144)).alloc (.cells #[Q0,Q1] 144)).alloc (.cells #[aD false,aG none 0 0] 144)) w.heap.size (w.heap.size+1) (w.heap.size+1+1) P0 P1 Q0 Q1:=by
 have h1:(w.alloc (.cells #[P0,P1] 144)).heap.size=w.heap.size+1:=af
 have h2:((w.alloc (.cells #[P0,P1] 144)).alloc (.cells #[Q0,Q1] 144)).heap.size=w.heap.size+1+1:=af
 have b1:aj w (w.alloc (.cells #[P0,P1] 144)):=aw _ _;have b2:=b1.alloc b1.size (.cells #[Q0,Q1] 144);refine⟨?_,?_,?_,b2.alloc b2.size _,aa,aa,aa⟩
 .exact(Below.heap_alloc _ _ _ aa).trans ((Below.heap_alloc _ _ _ aa).trans (heap_alloc_new w _))
 .refine(Below.heap_alloc _ _ _ aa).trans ?_
  rw[<-h1];exact heap_alloc_new _ _
 .rw[<-h2];exact heap_alloc_new _ _
theorem W3.below(h:W3 w W p q r P0 P1 Q0 Q1)(hb:aj W W'):W3 w W' p q r P0 P1 Q0 Q1:=
 ⟨h.fp.below hb,h.fq.below hb,h.fr.below hb,h.b.trans (hb.mono h.b.size),h.ge,h.np,h.nq⟩
theorem W3.nx(h:W3 w W p q r P0 P1 Q0 Q1)(hb:aj W.drew W'):W3 w W' p q r P0 P1 Q0 Q1:=h.below ((Below.refl W.heap.size W).drew.trans (hb.mono (Below.refl W.heap.size W).drew.size))
theorem anw(v u:aN)(y z:Int)(L K:Nat)(w:aM)(h:rA w v y L)(h':rA w u z K)(hL:L<=40)(hK:K<=40):
  ak 76 #[v,u] w λe w'=>∃v,e=aL v/\rA w' v (y*z) (L+K)/\Below w.heap.size w w':=by
 obtain⟨neg,sl,a,rfl,h2,h3,h4,h5,h6⟩:=h;obtain⟨jO,sl',a',rfl,k2,k3,k4,k5,k6⟩:=h';obtain⟨so,cap,rfl⟩:=lR h2;obtain⟨ny,cap',rfl⟩:=lR k2;have hW:=W3.start w (aD neg) (aG so a.length cap) (aD jO) (aG ny a'.length cap');have hA:=pE h2 hW.b;have hB:=pE k2 hW.b;have HE:Hid (∀x:Nat,x=y.natAbs*z.natAbs->x=(y*z).natAbs/\((neg != jO)=true->y*z<=0)/\((neg != jO)=false->0<=y*z)):=λx hx=>by
  refine⟨by rw[hx,oX],λe=>?_,λe=>?_⟩
  .cases neg<;>cases jO<;>simp at e
   .exact agU (h6 rfl) (k5 rfl)
   .exact C8 (h5 rfl) (k6 rfl)
  .cases neg<;>cases jO<;>simp at e
   .exact jF (h6 rfl) (k6 rfl)
   .exact uQ (h5 rfl) (k5 rfl)
 have HX:Hid (Cn a y.natAbs/\Cn a' z.natAbs/\a.length<=L/\a'.length<=K):=⟨h3,k3,h4,k4⟩;clear h2 k2 h3 k3 h4 k4 h5 h6 k5 k6
 go_enter func76,ntmps76
 go_wp2_with fail
 generalize((w.alloc (.cells #[aD neg,aG so a.length cap] 144)).alloc (.cells #[aD jO,aG ny a'.length cap'] 144)).alloc (.cells #[aD false,aG none 0 0] 144)=W at*;generalize w.heap.size+1+1=r at*;generalize w.heap.size+1=q at*;obtain⟨p,hp⟩:∃p,p=w.heap.size:=⟨_,rfl⟩;rw[<-hp] at hW⊢;clear hp;have n1:=hW.np;have n2:=hW.nq;have n3:=hW.np.symm;have n4:=hW.nq.symm;have r0:=hW.fp.c0;have r1:=hW.fp.c1;have r2:=hW.fq.c0;have r3:=hW.fq.c1;have HP:Hid ((ak 131 #[aG so a.length cap,aG ny a'.length cap'] W.drew λe w'=>∃v,e=aL v/\∃o,dQ w' v o/\Cn o (y.natAbs*z.natAbs)/\o.length<=a.length+a'.length/\Below W.drew.heap.size W.drew w')/\∀w7,Below W.drew.heap.size W.drew w7->W3 w w7 p q r (aD neg) (aG so a.length cap) (aD jO) (aG ny a'.length cap')):=
  ⟨ans a a' _ _ _ _ _ (pE hA (Below.refl _ _).drew) (pE hB (Below.refl _ _).drew) HX.out.1 HX.out.2.1 (by have:=HX.out.2.2;omega) (by have:=HX.out.2.2;omega),λw7 hb=>hW.nx hb⟩
 clear hW hA hB
 go_region_held3 (λw'=>w'.cell? ⟨p,0,none⟩=some (aD neg)/\w'.cell? ⟨p,1,none⟩=some (aG so a.length cap)/\w'.cell? ⟨q,0,none⟩=some (aD jO)/\w'.cell? ⟨q,1,none⟩=some (aG ny a'.length cap')) (go_keep) (first
  |(go_at_call 131;refine(HP.out.1).mono ?_;rintro e w7 ⟨v7,rfl,o7,mg,uD,uE,bu⟩;obtain⟨s7,c7,rfl⟩:=lR mg;have h7:=HP.out.2 w7 bu;have r0:=h7.fp.c0;have r1:=h7.fp.c1;have r2:=h7.fq.c0;have r3:=h7.fq.c1;have y0:=h7.fr.c0;have y1:=h7.fr.c1;have z0:=h7.fr.fr 0;have z1:=h7.fr.fr 1;have hf:=E1 (v0:=aD (!(neg == jO))) h7.fr mg h7.b h7.ge;have HF:Hid ((dQ ((w7.setCell ⟨r,0,none⟩ (aD (!(neg == jO)))).setCell ⟨r,1,none⟩ (aG s7 o7.length c7)) (aG s7 o7.length c7) o7/\Below w.heap.size w ((w7.setCell ⟨r,0,none⟩ (aD (!(neg == jO)))).setCell ⟨r,1,none⟩ (aG s7 o7.length c7)))/\Cn o7 (y.natAbs*z.natAbs)/\o7.length<=a.length+a'.length):=⟨hf,uD,uE⟩;clear hf mg uD uE bu h7))
 go_wp2_with fail
 refine bodyPost_ret (v:=aC #[aD (!(neg == jO)),aG s7 o7.length c7]) (by simp[results,results76,go_sem,y0,y1]) rfl ⟨_,rfl,?_⟩
 obtain⟨f1,f2,f3⟩:=HE.out _ rfl;refine⟨⟨_,_,o7,rfl,HF.out.1.1,by rw[<-f1];exact HF.out.2.1,by have:=HF.out.2.2;have:=HX.out.2.2;omega,f2,f3⟩,HF.out.1.2⟩
theorem anx(v u:aN)(y z:Int)(M:Nat)(w:aM)(h:rA w v y M)(h':rA w u z M)(hM:M<=90):
  ak 75 #[v,u] w λe w'=>∃v,e=aL v/\rA w' v (y-z) (M+1)/\Below w.heap.size w w':=by
 obtain⟨neg,sl,a,rfl,h2,h3,h4,h5,h6⟩:=h;obtain⟨jO,sl',a',rfl,k2,k3,k4,k5,k6⟩:=h';obtain⟨so,cap,rfl⟩:=lR h2;obtain⟨ny,cap',rfl⟩:=lR k2;have hW:=W3.start w (aD neg) (aG so a.length cap) (aD jO) (aG ny a'.length cap');have hA:=pE h2 hW.b;have hB:=pE k2 hW.b;have HX:Hid (Cn a y.natAbs/\Cn a' z.natAbs/\a.length<=M/\a'.length<=M/\(neg=true->y<=0)/\(neg=false->0<=y)/\(jO=true->z<=0)/\(jO=false->0<=z)):=⟨h3,k3,h4,k4,h5,h6,k5,k6⟩;clear h2 k2 h3 k3 h4 k4 h5 h6 k5 k6
 go_enter func75,ntmps75
 by_cases hn:neg=jO
 .subst hn
  go_wp2_with fail
  generalize((w.alloc (.cells #[aD neg,aG so a.length cap] 144)).alloc (.cells #[aD neg,aG ny a'.length cap'] 144)).alloc (.cells #[aD false,aG none 0 0] 144)=W at*;generalize w.heap.size+1+1=r at*;generalize w.heap.size+1=q at*;obtain⟨p,hp⟩:∃p,p=w.heap.size:=⟨_,rfl⟩;rw[<-hp] at hW⊢;clear hp;refine(anp a a' _ _ _ _ _ hA hB HX.out.1 HX.out.2.1 (by have:=HX.out.2.2;omega) (by have:=HX.out.2.2;omega)).mono ?_
  rintro e w5 ⟨rc,rfl,hrc,bh⟩
  replace hW:=hW.below bh
  replace hA:=pE hA bh
  replace hB:=pE hB bh
  clear bh;by_cases hc:0<=rc
  .have hyx:=hrc.1 hc;clear hrc;have HP:Hid ((ak 130 #[aG so a.length cap,aG ny a'.length cap'] w5.drew λe w'=>∃v,e=aL v/\∃o,dQ w' v o/\Cn o (y.natAbs-z.natAbs)/\o.length<=a.length/\Below w5.drew.heap.size w5.drew w')/\∀w7,Below w5.drew.heap.size w5.drew w7->W3 w w7 p q r (aD neg) (aG so a.length cap) (aD neg) (aG ny a'.length cap')):=
    ⟨acx a a' _ _ _ _ _ (pE hA (Below.refl _ _).drew) (pE hB (Below.refl _ _).drew) HX.out.1 HX.out.2.1 (by have:=HX.out.2.2;omega) hyx,λw7 hb=>hW.nx hb⟩
   have n1:=hW.np;have n2:=hW.nq;have n3:=hW.np.symm;have n4:=hW.nq.symm;have r0:=hW.fp.c0;have r1:=hW.fp.c1;have r2:=hW.fq.c0;have r3:=hW.fq.c1;clear hW hA hB
   go_wp2_with fail
   go_region_held3 (λw'=>w'.cell? ⟨p,0,none⟩=some (aD neg)/\w'.cell? ⟨p,1,none⟩=some (aG so a.length cap)/\w'.cell? ⟨q,1,none⟩=some (aG ny a'.length cap')) (go_keep) (first
    |(go_at_call 130;refine(HP.out.1).mono ?_;rintro e w7 ⟨v7,rfl,o7,mg,uD,uE,bu⟩;obtain⟨s7,c7,rfl⟩:=lR mg;have h7:=HP.out.2 w7 bu;have r0:=h7.fp.c0;have r1:=h7.fp.c1;have r3:=h7.fq.c1;have y0:=h7.fr.c0;have y1:=h7.fr.c1;have z0:=h7.fr.fr 0;have z1:=h7.fr.fr 1;have hf:=E1 (v0:=aD neg) h7.fr mg h7.b h7.ge;have HF:Hid ((dQ ((w7.setCell ⟨r,0,none⟩ (aD neg)).setCell ⟨r,1,none⟩ (aG s7 o7.length c7)) (aG s7 o7.length c7) o7/\Below w.heap.size w ((w7.setCell ⟨r,0,none⟩ (aD neg)).setCell ⟨r,1,none⟩ (aG s7 o7.length c7)))/\Cn o7 (y.natAbs-z.natAbs)/\o7.length<=a.length):=⟨hf,uD,uE⟩;clear hf mg uD uE bu h7))
   go_wp2_with fail
   refine bodyPost_ret (v:=aC #[aD neg,aG s7 o7.length c7]) (by simp[results,results75,go_sem,y0,y1]) rfl ⟨_,rfl,?_⟩
   obtain⟨x1,x2,x3,x4,x5,x6,x7,x8⟩:=HX.out;refine⟨⟨_,_,o7,rfl,HF.out.1.1,?_,by have:=HF.out.2.2;omega,λe=>by have:=x5 e;have:=x7 e;omega,λe=>by have:=x6 e;have:=x8 e;omega⟩,HF.out.1.2⟩
   rw[show(y-z).natAbs=y.natAbs-z.natAbs by(cases neg with
     |true=>have:=x5 rfl;have:=x7 rfl;omega
     |false=>have:=x6 rfl;have:=x8 rfl;omega)]
   exact HF.out.2.1
  .have hyx:y.natAbs<=z.natAbs:=by have:=λh=>hc (hrc.2 h);omega
   clear hrc;have HP:Hid ((ak 130 #[aG ny a'.length cap',aG so a.length cap] w5.drew λe w'=>∃v,e=aL v/\∃o,dQ w' v o/\Cn o (z.natAbs-y.natAbs)/\o.length<=a'.length/\Below w5.drew.heap.size w5.drew w')/\∀w7,Below w5.drew.heap.size w5.drew w7->W3 w w7 p q r (aD neg) (aG so a.length cap) (aD neg) (aG ny a'.length cap')):=
    ⟨acx a' a _ _ _ _ _ (pE hB (Below.refl _ _).drew) (pE hA (Below.refl _ _).drew) HX.out.2.1 HX.out.1 (by have:=HX.out.2.2;omega) hyx,λw7 hb=>hW.nx hb⟩
   have n1:=hW.np;have n2:=hW.nq;have n3:=hW.np.symm;have n4:=hW.nq.symm;have r0:=hW.fp.c0;have r1:=hW.fp.c1;have r2:=hW.fq.c0;have r3:=hW.fq.c1;clear hW hA hB
   go_wp2_with fail
   go_region_held3 (λw'=>w'.cell? ⟨p,0,none⟩=some (aD neg)/\w'.cell? ⟨p,1,none⟩=some (aG so a.length cap)/\w'.cell? ⟨q,1,none⟩=some (aG ny a'.length cap')) (go_keep) (first
    |(go_at_call 130;refine(HP.out.1).mono ?_;rintro e w7 ⟨v7,rfl,o7,mg,uD,uE,bu⟩;obtain⟨s7,c7,rfl⟩:=lR mg;have h7:=HP.out.2 w7 bu;have r0:=h7.fp.c0;have r1:=h7.fp.c1;have r3:=h7.fq.c1;have y0:=h7.fr.c0;have y1:=h7.fr.c1;have z0:=h7.fr.fr 0;have z1:=h7.fr.fr 1;have hf:=E1 (v0:=aD (!neg)) h7.fr mg h7.b h7.ge;have HF:Hid ((dQ ((w7.setCell ⟨r,0,none⟩ (aD (!neg))).setCell ⟨r,1,none⟩ (aG s7 o7.length c7)) (aG s7 o7.length c7) o7/\Below w.heap.size w ((w7.setCell ⟨r,0,none⟩ (aD (!neg))).setCell ⟨r,1,none⟩ (aG s7 o7.length c7)))/\Cn o7 (z.natAbs-y.natAbs)/\o7.length<=a'.length):=⟨hf,uD,uE⟩;clear hf mg uD uE bu h7))
   go_wp2_with fail
   refine bodyPost_ret (v:=aC #[aD (!neg),aG s7 o7.length c7]) (by simp[results,results75,go_sem,y0,y1]) rfl ⟨_,rfl,?_⟩
   obtain⟨x1,x2,x3,x4,x5,x6,x7,x8⟩:=HX.out;refine⟨⟨_,_,o7,rfl,HF.out.1.1,?_,by have:=HF.out.2.2;omega,λe=>by have:=x6 (by simpa using e);have:=x8 (by simpa using e);omega,λe=>by have:=x5 (by simpa using e);have:=x7 (by simpa using e);omega⟩,HF.out.1.2⟩
   rw[show(y-z).natAbs=z.natAbs-y.natAbs by(cases neg with
     |true=>have:=x5 rfl;have:=x7 rfl;omega
     |false=>have:=x6 rfl;have:=x8 rfl;omega)]
   exact HF.out.2.1
 .have hne:(neg == jO)=false:=by simp[hn]
  go_wp2_with fail
  generalize((w.alloc (.cells #[aD neg,aG so a.length cap] 144)).alloc (.cells #[aD jO,aG ny a'.length cap'] 144)).alloc (.cells #[aD false,aG none 0 0] 144)=W at*;generalize w.heap.size+1+1=r at*;generalize w.heap.size+1=q at*;obtain⟨p,hp⟩:∃p,p=w.heap.size:=⟨_,rfl⟩;rw[<-hp] at hW⊢;clear hp;have HP:Hid ((ak 128 #[aG so a.length cap,aG ny a'.length cap'] W.drew λe w'=>∃v,e=aL v/\∃o,dQ w' v o/\Cn o (y.natAbs+z.natAbs)/\o.length<=M+1/\Below W.drew.heap.size W.drew w')/\∀w7,Below W.drew.heap.size W.drew w7->W3 w w7 p q r (aD neg) (aG so a.length cap) (aD jO) (aG ny a'.length cap')):=
   ⟨anq a a' _ _ _ _ _ (pE hA (Below.refl _ _).drew) (pE hB (Below.refl _ _).drew) HX.out.1 HX.out.2.1 M HX.out.2.2.1 HX.out.2.2.2.1 aa,λw7 hb=>hW.nx hb⟩
  have n1:=hW.np;have n2:=hW.nq;have n3:=hW.np.symm;have n4:=hW.nq.symm;have r0:=hW.fp.c0;have r1:=hW.fp.c1;have r2:=hW.fq.c0;have r3:=hW.fq.c1;clear hW hA hB
  go_region_held3 (λw'=>w'.cell? ⟨p,0,none⟩=some (aD neg)/\w'.cell? ⟨p,1,none⟩=some (aG so a.length cap)/\w'.cell? ⟨q,1,none⟩=some (aG ny a'.length cap')) (go_keep) (first
   |(go_at_call 128;refine(HP.out.1).mono ?_;rintro e w7 ⟨v7,rfl,o7,mg,uD,uE,bu⟩;obtain⟨s7,c7,rfl⟩:=lR mg;have h7:=HP.out.2 w7 bu;have r0:=h7.fp.c0;have r1:=h7.fp.c1;have r3:=h7.fq.c1;have y0:=h7.fr.c0;have y1:=h7.fr.c1;have z0:=h7.fr.fr 0;have z1:=h7.fr.fr 1;have hf:=E1 (v0:=aD neg) h7.fr mg h7.b h7.ge;have HF:Hid ((dQ ((w7.setCell ⟨r,0,none⟩ (aD neg)).setCell ⟨r,1,none⟩ (aG s7 o7.length c7)) (aG s7 o7.length c7) o7/\Below w.heap.size w ((w7.setCell ⟨r,0,none⟩ (aD neg)).setCell ⟨r,1,none⟩ (aG s7 o7.length c7)))/\Cn o7 (y.natAbs+z.natAbs)/\o7.length<=M+1):=⟨hf,uD,uE⟩;clear hf mg uD uE bu h7))
  go_wp2_with fail
  refine bodyPost_ret (v:=aC #[aD neg,aG s7 o7.length c7]) (by simp[results,results75,go_sem,y0,y1]) rfl ⟨_,rfl,?_⟩
  obtain⟨x1,x2,x3,x4,x5,x6,x7,x8⟩:=HX.out;refine⟨⟨_,_,o7,rfl,HF.out.1.1,?_,by have:=HF.out.2.2;omega,λe=>by have:=x5 e;have:=x8 (by cases jO<;>simp_all);omega,λe=>by have:=x6 e;have:=x7 (by cases jO<;>simp_all);omega⟩,HF.out.1.2⟩
  rw[show(y-z).natAbs=y.natAbs+z.natAbs by(cases neg with
    |true=>have:=x5 rfl;have:=x8 (by cases jO<;>simp_all);omega
    |false=>have:=x6 rfl;have:=x7 (by cases jO<;>simp_all);omega)]
  exact HF.out.2.1
def nO(n:Int):Prop:= -1000000000000<=n/\n<=1000000000000
def P4(W:aM)(X:Nat)(a b c d:Int):Prop:=W.heap[X]?=some (.cells #[az aJ a,az aJ b,az aJ c,az aJ d] 100 (0,0))
theorem jf(W:aM)(o:Obj):aj W (W.alloc o):=(Below.refl W.heap.size W).alloc (aY _) o
def Bw(w W:aM):Prop:=aj w W
theorem Bw.tr(h:Bw w W)(hb:Bw W w'):Bw w w':=Below.trans h (Below.mono hb (Below.size h))
theorem mM(W:aM):Bw W W:=Below.refl _ _
theorem Nn(W:aM):Bw W W.drew:=(Below.refl _ _).drew
theorem IK(W:aM)(o:Obj):Bw W (W.alloc o):=jf W o
theorem TF(W:aM)(o:Obj):Bw W (W.alloc o).drew:=(jf W o).drew
theorem P4.mv{a b c d:Int}(h:P4 w X a b c d)(hb:Bw w w'):P4 w' X a b c d:=(hb.block X (lt_of_heap h)).trans h
def Gd:List (aN×Int×Nat)->aM->Prop
 |[],_=>True
 |t::L,W=>rA W t.1 t.2.1 t.2.2/\Gd L W
theorem Gd.mv:∀{L:List (aN×Int×Nat)}{w w':aM},Gd L w->Bw w w'->Gd L w'
 |[],_,_,_,_=>trivial
 |_::_,_,_,h,hb=>⟨h.1.below hb,h.2.mv hb⟩
def Wl:List (Nat×aN×aN)->aM->Prop
 |[],_=>True
 |t::L,W=>WC W t.1 t.2.1 t.2.2/\Wl L W
theorem Wl.mv:∀{L:List (Nat×aN×aN)}{w w':aM},Wl L w->Bw w w'->Wl L w'
 |[],_,_,_,_=>trivial
 |_::_,_,_,h,hb=>⟨h.1.below hb,h.2.mv hb⟩
def Gv(L:List (aN×Int×Nat))(z:Int)(l:Nat)(W0 W:aM)(e:Ending)(w7:aM):Prop:=∃v,e=aL v/\Gd ((v,z,l)::L) w7/\Bw W0 w7/\aj W w7
theorem TG{L:List (aN×Int×Nat)}{w7:aM}{e:Ending}(hG:Gd L W0)(hw:Bw W0 W)(h:∃v,e=aL v/\rA w7 v z l/\aj W w7):Gv L z l W0 W e w7:=by
 obtain⟨v,rfl,hv,hb⟩:=h;exact⟨v,rfl,⟨hv,hG.mv (hw.tr hb)⟩,hw.tr hb,hb⟩
theorem acC{L:List (aN×Int×Nat)}(h:Gd ((v,z,l)::L) W):∃n t d c,v=aC #[aD n,aG t d c]:=by
 obtain⟨n,s,d,rfl,h1,h2⟩:=h.1;obtain⟨t,c,rfl⟩:=lR h1;exact⟨n,t,_,c,rfl⟩
theorem E3{n:Int}{L:List (aN×Int×Nat)}(hG:Gd L W0)(h:Hid (nO n):=by assumption)(hw:Bw W0 W:=by first |exact mM _|exact Nn _|exact IK _ _|exact TF _ _):ak 77 #[az aJ n] W (Gv L n 2 W0 W):=(anu n W h.out.1 h.out.2).mono λ_ _ k=>TG hG hw k
theorem IL{y:Int}{L:List (aN×Int×Nat)}(hG:Gd ((u,z,k)::(v,y,l)::L) W0)(hw:Bw W0 W:=by first |exact mM _|exact Nn _|exact IK _ _|exact TF _ _)(hl:l<=40:=by decide)(hk:k<=40:=by decide):ak 76 #[v,u] W (Gv L (y*z) (l+k) W0 W):=(anw v u y z l k W (hG.2.1.below hw) (hG.1.below hw) hl hk).mono λ_ _ k=>TG hG.2.2 hw k
theorem acD{y:Int}{L:List (aN×Int×Nat)}(hG:Gd ((u,z,l)::(v,y,l)::L) W0)(hw:Bw W0 W:=by first |exact mM _|exact Nn _|exact IK _ _|exact TF _ _)(hl:l<=90:=by decide):ak 75 #[v,u] W (Gv L (y-z) (l+1) W0 W):=(anx v u y z l W (hG.2.1.below hw) (hG.1.below hw) hl).mono λ_ _ k=>TG hG.2.2 hw k
structure WX(W0 W:aM)(X:Nat)(c0' c1':aN):Prop where
 c:WC W X c0' c1'
 z:W0.heap.size<=X
theorem WX.mv(h:WX W0 w X c0' c1')(hb:aj w w'):WX W0 w' X c0' c1':=⟨h.c.below hb,h.z⟩
theorem TH(h:Bw W0 W)(hb:Below (W.alloc (.cells #[c0',c1'] 144)).heap.size (W.alloc (.cells #[c0',c1'] 144)) w'):WX W0 w' W.heap.size c0' c1':=⟨WC.below (heap_alloc_new W _) hb,Below.size h⟩
theorem acE(h:Bw W0 W)(hb:Below (W.alloc (.cells #[c0',c1'] 144)).drew.heap.size (W.alloc (.cells #[c0',c1'] 144)).drew w'):WX W0 w' W.heap.size c0' c1':=TH h ((Nn _).tr hb)
def Mv(W0:aM)(n:Bool)(sl:aN)(z:Int)(l:Nat)(L:List (aN×Int×Nat))(WF:aM)(XF:Nat):Prop:=Bw W0 WF/\WC WF XF (aD n) sl/\Gd ((aC #[aD n,sl],z,l)::L) WF
theorem acF{n:Bool}{L:List (aN×Int×Nat)}(h:Bw W0 W)(hG:Gd ((aC #[aD n,sl],z,l)::L) W):∃WF XF,WF=W.alloc (.cells #[aD n,sl] 144)/\XF=W.heap.size/\Mv W0 n sl z l L WF XF:=
 ⟨_,_,rfl,rfl,h.tr (IK _ _),heap_alloc_new W _,hG.mv (IK _ _)⟩
theorem TI:∀{L:List (aN×Int×Nat)}{w:aM},Gd L w->∀{X:Nat}{c0' c1':aN},WC w X c0' c1'->∀(o:Nat)(u:aN),Gd L (w.setCell ⟨X,o,none⟩ u)
 |[],_,_,_,_,_,_,_,_=>trivial
 |_::_,_,h,_,_,_,hX,o,u=>⟨by
  obtain⟨n,s,a,h1,h2,h3⟩:=h.1;exact⟨n,s,a,h1,TE h2 hX o u,h3⟩,TI h.2 hX o u⟩
theorem acG{n:Bool}{L:List (aN×Int×Nat)}(h:Bw W0 W)(hG:Gd ((aC #[aD n,sl],z,l)::L) W)(hX:WX W0 W X c0' c1'):∃WF XF,WF=(W.setCell ⟨X,0,none⟩ (aD n)).setCell ⟨X,1,none⟩ sl/\XF=X/\Mv W0 n sl z l L WF XF:=by
 have k1:WC (W.setCell ⟨X,0,none⟩ (aD n)) X (aD n) c1':=by
  show _=_;rw[heap_set hX.c];rfl
 have k2:WC ((W.setCell ⟨X,0,none⟩ (aD n)).setCell ⟨X,1,none⟩ sl) X (aD n) sl:=by
  show _=_;rw[heap_set k1];rfl
 exact⟨_,_,rfl,rfl,Below.setCell (Below.setCell h hX.z _) hX.z _,k2,TI (TI hG hX.c 0 _) k1 1 _⟩
structure P3(W:aM)(A B C:Nat)(a1 a2 a3 a4 b1 b2 b3 b4 c1' c2 c3 c4:Int):Prop where
 a:P4 W A a1 a2 a3 a4
 b:P4 W B b1 b2 b3 b4
 c:P4 W C c1' c2 c3 c4
def C3(w':aM)(A B C:Nat)(a1 a2 a3 a4 b1 b2 b3 b4 c1' c2 c3 c4:Int):Prop:=w'.cell? ⟨A,0,none⟩=some (az aJ a1)/\w'.cell? ⟨A,1,none⟩=some (az aJ a2)/\w'.cell? ⟨A,2,none⟩=some (az aJ a3)/\w'.cell? ⟨A,3,none⟩=some (az aJ a4)/\w'.cell? ⟨B,0,none⟩=some (az aJ b1)/\w'.cell? ⟨B,1,none⟩=some (az aJ b2)/\w'.cell? ⟨B,2,none⟩=some (az aJ b3)/\w'.cell? ⟨B,3,none⟩=some (az aJ b4)/\w'.cell? ⟨C,0,none⟩=some (az aJ c1')/\w'.cell? ⟨C,1,none⟩=some (az aJ c2)/\w'.cell? ⟨C,2,none⟩=some (az aJ c3)/\w'.cell? ⟨C,3,none⟩=some (az aJ c4)/\w'.heap.size≠A/\w'.heap.size≠B/\w'.heap.size≠C
theorem P3.cells{c1':Int}(h:P3 W A B C a1 a2 a3 a4 b1 b2 b3 b4 c1' c2 c3 c4)(hb:Bw W w'):C3 w' A B C a1 a2 a3 a4 b1 b2 b3 b4 c1' c2 c3 c4:=by
 have ha:=h.a.mv hb;have hb':=h.b.mv hb;have hc:=h.c.mv hb;exact⟨cell_of ha 0,cell_of ha 1,cell_of ha 2,cell_of ha 3,cell_of hb' 0,cell_of hb' 1,cell_of hb' 2,cell_of hb' 3,cell_of hc 0,cell_of hc 1,cell_of hc 2,cell_of hc 3,nZ (lt_of_heap ha),nZ (lt_of_heap hb'),nZ (lt_of_heap hc)⟩
theorem P3.mv{c1':Int}(h:P3 W A B C a1 a2 a3 a4 b1 b2 b3 b4 c1' c2 c3 c4)(hb:Bw W w'):P3 w' A B C a1 a2 a3 a4 b1 b2 b3 b4 c1' c2 c3 c4:=⟨h.a.mv hb,h.b.mv hb,h.c.mv hb⟩
theorem acH(w:aM)(a1 a2 a3 a4 b1 b2 b3 b4 c1' c2 c3 c4:Int):∃W,W=((w.alloc (.cells #[az aJ a1,az aJ a2,az aJ a3,az aJ a4] 100)).alloc (.cells #[az aJ b1,az aJ b2,az aJ b3,az aJ b4] 100)).alloc (.cells #[az aJ c1',az aJ c2,az aJ c3,az aJ c4] 100)/\P3 W w.heap.size (w.heap.size+1) (w.heap.size+1+1) a1 a2 a3 a4 b1 b2 b3 b4 c1' c2 c3 c4/\Bw w W:=by
 refine⟨_,rfl,⟨P4.mv (P4.mv (heap_alloc_new w _) (jf _ _)) (jf _ _),P4.mv (?_:P4 _ _ _ _ _ _) (jf _ _),?_⟩,Bw.tr (Bw.tr (jf w _) (jf _ _)) (jf _ _)⟩
 .have:=heap_alloc_new (w.alloc (.cells #[az aJ a1,az aJ a2,az aJ a3,az aJ a4] 100)) (.cells #[az aJ b1,az aJ b2,az aJ b3,az aJ b4] 100);simpa[P4] using this
 .have:=heap_alloc_new ((w.alloc (.cells #[az aJ a1,az aJ a2,az aJ a3,az aJ a4] 100)).alloc (.cells #[az aJ b1,az aJ b2,az aJ b3,az aJ b4] 100)) (.cells #[az aJ c1',az aJ c2,az aJ c3,az aJ c4] 100);simpa[P4] using this
structure Kt(P:Prop):Prop where
 out:P
theorem acI{P R:Prop}(f:Kt P->R)(p:P):R:=f ⟨p⟩
theorem anz(a1 a2 a3 a4 b1 b2 b3 b4 c1' c2 c3 c4:Int)(w:aM)(ha1:Hid (nO a1))(ha2:Hid (nO a2))(Xi:Hid (nO a3))(ha4:Hid (nO a4))(hb1:Hid (nO b1))(hb2:Hid (nO b2))(hb3:Hid (nO b3))(hb4:Hid (nO b4))(hc1:Hid (nO c1'))(hc2:Hid (nO c2))(hc3:Hid (nO c3))(Nl:Hid (nO c4)):
  ak 48 #[aC #[az aJ a1,az aJ a2,az aJ a3,az aJ a4],aC #[az aJ b1,az aJ b2,az aJ b3,az aJ b4],aC #[az aJ c1',az aJ c2,az aJ c3,az aJ c4]] w λe w'=>e=aL (az aJ (((b1*a2-a1*b2)*(c3*a4-a3*c4)*(b4*c2)-(b3*a4-a3*b4)*(c1'*a2-a1*c2)*(b2*c4)).sign))/\Below w.heap.size w w':=by
 go_enter func48,ntmps48
 go_wp2_with fail
 obtain⟨W,hW,hP,hw⟩:=acH w a1 a2 a3 a4 b1 b2 b3 b4 c1' c2 c3 c4;rw[<-hW];generalize w.heap.size+1+1=C at*;generalize w.heap.size+1=B at*;obtain⟨A,IM⟩:∃A,A=w.heap.size:=⟨_,rfl⟩;rw[<-IM] at hP⊢;clear IM hW;have hG:Gd [] W:=trivial;have hV:Wl [] W:=trivial
 iterate 4
  obtain⟨r0,r1,r2,r3,r4,r5,r6,r7,r8,r9,ra,rb,q0,q1,q2⟩:=hP.cells (mM W);apply acI
  case f=>
   intro KK;have ch:=mM W;have T0:Hid (0=0):=rfl
   go_region_held3 (λw'=>w'.cell? ⟨A,0,none⟩=some (az aJ a1)/\w'.cell? ⟨A,1,none⟩=some (az aJ a2)/\w'.cell? ⟨A,2,none⟩=some (az aJ a3)/\w'.cell? ⟨A,3,none⟩=some (az aJ a4)/\w'.cell? ⟨B,0,none⟩=some (az aJ b1)/\w'.cell? ⟨B,1,none⟩=some (az aJ b2)/\w'.cell? ⟨B,2,none⟩=some (az aJ b3)/\w'.cell? ⟨B,3,none⟩=some (az aJ b4)/\w'.cell? ⟨C,0,none⟩=some (az aJ c1')/\w'.cell? ⟨C,1,none⟩=some (az aJ c2)/\w'.cell? ⟨C,2,none⟩=some (az aJ c3)/\w'.cell? ⟨C,3,none⟩=some (az aJ c4)) (go_keep)
    (((first
     |(go_at_call 77;clear T0;refine(E3 hG).mono ?_;rintro e w7 ⟨v1,rfl,il,hw2,bu⟩;have T1:Hid (0=0):=rfl)
     |(go_at_call 77;clear T1;refine(E3 hG).mono ?_;rintro e w7 ⟨v2,rfl,il,hw2,bu⟩;have T2:Hid (0=0):=rfl)
     |(go_at_call 76;clear T2;refine(IL hG).mono ?_;rintro e w7 ⟨v3,rfl,il,hw2,bu⟩;have T3:Hid (0=0):=rfl)
     |(go_at_call 77;clear T3;refine(E3 hG).mono ?_;rintro e w7 ⟨v4,rfl,il,hw2,bu⟩;have T4:Hid (0=0):=rfl)
     |(go_at_call 77;clear T4;refine(E3 hG).mono ?_;rintro e w7 ⟨v5,rfl,il,hw2,bu⟩;have T5:Hid (0=0):=rfl)
     |(go_at_call 76;clear T5;refine(IL hG).mono ?_;rintro e w7 ⟨v6,rfl,il,hw2,bu⟩;have T6:Hid (0=0):=rfl)
     |(go_at_call 75;clear T6;refine(acD hG).mono ?_;rintro e w7 ⟨v7,rfl,il,hw2,bu⟩;have T7:Hid (0=0):=rfl;obtain⟨n8,t8,d8,e8,rfl⟩:=acC il));replace hG:=il;(first |(replace hX:=hX.mv bu)|(replace hX:=hX.mv' bu)|(have hX:=TH ch bu)|(have hX:=acE ch bu)|skip);(try(have y0:=hX.c.c0;have y1:=hX.c.c1;have z0:=hX.c.fr 0;have z1:=hX.c.fr 1));replace ch:=ch.tr hw2;clear bu hw2 il;obtain⟨r0,r1,r2,r3,r4,r5,r6,r7,r8,r9,ra,rb,q0,q1,q2⟩:=hP.cells ch))
   all_goals(rename_i hS;clear hS)
   all_goals first
    |(obtain⟨WF,XF,e1,e2,hm⟩:=acG ch hG hX;rw[<-e1,<-e2];clear e1 e2)
    |(obtain⟨WF,XF,e1,e2,hm⟩:=acF ch hG;rw[<-e1,<-e2];clear e1 e2)
   all_goals(clear hG;revert v1 v2 v3 v4 v5 v6 n8 t8 d8 e8 XF WF;exact KK.out)
  clear r0 r1 r2 r3 r4 r5 r6 r7 r8 r9 ra rb q0 q1 q2;intro x1 x2 x3 x4 x5 x6 n8 t8 d8 e8 W XF hm
  replace hP:=hP.mv hm.1
  replace hw:=hw.tr hm.1
  replace hV:Wl ((XF,aD n8,aG t8 d8 e8)::_) W:=⟨hm.2.1,hV.mv hm.1⟩
  replace hG:=hm.2.2
  clear hm
  go_wp2_with fail
 rename_i _ _ _ _ _ _ n1 t1 d1 e1 _ X1 _ _ _ _ _ _ n2 t2 d2 e2 _ X2 _ _ _ _ _ _ n3 t3 d3 e3 _ X3 _ _
 obtain⟨n4,t4,d4,e4,X4,z1,z2,z3,z4,z5⟩:∃n4 t4 d4 e4 X4,n4=n8/\t4=t8/\d4=d8/\e4=e8/\X4=XF:=⟨_,_,_,_,_,rfl,rfl,rfl,rfl,rfl⟩;subst z1 z2 z3 z4 z5;obtain⟨p4,p3,p2,p1,_⟩:=hV;obtain⟨g4,g3,g2,g1,_⟩:=hG;have hG:Gd [_,_,_,_] W:=⟨g2,g1,g4,g3,trivial⟩;have hL:Gd [] W:=trivial;have hV:Wl [] W:=trivial;clear g1 g2 g3 g4
 iterate 2
  obtain⟨r0,r1,r2,r3,r4,r5,r6,r7,r8,r9,ra,rb,q0,q1,q2⟩:=hP.cells (mM W);have s1:=(p1.below (mM W)).c0;have y3:=(p1.below (mM W)).c1;have o1:=nZ (lt_of_heap (p1.below (mM W)));have s2:=(p2.below (mM W)).c0;have y4:=(p2.below (mM W)).c1;have o2:=nZ (lt_of_heap (p2.below (mM W)));have s3:=(p3.below (mM W)).c0;have y5:=(p3.below (mM W)).c1;have o3:=nZ (lt_of_heap (p3.below (mM W)));have s4:=(p4.below (mM W)).c0;have y6:=(p4.below (mM W)).c1;have o4:=nZ (lt_of_heap (p4.below (mM W)));apply acI
  case f=>
   intro KK;have ch:=mM W;have T0:Hid (0=0):=rfl
   go_region_held3 (λw'=>w'.cell? ⟨X1,0,none⟩=some (aD n1)/\w'.cell? ⟨X1,1,none⟩=some (aG t1 d1 e1)/\w'.cell? ⟨X2,0,none⟩=some (aD n2)/\w'.cell? ⟨X2,1,none⟩=some (aG t2 d2 e2)/\w'.cell? ⟨X3,0,none⟩=some (aD n3)/\w'.cell? ⟨X3,1,none⟩=some (aG t3 d3 e3)/\w'.cell? ⟨X4,0,none⟩=some (aD n4)/\w'.cell? ⟨X4,1,none⟩=some (aG t4 d4 e4)/\w'.cell? ⟨B,1,none⟩=some (az aJ b2)/\w'.cell? ⟨B,3,none⟩=some (az aJ b4)/\w'.cell? ⟨C,1,none⟩=some (az aJ c2)/\w'.cell? ⟨C,3,none⟩=some (az aJ c4)) (go_keep)
    (((first
     |(go_at_call 76;clear T0;refine(IL hG).mono ?_;rintro e w7 ⟨v1,rfl,il,hw2,bu⟩;have T1:Hid (0=0):=rfl)
     |(go_at_call 77;clear T1;refine(E3 hG).mono ?_;rintro e w7 ⟨v2,rfl,il,hw2,bu⟩;have T2:Hid (0=0):=rfl)
     |(go_at_call 77;clear T2;refine(E3 hG).mono ?_;rintro e w7 ⟨v3,rfl,il,hw2,bu⟩;have T3:Hid (0=0):=rfl)
     |(go_at_call 76;clear T3;refine(IL hG).mono ?_;rintro e w7 ⟨v4,rfl,il,hw2,bu⟩;have T4:Hid (0=0):=rfl)
     |(go_at_call 76;clear T4;refine(IL hG).mono ?_;rintro e w7 ⟨v5,rfl,il,hw2,bu⟩;have T5:Hid (0=0):=rfl;obtain⟨n8,t8,d8,e8,rfl⟩:=acC il));replace hG:=il;(first |(replace hX:=hX.mv bu)|(replace hX:=hX.mv' bu)|(have hX:=TH ch bu)|(have hX:=acE ch bu)|skip);(try(have y0:=hX.c.c0;have y1:=hX.c.c1;have z0:=hX.c.fr 0;have z1:=hX.c.fr 1));replace ch:=ch.tr hw2;clear bu hw2 il;obtain⟨r0,r1,r2,r3,r4,r5,r6,r7,r8,r9,ra,rb,q0,q1,q2⟩:=hP.cells ch;have s1:=(p1.below ch).c0;have y3:=(p1.below ch).c1;have o1:=nZ (lt_of_heap (p1.below ch));have s2:=(p2.below ch).c0;have y4:=(p2.below ch).c1;have o2:=nZ (lt_of_heap (p2.below ch));have s3:=(p3.below ch).c0;have y5:=(p3.below ch).c1;have o3:=nZ (lt_of_heap (p3.below ch));have s4:=(p4.below ch).c0;have y6:=(p4.below ch).c1;have o4:=nZ (lt_of_heap (p4.below ch))))
   all_goals(rename_i hS;clear hS)
   all_goals first
    |(obtain⟨WF,XF,e1,e2,hm⟩:=acG ch hG hX;rw[<-e1,<-e2];clear e1 e2)
    |(obtain⟨WF,XF,e1,e2,hm⟩:=acF ch hG;rw[<-e1,<-e2];clear e1 e2)
   all_goals(clear hG;revert v1 v2 v3 v4 n8 t8 d8 e8 XF WF;exact KK.out)
  clear r0 r1 r2 r3 r4 r5 r6 r7 r8 r9 ra rb q0 q1 q2 s1 s2 s3 s4 y3 y4 y5 y6 o1 o2 o3 o4;intro x1 x2 x3 x4 n8 t8 d8 e8 W XF hm
  replace hP:=hP.mv hm.1
  replace hw:=hw.tr hm.1
  replace p1:=p1.below hm.1
  replace p2:=p2.below hm.1
  replace p3:=p3.below hm.1
  replace p4:=p4.below hm.1
  replace hV:Wl ((XF,aD n8,aG t8 d8 e8)::_) W:=⟨hm.2.1,hV.mv hm.1⟩
  replace hL:Gd (_::_) W:=⟨hm.2.2.1,hL.mv hm.1⟩
  replace hG:=hm.2.2.2
  clear hm;have j0:=hV.1.c0;have j1:=hV.1.c1
  try(have j2:=hV.2.1.c0;have j3:=hV.2.1.c1)
  go_wp2_with fail
  clear j0 j1
  try clear j2 j3
 refine(acD hL).mono ?_;rintro e w7 ⟨v8,rfl,il,hw2,bu⟩
 replace hw:=hw.tr hw2
 clear bu hw2 hP hL hG hV p1 p2 p3 p4
 go_wp2_with fail
 refine(anv _ _ 15 _ il.1 aa).mono ?_
 rintro e w9 ⟨rfl,oJ⟩
 replace hw:=hw.tr oJ
 clear oJ il
 go_wp2_with fail
 go_ret
 exact⟨rfl,hw⟩
def lS(a b c:Ge.Qt):Int:=((b.1.1*a.1.2-a.1.1*b.1.2)*(c.2.1*a.2.2-a.2.1*c.2.2)*(b.2.2*c.1.2)-(b.2.1*a.2.2-a.2.1*b.2.2)*(c.1.1*a.1.2-a.1.1*c.1.2)*(b.1.2*c.2.2)).sign
theorem fY.sV{p:Ge.Qt}(h:fY p):nO p.1.1/\nO p.1.2/\nO p.2.1/\nO p.2.2:=by
 have h1:=h.xn;have h2:=h.xd;have h3:=h.yn;have h4:=h.yd;exact⟨⟨aa,aa⟩,⟨aa,aa⟩,⟨aa,aa⟩,⟨aa,aa⟩⟩
theorem IP(a b c:Ge.Qt)(w:aM)(ha:fY a)(hb:fY b)(hc:fY c):
  ak 48 #[aC (qA a),aC (qA b),aC (qA c)] w λe w'=>e=aL (az aJ (lS a b c))/\aj w w':=
 anz _ _ _ _ _ _ _ _ _ _ _ _ w ha.sV.1 ha.sV.2.1 ha.sV.2.2.1 ha.sV.2.2.2 hb.sV.1 hb.sV.2.1 hb.sV.2.2.1 hb.sV.2.2.2 hc.sV.1 hc.sV.2.1 hc.sV.2.2.1 hc.sV.2.2.2
end
end Go.Proofs.YtkjhhooecopolaaGreatDoor
