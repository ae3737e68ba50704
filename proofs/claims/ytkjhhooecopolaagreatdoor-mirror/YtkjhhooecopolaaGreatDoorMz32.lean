import Derived.Test.YtkjhhooecopolaaGreatDoorMz31
import Derived.Laws.Tables
import Derived.BigQuiet
set_option maxRecDepth 100000
set_option maxHeartbeats 4000000
namespace Go.Proofs.YtkjhhooecopolaaGreatDoor.Gb
open Ge Ga
theorem Jn{α:Type}(w:α->Int)(p q:α->Bool):∀(l:List α),dM w p (l.filter q)=dM w (fun x=>q x&&p x) l
 |[]=>rfl
 |x::l=>by
  have ih:=Jn w p q l;rw[qZ];cases h:q x
  ·rw[xy (by simp[h]),ih]
   simp
  ·rw[BZ h,qZ,ih];simp
theorem X9{α:Type}(w:α->Int){p q:α->Bool}:∀{l:List α},(∀x∈l,w x≠0->p x=q x)->dM w p l=dM w q l
 |[],_=>rfl
 |x::l,h=>by
  rw[qZ,qZ,X9 w fun y hy=>h y (bn _ hy)]
  congr 1;by_cases hw:w x=0
  ·rw[hw];split<;>split<;>rfl
  ·rw[h x (by simp) hw]
def gH(n:N3)(a b:Pt):Prop:=(rl n a).1<=0/\0<(rl n b).1
theorem Bk{n:N3}{a b:Pt}(h:gH n a b):kW n (a,b)=(rl n b).1-(rl n a).1/\kY n (a,b)= -cr (rl n a) (rl n b)/\kS n (a,b)=(rl n b).2-(rl n a).2/\kW n (b,a)=(rl n b).1-(rl n a).1/\kY n (b,a)= -cr (rl n a) (rl n b)/\kS n (b,a)=(rl n b).2-(rl n a).2:=by
 have h':¬((rl n b).1<=0/\0<(rl n a).1):=fun k=>by unfold gH at h;omega
 refine⟨if_pos h,if_pos h,if_pos h,?_,?_,?_⟩
 ·exact(if_neg h').trans (if_pos h)
 ·exact(if_neg h').trans (if_pos h)
 ·exact(if_neg h').trans (if_pos h)
theorem Ya{n:N3}{e:Pt×Pt}(h:kY n e<0):gH n e.1 e.2\/gH n e.2 e.1:=by
 by_cases h1:(rl n e.1).1<=0/\0<(rl n e.2).1
 ·exact Or.inl h1
 ·by_cases h2:(rl n e.2).1<=0/\0<(rl n e.1).1
  ·exact Or.inr h2
  ·have:kY n e=0:=(if_neg h1).trans (if_neg h2);omega
theorem Ez(n:N3)(e:Pt×Pt):kW n (rv e)=kW n e/\kY n (rv e)=kY n e/\kS n (rv e)=kS n e:=by
 by_cases h1:gH n e.1 e.2
 ·obtain⟨a,b,c,d,e1,f⟩:=Bk h1;exact⟨d.trans a.symm,e1.trans b.symm,f.trans c.symm⟩
 ·by_cases h2:gH n e.2 e.1
  ·obtain⟨a,b,c,d,e1,f⟩:=Bk h2;exact⟨a.trans d.symm,b.trans e1.symm,c.trans f.symm⟩
  ·exact⟨((if_neg h2).trans (if_neg h1)).trans ((if_neg h1).trans (if_neg h2)).symm,((if_neg h2).trans (if_neg h1)).trans ((if_neg h1).trans (if_neg h2)).symm,((if_neg h2).trans (if_neg h1)).trans ((if_neg h1).trans (if_neg h2)).symm⟩
theorem Jo(n:N3)(e e':Pt×Pt):aV n (rv e) e'=aV n e e'/\aV n e' (rv e)=aV n e' e:=by
 unfold aV;rw[(Ez n e).1,(Ez n e).2.1,(Ez n e).2.2];exact⟨rfl,rfl⟩
theorem Jp{n:N3}{x y:Pt×Pt}(hy:kY n y<0)(h:aV n y x=false):kY n x<0:=by
 have h':¬_:=fun k=>by rw[Bb.2 k] at h;cases h
 have px:=sW n x;have py:=sW n y;have q1:=(Ga.neg_mul (z:=kY n y) px).2 hy;have q2:=Ga.neg_mul (z:=kY n x) py;rw[dX] at q1 q2;exact q2.1 (by omega)
theorem aiK{n:N3}{a b f t:Pt}(h:gH n a b)(k:gH n f t)(la:cr (dr (f,t)) (dr (f,a))=0)(lb:cr (dr (f,t)) (dr (f,b))=0)(_hn:0<n.2.2):aV n (a,b) (f,t)=false/\aV n (f,t) (a,b)=false:=by
 obtain⟨a1,a2,a3,_⟩:=Bk h;obtain⟨b1,b2,b3,_⟩:=Bk k;have e:∀u v:Pt,((rl n v).1-(rl n u).1=n.2.2*(dr (u,v)).1)/\((rl n v).2-(rl n u).2=n.2.2*(dr (u,v)).2):=fun u v=>by
  unfold rl rel dr;simp only;constructor<;>grind
 have s1:cr (dr (f,t)) (dr (a,b))=0:=by
  have:cr (dr (f,t)) (dr (a,b))=cr (dr (f,t)) (dr (f,b))-cr (dr (f,t)) (dr (f,a)):=by unfold cr dr;grind
  omega
 have hS:kS n (a,b)*kW n (f,t)=kS n (f,t)*kW n (a,b):=by
  rw[a1,a3,b1,b3,(e a b).1,(e a b).2,(e f t).1,(e f t).2];unfold cr at s1;have:n.2.2*(dr (a,b)).2*(n.2.2*(dr (f,t)).1)-n.2.2*(dr (f,t)).2*(n.2.2*(dr (a,b)).1)=n.2.2*n.2.2*((dr (f,t)).1*(dr (a,b)).2-(dr (f,t)).2*(dr (a,b)).1):=by grind
  rw[s1] at this;omega
 have hY:kY n (a,b)*kW n (f,t)=kY n (f,t)*kW n (a,b):=by
  rw[a1,a2,b1,b2,(e a b).1,(e f t).1];have c1:cr (rl n a) (rl n b)=n.2.2*cr (rl n a) (dr (a,b)):=by
   have:cr (rl n a) (rl n b)=(rl n a).1*((rl n b).2-(rl n a).2)-(rl n a).2*((rl n b).1-(rl n a).1):=by unfold cr;grind
   rw[this,(e a b).1,(e a b).2];unfold cr;grind
  have c2:cr (rl n f) (rl n t)=n.2.2*cr (rl n f) (dr (f,t)):=by
   have:cr (rl n f) (rl n t)=(rl n f).1*((rl n t).2-(rl n f).2)-(rl n f).2*((rl n t).1-(rl n f).1):=by unfold cr;grind
   rw[this,(e f t).1,(e f t).2];unfold cr;grind
  have c3:cr (rl n a) (dr (f,t))=cr (rl n f) (dr (f,t)):=by
   have:cr (rl n a) (dr (f,t))-cr (rl n f) (dr (f,t))=((rl n a).1-(rl n f).1)*(dr (f,t)).2-((rl n a).2-(rl n f).2)*(dr (f,t)).1:=by unfold cr;grind
   rw[(e f a).1,(e f a).2] at this;have w:n.2.2*(dr (f,a)).1*(dr (f,t)).2-n.2.2*(dr (f,a)).2*(dr (f,t)).1= -(n.2.2*cr (dr (f,t)) (dr (f,a))):=by unfold cr;grind
   rw[w,la] at this;simp at this;omega
  have c4:cr (rl n a) (dr (a,b))*(dr (f,t)).1=cr (rl n a) (dr (f,t))*(dr (a,b)).1:=by
   have:cr (rl n a) (dr (a,b))*(dr (f,t)).1-cr (rl n a) (dr (f,t))*(dr (a,b)).1=(rl n a).1*cr (dr (f,t)) (dr (a,b)):=by unfold cr;grind
   rw[s1] at this;simp at this;omega
  rw[c1,c2];have x1: -(n.2.2*cr (rl n a) (dr (a,b)))*(n.2.2*(dr (f,t)).1)= -(n.2.2*n.2.2*(cr (rl n a) (dr (a,b))*(dr (f,t)).1)):=by grind
  have x2: -(n.2.2*cr (rl n f) (dr (f,t)))*(n.2.2*(dr (a,b)).1)= -(n.2.2*n.2.2*(cr (rl n f) (dr (f,t))*(dr (a,b)).1)):=by grind
  rw[x1,x2,c4,c3]
 unfold aV;rw[hS,hY];simp
theorem Yb{n:N3}{x y z:Pt×Pt}(h1:aV n x y=false)(h2:aV n y x=false):aV n z x=aV n z y/\aV n x z=aV n y z:=by
 have a:=Bd n;constructor
 ·refine mO.2 ⟨fun k=>?_,fun k=>?_⟩
  ·rcases a z x y k with q|q
   ·rw[h2] at q;cases q
   ·exact q
  ·rcases a z y x k with q|q
   ·rw[h1] at q;cases q
   ·exact q
 ·refine mO.2 ⟨fun k=>?_,fun k=>?_⟩
  ·rcases a x z y k with q|q
   ·exact q
   ·rw[h1] at q;cases q
  ·rcases a y z x k with q|q
   ·exact q
   ·rw[h2] at q;cases q
theorem hts{rg:List (List Pt)}{n:N3}(hn:0<n.2.2){a b:Pt}(h:gH n a b)(hP:ud (aa rg) (n1 a) (n1 b)):
  RR (aa rg) (n1 a) (n1 b)=dM (wt n) (fun e=>aV n e (a,b)) (aa rg)/\LL (aa rg) (n1 a) (n1 b)=dM (wt n) (fun e=> !aV n (a,b) e) (aa rg):=by
 obtain⟨k1,k2,k3,_⟩:=Bk h;have hw:∀z:Pt,(wv n (n1 z)).1=(rl n z).1:=fun z=>by unfold wv rl rel n1;simp
 have hD:0<(wv (n1 a) (n1 b)).1:=by
  rw[mR];have:(rl n b).1-(rl n a).1=n.2.2*(dr (a,b)).1:=by unfold rl rel dr;simp only;grind
  unfold gH at h;exact(aO hn).1 (by omega)
 have hZ:=Xp (a:=a) (b:=b) hn (show(0:Int)<1 by decide) (show(0:Int)<1 by decide) h.1 h.2 (by rw[hw];exact h.1) (by rw[hw];exact h.2) hD (by unfold lam;rw[dV,(qy (s:=(a,a))).2 rfl];exact(zC _).2.1) (by unfold lam;rw[dV,mR];unfold cr;grind)
 rw[<-k1,<-k2,<-k3] at hZ;obtain⟨r1,r2⟩:=Xx (e0:=(a,b)) hn hP hZ (by rw[hw];exact h.1) (by rw[hw];exact h.2)
 refine⟨r1,?_⟩;have e:LL (aa rg) (n1 a) (n1 b)=RR (aa rg) (n1 a) (n1 b)+total (fb (aU (n1 a) (n1 b)) (wv (n1 a) (n1 b))) (aa rg):=rfl;rw[e,r1,r2];refine(AZ _ fun x _=>?_).symm
 cases q1:aV n x (a,b)<;>cases q2:aV n (a,b) x
 ·rfl
 ·rfl
 ·rfl
 ·have:=Bc n _ _ _ q1 q2;rw[Em] at this;cases this
section
variable{rg:List (List Pt)}{l:List Nd}
theorem aiL(hN:bQ (aa rg) l){az:Int->Bool}{n:Nd}(hn:n∈l)(hin:az (PP (aa rg) n)=true){a b:Nd}(hs:Sd (aa rg) l az a b)(hc:gH (n1 (PM (af l) n)) (PM (af l) b) (PM (af l) a))(hy:kY (n1 (PM (af l) n)) (PM (af l) b,PM (af l) a)<0):
  ∃f t,Sd (aa rg) l az f t/\gH (n1 (PM (af l) n)) (PM (af l) f) (PM (af l) t)/\kY (n1 (PM (af l) n)) (PM (af l) f,PM (af l) t)<0/\aV (n1 (PM (af l) n)) (PM (af l) b,PM (af l) a) (PM (af l) f,PM (af l) t)=true:=by
 obtain⟨hM,hO⟩:=bQ.ok hN;have Bl:0<(n1 (PM (af l) n)).2.2:=by show(0:Int)<1;decide
 have Yc:∀{x y:Nd},x∈l->y∈l->(gH (n1 (PM (af l) n)) (PM (af l) x) (PM (af l) y)↔(wv n x).1<=0/\0<(wv n y).1):=fun{x y} hx hy=>by
  obtain⟨p,q,hp,hq,e1,_⟩:=jo hM (hO n hn) (hO x hx);obtain⟨p',q',hp',hq',mU,_⟩:=jo hM (hO n hn) (hO y hy);have g1:=jS hp hq e1;have g2:=jS hp' hq' mU;unfold gH;rw[dV,dV];omega
 have hpc:cU (aa rg) l b a/\az (LL (aa rg) b a)=false:=by
  obtain⟨_,hal,hbl⟩:=gF hN hs.pc;have hw:=(Yc hbl hal).1 hc;rcases hs with⟨q,_⟩|⟨q,q1,q2⟩
  ·exfalso;have hr:=(q.facts hN).2.2;have ca:=(hN.can a hal).pos;have cb:=(hN.can b hbl).pos;obtain⟨m1,_⟩:=I7 n a b;have cn:=(hN.can n hn).pos;have h1:n.2.2*(wv a b).1<0:=by
    have x1:=Rn hw.1 ca;have x2:=aP hw.2 cb;rw[dX] at x1 x2;omega
   have:=(Ga.neg_mul (z:=(wv a b).1) cn).1 h1;have:=zH hr;omega
  ·exact⟨q,q2⟩
 obtain⟨hpc,hout⟩:=hpc;obtain⟨e1,e2⟩:=X8 hN hpc;obtain⟨r1,r2⟩:=hts Bl hc (Od hN hpc);rw[<-e2,r2] at hout;rw[<-X0 hM (hO n hn),<-Jm hM,NF] at hin;generalize hE:aa (rg.map (·.map (bC (af l))))=E at*
 generalize Yd:n1 (PM (af l) n)=N at*;generalize hV:((PM (af l) b,PM (af l) a):Pt×Pt)=V at*;have k1:dM (wt N) (fun e=>decide (kY N e<0)) E=dM (wt N) (fun e=> !aV N V e) E+dM (wt N) (fun e=>decide (kY N e<0)) (E.filter fun e=>aV N V e):=by
  rw[Jn];refine AZ _ fun x _=>?_
  cases q:aV N V x
  ·rw[decide_eq_true (Jp hy q)];rfl
  ·cases decide (kY N x<0)<;>rfl
 rw[k1] at hin;obtain⟨z,hz,hT,hb,ha⟩:=Xl (Bc N) (Em N) (Bd N) (wt N) (fun k=>az (dM (wt N) (fun e=> !aV N V e) E+k)) (by simpa using hout) (E.filter fun e=>aV N V e) _ (fun e=>decide (kY N e<0)) (fun x y hy hyx=>decide_eq_true (Jp (of_decide_eq_true hy) hyx)) (ae _) hin
 obtain⟨hzE,Oe⟩:=jw.1 hz;have hT':=of_decide_eq_true hT;have k2:dM (wt N) (fun e=>aV N e z) E=dM (wt N) (fun e=> !aV N V e) E+dM (wt N) (fun e=>aV N e z) (E.filter fun e=>aV N V e):=by
  rw[Jn];refine AZ _ fun x _=>?_
  cases q:aV N V x
  ·rcases Bd N V z x Oe with w|w
   ·rw[w];rfl
   ·rw[w] at q;cases q
  ·cases aV N x z<;>rfl
 have k3:dM (wt N) (fun e=> !aV N e z&& !aV N z e) (E.filter fun e=>aV N V e)=dM (wt N) (fun e=> !aV N e z&& !aV N z e) E:=by
  rw[Jn];refine Ny _ fun x _=>?_
  cases q:aV N V x
  ·rcases Bd N V z x Oe with w|w
   ·rw[w];rfl
   ·rw[w] at q;cases q
  ·rfl
 rw[<-k2] at hb;rw[k3,<-Int.add_assoc,<-k2] at ha;have ue:z∈nu (af l) (aa rg):=by rw[<-Jm hM,hE];exact hzE
 obtain⟨z0,hz0,hzz⟩:=aX.1 ue;have aiN:∀u v:Pt,gH N (bC (af l) u) (bC (af l) v)↔(rl n u).1<=0/\0<(rl n v).1:=fun u v=>by
  obtain⟨p,q,hp,hq,e1,_⟩:=u9 hM (hO n hn) u;obtain⟨p',q',hp',hq',mU,_⟩:=u9 hM (hO n hn) v;have g1:=jS hp hq e1;have g2:=jS hp' hq' mU;unfold gH;rw[<-Yd];omega
 obtain⟨u,v,Ye,Yf⟩:∃u v,((u=z0.1/\v=z0.2)\/(u=z0.2/\v=z0.1))/\gH N (bC (af l) u) (bC (af l) v):=by
  rcases Ya hT' with q|q
  ·rw[<-hzz] at q;exact⟨z0.1,z0.2,Or.inl ⟨rfl,rfl⟩,q⟩
  ·rw[<-hzz] at q;exact⟨z0.2,z0.1,Or.inr ⟨rfl,rfl⟩,q⟩
 have Yg:=(aiN u v).1 Yf;obtain⟨f,t,hft,g1,g2,g3,la,lb⟩:=Xo hN hn hz0 Ye Yg.1 Yg.2;obtain⟨hfl,htl,_⟩:=hft.facts hN;have tE:gH N (PM (af l) f) (PM (af l) t):=by rw[<-Yd] at*;exact(Yc hfl htl).2 ⟨g1,g2⟩
 have p0:=jo hM (hO f hfl) (hO t htl);have ub:∀w,lam (wv f t) f w=0->cr (dr (PM (af l) f,PM (af l) t)) (dr (PM (af l) f,bC (af l) w))=0:=fun w hw=>by
  have:=u9 hM (hO f hfl) w;rw[dV] at this;exact(p0.cr this).2.2.2 hw
 obtain⟨s1,s2⟩:=aiK Yf tE (ub u la) (ub v lb) Bl;have hzl:aV N z (PM (af l) f,PM (af l) t)=false/\aV N (PM (af l) f,PM (af l) t) z=false:=by
  rcases Ye with⟨rfl,rfl⟩|⟨rfl,rfl⟩
  ·rw[<-hzz];exact⟨s1,s2⟩
  ·have e:z=rv (bC (af l) z0.2,bC (af l) z0.1):=by rw[<-hzz];rfl
   rw[e,(Jo N _ _).1,(Jo N _ _).2];exact⟨s1,s2⟩
 have hP:=Od hN hft;obtain⟨i1,i2⟩:=X8 hN hft;obtain⟨j1,j2⟩:=hts Bl tE (by rw[hE] at hP⊢;exact hP)
 rw[hE] at i1 i2 j1 j2;have cg:∀x,aV N x (PM (af l) f,PM (af l) t)=aV N x z/\aV N (PM (af l) f,PM (af l) t) x=aV N z x:=fun x=>⟨(Yb hzl.1 hzl.2).1.symm,(Yb hzl.1 hzl.2).2.symm⟩
 refine⟨f,t,Or.inl ⟨hft,?_,?_⟩,tE,Jp hT' hzl.1,?_⟩
 ·rw[<-i2,j2];have:dM (wt N) (fun e=> !aV N (PM (af l) f,PM (af l) t) e) E=dM (wt N) (fun e=>aV N e z) E+dM (wt N) (fun e=> !aV N e z&& !aV N z e) E:=by
   refine AZ _ fun x _=>?_
   rw[(cg x).2];cases q1:aV N x z<;>cases q2:aV N z x
   ·rfl
   ·rfl
   ·rfl
   ·have:=Bc N _ _ _ q1 q2;rw[Em] at this;cases this
  rw[this];exact ha
 ·rw[<-i1,j1,Ny _ fun x _=>(cg x).1]
  exact hb
 ·rw[(cg V).1];exact Oe
end
section
variable{ν:Type}{f:Nat->ν}{m:Nat}
theorem aiO(f:Nat->ν)(i:Nat)(a:List Nat×List (List Nat)):∃b,xH f i a b:=by
 by_cases h:∀o∈a.1++[i],f o≠f (i+1)
 ·exact⟨_,Or.inl ⟨h,rfl⟩⟩
 ·have key:∀L:List Nat,¬(∀o∈L,f o≠f (i+1))->∃O1 d D,L=O1++d::D/\f d=f (i+1)/\∀o∈O1,f o≠f (i+1):=by
   intro L;induction L with
   |nil=>intro k;exact absurd (fun o ho=>by simp at ho) k
   |cons x L ih=>
    intro k;by_cases hx:f x=f (i+1)
    ·exact⟨[],x,L,rfl,hx,by simp⟩
    ·obtain⟨O1,d,D,e,e1,e2⟩:=ih (fun w=>k fun o ho=>by
      rcases aQ.1 ho with q|q
      ·rw[q];exact hx
      ·exact w o q)
     exact⟨x::O1,d,D,by rw[e];rfl,e1,fun o ho=>by
      rcases aQ.1 ho with q|q
      ·rw[q];exact hx
      ·exact e2 o q⟩
  obtain⟨O1,d,D,e,e1,e2⟩:=key _ h;exact⟨_,Or.inr ⟨O1,d,D,e,e1,e2,rfl⟩⟩
theorem aiP(f:Nat->ν):∃st:Nat->List Nat×List (List Nat),st 0=([],[])/\∀i,xH f i (st i) (st (i+1)):=by
 obtain⟨F,hF⟩:=Classical.axiomOfChoice (r:=fun(p:Nat×(List Nat×List (List Nat))) b=>xH f p.1 p.2 b) fun p=>aiO f p.1 p.2
 exact⟨fun i=>Nat.rec ([],[]) (fun i s=>F (i,s)) i,rfl,fun i=>hF (i,_)⟩
end
section
variable{S:List Sg}{nx:Sg->Sg}
theorem Wd.aiQ(h:Wd S nx){s:Sg}(hs:s∈S){m:Nat}(hc:Cv nx s m){i:Nat}(hi:i<m):∃R,je S nx R/\it nx i s∈R/\∀u∈R,∃j,j<m/\u=it nx j s:=by
 obtain⟨st,h0,hst⟩:=aiP (fun i=>(it nx i s).1)
 obtain⟨_,hp,hg⟩:=parted (h.nc hs hc) (fun j hj e=>by
  rw[h.uh hs] at e;exact h.ne _ (h.nO hs j) e) (by show(it nx m s).1=s.1;rw[hc.per]) st h0 (fun i _=>hst i)
 have:i∈(st m).2.flatten:=hp.mem_iff.2 (qu.2 hi);obtain⟨D,hD,hiD⟩:=zq.1 this;obtain⟨d,hd⟩:=hg D hD;refine⟨D.map fun j=>it nx j s,hd.ring h hs hc,aX.2 ⟨i,hiD,rfl⟩,fun u hu=>?_⟩
 obtain⟨j,hj,rfl⟩:=aX.1 hu;exact⟨j,hd.lt j hj,rfl⟩
theorem aiS{A B:List Sg}{u:Sg}:u∈B++A↔u∈A++B:=by simp[or_comm]
theorem Wd.aiT(h:Wd S nx){s:Sg}(hs:s∈S){m:Nat}(hc:Cv nx s m)(hl:∀i,i<m->ge s.1 (it nx i s).1)(hno:∀R,LR S nx R->(∃i,i<m/\it nx i s∈R)->¬shl R){es:List Sg}(hcl:Cl es)(hi:In S es):Lf es s=PP es (n1 s.1):=by
 have hm:=hc.pos;obtain⟨z0,hz0,hT,hmax⟩:=Nz (lt:=fun x y=>nz (dr (it nx x s))&&nz (dr (it nx y s))&&ah (neg (dr (it nx y s))) (neg (dr (it nx x s)))) (fun x y z h1 h2=>by
   simp only[qq] at h1 h2⊢;have k:∀d,nz d=true->neg d≠(0,0):=fun d q=>jy (by unfold nz at q;simpa using q)
   exact⟨⟨h1.1.1,h2.1.2⟩,gM (k _ h2.1.2) (k _ h1.1.2) (k _ h1.1.1) h2.2 h1.2⟩) (fun x=>by rw[qx];simp) (fun i=>decide ((it nx i s).2=s.1)) (List.range m) _ (m-1) (qu.2 (by omega)) (by
   refine decide_eq_true ?_;rw[<-h.uh hs,show m-1+1=m by omega,hc.per]) (ae _)
 have aoC:=qu.1 hz0;have hb2:(it nx z0 s).2=s.1:=of_decide_eq_true hT;have wU:=h.nO hs z0;have low:∀i,i<m->(it nx i s).2=s.1->ah (neg (dr (it nx i s))) (neg (dr (it nx z0 s)))=false:=fun i hi e=>by
  have:=hmax i (qu.2 hi) (decide_eq_true e);rw[zM (h.gN wU),zM (h.gN (h.nO hs i))] at this;simpa using this
 generalize hb:it nx z0 s=b at*;obtain⟨EA,ha1⟩:=h.zK b wU;have Yh:=h.gN EA;have Og:=jy (h.gN wU);have hsm:=h.two _ EA _ wU ha1;have hwrap:ah (neg (dr b)) (dr (nx b))=true:=by
  apply mL;intro hk;have hab:ah (dr (nx b)) (neg (dr b))=true:=by
   have t:=iA Yh Og;rw[hsm] at t;cases q1:ah (dr (nx b)) (neg (dr b))<;>cases q2:ah (neg (dr b)) (dr (nx b))<;>rw[q1,q2] at t<;>simp[bb] at t
   ·exact absurd q2 hk
  have hnb:∃i,i<m/\it nx i s=nx b:=by
   by_cases e:z0+1<m
   ·exact⟨z0+1,e,by show nx (it nx z0 s)=_;rw[hb]⟩
   ·refine⟨0,hm,?_⟩;have:it nx (z0+1) s=s:=by rw[show z0+1=m by omega];exact hc.per
    have w:nx (it nx z0 s)=s:=this;rw[hb] at w;exact w.symm
  obtain⟨i,him,hia⟩:=hnb;obtain⟨R,hR,yO,Yi⟩:=h.aiQ hs hc him;obtain⟨A,B,e,oz⟩:=hR.Sl;have hmem:∀u,u∈B++A↔u∈R:=fun u=>by rw[e];exact aiS
  obtain⟨a,z,yP,Oh⟩:=lV oz.ring.ne;have hai:a∈B++A:=by
   cases hq:B++A with
   |nil=>rw[hq] at yP;cases yP
   |cons c T=>rw[hq] at yP;rw[<-mN yP];simp
  have Yj:a=nx b:=by
   have m1:nx b∈B++A:=(hmem _).2 (by rw[<-hia];exact yO)
   have g1:=oz.least a yP _ m1;obtain⟨j,hj,ej⟩:=Yi a ((hmem a).1 hai);have g2:=hl j hj;rw[<-ej] at g2;rw[ha1,hb2] at g1;have ef:a.1=(nx b).1:=by rw[ha1,hb2];exact(Gt g2 g1).symm
   apply mL;intro hne;obtain⟨x,hx,ex⟩:=j5.1 hai;obtain⟨y,hy,ey⟩:=j5.1 m1;have pw:=mM.1 oz.ring.pQ;rcases FV x y with q|q|q
   ·have:=pw x y hx hy q;rw[ex,ey] at this;exact this ef
   ·subst q;exact hne (ex.symm.trans ey)
   ·have:=pw y x hy hx q;rw[ex,ey] at this;exact this ef.symm
  obtain⟨M,hg⟩:=oz.rg h yP Oh;refine hno (B++A) oz ⟨i,him,(hmem _).2 yO⟩ ⟨a,z,yP,Oh,?_⟩;have EC:z∈B++A:=tX Oh;obtain⟨j,hj,ej⟩:=Yi z ((hmem z).1 EC);have hz2:z.2=s.1:=by rw[hg.z2,Yj,ha1,hb2]
  have ql:=low j hj (by rw[<-ej];exact hz2)
  rw[<-ej] at ql;have Yk:=jy (h.gN hg.mz);have dA:ah (dr a) (neg (dr z))=true:=by
   rw[Yj];have t:=iA Yk Og;rw[ql] at t;cases q1:ak (neg (dr z)) (neg (dr b))
   ·cases q2:ah (neg (dr b)) (neg (dr z))
    ·rw[q1,q2] at t;simp[bb] at t
    ·exact gM Yh Og Yk hab q2
   ·rw[I1 q1];exact hab
  have Gx:=hg.Lh h;have xG:=hg.Li h;rw[nN] at dA;rcases dA with⟨_,q⟩|⟨_,q⟩
  ·exact absurd xG q
  ·rw[fF,bU] at q;omega
 have Oi:Lf es s=Lf es b:=by
  rw[<-hb];exact(h.along hcl hi hs (GF nx s z0)).symm
 rw[Oi,(h.at_end hcl hi wU).1,hb2];unfold dh;have z1:Ga.AS es (n1 s.1) (fun z=>nz z&&ah z (neg (dr b)))=0:=by
  rw[zI (Q':=fun _=>false) (by simp[nz]) (fun z hz=>?_),K7]
  have hz':=hz;rw[<-hb2] at hz';obtain⟨u,hu,k⟩:=h.arm hi wU hz';cases q:ah z (neg (dr b))
  ·simp
  ·exfalso;have hcw:cw (neg (dr b)) z (dr (nx b))=true:=lS.2 (Or.inr (Or.inl ⟨q,hwrap⟩));rcases k with⟨k1,rfl⟩|⟨k1,rfl⟩
   ·rw[h.w1 b wU u hu k1] at hcw;cases hcw
   ·rw[h.w2 b wU u hu k1] at hcw;cases hcw
 rw[z1];omega
end
end Go.Proofs.YtkjhhooecopolaaGreatDoor.Gb
namespace Go.Proofs.YtkjhhooecopolaaGreatDoor
open Go.RowKit
structure Mo(S:List Nat)(w w':World):Prop where
 os:w'.os=w.os
 tape:w'.tape=w.tape
 output:w'.output=w.output
 size:w.heap.size<=w'.heap.size
 block:∀k,k<w.heap.size->k∉S->w'.heap[k]?=w.heap[k]?
theorem Mo.refl(S:List Nat)(w:World):Mo S w w:=⟨rfl,rfl,rfl,ae _,fun _ _ _=>rfl⟩
theorem Mo.trans{S:List Nat}{a b c:World}(h:Mo S a b)(k:Mo S b c):Mo S a c:=
 ⟨k.os.trans h.os,k.tape.trans h.tape,k.output.trans h.output,dS h.size k.size,fun i hi hn=>(k.block i (aL hi h.size) hn).trans (h.block i hi hn)⟩
theorem Mo.of(S:List Nat){w w':World}(h:Below w.heap.size w w'):Mo S w w':=⟨h.os,h.tape,h.output,h.size,fun k hk _=>h.block k hk⟩
theorem Mo.below{S T:List Nat}{w w1 w2:World}(h:Mo S w w1)(k:Mo T w1 w2)(hT:∀i,i<w.heap.size->i∈T->i∈S):Mo S w w2:=
 ⟨k.os.trans h.os,k.tape.trans h.tape,k.output.trans h.output,dS h.size k.size,fun i hi hn=>(k.block i (aL hi h.size) fun h'=>hn (hT i hi h')).trans (h.block i hi hn)⟩
theorem Mo.cell{S:List Nat}{w w':World}(h:Mo S w w'){p:Addr}(hp:p.block<w.heap.size)(hn:p.block∉S):w'.cell? p=w.cell? p:=World.cell?_of_block (w:=w) (h.block p.block hp hn)
theorem Mo.grown{S:List Nat}{w w':World}{row:Option Nat}(hg:w.grownBy w' row)(hr:∀k,row=some k->k∈S):Mo S w w':=
 ⟨hg.os,hg.tape,hg.output,hg.size,fun k hk hn=>hg.block k hk (fun e=>hn (hr k e.symm))⟩
theorem Mo.setCell(S:List Nat)(w:World){p:Addr}(hp:p.block∈S)(u:Value):Mo S w (w.setCell p u):=
 ⟨rfl,rfl,rfl,by simp[World.setCell],fun k _ hn=>Below.heap_setCell _ _ _ _ (fun e=>hn (e▸hp))⟩
theorem Mo.alloc(S:List Nat)(w:World)(o:Obj):Mo S w (w.alloc o):=Mo.of S ((Below.refl _ _).alloc (ae _) o)
theorem setCell_new{w:World}{b i:Nat}{cur:Array Value}{t:TypeId}{fr:Nat×Nat}(hg:w.heap[b]?=some (.cells cur t fr))(v:Value):(w.setCell ⟨b,i,none⟩ v).heap[b]?=some (.cells (cur.setIfInBounds i v) t fr):=by
 rw[setCell_eq_setRow w b i cur t fr v hg];unfold World.setRow;simp[Array.getElem?_modify,hg]
structure SW(g:Nat)(bs:List Nat)(Xs:List PB)(mk:Nat->Bool)(ow:Nat->Option Nat)(w:World):Prop where
 len:bs.length=Xs.length
 nd:bs.Nodup
 ng:g∉bs
 row:∀i,i<bs.length->w.cell? ⟨g,i,none⟩=some (.pointer (some ⟨bx bs i,0,none⟩))
 side:∀i,i<bs.length->w.heap[bx bs i]?=some (.cells (wL (xi Xs i) (mk i) ((ow i).map fun o=>⟨o,0,none⟩)) 177 (0,0))
theorem SW.rb{g:Nat}{bs:List Nat}{Xs:List PB}{mk:Nat->Bool}{ow:Nat->Option Nat}{w:World}(h:SW g bs Xs mk ow w):RB w g bs Xs:=by
 refine⟨h.len,fun i b hb=>?_,fun i b x hb hx=>?_⟩
 ·have:=h.row i (bT.1 hb).1;rw[Ev hb] at this;exact this
 ·have:=h.side i (bT.1 hb).1;rw[Ev hb,uX hx] at this;exact iE.of this
theorem Oj{bs:List Nat}(hn:bs.Nodup){i j:Nat}(hi:i<bs.length)(hj:j<bs.length)(h:bx bs i=bx bs j):i=j:=by
 rw[<-mD hn hi,<-mD hn hj,h]
theorem SW.lt{g:Nat}{bs:List Nat}{Xs:List PB}{mk:Nat->Bool}{ow:Nat->Option Nat}{w:World}(h:SW g bs Xs mk ow w){b:Nat}(hb:b∈bs):b<w.heap.size:=by
 obtain⟨i,hi,rfl⟩:=j5.1 hb;have:=h.side i hi;rw[Ev (ay hi)] at this;exact lt_of_heap this
theorem SW.keep{g:Nat}{bs:List Nat}{Xs:List PB}{mk:Nat->Bool}{ow:Nat->Option Nat}{w w':World}{S:List Nat}(h:SW g bs Xs mk ow w)(hm:Mo S w w')(hg:g∉S)(hb:∀b∈bs,b∉S):SW g bs Xs mk ow w':=
 ⟨h.len,h.nd,h.ng,fun i hi=>(hm.cell (lt_of_cell (h.row i hi)) hg).trans (h.row i hi),fun i hi=>(hm.block _ (h.lt (qj hi)) (hb _ (qj hi))).trans (h.side i hi)⟩
theorem SW.below{g:Nat}{bs:List Nat}{Xs:List PB}{mk:Nat->Bool}{ow:Nat->Option Nat}{w w':World}(h:SW g bs Xs mk ow w)(hm:Below w.heap.size w w'):SW g bs Xs mk ow w':=
 h.keep (Mo.of [] hm) (by simp) (by simp)
theorem SW.congr{g:Nat}{bs:List Nat}{Xs:List PB}{mk mk':Nat->Bool}{ow Yl:Nat->Option Nat}{w:World}(h:SW g bs Xs mk ow w)(hm:∀i,i<bs.length->mk' i=mk i)(ho:∀i,i<bs.length->Yl i=ow i):SW g bs Xs mk' Yl w:=
 ⟨h.len,h.nd,h.ng,h.row,fun i hi=>by rw[hm i hi,ho i hi];exact h.side i hi⟩
theorem SW.mark{g:Nat}{bs:List Nat}{Xs:List PB}{mk:Nat->Bool}{ow:Nat->Option Nat}{w:World}(h:SW g bs Xs mk ow w){i:Nat}(hi:i<bs.length):SW g bs Xs (fun j=>mk j||j == i) ow (w.setCell ⟨bx bs i,6,none⟩ (.bool true)):=by
 refine⟨h.len,h.nd,h.ng,fun j hj=>?_,fun j hj=>?_⟩
 ·exact(World.cell?_of_block (w:=w) (Below.heap_setCell _ _ _ _ (fun e=>h.ng (by have e':g=bx bs i:=e;rw[e'];exact qj hi)))).trans (h.row j hj)
 ·by_cases e:j=i
  ·subst e;rw[setCell_new (h.side j hj)];simp;rfl
  ·rw[Below.heap_setCell _ _ _ _ (fun e'=>e (Oj h.nd hj hi e')),h.side j hj]
   have:(j == i)=false:=by simpa using e
   simp only[this,F8]
theorem SW.own{g:Nat}{bs:List Nat}{Xs:List PB}{mk:Nat->Bool}{ow:Nat->Option Nat}{w:World}(h:SW g bs Xs mk ow w){i:Nat}(hi:i<bs.length)(o:Nat):SW g bs Xs mk (fun j=>if j=i then some o else ow j) (w.setCell ⟨bx bs i,7,none⟩ (.pointer (some ⟨o,0,none⟩))):=by
 refine⟨h.len,h.nd,h.ng,fun j hj=>?_,fun j hj=>?_⟩
 ·exact(World.cell?_of_block (w:=w) (Below.heap_setCell _ _ _ _ (fun e=>h.ng (by have e':g=bx bs i:=e;rw[e'];exact qj hi)))).trans (h.row j hj)
 ·by_cases e:j=i
  ·subst e;rw[setCell_new (h.side j hj)];simp;rfl
  ·rw[Below.heap_setCell _ _ _ _ (fun e'=>e (Oj h.nd hj hi e')),h.side j hj,if_neg e]
def ja(nx:Nat->Nat)(mk:Nat->Bool):Nat->List Nat->Nat->List Nat
 |0,A,_=>A
 |m+1,A,i=>if mk i||A.contains i then A else ja nx mk m (A++[i]) (nx i)
theorem Ym{p q:Nat->Bool}:∀(l:List Nat),(∀x∈l,q x=true->p x=true)->(∃x∈l,p x=true/\q x=false)->l.countP q<l.countP p
 |[],_,h=>by obtain⟨x,hx,_⟩:=h;simp at hx
 |a::l,h1,h2=>by
  obtain⟨x,hx,hp,hq⟩:=h2;have hle:l.countP q<=l.countP p:=anf fun y hy=>h1 y (bn _ hy)
  rcases aQ.1 hx with e|hx
  ·subst e;rw[anh hp,ani (by simp[hq])]
   omega
  ·have ih:=Ym l (fun y hy=>h1 y (bn _ hy)) ⟨x,hx,hp,hq⟩
   rw[QU,QU];by_cases ha:q a=true
   ·rw[if_pos ha,if_pos (h1 a (by simp) ha)];omega
   ·rw[if_neg ha];omega
def iN(n:Nat)(mk:Nat->Bool)(A:List Nat):Nat:=(List.range n).countP fun j=> !(mk j||A.contains j)
theorem Jq{n:Nat}{mk:Nat->Bool}{A:List Nat}{i:Nat}(hi:i<n)(h:(mk i||A.contains i)=false):iN n mk (A++[i])<iN n mk A:=by
 refine Ym _ (fun x _ hx=>?_) ⟨i,qu.2 hi,by rw[h];rfl,by simp⟩
 simp at hx⊢;exact⟨hx.1,hx.2.1⟩
theorem vd(n:Nat)(mk:Nat->Bool)(A:List Nat):iN n mk A<=n:=by
 have:=List.countP_le_length (p:=fun j=> !(mk j||A.contains j)) (l:=List.range n)
 rw[acm] at this;exact this
structure WS(w:World)(g:Nat)(bs:List Nat)(Xs:List PB)(mk:Nat->Bool)(ow:Nat->Option Nat)(lv:Value)(A:List Nat)(wr:World):Prop where
 own:wr.ownsRow w.heap.size 175 1 lv A.length (aG (A.map (bx bs)))
 sw:SW g bs Xs (fun j=>mk j||A.contains j) ow wr
 mo:Mo bs w wr
theorem WS.step{w:World}{g:Nat}{bs:List Nat}{Xs:List PB}{mk:Nat->Bool}{ow:Nat->Option Nat}{lv:Value}{A:List Nat}{wr:World}(h:WS w g bs Xs mk ow lv A wr)(wJ:∀b∈bs,b<w.heap.size)(Yn:g<w.heap.size){i:Nat}(hi:i<bs.length)(o:Obj){g' cap:Nat}{w8:World}
  (aZ:((wr.setCell ⟨bx bs i,6,none⟩ (.bool true)).alloc o).grownBy w8 lv.ownBlock)
  (cH:w8.ownsRow w.heap.size 175 1 (.slice (some ⟨g',0,none⟩) (A.length+1) cap) (A.length+1) (aG (A.map (bx bs))++[.pointer (some ⟨bx bs i,0,none⟩)])):
  WS w g bs Xs mk ow (.slice (some ⟨g',0,none⟩) (A.length+1) cap) (A++[i]) w8:=by
 have hown:∀k,lv.ownBlock=some k->w.heap.size<=k:=fun k hk=>(au h.own k hk).1
 have m1:Mo bs wr (wr.setCell ⟨bx bs i,6,none⟩ (.bool true)):=Mo.setCell _ _ (qj hi) _;have m2:=Mo.alloc [] (wr.setCell ⟨bx bs i,6,none⟩ (.bool true)) o;have m3:Mo (lv.ownBlock.toList) _ w8:=Mo.grown aZ (fun k hk=>by rw[hk];simp)
 have hd:∀k,k∈lv.ownBlock.toList->w.heap.size<=k:=fun k hk=>hown k (by simpa using hk)
 refine⟨?_,?_,?_⟩
 ·rw[iy,aS];have e:aG (A.map (bx bs)++[i].map (bx bs))=aG (A.map (bx bs))++[.pointer (some ⟨bx bs i,0,none⟩)]:=by simp[aG]
  rw[e];exact cH
 ·have k1:=((h.sw.mark hi).keep m2 (by simp) (by simp)).keep m3 (fun hk=>by have:=hd _ hk;omega) (fun b hb hk=>by have:=hd _ hk;have:=wJ b hb;omega)
  refine k1.congr (fun j hj=>?_) fun _ _=>rfl
  simp only[List.contains_eq_mem,bW,bJ,Bool.decide_or,Bool.or_assoc];congr 2
 ·exact(h.mo.trans m1).below ((Mo.alloc lv.ownBlock.toList _ o).trans m3) fun k hk hk'=>by have:=hd k hk';omega
theorem WS.below{w:World}{g:Nat}{bs:List Nat}{Xs:List PB}{mk:Nat->Bool}{ow:Nat->Option Nat}{lv:Value}{A:List Nat}{wr w':World}(h:WS w g bs Xs mk ow lv A wr)(hb:Below wr.heap.size wr w'):WS w g bs Xs mk ow lv A w':=
 ⟨aJ h.own fun k hk=>hb.block k (au h.own k hk).2,h.sw.below hb,h.mo.trans (Mo.of _ hb)⟩
theorem aiV(bs:List Nat)(Xs:List PB)(hB:BD Xs)(g cap i:Nat)(mk:Nat->Bool)(ow:Nat->Option Nat)(w:World)(hW:SW g bs Xs mk ow w)(Yn:g<w.heap.size)(hi:i<bs.length)(hbc:bs.length<=cap)
  (HN:Hid (∀i,i<Xs.length->∃x∈Xs,x.f=(xi Xs i).t)):
  Calls Tryz.prog 110 #[.slice (some ⟨g,0,none⟩) bs.length cap,.pointer (some ⟨bx bs i,0,none⟩)] w fun e w'=>∃lv,e=.returned lv/\WS w g bs Xs mk ow lv (ja (cd Xs) mk bs.length [] i) w':=by
 obtain⟨i0,hi0,hz0,hz1,hz2⟩:=info_parts yJ;have HL:Hid (bs.length=Xs.length):=hW.len;have Jr:Hid (∀b∈bs,b<w.heap.size):=fun b hb=>hW.lt hb
 have hbl:bs.length<=85000000:=by rw[hW.len];exact hB.len
 have cC:Hid (∀j,j<bs.length->∀w',RB w' g bs Xs->cd Xs j<bs.length/\Calls Tryz.prog 165 #[.slice (some ⟨g,0,none⟩) bs.length cap,.pointer (some ⟨bx bs j,0,none⟩)] w' fun e w''=>e=.returned (.pointer (some ⟨bx bs (cd Xs j),0,none⟩))/\Below w'.heap.size w' w''):=fun j hj w' hR=>by
  have hj':j<Xs.length:=by rw[<-hR.len];exact hj
  have hne:=HN.out j hj';refine⟨?_,aiu bs Xs hB hW.nd g cap j hj' w' hR hbc hne⟩;have:=(XS (N7 hB (hB.v _ (gh hj')).ct hne)).2;have h2:=N6 Xs (xi Xs j).t;rw[hR.len];omega
 have bh:Hid (WS w g bs Xs mk ow (.slice none 0 0) [] w/\ja (cd Xs) mk bs.length [] i=ja (cd Xs) mk bs.length [] i/\iN bs.length mk []<=bs.length):=⟨⟨World.ownsRow_nil _ _ _ _,hW.congr (by simp) (by simp),Mo.refl _ _⟩,rfl,vd _ _ _⟩
 generalize Yo:ja (cd Xs) mk bs.length [] i=L at*;have HLd:Hid (ja (cd Xs) mk bs.length [] i=L):=Yo;clear Yo hW HN
 go_enter Tryz.func110,Tryz.ntmps110
 go_wp2_with fail
 go_loopg [5,6] bs.length (fun m lv sv wr=>∃A j,j<bs.length/\A.length+m=bs.length/\sv=.pointer (some ⟨bx bs j,0,none⟩)/\Hid (WS w g bs Xs mk ow lv A wr/\ja (cd Xs) mk m A j=L/\iN bs.length mk A<=m))
 case atStart=>exact⟨[],i,hi,by simp,rfl,by have:=bh.out;rw[HLd.out];exact⟨this.1,rfl,this.2.2⟩⟩
 case round=>
  obtain⟨A,j,hj,hAm,rfl,HE⟩:=hrel;clear bh;obtain⟨rf,hwk,Js⟩:=HE.out;have hs:=rf.sw.side j hj;have s6:wr.cell? ⟨bx bs j,6,none⟩=some (.bool (mk j||A.contains j)):=cell_of hs 6
  have f6:wr.frozen? ⟨bx bs j,6,none⟩=false:=aB hs 6;have ve:Hid (WS w g bs Xs mk ow u5 A wr):=rf;by_cases hm:(mk j||A.contains j)=true
  ·rw[hm] at s6;have HLA:Hid (A=L):=by
    rw[<-hwk];cases gk with
    |zero=>rfl
    |succ m=>show A=if _ then A else _;rw[if_pos hm]
   clear hs hwk Js hm HE rf
   go_wp2_with fail
   go_ret
   exact⟨_,rfl,by rw[<-HLA.out];exact ve.out⟩
  ·have hm':(mk j||A.contains j)=false:=by simpa using hm
   rw[hm'] at s6;have hst:=Jq hj hm';have HST:Hid (ja (cd Xs) mk (gk-1) (A++[j]) (cd Xs j)=L/\iN bs.length mk (A++[j])<=gk-1):=by
    refine⟨?_,by omega⟩
    rw[<-hwk];cases gk with
    |zero=>omega
    |succ m=>show _=if _ then A else _;rw[if_neg hm];rfl
   have qB:1<=gk:=by omega
   have kP:=ve.out.own;have hwz:=ve.out.mo.size;have Yp:bx bs j<w.heap.size:=Jr.out _ (qj hj);have hnb:((wr.setCell ⟨bx bs j,6,none⟩ (.bool true)).alloc (.cells #[.pointer (some ⟨bx bs j,0,none⟩)] 175)).heap[wr.heap.size]?=some (.cells #[.pointer (some ⟨bx bs j,0,none⟩)] 175 (0,0)):=by
    have:=heap_alloc_new (wr.setCell ⟨bx bs j,6,none⟩ (.bool true)) (.cells #[.pointer (some ⟨bx bs j,0,none⟩)] 175);simpa[World.setCell] using this
   have hsz:(wr.setCell ⟨bx bs j,6,none⟩ (.bool true)).heap.size=wr.heap.size:=by simp[World.setCell]
   have oC:((wr.setCell ⟨bx bs j,6,none⟩ (.bool true)).alloc (.cells #[.pointer (some ⟨bx bs j,0,none⟩)] 175)).ownsRow w.heap.size 175 1 u5 A.length (aG (A.map (bx bs))):=
    aJ kP fun k hk=>by
     have h1:=(au kP k hk).1;have h2:=(au kP k hk).2;exact(Below.heap_alloc _ _ _ (by rw[hsz];exact h2)).trans (Below.heap_setCell _ _ _ _ (by show k≠bx bs j;omega))
   clear hs hwk Js hm hm' HE rf hst kP
   go_wp2_with (at_builtin;refine wpList_append_lies _ rfl (.tmp 19) (.tmp 21) 132 rfl w.heap.size 175 i0 _ 1 8 Tryz.underlying132 hi0 hz0 hz1 hz2 rfl (by decide) u5 A.length (aG (A.map (bx bs))) rfl oC ⟨wr.heap.size,0,none⟩ 1 1 [.pointer (some ⟨bx bs j,0,none⟩)] rfl rfl (World.news_of_block (cs:= #[.pointer (some ⟨bx bs j,0,none⟩)]) (t:=175) (fr:=(0,0)) hnb) (by simp[Value.oneCell']) (by decide) (by unfold maxLen;omega) (by omega) (by simp[World.setCell];omega) (wr.heap.size+1) (by simp[World.setCell]) ?_;intro g' cap' w8 cH aZ gA pY)
   have Ol:=ve.out.step Jr.out Yn hj _ aZ cH;obtain⟨hnj,hnc⟩:=cC.out j hj w8 Ol.sw.rb;have Yq:Hid (WS w g bs Xs mk ow (.slice (some ⟨g',0,none⟩) (A.length+1) cap') (A++[j]) w8):=Ol;have Yr:Hid (Calls Tryz.prog 165 #[.slice (some ⟨g,0,none⟩) bs.length cap,.pointer (some ⟨bx bs j,0,none⟩)] w8 fun e w''=>e=.returned (.pointer (some ⟨bx bs (cd Xs j),0,none⟩))/\Below w8.heap.size w8 w''):=hnc
   clear aZ cH gA hnb oC Ol hnc ve cC s6
   go_wp2_with fail
   refine Yr.out.mono ?_;rintro e w9 ⟨rfl,mF⟩;have HW9:Hid (WS w g bs Xs mk ow (.slice (some ⟨g',0,none⟩) (A.length+1) cap') (A++[j]) w9):=Yq.out.below mF;clear Yq Yr mF
   go_wp2_with fail
   go_roundg (gk-1)
   case measure=>omega
   case rel=>exact⟨A++[j],cd Xs j,hnj,by rw[aS];simp;omega,rfl,HW9.out,HST.out.1,HST.out.2⟩
theorem ai0(x y:PB)(hx:cM x)(hy:cM y)(b c:Nat)(w:World)(h1:iE w b x)(h2:iE w c y):
  Calls Tryz.prog 167 #[.pointer (some ⟨b,0,none⟩),.pointer (some ⟨c,0,none⟩)] w fun e w'=>e=.returned (.bool (decide (x.t=y.f)))/\Below w.heap.size w w':=by
 have hop:∀w,(binOp .eql 83 (.agg #[.complex .f64 (floatOfInt .f64 x.t.1) (floatOfInt .f64 x.t.2.1),.int .i64 x.t.2.2]) (.agg #[.complex .f64 (floatOfInt .f64 y.f.1) (floatOfInt .f64 y.f.2.1),.int .i64 y.f.2.2])).run Tryz.prog w=.ok (.bool (decide (x.t=y.f))) w:=fun w=>DT x.t y.f hx.t.az hy.f.az w
 have a4:=h1.c4;have a5:=h1.c5;have b2:=h2.c2;have b3:=h2.c3;have hb0:=Below.refl w.heap.size w;generalize floatOfInt .f64 x.t.1=X1 at*;generalize floatOfInt .f64 x.t.2.1=X2 at*;generalize floatOfInt .f64 y.f.1=Y1 at*;generalize floatOfInt .f64 y.f.2.1=Y2 at*;generalize decide (x.t=y.f)=B at*;generalize x.t.2.2=X3 at*;generalize y.f.2.2=Y3 at*;clear h1 h2 hx hy
 go_enter Tryz.func167,Tryz.ntmps167
 go_wp2_with fail
 go_quiet (fail)
 go_wp2_with fail
 go_ret
 exact⟨rfl,o6 hb0 _⟩
def fB(P:Nat->Bool):List Nat->Nat->Int
 |[],_=> -1
 |b::r,k=>if P b then(k:Int) else fB P r (k+1)
def fM(P:Nat->Bool)(l:List Nat):Int:=fB P l 0
theorem vg{α:Type}{l:List α}{k:Nat}{b:α}(h:l[k]?=some b):l.drop k=b::l.drop (k+1):=by
 obtain⟨hk,e⟩:=bT.1 h;rw[Kv hk,e]
theorem ai1(P:Nat->Bool)(bl:List Nat)(g lo cap s:Nat)(w:World)(hn:bl.length<=85000000)
  (HV:Hid (∀(i:Nat) b,bl[i]?=some b->w.cell? ⟨g,lo+i,none⟩=some (.pointer (some ⟨b,0,none⟩))))
  (HC:Hid (∀b∈bl,∀w',Below w.heap.size w w'->Calls Tryz.prog 167 #[.pointer (some ⟨s,0,none⟩),.pointer (some ⟨b,0,none⟩)] w' fun r w''=>r=.returned (.bool (P b))/\Below w'.heap.size w' w'')):
  Calls Tryz.prog 166 #[.slice (some ⟨g,lo,none⟩) bl.length cap,.func (.func 167) #[.pointer (some ⟨s,0,none⟩)] #[]] w fun e w'=>e=.returned (.int .i64 (fM P bl))/\Below w.heap.size w w':=by
 go_enter Tryz.func166,Tryz.ntmps166
 have HS:Hid (fB P (bl.drop 0) 0=fM P bl):=rfl
 go_wp2_with fail
 go_loopg [8] bl.length (fun m iv wr=>∃k:Nat,k+m=bl.length/\iv=.int .i64 k/\Hid (Below w.heap.size w wr/\fB P (bl.drop k) k=fM P bl))
 case atStart=>exact⟨0,by omega,rfl,Below.refl _ _,HS.out⟩
 case round=>
  obtain⟨k,hkn,rfl,HB⟩:=hrel;clear HS;by_cases hlt:k<bl.length
  ·obtain⟨b,hb⟩:∃b,bl[k]?=some b:=⟨_,ay hlt⟩;have c0:=HV.out k b hb;have dw:g<w.heap.size:=lt_of_cell c0;have c1:=(HB.out.1.cell (p:=⟨g,lo+k,none⟩) dw).trans c0;have ir:Hid (Calls Tryz.prog 167 #[.pointer (some ⟨s,0,none⟩),.pointer (some ⟨b,0,none⟩)] wr fun r' w''=>r'=.returned (.bool (P b))/\Below wr.heap.size wr w''):=HC.out b (aY hb) wr HB.out.1
   have gG:Hid ((if P b then(k:Int) else fB P (bl.drop (k+1)) (k+1))=fM P bl):=by
    have:=HB.out.2;rw[vg hb] at this;exact this
   have eD:(k:Int)<(bl.length:Int):=by omega
   clear c0 hb
   go_wp2_with fail
   refine ir.out.mono ?_;rintro e w5 ⟨rfl,ai⟩;have eI:Hid (Below w.heap.size w w5):=HB.out.1.trans (ai.mono HB.out.1.size);clear ir ai c1;generalize P b=B at*;cases B
   ·have HM:Hid (fB P (bl.drop (k+1)) (k+1)=fM P bl):=gG.out;clear gG
    go_wp2_with fail
    go_roundg (gk-1)
    case measure=>omega
    case rel=>exact⟨k+1,by omega,by go_num,eI.out,HM.out⟩
   ·have HM:Hid ((k:Int)=fM P bl):=gG.out;clear gG
    go_wp2_with fail
    go_ret
    exact⟨by rw[<-HM.out];rfl,eI.out⟩
  ·have hk:k=bl.length:=by omega
   subst hk;have HM:Hid ((-1:Int)=fM P bl):=by
    have:=HB.out.2;rw[Rj] at this;exact this
   clear HC HV
   go_wp2_with fail
   go_ret
   exact⟨by rw[<-HM.out];rfl,HB.out.1⟩
end Go.Proofs.YtkjhhooecopolaaGreatDoor
