import Derived.Test.YtkjhhooecopolaaGreatDoorMz25
set_option maxRecDepth 100000
set_option maxHeartbeats 4000000
namespace Go.Proofs.YtkjhhooecopolaaGreatDoor.Ga
open Ge
structure bQ(es:List (Pt×Pt))(l:List Nd):Prop where
 map:l.map aj=fX es
 can:∀n∈l,Ge.Can n
 ne:∀e∈es,e.1≠e.2
theorem bQ.mem{es:List (Pt×Pt)}{l:List Nd}(h:bQ es l){n:Nd}(hn:Ge.Can n)(hi:isNode es (aj n)):n∈l:=by
 have h1:aj n∈l.map aj:=by rw[h.map];exact((yn es).2.2 _).2 hi
 obtain⟨m,hm,he⟩:=aX.1 h1;rw[Ih hn (h.can m hm) he.symm];exact hm
theorem nr{a b:Nd}(ha:Ge.Can a)(hb:Ge.Can b):lt (aj a) (aj b)↔aN (wv a b):=by
 unfold lt aN wv;rw[Ig ha hb];have s1:=sg (a.1*b.2.2-b.1*a.2.2);have s2:=sg (a.2.1*b.2.2-b.2.1*a.2.2);have e1:a.2.2*b.1=b.1*a.2.2:=dX _ _;have e2:b.2.2*a.1=a.1*b.2.2:=dX _ _;have e3:a.2.2*b.2.1=b.2.1*a.2.2:=dX _ _;have e4:b.2.2*a.2.1=a.2.1*b.2.2:=dX _ _;simp only;rw[e1,e2,e3,e4];split<;>omega
def yF(l:List Nd):Prop:=l.Pairwise fun a b=>lt (aj a) (aj b)
theorem bQ.pG{es:List (Pt×Pt)}{l:List Nd}(h:bQ es l):yF l:=by
 have:=(yn es).2.1;rw[<-h.map] at this;exact nJ.1 this
theorem bQ.Eg{es:List (Pt×Pt)}{l:List Nd}(h:bQ es l)(e:Pt×Pt):yF (held e l):=acg _ h.pG
theorem gZ{e:Pt×Pt}{l:List Nd}{n:Nd}:n∈held e l↔n∈l/\on (rl n e.1) (rl n e.2)=true:=by
 unfold held;rw[jw];exact Iff.rfl
theorem qY:∀{m:List Nd}{q:Nd×Nd},q∈nexts m->q.1∈m/\q.2∈m
 |[],_,h=>by simp[nexts] at h
 |[_],_,h=>by simp[nexts] at h
 |a::b::r,q,h=>by
  rcases aQ.1 h with h|h
  ·rw[h];simp
  ·have:=qY (m:=b::r) h;exact⟨bn _ this.1,bn _ this.2⟩
theorem WR:∀{m:List Nd},yF m->∀{q:Nd×Nd},q∈nexts m->lt (aj q.1) (aj q.2)
 |[],_,_,h=>by simp[nexts] at h
 |[_],_,_,h=>by simp[nexts] at h
 |a::b::r,hp,q,h=>by
  rcases aQ.1 h with h|h
  ·rw[h];exact(fZ.1 hp).1 b (by simp)
  ·exact WR (fZ.1 hp).2 h
theorem WT:∀{m:List Nd},yF m->(∀n∈m,Ge.Can n)->∀{q:Nd×Nd},q∈nexts m->∀{x:Nd},x∈m->¬(lt (aj q.1) (aj x)/\lt (aj x) (aj q.2))
 |[],_,_,_,h,_,_=>by simp[nexts] at h
 |[_],_,_,_,h,_,_=>by simp[nexts] at h
 |a::b::r,hp,hc,q,h,x,hx=>by
  obtain⟨p1,p2⟩:=fZ.1 hp;have asym:∀{y z:Nd},Ge.Can y->Ge.Can z->lt (aj y) (aj z)->¬lt (aj z) (aj y):=fun hy hz h1 h2=>lt_irrefl _ (lt_trans (cL hy) (cL hz) (cL hy) h1 h2)
  have Nn:=hc a (by simp)
  have hcb:=hc b (by simp)
  rcases aQ.1 h with h|h
  ·rw[h];rintro⟨k1,k2⟩;simp only at k1 k2;rcases aQ.1 hx with e|hx
   ·rw[e] at k1;exact lt_irrefl _ k1
   ·rcases aQ.1 hx with e|hx
    ·rw[e] at k2;exact lt_irrefl _ k2
    ·exact asym (hc x (by simp[hx])) hcb k2 ((fZ.1 p2).1 x hx)
  ·rintro⟨k1,k2⟩;rcases aQ.1 hx with e|hx
   ·rw[e] at k1;have hq:=(qY h).1;exact asym Nn (hc q.1 (by rcases aQ.1 hq with e'|e'<;>simp[e'])) (p1 q.1 hq) k1
   ·exact WT p2 (fun n hn=>hc n (bn _ hn)) h hx ⟨k1,k2⟩
theorem WU:∀{m:List Nd},yF m->(∀n∈m,Ge.Can n)->∀{x y:Nd},x∈m->y∈m->lt (aj x) (aj y)->∃t,(x,t)∈nexts m
 |[],_,_,_,_,h,_,_=>by simp at h
 |[a],_,_,x,y,h,h',hl=>by
  have e1:x=a:=by simpa using h
  have e2:y=a:=by simpa using h'
  rw[e1,e2] at hl;exact absurd hl (lt_irrefl _)
 |a::b::r,hp,hc,x,y,hx,hy,hl=>by
  obtain⟨p1,p2⟩:=fZ.1 hp;rcases aQ.1 hx with e|hx
  ·exact⟨b,by rw[e];simp[nexts]⟩
  ·rcases aQ.1 hy with e|hy
   ·exfalso;rw[e] at hl;exact lt_irrefl _ (lt_trans (cL (hc a (by simp))) (cL (hc x (bn _ hx))) (cL (hc a (by simp))) (p1 x hx) hl)
   ·obtain⟨t,ht⟩:=WU p2 (fun n hn=>hc n (bn _ hn)) hx hy hl
    exact⟨t,bn _ ht⟩
theorem WV:∀{m:List Nd},yF m->(∀n∈m,Ge.Can n)->∀{x y:Nd},x∈m->y∈m->lt (aj y) (aj x)->∃f,(f,x)∈nexts m
 |[],_,_,_,_,h,_,_=>by simp at h
 |[a],_,_,x,y,h,h',hl=>by
  have e1:x=a:=by simpa using h
  have e2:y=a:=by simpa using h'
  rw[e1,e2] at hl;exact absurd hl (lt_irrefl _)
 |a::b::r,hp,hc,x,y,hx,hy,hl=>by
  obtain⟨p1,p2⟩:=fZ.1 hp;rcases aQ.1 hx with e|hx
  ·exfalso;rw[e] at hl;rcases aQ.1 hy with e'|hy
   ·rw[e'] at hl;exact lt_irrefl _ hl
   ·exact lt_irrefl _ (lt_trans (cL (hc a (by simp))) (cL (hc y (bn _ hy))) (cL (hc a (by simp))) (p1 y hy) hl)
  ·by_cases hb:x=b
   ·exact⟨a,by rw[hb];simp[nexts]⟩
   ·have hb':lt (aj b) (aj x):=by
     rcases aQ.1 hx with e|hx
     ·exact absurd e hb
     ·exact(fZ.1 p2).1 x hx
    obtain⟨f,hf⟩:=WV p2 (fun n hn=>hc n (bn _ hn)) hx (Rh ..) hb'
    exact⟨f,bn _ hf⟩
theorem qf{a b:N3}{D:Pt}(hD:aN D)(hc:cr D (wv a b)=0)(hd:0<dt D (wv a b)):Behind a b D:=by
 rcases hD with h|⟨h1,h2⟩
 ·left;refine⟨h,?_,hc⟩;have e:dt D (wv a b)*D.1=(wv a b).1*dt D D:=by unfold cr at hc;unfold dt;grind
  have k:=aO (z:=(wv a b).1) (ez (kC (Or.inl h)));have p:=aP hd h;rw[dX] at k;omega
 ·right;unfold cr at hc;unfold dt at hd;rw[h1] at hc hd;have k:=dU (z:=(wv a b).1) h2;have q:=aO (z:=(wv a b).2) h2;exact⟨h1,h2,k.1 (by omega),q.1 (by omega)⟩
theorem Np{a b:N3}{D:Pt}(h:Behind a b D):0<dt D (wv a b):=by
 rcases h with⟨h1,h2,h3⟩|⟨h1,h2,h3,h4⟩
 ·exact kf (Or.inl h1) (Or.inl h2) h3
 ·unfold dt;rw[h1];have:=aP h2 h4;omega
theorem WW{a b:N3}{D:Pt}(h:Behind a b D):aN (wv a b):=by
 rcases h with⟨_,h2,_⟩|⟨_,_,h3,h4⟩
 ·exact Or.inl h2
 ·exact Or.inr ⟨h3,h4⟩
theorem Eh{f t:N3}(WX:0<t.2.2)(_hr:aN (wv f t)){p q:Pt}(h1:on (rl f p) (rl f q)=true)(h2:on (rl t p) (rl t q)=true):lam (wv f t) f p=0/\lam (wv f t) f q=0:=by
 obtain⟨a1,a2⟩:=(kT _ _).1 h1;obtain⟨b1,_⟩:=(kT _ _).1 h2;have e:f.2.2*f.2.2*cr (rl t p) (rl t q)=t.2.2*t.2.2*cr (rl f p) (rl f q)-t.2.2*(lam (wv f t) f q-lam (wv f t) f p):=by
  have k:f.2.2*f.2.2*cr (rl t p) (rl t q)=(f.2.2*(rl t p).1)*(f.2.2*(rl t q).2)-(f.2.2*(rl t p).2)*(f.2.2*(rl t q).1):=by unfold cr;grind
  obtain⟨e1,e2⟩:=kB f t p;obtain⟨e3,e4⟩:=kB f t q;rw[k,e1,e2,e3,e4];unfold lam cr
  grind
 rw[a1,b1] at e;have ht:0<t.2.2:=WX;have hll:lam (wv f t) f q=lam (wv f t) f p:=by
  have:=dU (z:=lam (wv f t) f q-lam (wv f t) f p) ht;have:=this.1 (by omega)
  omega
 have c:=ub (D:=wv f t) a1;have hp0:lam (wv f t) f p=0:=by
  apply mL;intro hn;have hd:=ez (K1 (D:=wv f t) (r:=rl f p) hn);have k:lam (wv f t) f p*(dt (rl f p) (rl f p)-dt (rl f p) (rl f q))=0:=by
   rw[rJ];unfold lam at*;rw[hll] at c;omega
  rcases ach.1 k with k|k
  ·exact hn k
  ·omega
 exact⟨hp0,by rw[hll];exact hp0⟩
theorem WY{f t m:N3}(hf:0<f.2.2)(ht:0<t.2.2)(hm:0<m.2.2)(hr:aN (wv f t)){p q:Pt}(h1:on (rl f p) (rl f q)=true)(h2:on (rl t p) (rl t q)=true)(b1:Behind f m (wv f t))(b2:Behind m t (wv f t)):on (rl m p) (rl m q)=true:=by
 have hD:=kC hr;obtain⟨l1,l2⟩:=Eh ht hr h1 h2;have lm:∀z,lam (wv f t) f z=0->lam (wv f t) m z=0:=fun z hz=>by have:=oN hf hm b1 z;omega
 have lt:∀z,lam (wv f t) f z=0->lam (wv f t) t z=0:=fun z hz=>by have:=oN hf ht (xA hr) z;omega
 have o1:=(vK hD l1 l2).1 h1;have o2:=(vK hD (lt p l1) (lt q l2)).1 h2;refine(vK hD (lm p l1) (lm q l2)).2 ?_;have d1:=Np b1;have d2:=Np b2;have d3:=Np (xA hr);have mv:∀(a b:N3)(z:Pt),a.2.2*dt (wv f t) (rl b z)=b.2.2*dt (wv f t) (rl a z)-dt (wv f t) (wv a b):=fun a b z=>by
  obtain⟨e1,e2⟩:=kB a b z;have:a.2.2*dt (wv f t) (rl b z)=(wv f t).1*(a.2.2*(rl b z).1)+(wv f t).2*(a.2.2*(rl b z).2):=by unfold dt;grind
  rw[this,e1,e2];unfold dt
  grind
 have low:∀z,dt (wv f t) (rl f z)<=0->dt (wv f t) (rl m z)<0/\dt (wv f t) (rl t z)<0:=fun z hz=>by
  have k1:=mv f m z;have k2:=mv f t z;have p1:=aO (z:=dt (wv f t) (rl f z)) hm;have p2:=neg_mul (z:=dt (wv f t) (rl m z)) hf;have p3:=aO (z:=dt (wv f t) (rl f z)) ht;have p4:=neg_mul (z:=dt (wv f t) (rl t z)) hf;omega
 have high:∀z,0<=dt (wv f t) (rl t z)->0<dt (wv f t) (rl m z):=fun z hz=>by
  have k1:=mv m t z;have p1:=neg_mul (z:=dt (wv f t) (rl t z)) hm;have p2:=aO (z:=dt (wv f t) (rl m z)) ht;omega
 generalize wv f t=D at*;by_cases hp:dt D (rl f p)<=0
 ·obtain⟨x1,x2⟩:=low p hp;have hq:0<=dt D (rl t q):=by
   apply BI.1;intro h;exact Cm x2 h o2
  exact zE (dH x1) (dH (high q hq))
 ·have hq:dt D (rl f q)<=0:=by
   apply BI.1;intro h;exact Gi (by omega) h o1
  obtain⟨x1,x2⟩:=low q hq;have hp':0<=dt D (rl t p):=by
   apply BI.1;intro h;exact Cm h x2 o2
  exact Gj (dH (high p hp')) (dH x1)
def cU(es:List (Pt×Pt))(l:List Nd)(f t:Nd):Prop:=∃e∈es,(f,t)∈nexts (held e l)
theorem cU.facts{es:List (Pt×Pt)}{l:List Nd}(hN:bQ es l){f t:Nd}(h:cU es l f t):f∈l/\t∈l/\aN (wv f t):=by
 obtain⟨e,he,hn⟩:=h;obtain⟨h1,h2⟩:=qY hn;have h1':=(gZ.1 h1).1;have h2':=(gZ.1 h2).1;exact⟨h1',h2',(nr (hN.can _ h1') (hN.can _ h2')).1 (WR (hN.Eg e) hn)⟩
theorem cU.gap{es:List (Pt×Pt)}{l:List Nd}(hN:bQ es l){f t:Nd}(h:cU es l f t){m:Nd}(hm:m∈l):¬(Behind f m (wv f t)/\Behind m t (wv f t)):=by
 rintro⟨b1,b2⟩;obtain⟨hf,ht,hr⟩:=h.facts hN;obtain⟨e,he,hn⟩:=h;obtain⟨h1,h2⟩:=qY hn;have cf:=hN.can _ hf;have ct:=hN.can _ ht;have cm:=hN.can _ hm;have ho:=WY cf.pos ct.pos cm.pos hr (gZ.1 h1).2 (gZ.1 h2).2 b1 b2;exact WT (hN.Eg e) (fun n hn=>hN.can n (gZ.1 hn).1) hn (gZ.2 ⟨hm,ho⟩) ⟨(nr cf cm).2 (WW b1),(nr cm ct).2 (WW b2)⟩
theorem WZ(z:Pt):Ge.Can (z.1,z.2,1):=⟨by show(0:Int)<1;decide,by show Int.gcd (Int.gcd z.1 z.2) 1=1;exact Q7 ..⟩
theorem W6(z:Pt):aj (z.1,z.2,1)=pt z:=by unfold aj pt;simp only[G8]
theorem bQ.Ei{es:List (Pt×Pt)}{l:List Nd}(hN:bQ es l){e:Pt×Pt}(he:e∈es):(e.1.1,e.1.2,1)∈l/\(e.2.1,e.2.2,1)∈l:=
 ⟨hN.mem (WZ e.1) (Or.inl ⟨e,he,Or.inl (W6 _)⟩),hN.mem (WZ e.2) (Or.inl ⟨e,he,Or.inr (W6 _)⟩)⟩
theorem Ej(f:N3)(z:Pt):wv f (z.1,z.2,1)=rl f z:=by unfold wv rl rel;simp
theorem W7(t:N3)(z:Pt):wv (z.1,z.2,1) t=neg (rl t z):=by unfold wv rl rel neg;exact dY (by simp;omega) (by simp;omega)
theorem cU.W8{es:List (Pt×Pt)}{l:List Nd}(hN:bQ es l){f t:Nd}(h:cU es l f t){z:Pt}(hz:(z.1,z.2,1)∈l):mQ f t (wv f t) z:=by
 intro hl;obtain⟨hf,ht,hr⟩:=h.facts hN;apply mL;intro hn;have hl':=(qw (hN.can _ hf).pos (hN.can _ ht).pos hr z).2 hl;refine h.gap hN hz ⟨qf hr ?_ ?_,qf hr ?_ ?_⟩
 ·rw[Ej];exact hl
 ·rw[Ej];omega
 ·rw[W7,fF];unfold lam at hl';omega
 ·rw[W7,kU];omega
def iM(u v:Pt)(a b:Int):N3:=(u.1*b-v.1*a,u.2*b-v.2*a,b-a)
theorem W9(f:N3)(D u v:Pt):wv f (iM u v (lam D f u) (lam D f v))=(D.1*cr (rl f u) (rl f v),D.2*cr (rl f u) (rl f v)):=by
 unfold wv iM lam cr rl rel;exact dY (by simp only;grind) (by simp only;grind)
theorem aht{a b:N3}{D:Pt}{k:Int}(hD:aN D)(hk:0<k)(h:wv a b=(D.1*k,D.2*k)):Behind a b D:=by
 refine qf hD ?_ ?_
 ·rw[h];unfold cr;simp only;grind
 ·rw[h];have e:dt D (D.1*k,D.2*k)=k*dt D D:=by unfold dt;simp only;grind
  rw[e];exact aP hk (ez (kC hD))
theorem ahu{f t:N3}{D:Pt}(hB:Behind f t D)(u v:Pt):t.2.2*(wv (iM u v (lam D f u) (lam D f v)) t).1= -(f.2.2*cr (rl t u) (rl t v))*D.1/\t.2.2*(wv (iM u v (lam D f u) (lam D f v)) t).2= -(f.2.2*cr (rl t u) (rl t v))*D.2:=by
 have m1:=KX hB u;have m2:=KX hB v;have e:=W9 t D u v;have e1:=congrArg Prod.fst e;have e2:=congrArg Prod.snd e;unfold wv iM at e1 e2⊢;simp only at e1 e2⊢;generalize lam D f u=a at*;generalize lam D f v=b at*;generalize lam D t u=a' at*;generalize lam D t v=b' at*;constructor
 ·have k:t.2.2*((b-a)*t.1-t.2.2*(u.1*b-v.1*a))=(t.2.2*b-t.2.2*a)*t.1-t.2.2*(u.1*(t.2.2*b)-v.1*(t.2.2*a)):=by grind
  rw[k,<-m1,<-m2];have k2:(f.2.2*b'-f.2.2*a')*t.1-t.2.2*(u.1*(f.2.2*b')-v.1*(f.2.2*a'))= -f.2.2*(t.2.2*(u.1*b'-v.1*a')-(b'-a')*t.1):=by grind
  rw[k2,e1]
  grind
 ·have k:t.2.2*((b-a)*t.2.1-t.2.2*(u.2*b-v.2*a))=(t.2.2*b-t.2.2*a)*t.2.1-t.2.2*(u.2*(t.2.2*b)-v.2*(t.2.2*a)):=by grind
  rw[k,<-m1,<-m2];have k2:(f.2.2*b'-f.2.2*a')*t.2.1-t.2.2*(u.2*(f.2.2*b')-v.2*(f.2.2*a'))= -f.2.2*(t.2.2*(u.2*b'-v.2*a')-(b'-a')*t.2.1):=by grind
  rw[k2,e2]
  grind
theorem ahv{u v:Pt}{a b:Int}(ha:a<=0)(hb:0<=b):on (rl (iM u v a b) u) (rl (iM u v a b) v)=true:=by
 have e1:rl (iM u v a b) u=(a*(v.1-u.1),a*(v.2-u.2)):=by unfold rl rel iM;exact dY (by simp only;grind) (by simp only;grind)
 have e2:rl (iM u v a b) v=(b*(v.1-u.1),b*(v.2-u.2)):=by unfold rl rel iM;exact dY (by simp only;grind) (by simp only;grind)
 rw[e1,e2,kT];constructor
 ·unfold cr;simp only;grind
 ·have e:dt (a*(v.1-u.1),a*(v.2-u.2)) (b*(v.1-u.1),b*(v.2-u.2))=(a*b)*((v.1-u.1)*(v.1-u.1)+(v.2-u.2)*(v.2-u.2)):=by unfold dt;simp only;grind
  rw[e];refine FI (zE ha hb) ?_;have k:∀x:Int,0<=x*x:=fun x=>by
   rcases FJ 0 x with h|h
   ·exact iO h h
   ·exact tU h h
  have:=k (v.1-u.1);have:=k (v.2-u.2);omega
theorem ahw{m:N3}(hm:0<m.2.2):∃n:Nd,Ge.Can n/\aj n=(aR m.1 m.2.2,aR m.2.1 m.2.2)/\n.1*m.2.2=m.1*n.2.2/\n.2.1*m.2.2=m.2.1*n.2.2:=by
 obtain⟨c,q⟩:=Nk m.1 m.2.1 hm;refine⟨canon m.1 m.2.1 m.2.2,c,q,?_,?_⟩
 ·have h:=congrArg Prod.fst q;have k:=Au (a:=(canon m.1 m.2.1 m.2.2).1) (c:=m.1) c.pos hm;have h':aR (canon m.1 m.2.1 m.2.2).1 (canon m.1 m.2.1 m.2.2).2.2=aR m.1 m.2.2:=h;rw[h',zW] at k;have:=vE.1 k.symm;omega
 ·have h:=congrArg Prod.snd q;have k:=Au (a:=(canon m.1 m.2.1 m.2.2).2.1) (c:=m.2.1) c.pos hm;have h':aR (canon m.1 m.2.1 m.2.2).2.1 (canon m.1 m.2.1 m.2.2).2.2=aR m.2.1 m.2.2:=h;rw[h',zW] at k;have:=vE.1 k.symm;omega
theorem Nq{n m:N3}(e1:n.1*m.2.2=m.1*n.2.2)(e2:n.2.1*m.2.2=m.2.1*n.2.2)(z:Pt):m.2.2*(rl n z).1=n.2.2*(rl m z).1/\m.2.2*(rl n z).2=n.2.2*(rl m z).2:=by
 unfold rl rel;simp only;constructor
 ·rw[rJ,rJ,dX m.2.2 n.1,e1];grind
 ·rw[rJ,rJ,dX m.2.2 n.2.1,e2];grind
theorem IY{n m:N3}(hn:0<n.2.2)(hm:0<m.2.2)(e1:n.1*m.2.2=m.1*n.2.2)(e2:n.2.1*m.2.2=m.2.1*n.2.2){u v:Pt}(h:on (rl m u) (rl m v)=true):on (rl n u) (rl n v)=true:=by
 obtain⟨h1,h2⟩:=(kT _ _).1 h;obtain⟨a1,a2⟩:=Nq e1 e2 u;obtain⟨b1,b2⟩:=Nq e1 e2 v;have k1:m.2.2*m.2.2*cr (rl n u) (rl n v)=n.2.2*n.2.2*cr (rl m u) (rl m v):=by
  have:m.2.2*m.2.2*cr (rl n u) (rl n v)=(m.2.2*(rl n u).1)*(m.2.2*(rl n v).2)-(m.2.2*(rl n u).2)*(m.2.2*(rl n v).1):=by unfold cr;grind
  rw[this,a1,a2,b1,b2];unfold cr
  grind
 have k2:m.2.2*m.2.2*dt (rl n u) (rl n v)=n.2.2*n.2.2*dt (rl m u) (rl m v):=by
  have:m.2.2*m.2.2*dt (rl n u) (rl n v)=(m.2.2*(rl n u).1)*(m.2.2*(rl n v).1)+(m.2.2*(rl n u).2)*(m.2.2*(rl n v).2):=by unfold dt;grind
  rw[this,a1,a2,b1,b2];unfold dt
  grind
 have p:=aP hm hm;have q:=aP hn hn;have z1:=dU (z:=cr (rl n u) (rl n v)) p;have z2:=aO (z:=dt (rl n u) (rl n v)) p;have z3:=aO (z:=dt (rl m u) (rl m v)) q;rw[h1] at k1;refine(kT _ _).2 ⟨z1.1 (by omega),by omega⟩
theorem ahx{f n m:N3}{D:Pt}(hn:0<n.2.2)(hm:0<m.2.2)(e1:n.1*m.2.2=m.1*n.2.2)(e2:n.2.1*m.2.2=m.2.1*n.2.2)(h:Behind f m D):Behind f n D:=by
 have w1:m.2.2*(wv f n).1=n.2.2*(wv f m).1:=by unfold wv;simp only;grind
 have w2:m.2.2*(wv f n).2=n.2.2*(wv f m).2:=by unfold wv;simp only;grind
 have a1:=aO (z:=(wv f n).1) hm;have a2:=aO (z:=(wv f m).1) hn;have a3:=dU (z:=(wv f n).1) hm;have a4:=dU (z:=(wv f m).1) hn;have a5:=aO (z:=(wv f n).2) hm;have a6:=aO (z:=(wv f m).2) hn;have hc:m.2.2*cr D (wv f n)=n.2.2*cr D (wv f m):=by
  have:m.2.2*cr D (wv f n)=D.1*(m.2.2*(wv f n).2)-D.2*(m.2.2*(wv f n).1):=by unfold cr;grind
  rw[this,w1,w2];unfold cr
  grind
 have a7:=dU (z:=cr D (wv f n)) hm;rcases h with⟨h1,h2,h3⟩|⟨h1,h2,h3,h4⟩
 ·rw[h3] at hc;exact Or.inl ⟨h1,by omega,a7.1 (by omega)⟩
 ·exact Or.inr ⟨h1,h2,by omega,by omega⟩
theorem ahy{t n m:N3}{D:Pt}(hn:0<n.2.2)(hm:0<m.2.2)(e1:n.1*m.2.2=m.1*n.2.2)(e2:n.2.1*m.2.2=m.2.1*n.2.2)(h:Behind m t D):Behind n t D:=by
 have w1:m.2.2*(wv n t).1=n.2.2*(wv m t).1:=by unfold wv;simp only;grind
 have w2:m.2.2*(wv n t).2=n.2.2*(wv m t).2:=by unfold wv;simp only;grind
 have a1:=aO (z:=(wv n t).1) hm;have a2:=aO (z:=(wv m t).1) hn;have a3:=dU (z:=(wv n t).1) hm;have a4:=dU (z:=(wv m t).1) hn;have a5:=aO (z:=(wv n t).2) hm;have a6:=aO (z:=(wv m t).2) hn;have hc:m.2.2*cr D (wv n t)=n.2.2*cr D (wv m t):=by
  have:m.2.2*cr D (wv n t)=D.1*(m.2.2*(wv n t).2)-D.2*(m.2.2*(wv n t).1):=by unfold cr;grind
  rw[this,w1,w2];unfold cr
  grind
 have a7:=dU (z:=cr D (wv n t)) hm;rcases h with⟨h1,h2,h3⟩|⟨h1,h2,h3,h4⟩
 ·rw[h3] at hc;exact Or.inl ⟨h1,by omega,a7.1 (by omega)⟩
 ·exact Or.inr ⟨h1,h2,by omega,by omega⟩
def jR(e:Pt×Pt)(z:Pt):Int:=(e.2.1-e.1.1)*(z.2-e.1.2)-(e.2.2-e.1.2)*(z.1-e.1.1)
theorem ahz{f:N3}{D:Pt}{e:Pt×Pt}(hf:0<f.2.2)(hD:D≠(0,0))(hne:e.1≠e.2)(l1:lam D f e.1=0)(l2:lam D f e.2=0):∃k k':Int,k≠0/\k'≠0/\∀z,k*jR e z=k'*lam D f z:=by
 have par:D.1*(e.2.2-e.1.2)=D.2*(e.2.1-e.1.1):=by
  have:f.2.2*(D.1*(e.2.2-e.1.2)-D.2*(e.2.1-e.1.1))=lam D f e.2-lam D f e.1:=by unfold lam cr rl rel;simp only;grind
  rw[l1,l2] at this;have:=(dU hf).1 (show _=0 by rw[this];rfl)
  omega
 have hz:∀z,lam D f z=f.2.2*(D.1*(z.2-e.1.2)-D.2*(z.1-e.1.1)):=fun z=>by
  have:lam D f z-lam D f e.1=f.2.2*(D.1*(z.2-e.1.2)-D.2*(z.1-e.1.1)):=by unfold lam cr rl rel;simp only;grind
  rw[l1] at this;omega
 by_cases h1:D.1=0
 ·have h2:D.2≠0:=fun h2=>hD (dY h1 h2)
  have h3:e.2.1-e.1.1=0:=by
   rw[h1,BN] at par;rcases ach.1 par.symm with h|h
   ·exact absurd h h2
   ·exact h
  have h4:e.2.2-e.1.2≠0:=fun h4=>hne (dY (by omega) (by omega))
  refine⟨D.2*f.2.2,e.2.2-e.1.2,ab1 h2 (by omega),h4,fun z=>?_⟩
  rw[hz z];unfold jR;rw[h1,h3]
  grind
 ·have h4:e.2.1-e.1.1≠0:=fun h4=>by
   rw[h4,zw] at par;rcases ach.1 par with h|h
   ·exact h1 h
   ·exact hne (dY (by omega) (by omega))
  refine⟨D.1*f.2.2,e.2.1-e.1.1,ab1 h1 (by omega),h4,fun z=>?_⟩
  rw[hz z];unfold jR;have:D.1*f.2.2*((e.2.1-e.1.1)*(z.2-e.1.2)-(e.2.2-e.1.2)*(z.1-e.1.1))=f.2.2*((e.2.1-e.1.1)*(D.1*(z.2-e.1.2))-(D.1*(e.2.2-e.1.2))*(z.1-e.1.1)):=by grind
  rw[this,par]
  grind
theorem ahA(e0 e:Pt×Pt):bw e e0=jR e0 e.1-jR e0 e.2/\mX e e0=e.2.1*jR e0 e.1-e.1.1*jR e0 e.2/\mY e e0=e.2.2*jR e0 e.1-e.1.2*jR e0 e.2:=by
 unfold mX mY mT bw jR;refine⟨?_,?_,?_⟩<;>grind
theorem cU.Xa{es:List (Pt×Pt)}{l:List Nd}(hN:bQ es l){f t:Nd}(h:cU es l f t){u v:Pt}(he:(u,v)∈es\/(v,u)∈es)(h1:lam (wv f t) f u<=0)(h2:0<=lam (wv f t) f v)(h3:lam (wv f t) f u<lam (wv f t) f v):cr (rl f u) (rl f v)<=0\/0<=cr (rl t u) (rl t v):=by
 apply mL;intro hn;obtain⟨hf,ht,hr⟩:=h.facts hN;have cf:=hN.can _ hf;have ct:=hN.can _ ht;have pZ:0<(iM u v (lam (wv f t) f u) (lam (wv f t) f v)).2.2:=by show 0<lam (wv f t) f v-lam (wv f t) f u;omega
 have b1:Behind f (iM u v (lam (wv f t) f u) (lam (wv f t) f v)) (wv f t):=aht hr (k:=cr (rl f u) (rl f v)) (by omega) (W9 f (wv f t) u v)
 have b2:Behind (iM u v (lam (wv f t) f u) (lam (wv f t) f v)) t (wv f t):=by
  obtain⟨e1,e2⟩:=ahu (xA hr) u v;have kp:0< -(f.2.2*cr (rl t u) (rl t v)):=by
   have:=(neg_mul (z:=cr (rl t u) (rl t v)) cf.pos).2 (by omega)
   omega
  refine qf hr ?_ ?_
  ·have z:=dU (z:=cr (wv f t) (wv (iM u v (lam (wv f t) f u) (lam (wv f t) f v)) t)) ct.pos;refine z.1 ?_;have:t.2.2*cr (wv f t) (wv (iM u v (lam (wv f t) f u) (lam (wv f t) f v)) t)=(wv f t).1*(t.2.2*(wv (iM u v (lam (wv f t) f u) (lam (wv f t) f v)) t).2)-(wv f t).2*(t.2.2*(wv (iM u v (lam (wv f t) f u) (lam (wv f t) f v)) t).1):=by unfold cr;grind
   rw[this,e1,e2]
   grind
  ·have z:=aO (z:=dt (wv f t) (wv (iM u v (lam (wv f t) f u) (lam (wv f t) f v)) t)) ct.pos;refine z.1 ?_;have:t.2.2*dt (wv f t) (wv (iM u v (lam (wv f t) f u) (lam (wv f t) f v)) t)=(wv f t).1*(t.2.2*(wv (iM u v (lam (wv f t) f u) (lam (wv f t) f v)) t).1)+(wv f t).2*(t.2.2*(wv (iM u v (lam (wv f t) f u) (lam (wv f t) f v)) t).2):=by unfold dt;grind
   rw[this,e1,e2];have e3:(wv f t).1*(-(f.2.2*cr (rl t u) (rl t v))*(wv f t).1)+(wv f t).2*(-(f.2.2*cr (rl t u) (rl t v))*(wv f t).2)= -(f.2.2*cr (rl t u) (rl t v))*dt (wv f t) (wv f t):=by unfold dt;grind
   rw[e3];exact aP kp (ez (kC hr))
 have o1:=ahv (u:=u) (v:=v) h1 h2;obtain⟨e0,IZ,hn0⟩:=id h;obtain⟨i1,i2⟩:=qY hn0;have o2:=WY cf.pos ct.pos pZ hr (gZ.1 i1).2 (gZ.1 i2).2 b1 b2;obtain⟨L1,L2⟩:=Eh ct.pos hr (gZ.1 i1).2 (gZ.1 i2).2;obtain⟨k,k',hk,hk',hkk⟩:=ahz cf.pos (kC hr) (hN.ne e0 IZ) L1 L2;obtain⟨n,cn,qn,n1,n2⟩:=ahw pZ;have Xb:=IY cn.pos pZ n1 n2 o1;have on2:=IY cn.pos pZ n1 n2 o2;have pr:jR e0 v*lam (wv f t) f u=jR e0 u*lam (wv f t) f v:=by
  have a:=hkk u;have b:=hkk v;have:k*(jR e0 v*lam (wv f t) f u)=k*(jR e0 u*lam (wv f t) f v):=by
   calc k*(jR e0 v*lam (wv f t) f u)=k*jR e0 v*lam (wv f t) f u:=by grind
    _=k'*lam (wv f t) f v*lam (wv f t) f u:=by rw[b]
    _=k'*lam (wv f t) f u*lam (wv f t) f v:=by grind
    _=k*jR e0 u*lam (wv f t) f v:=by rw[a]
    _=k*(jR e0 u*lam (wv f t) f v):=by grind
  exact zn hk this
 have gN:jR e0 u≠jR e0 v:=fun he=>by
  have a:=hkk u;have b:=hkk v;rw[he,b] at a;have:=zn hk' a;omega
 have Xc:∀e:Pt×Pt,e∈es->(e=(u,v)\/e=(v,u))->isNode es (aj n):=fun e C7 heq=>by
  obtain⟨c1,c2,c3⟩:=ahA e0 e;have hc:bw e e0≠0:=by
   rw[c1];rcases heq with h|h<;>rw[h]<;>simp only<;>omega
  have hq:aj n=dE e e0:=by
   rw[qn];unfold dE;refine dY ?_ ?_
   ·refine zZ (by omega) hc ?_
    rw[c1,c2];unfold iM;simp only;rcases heq with h|h<;>rw[h]<;>simp only<;>grind
   ·refine zZ (by omega) hc ?_
    rw[c1,c3];unfold iM;simp only;rcases heq with h|h<;>rw[h]<;>simp only<;>grind
  refine Or.inr ⟨e,C7,e0,IZ,hc,hq,?_,?_⟩
  ·rw[<-hq,Io cn];rcases heq with h|h<;>rw[h]
   ·exact Xb
   ·show on (rl n v) (rl n u)=true;rw[vL];exact Xb
  ·rw[<-hq,Io cn];exact on2
 have hin:isNode es (aj n):=by
  rcases he with he|he
  ·exact Xc _ he (Or.inl rfl)
  ·exact Xc _ he (Or.inr rfl)
 exact h.gap hN (hN.mem cn hin) ⟨ahx cn.pos pZ n1 n2 b1,ahy cn.pos pZ n1 n2 b2⟩
theorem cU.oP{es:List (Pt×Pt)}{l:List Nd}(hN:bQ es l){f t:Nd}(h:cU es l f t):ud es f t:=by
 obtain⟨hf,ht,hr⟩:=h.facts hN;refine⟨(hN.can _ hf).pos,(hN.can _ ht).pos,hr,fun e he=>⟨fun a b c=>h.Xa hN (Or.inl he) a b c,fun a b c=>?_⟩,fun e he=>⟨h.W8 hN (hN.Ei he).1,h.W8 hN (hN.Ei he).2⟩⟩
 have:=h.Xa hN (u:=e.2) (v:=e.1) (Or.inr he) a b c;rw[bU (rl f e.1) (rl f e.2),bU (rl t e.1) (rl t e.2)] at this;omega
theorem Xd(z w:Pt):ak z w=ak w z:=by
 unfold ak;rw[bU z w,iR];congr 1;exact decide_eq_decide.2 (by omega)
theorem I0{d d':Pt}(h:ak d d'=true):aN d↔aN d':=by
 obtain⟨h1,h2⟩:=(cV _ _).1 h;have hd:=ez (ua (D:=d') (r:=d) (by rw[iR];omega))
 have e1:d'.1*dt d d=d.1*dt d d':=by unfold cr at h1;unfold dt;grind
 have e2:d'.2*dt d d=d.2*dt d d':=by unfold cr at h1;unfold dt;grind
 have a1:=aO (z:=d'.1) hd;have a2:=aO (z:=d.1) h2;have a3:=dU (z:=d'.1) hd;have a4:=dU (z:=d.1) h2;have a5:=aO (z:=d'.2) hd;have a6:=aO (z:=d.2) h2;rw[dX] at a1 a2 a3 a4 a5 a6;unfold aN;omega
theorem yG{d d':Pt}(h:ak d d'=true)(z:Pt):(0<cr z d↔0<cr z d')/\(cr z d=0↔cr z d'=0):=by
 obtain⟨h1,h2⟩:=(cV _ _).1 h;have hd:=ez (ua (D:=d') (r:=d) (by rw[iR];omega))
 have e:=ub (D:=z) h1;have a1:=aO (z:=cr z d') hd;have a2:=aO (z:=cr z d) h2;have a3:=dU (z:=cr z d') hd;have a4:=dU (z:=cr z d) h2;rw[dX] at a1 a2 a3 a4;omega
theorem ahC{d d':Pt}(h:ak d d'=true):d≠(0,0)/\d'≠(0,0):=by
 obtain⟨_,h2⟩:=(cV _ _).1 h;exact⟨ua (D:=d') (by rw[iR];omega),ua (D:=d) (by omega)⟩
theorem I1{d d':Pt}(h:ak d d'=true)(z:Pt):ah z d=ah z d':=by
 have h1:=I0 h;have h2:=(yG h z).1;have a:=nN (z:=z) (w:=d);have b:=nN (z:=z) (w:=d');rw[<-h1,<-h2] at b;exact mO.2 (a.trans b.symm)
theorem Nr{d d':Pt}(h:ak d d'=true)(z:Pt):ah d z=ah d' z:=by
 have h1:=I0 h;have h2:=yG h z;have a:=nN (z:=d) (w:=z);have b:=nN (z:=d') (w:=z);rw[bU z d] at a;rw[bU z d',<-h1] at b;have h5:(0< -cr z d)↔(0< -cr z d'):=by omega
 rw[<-h5] at b;exact mO.2 (a.trans b.symm)
theorem Ns{x y z:Pt}(h1:ak x y=true)(h2:ak y z=true):ak x z=true:=by
 obtain⟨a1,a2⟩:=(cV _ _).1 h1;obtain⟨b1,b2⟩:=(cV _ _).1 h2;have hy:=ez (ahC h1).2;refine(cV _ _).2 ⟨((yG h2 x).2).1 a1,?_⟩;have e2:dt x z*dt y y=dt x y*dt y z+cr y x*cr y z:=by unfold dt cr;grind
 rw[b1] at e2;have:=aP a2 b2;have q:=aO (z:=dt x z) hy;rw[dX] at q;exact q.1 (by omega)
theorem ahD{d d':Pt}(h:ak d d'=true)(z:Pt):ak z d=ak z d':=by
 cases h1:ak z d<;>cases h2:ak z d'
 ·rfl
 ·rw[Ns h2 (by rw[Xd];exact h)] at h1;cases h1
 ·rw[Ns h1 h] at h2;cases h2
 ·rfl
theorem Xe{es:List (Pt×Pt)}{n:N3}{d d':Pt}(h:ak d d'=true):dh es n d=dh es n d'/\eA es n d=eA es n d':=by
 have e1:AS es n (fun z=>nz z&&ah z d)=AS es n (fun z=>nz z&&ah z d'):=Gh fun e _ _=>by simp only[I1 h];exact⟨trivial,trivial⟩
 have e2:AS es n (fun z=>ak z d)=AS es n (fun z=>ak z d'):=Gh fun e _ _=>by simp only[ahD h];exact⟨trivial,trivial⟩
 unfold eA dh;rw[e1,e2];exact⟨rfl,rfl⟩
theorem eG(a b:N3):wv b a=neg (wv a b):=by unfold wv neg;exact dY (by simp only;omega) (by simp only;omega)
theorem Nt{z:Pt}(h1:aN z)(h2:aN (neg z)):False:=by
 unfold aN neg at*;simp only at h2;omega
theorem ahE{es:List (Pt×Pt)}{l:List Nd}(hN:bQ es l){n:Nd}(hn:n∈l){z:Pt}(hz:z∈arms es n):∃m,m∈l/\(cU es l n m\/cU es l m n)/\ak (wv n m) z=true:=by
 obtain⟨eW,e,he,ho,ue⟩:=jL.1 hz;have cn:=hN.can n hn;obtain⟨p,hp,hpl,lH⟩:∃p:Pt,on (rl (p.1,p.2,1) e.1) (rl (p.1,p.2,1) e.2)=true/\(p.1,p.2,1)∈l/\z=rl n p:=by
  have h0:∀p:Pt,rl (p.1,p.2,1) p=(0,0):=fun p=>by unfold rl rel;exact dY (by simp only;omega) (by simp only;omega)
  rcases ue with h|h
  ·exact⟨e.1,rN _ _ (Or.inl (h0 _)),(hN.Ei he).1,h⟩
  ·exact⟨e.2,rN _ _ (Or.inr (h0 _)),(hN.Ei he).2,h⟩
 have cp:=hN.can _ hpl;have hwz:wv n (p.1,p.2,1)=z:=by rw[Ej,lH]
 have i1:n∈held e l:=gZ.2 ⟨hn,ho⟩;have i2:(p.1,p.2,1)∈held e l:=gZ.2 ⟨hpl,hp⟩;have hc:∀m∈held e l,Ge.Can m:=fun m hm=>hN.can m (gZ.1 hm).1
 by_cases hr:aN z
 ·have hlt:lt (aj n) (aj (p.1,p.2,1)):=(nr cn cp).2 (by rw[hwz];exact hr)
  obtain⟨t,ht⟩:=WU (hN.Eg e) hc i1 i2 hlt;have hpc:cU es l n t:=⟨e,he,ht⟩;obtain⟨_,htl,hrt⟩:=hpc.facts hN;refine⟨t,htl,Or.inl hpc,(cV _ _).2 ?_⟩;have hL:=Eh (hN.can t htl).pos hrt ho (gZ.1 (qY ht).2).2;have hcr:cr (wv n t) z=0:=by
   rcases ue with h|h
   ·rw[h];exact hL.1
   ·rw[h];exact hL.2
  exact⟨hcr,kf hrt hr hcr⟩
 ·have hr':=fT eW hr;have hlt:lt (aj (p.1,p.2,1)) (aj n):=(nr cp cn).2 (by rw[eG,hwz];exact hr')
  obtain⟨f,hf⟩:=WV (hN.Eg e) hc i1 i2 hlt;have hpc:cU es l f n:=⟨e,he,hf⟩;obtain⟨hfl,_,hrf⟩:=hpc.facts hN;have hL:=Eh cn.pos hrf (gZ.1 (qY hf).1).2 ho;have zT:=(qw (hN.can f hfl).pos cn.pos hrf e.1).2 hL.1;have hL2:=(qw (hN.can f hfl).pos cn.pos hrf e.2).2 hL.2;have hcr:cr (wv f n) z=0:=by
   rcases ue with h|h
   ·rw[h];exact zT
   ·rw[h];exact hL2
  refine⟨f,hfl,Or.inr hpc,(cV _ _).2 ?_⟩;have hd:=kf hrf hr' (by rw[fF];omega)
  rw[kU] at hd;rw[eG f n,fw,rM];omega
def Sd(es:List (Pt×Pt))(l:List Nd)(az:Int->Bool)(a b:Nd):Prop:=
 (cU es l a b/\az (LL es a b)=true/\az (RR es a b)=false)\/(cU es l b a/\az (RR es b a)=true/\az (LL es b a)=false)
theorem Sd.pc{es:List (Pt×Pt)}{l:List Nd}{az:Int->Bool}{a b:Nd}(h:Sd es l az a b):cU es l a b\/cU es l b a:=by
 rcases h with h|h
 ·exact Or.inl h.1
 ·exact Or.inr h.1
theorem gF{es:List (Pt×Pt)}{l:List Nd}(hN:bQ es l){a b:Nd}(h:cU es l a b\/cU es l b a):wv a b≠(0,0)/\a∈l/\b∈l:=by
 rcases h with h|h
 ·obtain⟨h1,h2,h3⟩:=h.facts hN;exact⟨kC h3,h1,h2⟩
 ·obtain⟨h1,h2,h3⟩:=h.facts hN;exact⟨by rw[eG b a];exact jy (kC h3),h2,h1⟩
theorem Sd.leave{rg:List (List Pt)}{l:List Nd}(hN:bQ (aa rg) l){az:Int->Bool}{a b:Nd}(h:Sd (aa rg) l az a b):az (dh (aa rg) a (wv a b))=false/\az (eA (aa rg) a (wv a b))=true:=by
 rcases h with⟨h,h1,h2⟩|⟨h,h1,h2⟩
 ·obtain⟨k1,k2⟩:=vM (h.oP hN);rw[k1] at h2;rw[k2] at h1;exact⟨h2,h1⟩
 ·obtain⟨k1,k2⟩:=Cn (h.oP hN);rw[k1,<-eG] at h1;rw[k2,<-eG] at h2;exact⟨h2,h1⟩
theorem Sd.yH{rg:List (List Pt)}{l:List Nd}(hN:bQ (aa rg) l){az:Int->Bool}{a b:Nd}(h:Sd (aa rg) l az a b):az (dh (aa rg) b (wv b a))=true/\az (eA (aa rg) b (wv b a))=false:=by
 rcases h with⟨h,h1,h2⟩|⟨h,h1,h2⟩
 ·obtain⟨k1,k2⟩:=Cn (h.oP hN);rw[k1,<-eG] at h2;rw[k2,<-eG] at h1;exact⟨h1,h2⟩
 ·obtain⟨k1,k2⟩:=vM (h.oP hN);rw[k1] at h1;rw[k2] at h2;exact⟨h1,h2⟩
theorem Sd.of{rg:List (List Pt)}{l:List Nd}(hN:bQ (aa rg) l){az:Int->Bool}{a b:Nd}(h:cU (aa rg) l a b\/cU (aa rg) l b a)(h1:az (dh (aa rg) a (wv a b))=false)(h2:az (eA (aa rg) a (wv a b))=true):Sd (aa rg) l az a b:=by
 rcases h with h|h
 ·obtain⟨k1,k2⟩:=vM (h.oP hN);exact Or.inl ⟨h,by rw[k2];exact h2,by rw[k1];exact h1⟩
 ·obtain⟨k1,k2⟩:=Cn (h.oP hN);rw[<-eG] at k1 k2;exact Or.inr ⟨h,by rw[k1];exact h2,by rw[k2];exact h1⟩
theorem I2{rg:List (List Pt)}{l:List Nd}(hN:bQ (aa rg) l){az:Int->Bool}{n:Nd}(hn:n∈l){z:Pt}(hz:xC (aa rg) n az z):∃m,Sd (aa rg) l az n m/\ak (wv n m) z=true:=by
 obtain⟨m,hm,hp,hs⟩:=ahE hN hn hz.mem;obtain⟨e1,e2⟩:=Xe (es:=aa rg) (n:=n) hs;exact⟨m,Sd.of hN hp (by rw[e1];exact hz.out) (by rw[e2];exact hz.az),hs⟩
theorem Sd.next{rg:List (List Pt)}{l:List Nd}(hN:bQ (aa rg) l){az:Int->Bool}{a b:Nd}(h:Sd (aa rg) l az a b):∃c,Sd (aa rg) l az b c:=by
 obtain⟨h1,h2⟩:=h.yH hN;obtain⟨hne,_,hb⟩:=gF hN h.pc;obtain⟨z,hz⟩:=acR (by rw[eG a b];exact jy hne) h1 h2
 obtain⟨c,hc,_⟩:=I2 hN hb hz;exact⟨c,hc⟩
theorem Sd.qg{rg:List (List Pt)}{l:List Nd}(hN:bQ (aa rg) l){az:Int->Bool}{a b c:Nd}(h:Sd (aa rg) l az a b)(h':Sd (aa rg) l az b c):ak (wv b c) (wv b a)=false:=by
 cases hs:ak (wv b c) (wv b a)
 ·rfl
 ·obtain⟨e1,_⟩:=Xe (es:=aa rg) (n:=b) hs;have k1:=(h.yH hN).1;have k2:=(h'.leave hN).1;rw[e1,k1] at k2;cases k2
theorem Ek{es:List (Pt×Pt)}{l:List Nd}(hN:bQ es l){n t t':Nd}(h:cU es l n t\/cU es l t n)(h':cU es l n t'\/cU es l t' n)(hs:ak (wv n t) (wv n t')=true):t=t':=by
 have dF:∀{x y:Nd},x∈l->y∈l->x=y\/lt (aj x) (aj y)\/lt (aj y) (aj x):=fun{x y} hx hy=>by
  have cx:=hN.can x hx;have cy:=hN.can y hy;unfold lt;rcases fk (pc (aj x) (aj y)) 0 with h|h|h
  ·exact Or.inr (Or.inl h)
  ·exact Or.inl (uM cx cy h)
  ·exact Or.inr (Or.inr (by rw[G7];omega))
 have mv:∀x y:Nd,(∀i:Int,i=i)->n.2.2*(wv x y).1=x.2.2*(wv n y).1-y.2.2*(wv n x).1/\n.2.2*(wv x y).2=x.2.2*(wv n y).2-y.2.2*(wv n x).2:=fun x y _=>by
  unfold wv;constructor<;>(simp only;grind)
 obtain⟨_,hn,ht⟩:=gF hN h;obtain⟨_,_,ht'⟩:=gF hN h';have cn:=hN.can n hn;have key:∀{x y:Nd},x∈l->y∈l->cU es l n y->ak (wv n x) (wv n y)=true->lt (aj x) (aj y)->False:=fun{x y} hx hy hpc hsm hl=>by
  obtain⟨_,_,hr⟩:=hpc.facts hN;obtain⟨s1,s2⟩:=(cV _ _).1 hsm;have Nu:=(nr (hN.can x hx) (hN.can y hy)).1 hl;have c1:cr (wv n y) (wv n x)=0:=by rw[bU];omega
  have c2:cr (wv n y) (wv x y)=0:=by
   obtain⟨m1,m2⟩:=mv x y (fun _=>rfl)
   have:n.2.2*cr (wv n y) (wv x y)=(wv n y).1*(n.2.2*(wv x y).2)-(wv n y).2*(n.2.2*(wv x y).1):=by unfold cr;grind
   rw[m1,m2] at this;refine(dU cn.pos).1 (this.trans ?_);unfold cr at c1
   grind
  exact hpc.gap hN hx ⟨qf hr c1 (by rw[iR];exact s2),qf hr c2 (kf hr Nu c2)⟩
 have key':∀{x y:Nd},x∈l->y∈l->cU es l y n->ak (wv n x) (wv n y)=true->lt (aj y) (aj x)->False:=fun{x y} hx hy hpc hsm hl=>by
  obtain⟨_,_,hr⟩:=hpc.facts hN;obtain⟨s1,s2⟩:=(cV _ _).1 hsm;have Nu:=(nr (hN.can y hy) (hN.can x hx)).1 hl;have e1:wv y n=neg (wv n y):=eG n y;have e2:wv x n=neg (wv n x):=eG n x;have c1:cr (wv y n) (wv x n)=0:=by rw[e1,e2,fw,fF,bU (wv n x)];omega
  have c2:cr (wv y n) (wv y x)=0:=by
   obtain⟨m1,m2⟩:=mv y x (fun _=>rfl)
   have:n.2.2*cr (wv n y) (wv y x)=(wv n y).1*(n.2.2*(wv y x).2)-(wv n y).2*(n.2.2*(wv y x).1):=by unfold cr;grind
   rw[m1,m2] at this;have k:cr (wv n y) (wv y x)=0:=by
    refine(dU cn.pos).1 (this.trans ?_);have c3:cr (wv n y) (wv n x)=0:=by rw[bU];omega
    unfold cr at c3
    grind
   rw[e1,fw];omega
  exact hpc.gap hN hx ⟨qf hr c2 (kf hr Nu c2),qf hr c1 (by rw[e1,e2,rM,kU,iR];omega)⟩
 have hs':ak (wv n t') (wv n t)=true:=by rw[Xd];exact hs
 have qc:=I0 hs;rcases h with h|h<;>rcases h' with h'|h'
 ·rcases dF ht ht' with k|k|k
  ·exact k
  ·exact(key ht ht' h' hs k).elim
  ·exact(key ht' ht h hs' k).elim
 ·exfalso;have r1:=(h.facts hN).2.2;have r2:=(h'.facts hN).2.2;rw[eG n t'] at r2;exact Nt (qc.1 r1) r2
 ·exfalso;have r1:=(h.facts hN).2.2;have r2:=(h'.facts hN).2.2;rw[eG n t] at r1;exact Nt (qc.2 r2) r1
 ·rcases dF ht ht' with k|k|k
  ·exact k
  ·exact(key' ht' ht h hs' k).elim
  ·exact(key' ht ht' h' hs k).elim
theorem I3{a l l' k:Pt}(h:ak l k=true):cw a l l'=cw a k l':=by
 unfold cw;rw[Nr h,I1 h,I1 h]
theorem ahF{rg:List (List Pt)}{l:List Nd}(hN:bQ (aa rg) l){az:Int->Bool}{a a' b c:Nd}(h:Sd (aa rg) l az a b)(h':Sd (aa rg) l az a' b)(hc:Sd (aa rg) l az b c)
  (hm:∀c',Sd (aa rg) l az b c'->¬tC (wv a b) (wv b c') (wv b c)<0)(hm':∀c',Sd (aa rg) l az b c'->¬tC (wv a' b) (wv b c') (wv b c)<0):a=a':=by
 obtain⟨n1,_,hb⟩:=gF hN h.pc;obtain⟨n2,_,_⟩:=gF hN h'.pc;obtain⟨n3,_,_⟩:=gF hN hc.pc;have m1:wv b a≠(0,0):=by rw[eG a b];exact jy n1
 have m2:wv b a'≠(0,0):=by rw[eG a' b];exact jy n2
 cases hs:ak (wv b a) (wv b a')
 ·exfalso;obtain⟨h1,h2⟩:=h.yH hN;obtain⟨h1',h2'⟩:=h'.yH hN;obtain⟨z,hz,lD⟩:=RU m1 m2 hs h1 h2 h1' h2' n3 (h.qg hN hc) (h'.qg hN hc);obtain⟨c',hc',hsm⟩:=I2 hN hb hz;obtain⟨n4,_,_⟩:=gF hN hc'.pc;rcases lD with k|k
  ·rw[<-I3 hsm] at k;have:=(Cq m1 n4 n3 (h.qg hN hc') (h.qg hN hc)).2 k;rw[<-eG] at this;exact hm c' hc' this
  ·rw[<-I3 hsm] at k;have:=(Cq m2 n4 n3 (h'.qg hN hc') (h'.qg hN hc)).2 k;rw[<-eG] at this;exact hm' c' hc' this
 ·exact Ek hN h.pc.symm h'.pc.symm hs
theorem Sd.straight{rg:List (List Pt)}{l:List Nd}(hN:bQ (aa rg) l){az:Int->Bool}{a b c:Nd}(h:Sd (aa rg) l az a b)(h':Sd (aa rg) l az b c)(hc:cr (wv a b) (wv b c)=0):ak (wv a b) (wv b c)=true:=by
 refine(cV _ _).2 ⟨hc,?_⟩;have hb:=h.qg hN h';obtain⟨n1,_,_⟩:=gF hN h.pc;obtain⟨n3,_,_⟩:=gF hN h'.pc;have hd:=La hb (by rw[eG a b,fF,bU (wv a b)];omega)
 rw[eG a b,kU,iR] at hd;have hne:dt (wv a b) (wv b c)≠0:=fun h0=>by
  have e:dt (wv a b) (wv b c)*dt (wv a b) (wv b c)+cr (wv a b) (wv b c)*cr (wv a b) (wv b c)=dt (wv a b) (wv a b)*dt (wv b c) (wv b c):=by unfold dt cr;grind
  have:=aP (ez n1) (ez n3);rw[h0,hc] at e;omega
 omega
end Go.Proofs.YtkjhhooecopolaaGreatDoor.Ga
