import Derived.Test.YtkjhhooecopolaaGreatDoorYz22
set_option maxRecDepth 100000
set_option maxHeartbeats 4000000
namespace Go.Proofs.YtkjhhooecopolaaGreatDoor.Ga
open Ge
structure bX(es:List (Pt×Pt))(l:List Nd):Prop where
 map:l.map ay=gq es
 can:∀n∈l,Ge.Can n
 ne:∀e∈es,e.1≠e.2
theorem bX.mem{es:List (Pt×Pt)}{l:List Nd}(h:bX es l){n:Nd}(hn:Ge.Can n)(hi:isNode es (ay n)):n∈l:=by
 have h1:ay n∈l.map ay:=by rw[h.map];exact((yP es).2.2 _).2 hi
 obtain⟨m,hm,he⟩:=bh.1 h1;rw[IP hn (h.can m hm) he.symm];exact hm
theorem nL{a b:Nd}(ha:Ge.Can a)(hb:Ge.Can b):lt (ay a) (ay b)↔aS (wv a b):=by
 unfold lt aS wv;rw[IM ha hb];have s1:=sg (a.1*b.2.2-b.1*a.2.2);have s2:=sg (a.2.1*b.2.2-b.2.1*a.2.2);have e1:a.2.2*b.1=b.1*a.2.2:=eA _ _;have e2:b.2.2*a.1=a.1*b.2.2:=eA _ _;have e3:a.2.2*b.2.1=b.2.1*a.2.2:=eA _ _;have e4:b.2.2*a.2.1=a.2.1*b.2.2:=eA _ _;simp only;rw[e1,e2,e3,e4];split<;>omega
def zb(l:List Nd):Prop:=l.Pairwise fun a b=>lt (ay a) (ay b)
theorem bX.pR{es:List (Pt×Pt)}{l:List Nd}(h:bX es l):zb l:=by
 have:=(yP es).2.1;rw[<-h.map] at this;exact nU.1 this
theorem bX.EI{es:List (Pt×Pt)}{l:List Nd}(h:bX es l)(e:Pt×Pt):zb (held e l):=acL _ h.pR
theorem ik{e:Pt×Pt}{l:List Nd}{n:Nd}:n∈held e l↔n∈l/\on (rl n e.1) (rl n e.2)=true:=by
 unfold held;rw[jF];exact Iff.rfl
theorem rD:∀{m:List Nd}{q:Nd×Nd},q∈nexts m->q.1∈m/\q.2∈m
 |[],_,h=>by simp[nexts] at h
 |[_],_,h=>by simp[nexts] at h
 |a::b::r,q,h=>by
  rcases aV.1 h with h|h
  ·rw[h];simp
  ·have:=rD (m:=b::r) h;exact⟨bz _ this.1,bz _ this.2⟩
theorem Xr:∀{m:List Nd},zb m->∀{q:Nd×Nd},q∈nexts m->lt (ay q.1) (ay q.2)
 |[],_,_,h=>by simp[nexts] at h
 |[_],_,_,h=>by simp[nexts] at h
 |a::b::r,hp,q,h=>by
  rcases aV.1 h with h|h
  ·rw[h];exact(gv.1 hp).1 b (by simp)
  ·exact Xr (gv.1 hp).2 h
theorem Xt:∀{m:List Nd},zb m->(∀n∈m,Ge.Can n)->∀{q:Nd×Nd},q∈nexts m->∀{x:Nd},x∈m->¬(lt (ay q.1) (ay x)/\lt (ay x) (ay q.2))
 |[],_,_,_,h,_,_=>by simp[nexts] at h
 |[_],_,_,_,h,_,_=>by simp[nexts] at h
 |a::b::r,hp,hc,q,h,x,hx=>by
  obtain⟨p1,p2⟩:=gv.1 hp;have asym:∀{y z:Nd},Ge.Can y->Ge.Can z->lt (ay y) (ay z)->¬lt (ay z) (ay y):=fun hy hz h1 h2=>lt_irrefl _ (lt_trans (cS hy) (cS hz) (cS hy) h1 h2)
  have N0:=hc a (by simp)
  have hcb:=hc b (by simp)
  rcases aV.1 h with h|h
  ·rw[h];rintro⟨k1,k2⟩;simp only at k1 k2;rcases aV.1 hx with e|hx
   ·rw[e] at k1;exact lt_irrefl _ k1
   ·rcases aV.1 hx with e|hx
    ·rw[e] at k2;exact lt_irrefl _ k2
    ·exact asym (hc x (by simp[hx])) hcb k2 ((gv.1 p2).1 x hx)
  ·rintro⟨k1,k2⟩;rcases aV.1 hx with e|hx
   ·rw[e] at k1;have hq:=(rD h).1;exact asym N0 (hc q.1 (by rcases aV.1 hq with e'|e'<;>simp[e'])) (p1 q.1 hq) k1
   ·exact Xt p2 (fun n hn=>hc n (bz _ hn)) h hx ⟨k1,k2⟩
theorem Xu:∀{m:List Nd},zb m->(∀n∈m,Ge.Can n)->∀{x y:Nd},x∈m->y∈m->lt (ay x) (ay y)->∃t,(x,t)∈nexts m
 |[],_,_,_,_,h,_,_=>by simp at h
 |[a],_,_,x,y,h,h',hl=>by
  have e1:x=a:=by simpa using h
  have e2:y=a:=by simpa using h'
  rw[e1,e2] at hl;exact absurd hl (lt_irrefl _)
 |a::b::r,hp,hc,x,y,hx,hy,hl=>by
  obtain⟨p1,p2⟩:=gv.1 hp;rcases aV.1 hx with e|hx
  ·exact⟨b,by rw[e];simp[nexts]⟩
  ·rcases aV.1 hy with e|hy
   ·exfalso;rw[e] at hl;exact lt_irrefl _ (lt_trans (cS (hc a (by simp))) (cS (hc x (bz _ hx))) (cS (hc a (by simp))) (p1 x hx) hl)
   ·obtain⟨t,ht⟩:=Xu p2 (fun n hn=>hc n (bz _ hn)) hx hy hl
    exact⟨t,bz _ ht⟩
theorem Xv:∀{m:List Nd},zb m->(∀n∈m,Ge.Can n)->∀{x y:Nd},x∈m->y∈m->lt (ay y) (ay x)->∃f,(f,x)∈nexts m
 |[],_,_,_,_,h,_,_=>by simp at h
 |[a],_,_,x,y,h,h',hl=>by
  have e1:x=a:=by simpa using h
  have e2:y=a:=by simpa using h'
  rw[e1,e2] at hl;exact absurd hl (lt_irrefl _)
 |a::b::r,hp,hc,x,y,hx,hy,hl=>by
  obtain⟨p1,p2⟩:=gv.1 hp;rcases aV.1 hx with e|hx
  ·exfalso;rw[e] at hl;rcases aV.1 hy with e'|hy
   ·rw[e'] at hl;exact lt_irrefl _ hl
   ·exact lt_irrefl _ (lt_trans (cS (hc a (by simp))) (cS (hc y (bz _ hy))) (cS (hc a (by simp))) (p1 y hy) hl)
  ·by_cases hb:x=b
   ·exact⟨a,by rw[hb];simp[nexts]⟩
   ·have hb':lt (ay b) (ay x):=by
     rcases aV.1 hx with e|hx
     ·exact absurd e hb
     ·exact(gv.1 p2).1 x hx
    obtain⟨f,hf⟩:=Xv p2 (fun n hn=>hc n (bz _ hn)) hx (RZ ..) hb'
    exact⟨f,bz _ hf⟩
theorem qu{a b:N3}{D:Pt}(hD:aS D)(hc:cr D (wv a b)=0)(hd:0<dt D (wv a b)):Behind a b D:=by
 rcases hD with h|⟨h1,h2⟩
 ·left;refine⟨h,?_,hc⟩;have e:dt D (wv a b)*D.1=(wv a b).1*dt D D:=by unfold cr at hc;unfold dt;grind
  have k:=aT (z:=(wv a b).1) (eG (kM (ae h)));have p:=aU hd h;rw[eA] at k;omega
 ·right;unfold cr at hc;unfold dt at hd;rw[h1] at hc hd;have k:=dZ (z:=(wv a b).1) h2;have q:=aT (z:=(wv a b).2) h2;exact⟨h1,h2,k.1 (by omega),q.1 (by omega)⟩
theorem N4{a b:N3}{D:Pt}(h:Behind a b D):0<dt D (wv a b):=by
 rcases h with⟨h1,h2,h3⟩|⟨h1,h2,h3,h4⟩
 ·exact kE (ae h1) (ae h2) h3
 ·unfold dt;rw[h1];have:=aU h2 h4;omega
theorem Xw{a b:N3}{D:Pt}(h:Behind a b D):aS (wv a b):=by
 rcases h with⟨_,h2,_⟩|⟨_,_,h3,h4⟩
 ·exact ae h2
 ·exact af ⟨h3,h4⟩
theorem EJ{f t:N3}(Xx:0<t.2.2)(_hr:aS (wv f t)){p q:Pt}(h1:on (rl f p) (rl f q)=true)(h2:on (rl t p) (rl t q)=true):lam (wv f t) f p=0/\lam (wv f t) f q=0:=by
 obtain⟨a1,a2⟩:=(lD _ _).1 h1;obtain⟨b1,_⟩:=(lD _ _).1 h2;have e:f.2.2*f.2.2*cr (rl t p) (rl t q)=t.2.2*t.2.2*cr (rl f p) (rl f q)-t.2.2*(lam (wv f t) f q-lam (wv f t) f p):=by
  have k:f.2.2*f.2.2*cr (rl t p) (rl t q)=(f.2.2*(rl t p).1)*(f.2.2*(rl t q).2)-(f.2.2*(rl t p).2)*(f.2.2*(rl t q).1):=by unfold cr;grind
  obtain⟨e1,e2⟩:=kL f t p;obtain⟨e3,e4⟩:=kL f t q;rw[k,e1,e2,e3,e4];unfold lam cr
  grind
 rw[a1,b1] at e;have ht:0<t.2.2:=Xx;have hll:lam (wv f t) f q=lam (wv f t) f p:=by
  have:=dZ (z:=lam (wv f t) f q-lam (wv f t) f p) ht;have:=this.1 (by omega)
  omega
 have c:=uA (D:=wv f t) a1;have hp0:lam (wv f t) f p=0:=by
  apply mW;intro hn;have hd:=eG (Lz (D:=wv f t) (r:=rl f p) hn);have k:lam (wv f t) f p*(dt (rl f p) (rl f p)-dt (rl f p) (rl f q))=0:=by
   rw[rX];unfold lam at*;rw[hll] at c;omega
  rcases acM.1 k with k|k
  ·exact hn k
  ·omega
 exact⟨hp0,by rw[hll];exact hp0⟩
theorem Xy{f t m:N3}(hf:0<f.2.2)(ht:0<t.2.2)(hm:0<m.2.2)(hr:aS (wv f t)){p q:Pt}(h1:on (rl f p) (rl f q)=true)(h2:on (rl t p) (rl t q)=true)(b1:Behind f m (wv f t))(b2:Behind m t (wv f t)):on (rl m p) (rl m q)=true:=by
 have hD:=kM hr;obtain⟨l1,l2⟩:=EJ ht hr h1 h2;have lm:∀z,lam (wv f t) f z=0->lam (wv f t) m z=0:=fun z hz=>by have:=o8 hf hm b1 z;omega
 have lt:∀z,lam (wv f t) f z=0->lam (wv f t) t z=0:=fun z hz=>by have:=o8 hf ht (x8 hr) z;omega
 have o1:=(wD hD l1 l2).1 h1;have o2:=(wD hD (lt p l1) (lt q l2)).1 h2;refine(wD hD (lm p l1) (lm q l2)).2 ?_;have d1:=N4 b1;have d2:=N4 b2;have d3:=N4 (x8 hr);have mv:∀(a b:N3)(z:Pt),a.2.2*dt (wv f t) (rl b z)=b.2.2*dt (wv f t) (rl a z)-dt (wv f t) (wv a b):=fun a b z=>by
  obtain⟨e1,e2⟩:=kL a b z;have:a.2.2*dt (wv f t) (rl b z)=(wv f t).1*(a.2.2*(rl b z).1)+(wv f t).2*(a.2.2*(rl b z).2):=by unfold dt;grind
  rw[this,e1,e2];unfold dt
  grind
 have low:∀z,dt (wv f t) (rl f z)<=0->dt (wv f t) (rl m z)<0/\dt (wv f t) (rl t z)<0:=fun z hz=>by
  have k1:=mv f m z;have k2:=mv f t z;have p1:=aT (z:=dt (wv f t) (rl f z)) hm;have p2:=neg_mul (z:=dt (wv f t) (rl m z)) hf;have p3:=aT (z:=dt (wv f t) (rl f z)) ht;have p4:=neg_mul (z:=dt (wv f t) (rl t z)) hf;omega
 have high:∀z,0<=dt (wv f t) (rl t z)->0<dt (wv f t) (rl m z):=fun z hz=>by
  have k1:=mv m t z;have p1:=neg_mul (z:=dt (wv f t) (rl t z)) hm;have p2:=aT (z:=dt (wv f t) (rl m z)) ht;omega
 generalize wv f t=D at*;by_cases hp:dt D (rl f p)<=0
 ·obtain⟨x1,x2⟩:=low p hp;have hq:0<=dt D (rl t q):=by
   apply Cr.1;intro h;exact CR x2 h o2
  exact Ab (dM x1) (dM (high q hq))
 ·have hq:dt D (rl f q)<=0:=by
   apply Cr.1;intro h;exact GR (by omega) h o1
  obtain⟨x1,x2⟩:=low q hq;have hp':0<=dt D (rl t p):=by
   apply Cr.1;intro h;exact CR h x2 o2
  exact GS (dM (high p hp')) (dM x1)
def di(es:List (Pt×Pt))(l:List Nd)(f t:Nd):Prop:=∃e∈es,(f,t)∈nexts (held e l)
theorem di.facts{es:List (Pt×Pt)}{l:List Nd}(hN:bX es l){f t:Nd}(h:di es l f t):f∈l/\t∈l/\aS (wv f t):=by
 obtain⟨e,he,hn⟩:=h;obtain⟨h1,h2⟩:=rD hn;have h1':=(ik.1 h1).1;have h2':=(ik.1 h2).1;exact⟨h1',h2',(nL (hN.can _ h1') (hN.can _ h2')).1 (Xr (hN.EI e) hn)⟩
theorem di.gap{es:List (Pt×Pt)}{l:List Nd}(hN:bX es l){f t:Nd}(h:di es l f t){m:Nd}(hm:m∈l):¬(Behind f m (wv f t)/\Behind m t (wv f t)):=by
 rintro⟨b1,b2⟩;obtain⟨hf,ht,hr⟩:=h.facts hN;obtain⟨e,he,hn⟩:=h;obtain⟨h1,h2⟩:=rD hn;have cf:=hN.can _ hf;have ct:=hN.can _ ht;have cm:=hN.can _ hm;have ho:=Xy cf.pos ct.pos cm.pos hr (ik.1 h1).2 (ik.1 h2).2 b1 b2;exact Xt (hN.EI e) (fun n hn=>hN.can n (ik.1 hn).1) hn (ik.2 ⟨hm,ho⟩) ⟨(nL cf cm).2 (Xw b1),(nL cm ct).2 (Xw b2)⟩
theorem Xz(z:Pt):Ge.Can (z.1,z.2,1):=⟨by show(0:Int)<1;decide,by show Int.gcd (Int.gcd z.1 z.2) 1=1;exact RM ..⟩
theorem XA(z:Pt):ay (z.1,z.2,1)=pt z:=by unfold ay pt;simp only[H6]
theorem bX.EK{es:List (Pt×Pt)}{l:List Nd}(hN:bX es l){e:Pt×Pt}(he:e∈es):(e.1.1,e.1.2,1)∈l/\(e.2.1,e.2.2,1)∈l:=
 ⟨hN.mem (Xz e.1) (ae ⟨e,he,ae (XA _)⟩),hN.mem (Xz e.2) (ae ⟨e,he,af (XA _)⟩)⟩
theorem EL(f:N3)(z:Pt):wv f (z.1,z.2,1)=rl f z:=by unfold wv rl rel;simp
theorem XB(t:N3)(z:Pt):wv (z.1,z.2,1) t=neg (rl t z):=by unfold wv rl rel neg;exact eB (by simp;omega) (by simp;omega)
theorem di.XC{es:List (Pt×Pt)}{l:List Nd}(hN:bX es l){f t:Nd}(h:di es l f t){z:Pt}(hz:(z.1,z.2,1)∈l):nu f t (wv f t) z:=by
 intro hl;obtain⟨hf,ht,hr⟩:=h.facts hN;apply mW;intro hn;have hl':=(qI (hN.can _ hf).pos (hN.can _ ht).pos hr z).2 hl;refine h.gap hN hz ⟨qu hr ?_ ?_,qu hr ?_ ?_⟩
 ·rw[EL];exact hl
 ·rw[EL];omega
 ·rw[XB,fK];unfold lam at hl';omega
 ·rw[XB,lF];omega
def iW(u v:Pt)(a b:Int):N3:=(u.1*b-v.1*a,u.2*b-v.2*a,b-a)
theorem XD(f:N3)(D u v:Pt):wv f (iW u v (lam D f u) (lam D f v))=(D.1*cr (rl f u) (rl f v),D.2*cr (rl f u) (rl f v)):=by
 unfold wv iW lam cr rl rel;exact eB (by simp only;grind) (by simp only;grind)
theorem ahV{a b:N3}{D:Pt}{k:Int}(hD:aS D)(hk:0<k)(h:wv a b=(D.1*k,D.2*k)):Behind a b D:=by
 refine qu hD ?_ ?_
 ·rw[h];unfold cr;simp only;grind
 ·rw[h];have e:dt D (D.1*k,D.2*k)=k*dt D D:=by unfold dt;simp only;grind
  rw[e];exact aU hk (eG (kM hD))
theorem ahW{f t:N3}{D:Pt}(hB:Behind f t D)(u v:Pt):t.2.2*(wv (iW u v (lam D f u) (lam D f v)) t).1= -(f.2.2*cr (rl t u) (rl t v))*D.1/\t.2.2*(wv (iW u v (lam D f u) (lam D f v)) t).2= -(f.2.2*cr (rl t u) (rl t v))*D.2:=by
 have m1:=Lt hB u;have m2:=Lt hB v;have e:=XD t D u v;have e1:=aw Prod.fst e;have e2:=aw Prod.snd e;unfold wv iW at e1 e2⊢;simp only at e1 e2⊢;generalize lam D f u=a at*;generalize lam D f v=b at*;generalize lam D t u=a' at*;generalize lam D t v=b' at*;constructor
 ·have k:t.2.2*((b-a)*t.1-t.2.2*(u.1*b-v.1*a))=(t.2.2*b-t.2.2*a)*t.1-t.2.2*(u.1*(t.2.2*b)-v.1*(t.2.2*a)):=by grind
  rw[k,<-m1,<-m2];have k2:(f.2.2*b'-f.2.2*a')*t.1-t.2.2*(u.1*(f.2.2*b')-v.1*(f.2.2*a'))= -f.2.2*(t.2.2*(u.1*b'-v.1*a')-(b'-a')*t.1):=by grind
  rw[k2,e1]
  grind
 ·have k:t.2.2*((b-a)*t.2.1-t.2.2*(u.2*b-v.2*a))=(t.2.2*b-t.2.2*a)*t.2.1-t.2.2*(u.2*(t.2.2*b)-v.2*(t.2.2*a)):=by grind
  rw[k,<-m1,<-m2];have k2:(f.2.2*b'-f.2.2*a')*t.2.1-t.2.2*(u.2*(f.2.2*b')-v.2*(f.2.2*a'))= -f.2.2*(t.2.2*(u.2*b'-v.2*a')-(b'-a')*t.2.1):=by grind
  rw[k2,e2]
  grind
theorem ahX{u v:Pt}{a b:Int}(ha:a<=0)(hb:0<=b):on (rl (iW u v a b) u) (rl (iW u v a b) v)=true:=by
 have e1:rl (iW u v a b) u=(a*(v.1-u.1),a*(v.2-u.2)):=by unfold rl rel iW;exact eB (by simp only;grind) (by simp only;grind)
 have e2:rl (iW u v a b) v=(b*(v.1-u.1),b*(v.2-u.2)):=by unfold rl rel iW;exact eB (by simp only;grind) (by simp only;grind)
 rw[e1,e2,lD];constructor
 ·unfold cr;simp only;grind
 ·have e:dt (a*(v.1-u.1),a*(v.2-u.2)) (b*(v.1-u.1),b*(v.2-u.2))=(a*b)*((v.1-u.1)*(v.1-u.1)+(v.2-u.2)*(v.2-u.2)):=by unfold dt;simp only;grind
  rw[e];refine Gi (Ab ha hb) ?_;have k:∀x:Int,0<=x*x:=fun x=>by
   rcases Gj 0 x with h|h
   ·exact iY h h
   ·exact ui h h
  have:=k (v.1-u.1);have:=k (v.2-u.2);omega
theorem ahY{m:N3}(hm:0<m.2.2):∃n:Nd,Ge.Can n/\ay n=(aW m.1 m.2.2,aW m.2.1 m.2.2)/\n.1*m.2.2=m.1*n.2.2/\n.2.1*m.2.2=m.2.1*n.2.2:=by
 obtain⟨c,q⟩:=NY m.1 m.2.1 hm;refine⟨canon m.1 m.2.1 m.2.2,c,q,?_,?_⟩
 ·have h:=aw Prod.fst q;have k:=Bd (a:=(canon m.1 m.2.1 m.2.2).1) (c:=m.1) c.pos hm;have h':aW (canon m.1 m.2.1 m.2.2).1 (canon m.1 m.2.1 m.2.2).2.2=aW m.1 m.2.2:=h;rw[h',Aw] at k;have:=vZ.1 k.symm;omega
 ·have h:=aw Prod.snd q;have k:=Bd (a:=(canon m.1 m.2.1 m.2.2).2.1) (c:=m.2.1) c.pos hm;have h':aW (canon m.1 m.2.1 m.2.2).2.1 (canon m.1 m.2.1 m.2.2).2.2=aW m.2.1 m.2.2:=h;rw[h',Aw] at k;have:=vZ.1 k.symm;omega
theorem N5{n m:N3}(e1:n.1*m.2.2=m.1*n.2.2)(e2:n.2.1*m.2.2=m.2.1*n.2.2)(z:Pt):m.2.2*(rl n z).1=n.2.2*(rl m z).1/\m.2.2*(rl n z).2=n.2.2*(rl m z).2:=by
 unfold rl rel;simp only;constructor
 ·rw[rX,rX,eA m.2.2 n.1,e1];grind
 ·rw[rX,rX,eA m.2.2 n.2.1,e2];grind
theorem Jp{n m:N3}(hn:0<n.2.2)(hm:0<m.2.2)(e1:n.1*m.2.2=m.1*n.2.2)(e2:n.2.1*m.2.2=m.2.1*n.2.2){u v:Pt}(h:on (rl m u) (rl m v)=true):on (rl n u) (rl n v)=true:=by
 obtain⟨h1,h2⟩:=(lD _ _).1 h;obtain⟨a1,a2⟩:=N5 e1 e2 u;obtain⟨b1,b2⟩:=N5 e1 e2 v;have k1:m.2.2*m.2.2*cr (rl n u) (rl n v)=n.2.2*n.2.2*cr (rl m u) (rl m v):=by
  have:m.2.2*m.2.2*cr (rl n u) (rl n v)=(m.2.2*(rl n u).1)*(m.2.2*(rl n v).2)-(m.2.2*(rl n u).2)*(m.2.2*(rl n v).1):=by unfold cr;grind
  rw[this,a1,a2,b1,b2];unfold cr
  grind
 have k2:m.2.2*m.2.2*dt (rl n u) (rl n v)=n.2.2*n.2.2*dt (rl m u) (rl m v):=by
  have:m.2.2*m.2.2*dt (rl n u) (rl n v)=(m.2.2*(rl n u).1)*(m.2.2*(rl n v).1)+(m.2.2*(rl n u).2)*(m.2.2*(rl n v).2):=by unfold dt;grind
  rw[this,a1,a2,b1,b2];unfold dt
  grind
 have p:=aU hm hm;have q:=aU hn hn;have z1:=dZ (z:=cr (rl n u) (rl n v)) p;have z2:=aT (z:=dt (rl n u) (rl n v)) p;have z3:=aT (z:=dt (rl m u) (rl m v)) q;rw[h1] at k1;refine(lD _ _).2 ⟨z1.1 (by omega),by omega⟩
theorem ahZ{f n m:N3}{D:Pt}(hn:0<n.2.2)(hm:0<m.2.2)(e1:n.1*m.2.2=m.1*n.2.2)(e2:n.2.1*m.2.2=m.2.1*n.2.2)(h:Behind f m D):Behind f n D:=by
 have w1:m.2.2*(wv f n).1=n.2.2*(wv f m).1:=by unfold wv;simp only;grind
 have w2:m.2.2*(wv f n).2=n.2.2*(wv f m).2:=by unfold wv;simp only;grind
 have a1:=aT (z:=(wv f n).1) hm;have a2:=aT (z:=(wv f m).1) hn;have a3:=dZ (z:=(wv f n).1) hm;have a4:=dZ (z:=(wv f m).1) hn;have a5:=aT (z:=(wv f n).2) hm;have a6:=aT (z:=(wv f m).2) hn;have hc:m.2.2*cr D (wv f n)=n.2.2*cr D (wv f m):=by
  have:m.2.2*cr D (wv f n)=D.1*(m.2.2*(wv f n).2)-D.2*(m.2.2*(wv f n).1):=by unfold cr;grind
  rw[this,w1,w2];unfold cr
  grind
 have a7:=dZ (z:=cr D (wv f n)) hm;rcases h with⟨h1,h2,h3⟩|⟨h1,h2,h3,h4⟩
 ·rw[h3] at hc;exact ae ⟨h1,by omega,a7.1 (by omega)⟩
 ·exact af ⟨h1,h2,by omega,by omega⟩
theorem ah0{t n m:N3}{D:Pt}(hn:0<n.2.2)(hm:0<m.2.2)(e1:n.1*m.2.2=m.1*n.2.2)(e2:n.2.1*m.2.2=m.2.1*n.2.2)(h:Behind m t D):Behind n t D:=by
 have w1:m.2.2*(wv n t).1=n.2.2*(wv m t).1:=by unfold wv;simp only;grind
 have w2:m.2.2*(wv n t).2=n.2.2*(wv m t).2:=by unfold wv;simp only;grind
 have a1:=aT (z:=(wv n t).1) hm;have a2:=aT (z:=(wv m t).1) hn;have a3:=dZ (z:=(wv n t).1) hm;have a4:=dZ (z:=(wv m t).1) hn;have a5:=aT (z:=(wv n t).2) hm;have a6:=aT (z:=(wv m t).2) hn;have hc:m.2.2*cr D (wv n t)=n.2.2*cr D (wv m t):=by
  have:m.2.2*cr D (wv n t)=D.1*(m.2.2*(wv n t).2)-D.2*(m.2.2*(wv n t).1):=by unfold cr;grind
  rw[this,w1,w2];unfold cr
  grind
 have a7:=dZ (z:=cr D (wv n t)) hm;rcases h with⟨h1,h2,h3⟩|⟨h1,h2,h3,h4⟩
 ·rw[h3] at hc;exact ae ⟨h1,by omega,a7.1 (by omega)⟩
 ·exact af ⟨h1,h2,by omega,by omega⟩
def j5(e:Pt×Pt)(z:Pt):Int:=(e.2.1-e.1.1)*(z.2-e.1.2)-(e.2.2-e.1.2)*(z.1-e.1.1)
theorem ah1{f:N3}{D:Pt}{e:Pt×Pt}(hf:0<f.2.2)(hD:D≠(0,0))(hne:e.1≠e.2)(l1:lam D f e.1=0)(l2:lam D f e.2=0):∃k k':Int,k≠0/\k'≠0/\∀z,k*j5 e z=k'*lam D f z:=by
 have par:D.1*(e.2.2-e.1.2)=D.2*(e.2.1-e.1.1):=by
  have:f.2.2*(D.1*(e.2.2-e.1.2)-D.2*(e.2.1-e.1.1))=lam D f e.2-lam D f e.1:=by unfold lam cr rl rel;simp only;grind
  rw[l1,l2] at this;have:=(dZ hf).1 (show _=0 by rw[this];rfl)
  omega
 have hz:∀z,lam D f z=f.2.2*(D.1*(z.2-e.1.2)-D.2*(z.1-e.1.1)):=fun z=>by
  have:lam D f z-lam D f e.1=f.2.2*(D.1*(z.2-e.1.2)-D.2*(z.1-e.1.1)):=by unfold lam cr rl rel;simp only;grind
  rw[l1] at this;omega
 by_cases h1:D.1=0
 ·have h2:D.2≠0:=fun h2=>hD (eB h1 h2)
  have h3:e.2.1-e.1.1=0:=by
   rw[h1,Cw] at par;rcases acM.1 par.symm with h|h
   ·exact absurd h h2
   ·exact h
  have h4:e.2.2-e.1.2≠0:=fun h4=>hne (eB (by omega) (by omega))
  refine⟨D.2*f.2.2,e.2.2-e.1.2,acx h2 (by omega),h4,fun z=>?_⟩
  rw[hz z];unfold j5;rw[h1,h3]
  grind
 ·have h4:e.2.1-e.1.1≠0:=fun h4=>by
   rw[h4,zU] at par;rcases acM.1 par with h|h
   ·exact h1 h
   ·exact hne (eB (by omega) (by omega))
  refine⟨D.1*f.2.2,e.2.1-e.1.1,acx h1 (by omega),h4,fun z=>?_⟩
  rw[hz z];unfold j5;have:D.1*f.2.2*((e.2.1-e.1.1)*(z.2-e.1.2)-(e.2.2-e.1.2)*(z.1-e.1.1))=f.2.2*((e.2.1-e.1.1)*(D.1*(z.2-e.1.2))-(D.1*(e.2.2-e.1.2))*(z.1-e.1.1)):=by grind
  rw[this,par]
  grind
theorem ah2(e0 e:Pt×Pt):bG e e0=j5 e0 e.1-j5 e0 e.2/\mX e e0=e.2.1*j5 e0 e.1-e.1.1*j5 e0 e.2/\mY e e0=e.2.2*j5 e0 e.1-e.1.2*j5 e0 e.2:=by
 unfold mX mY mT bG j5;refine⟨?_,?_,?_⟩<;>grind
theorem di.XE{es:List (Pt×Pt)}{l:List Nd}(hN:bX es l){f t:Nd}(h:di es l f t){u v:Pt}(he:(u,v)∈es\/(v,u)∈es)(h1:lam (wv f t) f u<=0)(h2:0<=lam (wv f t) f v)(h3:lam (wv f t) f u<lam (wv f t) f v):cr (rl f u) (rl f v)<=0\/0<=cr (rl t u) (rl t v):=by
 apply mW;intro hn;obtain⟨hf,ht,hr⟩:=h.facts hN;have cf:=hN.can _ hf;have ct:=hN.can _ ht;have pZ:0<(iW u v (lam (wv f t) f u) (lam (wv f t) f v)).2.2:=by show 0<lam (wv f t) f v-lam (wv f t) f u;omega
 have b1:Behind f (iW u v (lam (wv f t) f u) (lam (wv f t) f v)) (wv f t):=ahV hr (k:=cr (rl f u) (rl f v)) (by omega) (XD f (wv f t) u v)
 have b2:Behind (iW u v (lam (wv f t) f u) (lam (wv f t) f v)) t (wv f t):=by
  obtain⟨e1,e2⟩:=ahW (x8 hr) u v;have kp:0< -(f.2.2*cr (rl t u) (rl t v)):=by
   have:=(neg_mul (z:=cr (rl t u) (rl t v)) cf.pos).2 (by omega)
   omega
  refine qu hr ?_ ?_
  ·have z:=dZ (z:=cr (wv f t) (wv (iW u v (lam (wv f t) f u) (lam (wv f t) f v)) t)) ct.pos;refine z.1 ?_;have:t.2.2*cr (wv f t) (wv (iW u v (lam (wv f t) f u) (lam (wv f t) f v)) t)=(wv f t).1*(t.2.2*(wv (iW u v (lam (wv f t) f u) (lam (wv f t) f v)) t).2)-(wv f t).2*(t.2.2*(wv (iW u v (lam (wv f t) f u) (lam (wv f t) f v)) t).1):=by unfold cr;grind
   rw[this,e1,e2]
   grind
  ·have z:=aT (z:=dt (wv f t) (wv (iW u v (lam (wv f t) f u) (lam (wv f t) f v)) t)) ct.pos;refine z.1 ?_;have:t.2.2*dt (wv f t) (wv (iW u v (lam (wv f t) f u) (lam (wv f t) f v)) t)=(wv f t).1*(t.2.2*(wv (iW u v (lam (wv f t) f u) (lam (wv f t) f v)) t).1)+(wv f t).2*(t.2.2*(wv (iW u v (lam (wv f t) f u) (lam (wv f t) f v)) t).2):=by unfold dt;grind
   rw[this,e1,e2];have e3:(wv f t).1*(-(f.2.2*cr (rl t u) (rl t v))*(wv f t).1)+(wv f t).2*(-(f.2.2*cr (rl t u) (rl t v))*(wv f t).2)= -(f.2.2*cr (rl t u) (rl t v))*dt (wv f t) (wv f t):=by unfold dt;grind
   rw[e3];exact aU kp (eG (kM hr))
 have o1:=ahX (u:=u) (v:=v) h1 h2;obtain⟨e0,Jq,hn0⟩:=id h;obtain⟨i1,i2⟩:=rD hn0;have o2:=Xy cf.pos ct.pos pZ hr (ik.1 i1).2 (ik.1 i2).2 b1 b2;obtain⟨L1,L2⟩:=EJ ct.pos hr (ik.1 i1).2 (ik.1 i2).2;obtain⟨k,k',hk,hk',hkk⟩:=ah1 cf.pos (kM hr) (hN.ne e0 Jq) L1 L2;obtain⟨n,cn,qn,n1,n2⟩:=ahY pZ;have XF:=Jp cn.pos pZ n1 n2 o1;have on2:=Jp cn.pos pZ n1 n2 o2;have pr:j5 e0 v*lam (wv f t) f u=j5 e0 u*lam (wv f t) f v:=by
  have a:=hkk u;have b:=hkk v;have:k*(j5 e0 v*lam (wv f t) f u)=k*(j5 e0 u*lam (wv f t) f v):=by
   calc k*(j5 e0 v*lam (wv f t) f u)=k*j5 e0 v*lam (wv f t) f u:=by grind
    _=k'*lam (wv f t) f v*lam (wv f t) f u:=by rw[b]
    _=k'*lam (wv f t) f u*lam (wv f t) f v:=by grind
    _=k*j5 e0 u*lam (wv f t) f v:=by rw[a]
    _=k*(j5 e0 u*lam (wv f t) f v):=by grind
  exact zQ hk this
 have ia:j5 e0 u≠j5 e0 v:=fun he=>by
  have a:=hkk u;have b:=hkk v;rw[he,b] at a;have:=zQ hk' a;omega
 have XG:∀e:Pt×Pt,e∈es->(e=(u,v)\/e=(v,u))->isNode es (ay n):=fun e DA heq=>by
  obtain⟨c1,c2,c3⟩:=ah2 e0 e;have hc:bG e e0≠0:=by
   rw[c1];rcases heq with h|h<;>rw[h]<;>simp only<;>omega
  have hq:ay n=dJ e e0:=by
   rw[qn];unfold dJ;refine eB ?_ ?_
   ·refine Az (by omega) hc ?_
    rw[c1,c2];unfold iW;simp only;rcases heq with h|h<;>rw[h]<;>simp only<;>grind
   ·refine Az (by omega) hc ?_
    rw[c1,c3];unfold iW;simp only;rcases heq with h|h<;>rw[h]<;>simp only<;>grind
  refine af ⟨e,DA,e0,Jq,hc,hq,?_,?_⟩
  ·rw[<-hq,IZ cn];rcases heq with h|h<;>rw[h]
   ·exact XF
   ·show on (rl n v) (rl n u)=true;rw[wE];exact XF
  ·rw[<-hq,IZ cn];exact on2
 have hin:isNode es (ay n):=by
  rcases he with he|he
  ·exact XG _ he (ae rfl)
  ·exact XG _ he (af rfl)
 exact h.gap hN (hN.mem cn hin) ⟨ahZ cn.pos pZ n1 n2 b1,ah0 cn.pos pZ n1 n2 b2⟩
theorem di.pj{es:List (Pt×Pt)}{l:List Nd}(hN:bX es l){f t:Nd}(h:di es l f t):uB es f t:=by
 obtain⟨hf,ht,hr⟩:=h.facts hN;refine⟨(hN.can _ hf).pos,(hN.can _ ht).pos,hr,fun e he=>⟨fun a b c=>h.XE hN (ae he) a b c,fun a b c=>?_⟩,fun e he=>⟨h.XC hN (hN.EK he).1,h.XC hN (hN.EK he).2⟩⟩
 have:=h.XE hN (u:=e.2) (v:=e.1) (af he) a b c;rw[bZ (rl f e.1) (rl f e.2),bZ (rl t e.1) (rl t e.2)] at this;omega
theorem XH(z w:Pt):az z w=az w z:=by
 unfold az;rw[bZ z w,jb];congr 1;exact decide_eq_decide.2 (by omega)
theorem Jr{d d':Pt}(h:az d d'=true):aS d↔aS d':=by
 obtain⟨h1,h2⟩:=(dm _ _).1 h;have hd:=eG (uz (D:=d') (r:=d) (by rw[jb];omega))
 have e1:d'.1*dt d d=d.1*dt d d':=by unfold cr at h1;unfold dt;grind
 have e2:d'.2*dt d d=d.2*dt d d':=by unfold cr at h1;unfold dt;grind
 have a1:=aT (z:=d'.1) hd;have a2:=aT (z:=d.1) h2;have a3:=dZ (z:=d'.1) hd;have a4:=dZ (z:=d.1) h2;have a5:=aT (z:=d'.2) hd;have a6:=aT (z:=d.2) h2;rw[eA] at a1 a2 a3 a4 a5 a6;unfold aS;omega
theorem ze{d d':Pt}(h:az d d'=true)(z:Pt):(0<cr z d↔0<cr z d')/\(cr z d=0↔cr z d'=0):=by
 obtain⟨h1,h2⟩:=(dm _ _).1 h;have hd:=eG (uz (D:=d') (r:=d) (by rw[jb];omega))
 have e:=uA (D:=z) h1;have a1:=aT (z:=cr z d') hd;have a2:=aT (z:=cr z d) h2;have a3:=dZ (z:=cr z d') hd;have a4:=dZ (z:=cr z d) h2;rw[eA] at a1 a2 a3 a4;omega
theorem ah4{d d':Pt}(h:az d d'=true):d≠(0,0)/\d'≠(0,0):=by
 obtain⟨_,h2⟩:=(dm _ _).1 h;exact⟨uz (D:=d') (by rw[jb];omega),uz (D:=d) (by omega)⟩
theorem Js{d d':Pt}(h:az d d'=true)(z:Pt):au z d=au z d':=by
 have h1:=Jr h;have h2:=(ze h z).1;have a:=nY (z:=z) (w:=d);have b:=nY (z:=z) (w:=d');rw[<-h1,<-h2] at b;exact nj.2 (a.trans b.symm)
theorem N6{d d':Pt}(h:az d d'=true)(z:Pt):au d z=au d' z:=by
 have h1:=Jr h;have h2:=ze h z;have a:=nY (z:=d) (w:=z);have b:=nY (z:=d') (w:=z);rw[bZ z d] at a;rw[bZ z d',<-h1] at b;have h5:(0< -cr z d)↔(0< -cr z d'):=by omega
 rw[<-h5] at b;exact nj.2 (a.trans b.symm)
theorem N7{x y z:Pt}(h1:az x y=true)(h2:az y z=true):az x z=true:=by
 obtain⟨a1,a2⟩:=(dm _ _).1 h1;obtain⟨b1,b2⟩:=(dm _ _).1 h2;have hy:=eG (ah4 h1).2;refine(dm _ _).2 ⟨((ze h2 x).2).1 a1,?_⟩;have e2:dt x z*dt y y=dt x y*dt y z+cr y x*cr y z:=by unfold dt cr;grind
 rw[b1] at e2;have:=aU a2 b2;have q:=aT (z:=dt x z) hy;rw[eA] at q;exact q.1 (by omega)
theorem ah5{d d':Pt}(h:az d d'=true)(z:Pt):az z d=az z d':=by
 cases h1:az z d<;>cases h2:az z d'
 ·rfl
 ·rw[N7 h2 (by rw[XH];exact h)] at h1;cases h1
 ·rw[N7 h1 h] at h2;cases h2
 ·rfl
theorem XI{es:List (Pt×Pt)}{n:N3}{d d':Pt}(h:az d d'=true):dA es n d=dA es n d'/\eI es n d=eI es n d':=by
 have e1:AS es n (fun z=>nz z&&au z d)=AS es n (fun z=>nz z&&au z d'):=GQ fun e _ _=>by simp only[Js h];exact⟨trivial,trivial⟩
 have e2:AS es n (fun z=>az z d)=AS es n (fun z=>az z d'):=GQ fun e _ _=>by simp only[ah5 h];exact⟨trivial,trivial⟩
 unfold eI dA;rw[e1,e2];exact⟨rfl,rfl⟩
theorem eO(a b:N3):wv b a=neg (wv a b):=by unfold wv neg;exact eB (by simp only;omega) (by simp only;omega)
theorem N8{z:Pt}(h1:aS z)(h2:aS (neg z)):False:=by
 unfold aS neg at*;simp only at h2;omega
theorem ah6{es:List (Pt×Pt)}{l:List Nd}(hN:bX es l){n:Nd}(hn:n∈l){z:Pt}(hz:z∈arms es n):∃m,m∈l/\(di es l n m\/di es l m n)/\az (wv n m) z=true:=by
 obtain⟨fw,e,he,ho,uC⟩:=jV.1 hz;have cn:=hN.can n hn;obtain⟨p,hp,hpl,lS⟩:∃p:Pt,on (rl (p.1,p.2,1) e.1) (rl (p.1,p.2,1) e.2)=true/\(p.1,p.2,1)∈l/\z=rl n p:=by
  have h0:∀p:Pt,rl (p.1,p.2,1) p=(0,0):=fun p=>by unfold rl rel;exact eB (by simp only;omega) (by simp only;omega)
  rcases uC with h|h
  ·exact⟨e.1,r8 _ _ (ae (h0 _)),(hN.EK he).1,h⟩
  ·exact⟨e.2,r8 _ _ (af (h0 _)),(hN.EK he).2,h⟩
 have cp:=hN.can _ hpl;have hwz:wv n (p.1,p.2,1)=z:=by rw[EL,lS]
 have i1:n∈held e l:=ik.2 ⟨hn,ho⟩;have i2:(p.1,p.2,1)∈held e l:=ik.2 ⟨hpl,hp⟩;have hc:∀m∈held e l,Ge.Can m:=fun m hm=>hN.can m (ik.1 hm).1
 by_cases hr:aS z
 ·have hlt:lt (ay n) (ay (p.1,p.2,1)):=(nL cn cp).2 (by rw[hwz];exact hr)
  obtain⟨t,ht⟩:=Xu (hN.EI e) hc i1 i2 hlt;have hpc:di es l n t:=⟨e,he,ht⟩;obtain⟨_,htl,hrt⟩:=hpc.facts hN;refine⟨t,htl,ae hpc,(dm _ _).2 ?_⟩;have hL:=EJ (hN.can t htl).pos hrt ho (ik.1 (rD ht).2).2;have hcr:cr (wv n t) z=0:=by
   rcases uC with h|h
   ·rw[h];exact hL.1
   ·rw[h];exact hL.2
  exact⟨hcr,kE hrt hr hcr⟩
 ·have hr':=gb fw hr;have hlt:lt (ay (p.1,p.2,1)) (ay n):=(nL cp cn).2 (by rw[eO,hwz];exact hr')
  obtain⟨f,hf⟩:=Xv (hN.EI e) hc i1 i2 hlt;have hpc:di es l f n:=⟨e,he,hf⟩;obtain⟨hfl,_,hrf⟩:=hpc.facts hN;have hL:=EJ cn.pos hrf (ik.1 (rD hf).1).2 ho;have Ar:=(qI (hN.can f hfl).pos cn.pos hrf e.1).2 hL.1;have hL2:=(qI (hN.can f hfl).pos cn.pos hrf e.2).2 hL.2;have hcr:cr (wv f n) z=0:=by
   rcases uC with h|h
   ·rw[h];exact Ar
   ·rw[h];exact hL2
  refine⟨f,hfl,af hpc,(dm _ _).2 ?_⟩;have hd:=kE hrf hr' (by rw[fK];omega)
  rw[lF] at hd;rw[eO f n,fF,r7];omega
def Sd(es:List (Pt×Pt))(l:List Nd)(aF:Int->Bool)(a b:Nd):Prop:=
 (di es l a b/\aF (LL es a b)=true/\aF (RR es a b)=false)\/(di es l b a/\aF (RR es b a)=true/\aF (LL es b a)=false)
theorem Sd.pc{es:List (Pt×Pt)}{l:List Nd}{aF:Int->Bool}{a b:Nd}(h:Sd es l aF a b):di es l a b\/di es l b a:=by
 rcases h with h|h
 ·exact ae h.1
 ·exact af h.1
theorem gM{es:List (Pt×Pt)}{l:List Nd}(hN:bX es l){a b:Nd}(h:di es l a b\/di es l b a):wv a b≠(0,0)/\a∈l/\b∈l:=by
 rcases h with h|h
 ·obtain⟨h1,h2,h3⟩:=h.facts hN;exact⟨kM h3,h1,h2⟩
 ·obtain⟨h1,h2,h3⟩:=h.facts hN;exact⟨by rw[eO b a];exact jI (kM h3),h2,h1⟩
theorem Sd.leave{rg:List (List Pt)}{l:List Nd}(hN:bX (ag rg) l){aF:Int->Bool}{a b:Nd}(h:Sd (ag rg) l aF a b):aF (dA (ag rg) a (wv a b))=false/\aF (eI (ag rg) a (wv a b))=true:=by
 rcases h with⟨h,h1,h2⟩|⟨h,h1,h2⟩
 ·obtain⟨k1,k2⟩:=wF (h.pj hN);rw[k1] at h2;rw[k2] at h1;exact⟨h2,h1⟩
 ·obtain⟨k1,k2⟩:=CS (h.pj hN);rw[k1,<-eO] at h1;rw[k2,<-eO] at h2;exact⟨h2,h1⟩
theorem Sd.zg{rg:List (List Pt)}{l:List Nd}(hN:bX (ag rg) l){aF:Int->Bool}{a b:Nd}(h:Sd (ag rg) l aF a b):aF (dA (ag rg) b (wv b a))=true/\aF (eI (ag rg) b (wv b a))=false:=by
 rcases h with⟨h,h1,h2⟩|⟨h,h1,h2⟩
 ·obtain⟨k1,k2⟩:=CS (h.pj hN);rw[k1,<-eO] at h2;rw[k2,<-eO] at h1;exact⟨h1,h2⟩
 ·obtain⟨k1,k2⟩:=wF (h.pj hN);rw[k1] at h1;rw[k2] at h2;exact⟨h1,h2⟩
theorem Sd.of{rg:List (List Pt)}{l:List Nd}(hN:bX (ag rg) l){aF:Int->Bool}{a b:Nd}(h:di (ag rg) l a b\/di (ag rg) l b a)(h1:aF (dA (ag rg) a (wv a b))=false)(h2:aF (eI (ag rg) a (wv a b))=true):Sd (ag rg) l aF a b:=by
 rcases h with h|h
 ·obtain⟨k1,k2⟩:=wF (h.pj hN);exact ae ⟨h,by rw[k2];exact h2,by rw[k1];exact h1⟩
 ·obtain⟨k1,k2⟩:=CS (h.pj hN);rw[<-eO] at k1 k2;exact af ⟨h,by rw[k1];exact h2,by rw[k2];exact h1⟩
theorem Jt{rg:List (List Pt)}{l:List Nd}(hN:bX (ag rg) l){aF:Int->Bool}{n:Nd}(hn:n∈l){z:Pt}(hz:yg (ag rg) n aF z):∃m,Sd (ag rg) l aF n m/\az (wv n m) z=true:=by
 obtain⟨m,hm,hp,hs⟩:=ah6 hN hn hz.mem;obtain⟨e1,e2⟩:=XI (es:=ag rg) (n:=n) hs;exact⟨m,Sd.of hN hp (by rw[e1];exact hz.out) (by rw[e2];exact hz.aF),hs⟩
theorem Sd.next{rg:List (List Pt)}{l:List Nd}(hN:bX (ag rg) l){aF:Int->Bool}{a b:Nd}(h:Sd (ag rg) l aF a b):∃c,Sd (ag rg) l aF b c:=by
 obtain⟨h1,h2⟩:=h.zg hN;obtain⟨hne,_,hb⟩:=gM hN h.pc;obtain⟨z,hz⟩:=adm (by rw[eO a b];exact jI hne) h1 h2
 obtain⟨c,hc,_⟩:=Jt hN hb hz;exact⟨c,hc⟩
theorem Sd.qw{rg:List (List Pt)}{l:List Nd}(hN:bX (ag rg) l){aF:Int->Bool}{a b c:Nd}(h:Sd (ag rg) l aF a b)(h':Sd (ag rg) l aF b c):az (wv b c) (wv b a)=false:=by
 cases hs:az (wv b c) (wv b a)
 ·rfl
 ·obtain⟨e1,_⟩:=XI (es:=ag rg) (n:=b) hs;have k1:=(h.zg hN).1;have k2:=(h'.leave hN).1;rw[e1,k1] at k2;cases k2
theorem EN{es:List (Pt×Pt)}{l:List Nd}(hN:bX es l){n t t':Nd}(h:di es l n t\/di es l t n)(h':di es l n t'\/di es l t' n)(hs:az (wv n t) (wv n t')=true):t=t':=by
 have dK:∀{x y:Nd},x∈l->y∈l->x=y\/lt (ay x) (ay y)\/lt (ay y) (ay x):=fun{x y} hx hy=>by
  have cx:=hN.can x hx;have cy:=hN.can y hy;unfold lt;rcases fD (pc (ay x) (ay y)) 0 with h|h|h
  ·exact af (ae h)
  ·exact ae (vk cx cy h)
  ·exact af (af (by rw[H0];omega))
 have mv:∀x y:Nd,(∀i:Int,i=i)->n.2.2*(wv x y).1=x.2.2*(wv n y).1-y.2.2*(wv n x).1/\n.2.2*(wv x y).2=x.2.2*(wv n y).2-y.2.2*(wv n x).2:=fun x y _=>by
  unfold wv;constructor<;>(simp only;grind)
 obtain⟨_,hn,ht⟩:=gM hN h;obtain⟨_,_,ht'⟩:=gM hN h';have cn:=hN.can n hn;have key:∀{x y:Nd},x∈l->y∈l->di es l n y->az (wv n x) (wv n y)=true->lt (ay x) (ay y)->False:=fun{x y} hx hy hpc hsm hl=>by
  obtain⟨_,_,hr⟩:=hpc.facts hN;obtain⟨s1,s2⟩:=(dm _ _).1 hsm;have N9:=(nL (hN.can x hx) (hN.can y hy)).1 hl;have c1:cr (wv n y) (wv n x)=0:=by rw[bZ];omega
  have c2:cr (wv n y) (wv x y)=0:=by
   obtain⟨m1,m2⟩:=mv x y (fun _=>rfl)
   have:n.2.2*cr (wv n y) (wv x y)=(wv n y).1*(n.2.2*(wv x y).2)-(wv n y).2*(n.2.2*(wv x y).1):=by unfold cr;grind
   rw[m1,m2] at this;refine(dZ cn.pos).1 (this.trans ?_);unfold cr at c1
   grind
  exact hpc.gap hN hx ⟨qu hr c1 (by rw[jb];exact s2),qu hr c2 (kE hr N9 c2)⟩
 have key':∀{x y:Nd},x∈l->y∈l->di es l y n->az (wv n x) (wv n y)=true->lt (ay y) (ay x)->False:=fun{x y} hx hy hpc hsm hl=>by
  obtain⟨_,_,hr⟩:=hpc.facts hN;obtain⟨s1,s2⟩:=(dm _ _).1 hsm;have N9:=(nL (hN.can y hy) (hN.can x hx)).1 hl;have e1:wv y n=neg (wv n y):=eO n y;have e2:wv x n=neg (wv n x):=eO n x;have c1:cr (wv y n) (wv x n)=0:=by rw[e1,e2,fF,fK,bZ (wv n x)];omega
  have c2:cr (wv y n) (wv y x)=0:=by
   obtain⟨m1,m2⟩:=mv y x (fun _=>rfl)
   have:n.2.2*cr (wv n y) (wv y x)=(wv n y).1*(n.2.2*(wv y x).2)-(wv n y).2*(n.2.2*(wv y x).1):=by unfold cr;grind
   rw[m1,m2] at this;have k:cr (wv n y) (wv y x)=0:=by
    refine(dZ cn.pos).1 (this.trans ?_);have c3:cr (wv n y) (wv n x)=0:=by rw[bZ];omega
    unfold cr at c3
    grind
   rw[e1,fF];omega
  exact hpc.gap hN hx ⟨qu hr c2 (kE hr N9 c2),qu hr c1 (by rw[e1,e2,r7,lF,jb];omega)⟩
 have hs':az (wv n t') (wv n t)=true:=by rw[XH];exact hs
 have qq:=Jr hs;rcases h with h|h<;>rcases h' with h'|h'
 ·rcases dK ht ht' with k|k|k
  ·exact k
  ·exact(key ht ht' h' hs k).elim
  ·exact(key ht' ht h hs' k).elim
 ·exfalso;have r1:=(h.facts hN).2.2;have r2:=(h'.facts hN).2.2;rw[eO n t'] at r2;exact N8 (qq.1 r1) r2
 ·exfalso;have r1:=(h.facts hN).2.2;have r2:=(h'.facts hN).2.2;rw[eO n t] at r1;exact N8 (qq.2 r2) r1
 ·rcases dK ht ht' with k|k|k
  ·exact k
  ·exact(key' ht' ht h hs' k).elim
  ·exact(key' ht ht' h' hs k).elim
theorem Ju{a l l' k:Pt}(h:az l k=true):cw a l l'=cw a k l':=by
 unfold cw;rw[N6 h,Js h,Js h]
theorem ah7{rg:List (List Pt)}{l:List Nd}(hN:bX (ag rg) l){aF:Int->Bool}{a a' b c:Nd}(h:Sd (ag rg) l aF a b)(h':Sd (ag rg) l aF a' b)(hc:Sd (ag rg) l aF b c)
  (hm:∀c',Sd (ag rg) l aF b c'->¬tC (wv a b) (wv b c') (wv b c)<0)(hm':∀c',Sd (ag rg) l aF b c'->¬tC (wv a' b) (wv b c') (wv b c)<0):a=a':=by
 obtain⟨n1,_,hb⟩:=gM hN h.pc;obtain⟨n2,_,_⟩:=gM hN h'.pc;obtain⟨n3,_,_⟩:=gM hN hc.pc;have m1:wv b a≠(0,0):=by rw[eO a b];exact jI n1
 have m2:wv b a'≠(0,0):=by rw[eO a' b];exact jI n2
 cases hs:az (wv b a) (wv b a')
 ·exfalso;obtain⟨h1,h2⟩:=h.zg hN;obtain⟨h1',h2'⟩:=h'.zg hN;obtain⟨z,hz,lO⟩:=SH m1 m2 hs h1 h2 h1' h2' n3 (h.qw hN hc) (h'.qw hN hc);obtain⟨c',hc',hsm⟩:=Jt hN hb hz;obtain⟨n4,_,_⟩:=gM hN hc'.pc;rcases lO with k|k
  ·rw[<-Ju hsm] at k;have:=(CU m1 n4 n3 (h.qw hN hc') (h.qw hN hc)).2 k;rw[<-eO] at this;exact hm c' hc' this
  ·rw[<-Ju hsm] at k;have:=(CU m2 n4 n3 (h'.qw hN hc') (h'.qw hN hc)).2 k;rw[<-eO] at this;exact hm' c' hc' this
 ·exact EN hN h.pc.symm h'.pc.symm hs
theorem Sd.straight{rg:List (List Pt)}{l:List Nd}(hN:bX (ag rg) l){aF:Int->Bool}{a b c:Nd}(h:Sd (ag rg) l aF a b)(h':Sd (ag rg) l aF b c)(hc:cr (wv a b) (wv b c)=0):az (wv a b) (wv b c)=true:=by
 refine(dm _ _).2 ⟨hc,?_⟩;have hb:=h.qw hN h';obtain⟨n1,_,_⟩:=gM hN h.pc;obtain⟨n3,_,_⟩:=gM hN h'.pc;have hd:=LK hb (by rw[eO a b,fK,bZ (wv a b)];omega)
 rw[eO a b,lF,jb] at hd;have hne:dt (wv a b) (wv b c)≠0:=fun h0=>by
  have e:dt (wv a b) (wv b c)*dt (wv a b) (wv b c)+cr (wv a b) (wv b c)*cr (wv a b) (wv b c)=dt (wv a b) (wv a b)*dt (wv b c) (wv b c):=by unfold dt cr;grind
  have:=aU (eG n1) (eG n3);rw[h0,hc] at e;omega
 omega
end Go.Proofs.YtkjhhooecopolaaGreatDoor.Ga
