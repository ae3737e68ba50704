import Derived.Test.YtkjhhooecopolaaGreatDoorZz20
set_option maxRecDepth 100000
set_option maxHeartbeats 4000000
namespace Go.Proofs.YtkjhhooecopolaaGreatDoor.Ga
open Ge
structure bK(es:List (Pt×Pt))(l:List Nd):Prop where
 map:l.map au=eO es
 can:∀n∈l,Ge.Can n
 ne:∀e∈es,e.1≠e.2
theorem bK.mem{es:List (Pt×Pt)}{l:List Nd}(h:bK es l){n:Nd}(hn:Ge.Can n)(hi:isNode es (au n)):n∈l:=by
 have h1:au n∈l.map au:=by rw[h.map];exact((BF es).2.2 _).2 hi
 obtain⟨m,hm,he⟩:=bp.1 h1;rw[Gg hn (h.can m hm) he.symm];exact hm
theorem lS{a b:Nd}(ha:Ge.Can a)(hb:Ge.Can b):lt (au a) (au b)↔aM (wv a b):=by
 unfold lt aM wv;rw[Gf ha hb];have s1:=sg (a.1*b.2.2-b.1*a.2.2);have s2:=sg (a.2.1*b.2.2-b.2.1*a.2.2);have e1:a.2.2*b.1=b.1*a.2.2:=dM _ _;have e2:b.2.2*a.1=a.1*b.2.2:=dM _ _;have e3:a.2.2*b.2.1=b.2.1*a.2.2:=dM _ _;have e4:b.2.2*a.2.1=a.2.1*b.2.2:=dM _ _;simp only;rw[e1,e2,e3,e4];split<;>omega
def wY(l:List Nd):Prop:=l.Pairwise fun a b=>lt (au a) (au b)
theorem bK.nR{es:List (Pt×Pt)}{l:List Nd}(h:bK es l):wY l:=by
 have:=(BF es).2.1;rw[<-h.map] at this;exact lZ.1 this
theorem bK.CL{es:List (Pt×Pt)}{l:List Nd}(h:bK es l)(e:Pt×Pt):wY (held e l):=ZJ _ h.nR
theorem gv{e:Pt×Pt}{l:List Nd}{n:Nd}:n∈held e l↔n∈l/\on (rl n e.1) (rl n e.2)=true:=by
 unfold held;rw[ik];exact zW
theorem pQ:∀{m:List Nd}{q:Nd×Nd},q∈nexts m->q.1∈m/\q.2∈m
 |[],_,h=>by simp[nexts] at h
 |[_],_,h=>by simp[nexts] at h
 |a::b::r,q,h=>by
  rcases aP.1 h with h|h
  ·rw[h];simp
  ·have:=pQ (m:=b::r) h;exact⟨bo _ this.1,bo _ this.2⟩
theorem Ut:∀{m:List Nd},wY m->∀{q:Nd×Nd},q∈nexts m->lt (au q.1) (au q.2)
 |[],_,_,h=>by simp[nexts] at h
 |[_],_,_,h=>by simp[nexts] at h
 |a::b::r,hp,q,h=>by
  rcases aP.1 h with h|h
  ·rw[h];exact(fE.1 hp).1 b (by simp)
  ·exact Ut (fE.1 hp).2 h
theorem Uu:∀{m:List Nd},wY m->(∀n∈m,Ge.Can n)->∀{q:Nd×Nd},q∈nexts m->∀{x:Nd},x∈m->¬(lt (au q.1) (au x)/\lt (au x) (au q.2))
 |[],_,_,_,h,_,_=>by simp[nexts] at h
 |[_],_,_,_,h,_,_=>by simp[nexts] at h
 |a::b::r,hp,hc,q,h,x,hx=>by
  obtain⟨p1,p2⟩:=fE.1 hp;have asym:∀{y z:Nd},Ge.Can y->Ge.Can z->lt (au y) (au z)->¬lt (au z) (au y):=fun hy hz h1 h2=>lt_irrefl _ (lt_trans (cJ hy) (cJ hz) (cJ hy) h1 h2)
  have LF:=hc a (by simp)
  have hcb:=hc b (by simp)
  rcases aP.1 h with h|h
  ·rw[h];rintro⟨k1,k2⟩;simp only at k1 k2;rcases aP.1 hx with e|hx
   ·rw[e] at k1;exact lt_irrefl _ k1
   ·rcases aP.1 hx with e|hx
    ·rw[e] at k2;exact lt_irrefl _ k2
    ·exact asym (hc x (by simp[hx])) hcb k2 ((fE.1 p2).1 x hx)
  ·rintro⟨k1,k2⟩;rcases aP.1 hx with e|hx
   ·rw[e] at k1;have hq:=(pQ h).1;exact asym LF (hc q.1 (by rcases aP.1 hq with e'|e'<;>simp[e'])) (p1 q.1 hq) k1
   ·exact Uu p2 (fun n hn=>hc n (bo _ hn)) h hx ⟨k1,k2⟩
theorem Uv:∀{m:List Nd},wY m->(∀n∈m,Ge.Can n)->∀{x y:Nd},x∈m->y∈m->lt (au x) (au y)->∃t,(x,t)∈nexts m
 |[],_,_,_,_,h,_,_=>by simp at h
 |[a],_,_,x,y,h,h',hl=>by
  have e1:x=a:=by simpa using h
  have e2:y=a:=by simpa using h'
  rw[e1,e2] at hl;exact absurd hl (lt_irrefl _)
 |a::b::r,hp,hc,x,y,hx,hy,hl=>by
  obtain⟨p1,p2⟩:=fE.1 hp;rcases aP.1 hx with e|hx
  ·exact⟨b,by rw[e];simp[nexts]⟩
  ·rcases aP.1 hy with e|hy
   ·exfalso;rw[e] at hl;exact lt_irrefl _ (lt_trans (cJ (hc a (by simp))) (cJ (hc x (bo _ hx))) (cJ (hc a (by simp))) (p1 x hx) hl)
   ·obtain⟨t,ht⟩:=Uv p2 (fun n hn=>hc n (bo _ hn)) hx hy hl
    exact⟨t,bo _ ht⟩
theorem Uw:∀{m:List Nd},wY m->(∀n∈m,Ge.Can n)->∀{x y:Nd},x∈m->y∈m->lt (au y) (au x)->∃f,(f,x)∈nexts m
 |[],_,_,_,_,h,_,_=>by simp at h
 |[a],_,_,x,y,h,h',hl=>by
  have e1:x=a:=by simpa using h
  have e2:y=a:=by simpa using h'
  rw[e1,e2] at hl;exact absurd hl (lt_irrefl _)
 |a::b::r,hp,hc,x,y,hx,hy,hl=>by
  obtain⟨p1,p2⟩:=fE.1 hp;rcases aP.1 hx with e|hx
  ·exfalso;rw[e] at hl;rcases aP.1 hy with e'|hy
   ·rw[e'] at hl;exact lt_irrefl _ hl
   ·exact lt_irrefl _ (lt_trans (cJ (hc a (by simp))) (cJ (hc y (bo _ hy))) (cJ (hc a (by simp))) (p1 y hy) hl)
  ·by_cases hb:x=b
   ·exact⟨a,by rw[hb];simp[nexts]⟩
   ·have hb':lt (au b) (au x):=by
     rcases aP.1 hx with e|hx
     ·exact absurd e hb
     ·exact(fE.1 p2).1 x hx
    obtain⟨f,hf⟩:=Uw p2 (fun n hn=>hc n (bo _ hn)) hx (Ev ..) hb'
    exact⟨f,bo _ hf⟩
theorem oI{a b:N3}{D:Pt}(hD:aM D)(hc:cr D (wv a b)=0)(hd:0<dt D (wv a b)):Behind a b D:=by
 rcases hD with h|⟨h1,h2⟩
 ·left;refine⟨h,?_,hc⟩;have e:dt D (wv a b)*D.1=(wv a b).1*dt D D:=by unfold cr at hc;unfold dt;grind
  have k:=aN (z:=(wv a b).1) (dO (jS (ae h)));have p:=aR hd h;rw[dM] at k;omega
 ·right;unfold cr at hc;unfold dt at hd;rw[h1] at hc hd;have k:=dJ (z:=(wv a b).1) h2;have q:=aN (z:=(wv a b).2) h2;exact⟨h1,h2,k.1 (by omega),q.1 (by omega)⟩
theorem LG{a b:N3}{D:Pt}(h:Behind a b D):0<dt D (wv a b):=by
 rcases h with⟨h1,h2,h3⟩|⟨h1,h2,h3,h4⟩
 ·exact jN (ae h1) (ae h2) h3
 ·unfold dt;rw[h1];have:=aR h2 h4;omega
theorem Ux{a b:N3}{D:Pt}(h:Behind a b D):aM (wv a b):=by
 rcases h with⟨_,h2,_⟩|⟨_,_,h3,h4⟩
 ·exact ae h2
 ·exact af ⟨h3,h4⟩
theorem CM{f t:N3}(Uy:0<t.2.2)(_hr:aM (wv f t)){p q:Pt}(h1:on (rl f p) (rl f q)=true)(h2:on (rl t p) (rl t q)=true):lam (wv f t) f p=0/\lam (wv f t) f q=0:=by
 obtain⟨a1,a2⟩:=(j5 _ _).1 h1;obtain⟨b1,_⟩:=(j5 _ _).1 h2;have e:f.2.2*f.2.2*cr (rl t p) (rl t q)=t.2.2*t.2.2*cr (rl f p) (rl f q)-t.2.2*(lam (wv f t) f q-lam (wv f t) f p):=by
  have k:f.2.2*f.2.2*cr (rl t p) (rl t q)=(f.2.2*(rl t p).1)*(f.2.2*(rl t q).2)-(f.2.2*(rl t p).2)*(f.2.2*(rl t q).1):=by unfold cr;grind
  obtain⟨e1,e2⟩:=jR f t p;obtain⟨e3,e4⟩:=jR f t q;rw[k,e1,e2,e3,e4];unfold lam cr
  grind
 rw[a1,b1] at e;have ht:0<t.2.2:=Uy;have hll:lam (wv f t) f q=lam (wv f t) f p:=by
  have:=dJ (z:=lam (wv f t) f q-lam (wv f t) f p) ht;have:=this.1 (by omega)
  omega
 have c:=rY (D:=wv f t) a1;have hp0:lam (wv f t) f p=0:=by
  apply lD;intro hn;have hd:=dO (JF (D:=wv f t) (r:=rl f p) hn);have k:lam (wv f t) f p*(dt (rl f p) (rl f p)-dt (rl f p) (rl f q))=0:=by
   rw[qq];unfold lam at*;rw[hll] at c;omega
  rcases ZK.1 k with k|k
  ·exact hn k
  ·omega
 exact⟨hp0,by rw[hll];exact hp0⟩
theorem Uz{f t m:N3}(hf:0<f.2.2)(ht:0<t.2.2)(hm:0<m.2.2)(hr:aM (wv f t)){p q:Pt}(h1:on (rl f p) (rl f q)=true)(h2:on (rl t p) (rl t q)=true)(b1:Behind f m (wv f t))(b2:Behind m t (wv f t)):on (rl m p) (rl m q)=true:=by
 have hD:=jS hr;obtain⟨l1,l2⟩:=CM ht hr h1 h2;have lm:∀z,lam (wv f t) f z=0->lam (wv f t) m z=0:=fun z hz=>by have:=nr hf hm b1 z;omega
 have lt:∀z,lam (wv f t) f z=0->lam (wv f t) t z=0:=fun z hz=>by have:=nr hf ht (vN hr) z;omega
 have o1:=(um hD l1 l2).1 h1;have o2:=(um hD (lt p l1) (lt q l2)).1 h2;refine(um hD (lm p l1) (lm q l2)).2 ?_;have d1:=LG b1;have d2:=LG b2;have d3:=LG (vN hr);have mv:∀(a b:N3)(z:Pt),a.2.2*dt (wv f t) (rl b z)=b.2.2*dt (wv f t) (rl a z)-dt (wv f t) (wv a b):=fun a b z=>by
  obtain⟨e1,e2⟩:=jR a b z;have:a.2.2*dt (wv f t) (rl b z)=(wv f t).1*(a.2.2*(rl b z).1)+(wv f t).2*(a.2.2*(rl b z).2):=by unfold dt;grind
  rw[this,e1,e2];unfold dt
  grind
 have low:∀z,dt (wv f t) (rl f z)<=0->dt (wv f t) (rl m z)<0/\dt (wv f t) (rl t z)<0:=fun z hz=>by
  have k1:=mv f m z;have k2:=mv f t z;have p1:=aN (z:=dt (wv f t) (rl f z)) hm;have p2:=neg_mul (z:=dt (wv f t) (rl m z)) hf;have p3:=aN (z:=dt (wv f t) (rl f z)) ht;have p4:=neg_mul (z:=dt (wv f t) (rl t z)) hf;omega
 have high:∀z,0<=dt (wv f t) (rl t z)->0<dt (wv f t) (rl m z):=fun z hz=>by
  have k1:=mv m t z;have p1:=neg_mul (z:=dt (wv f t) (rl t z)) hm;have p2:=aN (z:=dt (wv f t) (rl m z)) ht;omega
 generalize wv f t=D at*;by_cases hp:dt D (rl f p)<=0
 ·obtain⟨x1,x2⟩:=low p hp;have hq:0<=dt D (rl t q):=by
   apply zV.1;intro h;exact Ay x2 h o2
  exact x8 (dB x1) (dB (high q hq))
 ·have hq:dt D (rl f q)<=0:=by
   apply zV.1;intro h;exact ED (by omega) h o1
  obtain⟨x1,x2⟩:=low q hq;have hp':0<=dt D (rl t p):=by
   apply zV.1;intro h;exact Ay h x2 o2
  exact EE (dB (high p hp')) (dB x1)
def di(es:List (Pt×Pt))(l:List Nd)(f t:Nd):Prop:=∃e∈es,(f,t)∈nexts (held e l)
theorem di.facts{es:List (Pt×Pt)}{l:List Nd}(hN:bK es l){f t:Nd}(h:di es l f t):f∈l/\t∈l/\aM (wv f t):=by
 obtain⟨e,he,hn⟩:=h;obtain⟨h1,h2⟩:=pQ hn;have h1':=(gv.1 h1).1;have h2':=(gv.1 h2).1;exact⟨h1',h2',(lS (hN.can _ h1') (hN.can _ h2')).1 (Ut (hN.CL e) hn)⟩
theorem di.gap{es:List (Pt×Pt)}{l:List Nd}(hN:bK es l){f t:Nd}(h:di es l f t){m:Nd}(hm:m∈l):¬(Behind f m (wv f t)/\Behind m t (wv f t)):=by
 rintro⟨b1,b2⟩;obtain⟨hf,ht,hr⟩:=h.facts hN;obtain⟨e,he,hn⟩:=h;obtain⟨h1,h2⟩:=pQ hn;have cf:=hN.can _ hf;have ct:=hN.can _ ht;have cm:=hN.can _ hm;have ho:=Uz cf.pos ct.pos cm.pos hr (gv.1 h1).2 (gv.1 h2).2 b1 b2;exact Uu (hN.CL e) (fun n hn=>hN.can n (gv.1 hn).1) hn (gv.2 ⟨hm,ho⟩) ⟨(lS cf cm).2 (Ux b1),(lS cm ct).2 (Ux b2)⟩
theorem LH(z:Pt):Ge.Can (z.1,z.2,1):=⟨by show(0:Int)<1;decide,by show Int.gcd (Int.gcd z.1 z.2) 1=1;exact OX ..⟩
theorem UA(z:Pt):au (z.1,z.2,1)=pt z:=by unfold au pt;simp only[Fw]
theorem bK.CN{es:List (Pt×Pt)}{l:List Nd}(hN:bK es l){e:Pt×Pt}(he:e∈es):(e.1.1,e.1.2,1)∈l/\(e.2.1,e.2.2,1)∈l:=
 ⟨hN.mem (LH e.1) (ae ⟨e,he,ae (UA _)⟩),hN.mem (LH e.2) (ae ⟨e,he,af (UA _)⟩)⟩
theorem CO(f:N3)(z:Pt):wv f (z.1,z.2,1)=rl f z:=by unfold wv rl rel;simp
theorem UB(t:N3)(z:Pt):wv (z.1,z.2,1) t=neg (rl t z):=by unfold wv rl rel neg;exact dC (by simp;omega) (by simp;omega)
theorem di.UC{es:List (Pt×Pt)}{l:List Nd}(hN:bK es l){f t:Nd}(h:di es l f t){z:Pt}(hz:(z.1,z.2,1)∈l):lI f t (wv f t) z:=by
 intro hl;obtain⟨hf,ht,hr⟩:=h.facts hN;apply lD;intro hn;have hl':=(oX (hN.can _ hf).pos (hN.can _ ht).pos hr z).2 hl;refine h.gap hN hz ⟨oI hr ?_ ?_,oI hr ?_ ?_⟩
 ·rw[CO];exact hl
 ·rw[CO];omega
 ·rw[UB,fh];unfold lam at hl';omega
 ·rw[UB,j6];omega
def iz(u v:Pt)(a b:Int):N3:=(u.1*b-v.1*a,u.2*b-v.2*a,b-a)
theorem UD(f:N3)(D u v:Pt):wv f (iz u v (lam D f u) (lam D f v))=(D.1*cr (rl f u) (rl f v),D.2*cr (rl f u) (rl f v)):=by
 unfold wv iz lam cr rl rel;exact dC (by simp only;grind) (by simp only;grind)
theorem aew{a b:N3}{D:Pt}{k:Int}(hD:aM D)(hk:0<k)(h:wv a b=(D.1*k,D.2*k)):Behind a b D:=by
 refine oI hD ?_ ?_
 ·rw[h];unfold cr;simp only;grind
 ·rw[h];have e:dt D (D.1*k,D.2*k)=k*dt D D:=by unfold dt;simp only;grind
  rw[e];exact aR hk (dO (jS hD))
theorem aex{f t:N3}{D:Pt}(hB:Behind f t D)(u v:Pt):t.2.2*(wv (iz u v (lam D f u) (lam D f v)) t).1= -(f.2.2*cr (rl t u) (rl t v))*D.1/\t.2.2*(wv (iz u v (lam D f u) (lam D f v)) t).2= -(f.2.2*cr (rl t u) (rl t v))*D.2:=by
 have m1:=JB hB u;have m2:=JB hB v;have e:=UD t D u v;have e1:=aw Prod.fst e;have e2:=aw Prod.snd e;unfold wv iz at e1 e2⊢;simp only at e1 e2⊢;generalize lam D f u=a at*;generalize lam D f v=b at*;generalize lam D t u=a' at*;generalize lam D t v=b' at*;constructor
 ·have k:t.2.2*((b-a)*t.1-t.2.2*(u.1*b-v.1*a))=(t.2.2*b-t.2.2*a)*t.1-t.2.2*(u.1*(t.2.2*b)-v.1*(t.2.2*a)):=by grind
  rw[k,<-m1,<-m2];have k2:(f.2.2*b'-f.2.2*a')*t.1-t.2.2*(u.1*(f.2.2*b')-v.1*(f.2.2*a'))= -f.2.2*(t.2.2*(u.1*b'-v.1*a')-(b'-a')*t.1):=by grind
  rw[k2,e1]
  grind
 ·have k:t.2.2*((b-a)*t.2.1-t.2.2*(u.2*b-v.2*a))=(t.2.2*b-t.2.2*a)*t.2.1-t.2.2*(u.2*(t.2.2*b)-v.2*(t.2.2*a)):=by grind
  rw[k,<-m1,<-m2];have k2:(f.2.2*b'-f.2.2*a')*t.2.1-t.2.2*(u.2*(f.2.2*b')-v.2*(f.2.2*a'))= -f.2.2*(t.2.2*(u.2*b'-v.2*a')-(b'-a')*t.2.1):=by grind
  rw[k2,e2]
  grind
theorem aey{u v:Pt}{a b:Int}(ha:a<=0)(hb:0<=b):on (rl (iz u v a b) u) (rl (iz u v a b) v)=true:=by
 have e1:rl (iz u v a b) u=(a*(v.1-u.1),a*(v.2-u.2)):=by unfold rl rel iz;exact dC (by simp only;grind) (by simp only;grind)
 have e2:rl (iz u v a b) v=(b*(v.1-u.1),b*(v.2-u.2)):=by unfold rl rel iz;exact dC (by simp only;grind) (by simp only;grind)
 rw[e1,e2,j5];constructor
 ·unfold cr;simp only;grind
 ·have e:dt (a*(v.1-u.1),a*(v.2-u.2)) (b*(v.1-u.1),b*(v.2-u.2))=(a*b)*((v.1-u.1)*(v.1-u.1)+(v.2-u.2)*(v.2-u.2)):=by unfold dt;simp only;grind
  rw[e];refine Ea (x8 ha hb) ?_;have k:∀x:Int,0<=x*x:=fun x=>by
   rcases Eb 0 x with h|h
   ·exact iB h h
   ·exact rN h h
  have:=k (v.1-u.1);have:=k (v.2-u.2);omega
theorem aez{m:N3}(hm:0<m.2.2):∃n:Nd,Ge.Can n/\au n=(aS m.1 m.2.2,aS m.2.1 m.2.2)/\n.1*m.2.2=m.1*n.2.2/\n.2.1*m.2.2=m.2.1*n.2.2:=by
 obtain⟨c,q⟩:=LB m.1 m.2.1 hm;refine⟨canon m.1 m.2.1 m.2.2,c,q,?_,?_⟩
 ·have h:=aw Prod.fst q;have k:=yP (a:=(canon m.1 m.2.1 m.2.2).1) (c:=m.1) c.pos hm;have h':aS (canon m.1 m.2.1 m.2.2).1 (canon m.1 m.2.1 m.2.2).2.2=aS m.1 m.2.2:=h;rw[h',yx] at k;have:=ud.1 k.symm;omega
 ·have h:=aw Prod.snd q;have k:=yP (a:=(canon m.1 m.2.1 m.2.2).2.1) (c:=m.2.1) c.pos hm;have h':aS (canon m.1 m.2.1 m.2.2).2.1 (canon m.1 m.2.1 m.2.2).2.2=aS m.2.1 m.2.2:=h;rw[h',yx] at k;have:=ud.1 k.symm;omega
theorem LI{n m:N3}(e1:n.1*m.2.2=m.1*n.2.2)(e2:n.2.1*m.2.2=m.2.1*n.2.2)(z:Pt):m.2.2*(rl n z).1=n.2.2*(rl m z).1/\m.2.2*(rl n z).2=n.2.2*(rl m z).2:=by
 unfold rl rel;simp only;constructor
 ·rw[qq,qq,dM m.2.2 n.1,e1];grind
 ·rw[qq,qq,dM m.2.2 n.2.1,e2];grind
theorem GY{n m:N3}(hn:0<n.2.2)(hm:0<m.2.2)(e1:n.1*m.2.2=m.1*n.2.2)(e2:n.2.1*m.2.2=m.2.1*n.2.2){u v:Pt}(h:on (rl m u) (rl m v)=true):on (rl n u) (rl n v)=true:=by
 obtain⟨h1,h2⟩:=(j5 _ _).1 h;obtain⟨a1,a2⟩:=LI e1 e2 u;obtain⟨b1,b2⟩:=LI e1 e2 v;have k1:m.2.2*m.2.2*cr (rl n u) (rl n v)=n.2.2*n.2.2*cr (rl m u) (rl m v):=by
  have:m.2.2*m.2.2*cr (rl n u) (rl n v)=(m.2.2*(rl n u).1)*(m.2.2*(rl n v).2)-(m.2.2*(rl n u).2)*(m.2.2*(rl n v).1):=by unfold cr;grind
  rw[this,a1,a2,b1,b2];unfold cr
  grind
 have k2:m.2.2*m.2.2*dt (rl n u) (rl n v)=n.2.2*n.2.2*dt (rl m u) (rl m v):=by
  have:m.2.2*m.2.2*dt (rl n u) (rl n v)=(m.2.2*(rl n u).1)*(m.2.2*(rl n v).1)+(m.2.2*(rl n u).2)*(m.2.2*(rl n v).2):=by unfold dt;grind
  rw[this,a1,a2,b1,b2];unfold dt
  grind
 have p:=aR hm hm;have q:=aR hn hn;have z1:=dJ (z:=cr (rl n u) (rl n v)) p;have z2:=aN (z:=dt (rl n u) (rl n v)) p;have z3:=aN (z:=dt (rl m u) (rl m v)) q;rw[h1] at k1;refine(j5 _ _).2 ⟨z1.1 (by omega),by omega⟩
theorem aeA{f n m:N3}{D:Pt}(hn:0<n.2.2)(hm:0<m.2.2)(e1:n.1*m.2.2=m.1*n.2.2)(e2:n.2.1*m.2.2=m.2.1*n.2.2)(h:Behind f m D):Behind f n D:=by
 have w1:m.2.2*(wv f n).1=n.2.2*(wv f m).1:=by unfold wv;simp only;grind
 have w2:m.2.2*(wv f n).2=n.2.2*(wv f m).2:=by unfold wv;simp only;grind
 have a1:=aN (z:=(wv f n).1) hm;have a2:=aN (z:=(wv f m).1) hn;have a3:=dJ (z:=(wv f n).1) hm;have a4:=dJ (z:=(wv f m).1) hn;have a5:=aN (z:=(wv f n).2) hm;have a6:=aN (z:=(wv f m).2) hn;have hc:m.2.2*cr D (wv f n)=n.2.2*cr D (wv f m):=by
  have:m.2.2*cr D (wv f n)=D.1*(m.2.2*(wv f n).2)-D.2*(m.2.2*(wv f n).1):=by unfold cr;grind
  rw[this,w1,w2];unfold cr
  grind
 have a7:=dJ (z:=cr D (wv f n)) hm;rcases h with⟨h1,h2,h3⟩|⟨h1,h2,h3,h4⟩
 ·rw[h3] at hc;exact ae ⟨h1,by omega,a7.1 (by omega)⟩
 ·exact af ⟨h1,h2,by omega,by omega⟩
theorem aeB{t n m:N3}{D:Pt}(hn:0<n.2.2)(hm:0<m.2.2)(e1:n.1*m.2.2=m.1*n.2.2)(e2:n.2.1*m.2.2=m.2.1*n.2.2)(h:Behind m t D):Behind n t D:=by
 have w1:m.2.2*(wv n t).1=n.2.2*(wv m t).1:=by unfold wv;simp only;grind
 have w2:m.2.2*(wv n t).2=n.2.2*(wv m t).2:=by unfold wv;simp only;grind
 have a1:=aN (z:=(wv n t).1) hm;have a2:=aN (z:=(wv m t).1) hn;have a3:=dJ (z:=(wv n t).1) hm;have a4:=dJ (z:=(wv m t).1) hn;have a5:=aN (z:=(wv n t).2) hm;have a6:=aN (z:=(wv m t).2) hn;have hc:m.2.2*cr D (wv n t)=n.2.2*cr D (wv m t):=by
  have:m.2.2*cr D (wv n t)=D.1*(m.2.2*(wv n t).2)-D.2*(m.2.2*(wv n t).1):=by unfold cr;grind
  rw[this,w1,w2];unfold cr
  grind
 have a7:=dJ (z:=cr D (wv n t)) hm;rcases h with⟨h1,h2,h3⟩|⟨h1,h2,h3,h4⟩
 ·rw[h3] at hc;exact ae ⟨h1,by omega,a7.1 (by omega)⟩
 ·exact af ⟨h1,h2,by omega,by omega⟩
def jC(e:Pt×Pt)(z:Pt):Int:=(e.2.1-e.1.1)*(z.2-e.1.2)-(e.2.2-e.1.2)*(z.1-e.1.1)
theorem aeC{f:N3}{D:Pt}{e:Pt×Pt}(hf:0<f.2.2)(hD:D≠(0,0))(hne:e.1≠e.2)(l1:lam D f e.1=0)(l2:lam D f e.2=0):∃k k':Int,k≠0/\k'≠0/\∀z,k*jC e z=k'*lam D f z:=by
 have par:D.1*(e.2.2-e.1.2)=D.2*(e.2.1-e.1.1):=by
  have:f.2.2*(D.1*(e.2.2-e.1.2)-D.2*(e.2.1-e.1.1))=lam D f e.2-lam D f e.1:=by unfold lam cr rl rel;simp only;grind
  rw[l1,l2] at this;have:=(dJ hf).1 (show _=0 by rw[this];rfl)
  omega
 have hz:∀z,lam D f z=f.2.2*(D.1*(z.2-e.1.2)-D.2*(z.1-e.1.1)):=fun z=>by
  have:lam D f z-lam D f e.1=f.2.2*(D.1*(z.2-e.1.2)-D.2*(z.1-e.1.1)):=by unfold lam cr rl rel;simp only;grind
  rw[l1] at this;omega
 by_cases h1:D.1=0
 ·have h2:D.2≠0:=fun h2=>hD (dC h1 h2)
  have h3:e.2.1-e.1.1=0:=by
   rw[h1,Ad] at par;rcases ZK.1 par.symm with h|h
   ·exact absurd h h2
   ·exact h
  have h4:e.2.2-e.1.2≠0:=fun h4=>hne (dC (by omega) (by omega))
  refine⟨D.2*f.2.2,e.2.2-e.1.2,Zt h2 (by omega),h4,fun z=>?_⟩
  rw[hz z];unfold jC;rw[h1,h3]
  grind
 ·have h4:e.2.1-e.1.1≠0:=fun h4=>by
   rw[h4,xS] at par;rcases ZK.1 par with h|h
   ·exact h1 h
   ·exact hne (dC (by omega) (by omega))
  refine⟨D.1*f.2.2,e.2.1-e.1.1,Zt h1 (by omega),h4,fun z=>?_⟩
  rw[hz z];unfold jC;have:D.1*f.2.2*((e.2.1-e.1.1)*(z.2-e.1.2)-(e.2.2-e.1.2)*(z.1-e.1.1))=f.2.2*((e.2.1-e.1.1)*(D.1*(z.2-e.1.2))-(D.1*(e.2.2-e.1.2))*(z.1-e.1.1)):=by grind
  rw[this,par]
  grind
theorem aeD(e0 e:Pt×Pt):cu e e0=jC e0 e.1-jC e0 e.2/\mX e e0=e.2.1*jC e0 e.1-e.1.1*jC e0 e.2/\mY e e0=e.2.2*jC e0 e.1-e.1.2*jC e0 e.2:=by
 unfold mX mY mT cu jC;refine⟨?_,?_,?_⟩<;>grind
theorem di.UE{es:List (Pt×Pt)}{l:List Nd}(hN:bK es l){f t:Nd}(h:di es l f t){u v:Pt}(he:(u,v)∈es\/(v,u)∈es)(h1:lam (wv f t) f u<=0)(h2:0<=lam (wv f t) f v)(h3:lam (wv f t) f u<lam (wv f t) f v):cr (rl f u) (rl f v)<=0\/0<=cr (rl t u) (rl t v):=by
 apply lD;intro hn;obtain⟨hf,ht,hr⟩:=h.facts hN;have cf:=hN.can _ hf;have ct:=hN.can _ ht;have pZ:0<(iz u v (lam (wv f t) f u) (lam (wv f t) f v)).2.2:=by show 0<lam (wv f t) f v-lam (wv f t) f u;omega
 have b1:Behind f (iz u v (lam (wv f t) f u) (lam (wv f t) f v)) (wv f t):=aew hr (k:=cr (rl f u) (rl f v)) (by omega) (UD f (wv f t) u v)
 have b2:Behind (iz u v (lam (wv f t) f u) (lam (wv f t) f v)) t (wv f t):=by
  obtain⟨e1,e2⟩:=aex (vN hr) u v;have kp:0< -(f.2.2*cr (rl t u) (rl t v)):=by
   have:=(neg_mul (z:=cr (rl t u) (rl t v)) cf.pos).2 (by omega)
   omega
  refine oI hr ?_ ?_
  ·have z:=dJ (z:=cr (wv f t) (wv (iz u v (lam (wv f t) f u) (lam (wv f t) f v)) t)) ct.pos;refine z.1 ?_;have:t.2.2*cr (wv f t) (wv (iz u v (lam (wv f t) f u) (lam (wv f t) f v)) t)=(wv f t).1*(t.2.2*(wv (iz u v (lam (wv f t) f u) (lam (wv f t) f v)) t).2)-(wv f t).2*(t.2.2*(wv (iz u v (lam (wv f t) f u) (lam (wv f t) f v)) t).1):=by unfold cr;grind
   rw[this,e1,e2]
   grind
  ·have z:=aN (z:=dt (wv f t) (wv (iz u v (lam (wv f t) f u) (lam (wv f t) f v)) t)) ct.pos;refine z.1 ?_;have:t.2.2*dt (wv f t) (wv (iz u v (lam (wv f t) f u) (lam (wv f t) f v)) t)=(wv f t).1*(t.2.2*(wv (iz u v (lam (wv f t) f u) (lam (wv f t) f v)) t).1)+(wv f t).2*(t.2.2*(wv (iz u v (lam (wv f t) f u) (lam (wv f t) f v)) t).2):=by unfold dt;grind
   rw[this,e1,e2];have e3:(wv f t).1*(-(f.2.2*cr (rl t u) (rl t v))*(wv f t).1)+(wv f t).2*(-(f.2.2*cr (rl t u) (rl t v))*(wv f t).2)= -(f.2.2*cr (rl t u) (rl t v))*dt (wv f t) (wv f t):=by unfold dt;grind
   rw[e3];exact aR kp (dO (jS hr))
 have o1:=aey (u:=u) (v:=v) h1 h2;obtain⟨e0,GZ,hn0⟩:=id h;obtain⟨i1,i2⟩:=pQ hn0;have o2:=Uz cf.pos ct.pos pZ hr (gv.1 i1).2 (gv.1 i2).2 b1 b2;obtain⟨L1,L2⟩:=CM ct.pos hr (gv.1 i1).2 (gv.1 i2).2;obtain⟨k,k',hk,hk',hkk⟩:=aeC cf.pos (jS hr) (hN.ne e0 GZ) L1 L2;obtain⟨n,cn,qn,n1,n2⟩:=aez pZ;have UF:=GY cn.pos pZ n1 n2 o1;have on2:=GY cn.pos pZ n1 n2 o2;have pr:jC e0 v*lam (wv f t) f u=jC e0 u*lam (wv f t) f v:=by
  have a:=hkk u;have b:=hkk v;have:k*(jC e0 v*lam (wv f t) f u)=k*(jC e0 u*lam (wv f t) f v):=by
   calc k*(jC e0 v*lam (wv f t) f u)=k*jC e0 v*lam (wv f t) f u:=by grind
    _=k'*lam (wv f t) f v*lam (wv f t) f u:=by rw[b]
    _=k'*lam (wv f t) f u*lam (wv f t) f v:=by grind
    _=k*jC e0 u*lam (wv f t) f v:=by rw[a]
    _=k*(jC e0 u*lam (wv f t) f v):=by grind
  exact xP hk this
 have gh:jC e0 u≠jC e0 v:=fun he=>by
  have a:=hkk u;have b:=hkk v;rw[he,b] at a;have:=xP hk' a;omega
 have UG:∀e:Pt×Pt,e∈es->(e=(u,v)\/e=(v,u))->isNode es (au n):=fun e hee heq=>by
  obtain⟨c1,c2,c3⟩:=aeD e0 e;have hc:cu e e0≠0:=by
   rw[c1];rcases heq with h|h<;>rw[h]<;>simp only<;>omega
  have hq:au n=eA e e0:=by
   rw[qn];unfold eA;refine dC ?_ ?_
   ·refine yB (by omega) hc ?_
    rw[c1,c2];unfold iz;simp only;rcases heq with h|h<;>rw[h]<;>simp only<;>grind
   ·refine yB (by omega) hc ?_
    rw[c1,c3];unfold iz;simp only;rcases heq with h|h<;>rw[h]<;>simp only<;>grind
  refine af ⟨e,hee,e0,GZ,hc,hq,?_,?_⟩
  ·rw[<-hq,Gn cn];rcases heq with h|h<;>rw[h]
   ·exact UF
   ·show on (rl n v) (rl n u)=true;rw[vO];exact UF
  ·rw[<-hq,Gn cn];exact on2
 have hin:isNode es (au n):=by
  rcases he with he|he
  ·exact UG _ he (ae rfl)
  ·exact UG _ he (af rfl)
 exact h.gap hN (hN.mem cn hin) ⟨aeA cn.pos pZ n1 n2 b1,aeB cn.pos pZ n1 n2 b2⟩
theorem di.nB{es:List (Pt×Pt)}{l:List Nd}(hN:bK es l){f t:Nd}(h:di es l f t):rZ es f t:=by
 obtain⟨hf,ht,hr⟩:=h.facts hN;refine⟨(hN.can _ hf).pos,(hN.can _ ht).pos,hr,fun e he=>⟨fun a b c=>h.UE hN (ae he) a b c,fun a b c=>?_⟩,fun e he=>⟨h.UC hN (hN.CN he).1,h.UC hN (hN.CN he).2⟩⟩
 have:=h.UE hN (u:=e.2) (v:=e.1) (af he) a b c;rw[bV (rl f e.1) (rl f e.2),bV (rl t e.1) (rl t e.2)] at this;omega
theorem UH(z w:Pt):ay z w=ay w z:=by
 unfold ay;rw[bV z w,iF];congr 1;exact decide_eq_decide.2 (by omega)
theorem G5{d d':Pt}(h:ay d d'=true):aM d↔aM d':=by
 obtain⟨h1,h2⟩:=(cQ _ _).1 h;have hd:=dO (rX (D:=d') (r:=d) (by rw[iF];omega))
 have e1:d'.1*dt d d=d.1*dt d d':=by unfold cr at h1;unfold dt;grind
 have e2:d'.2*dt d d=d.2*dt d d':=by unfold cr at h1;unfold dt;grind
 have a1:=aN (z:=d'.1) hd;have a2:=aN (z:=d.1) h2;have a3:=dJ (z:=d'.1) hd;have a4:=dJ (z:=d.1) h2;have a5:=aN (z:=d'.2) hd;have a6:=aN (z:=d.2) h2;rw[dM] at a1 a2 a3 a4 a5 a6;unfold aM;omega
theorem wZ{d d':Pt}(h:ay d d'=true)(z:Pt):(0<cr z d↔0<cr z d')/\(cr z d=0↔cr z d'=0):=by
 obtain⟨h1,h2⟩:=(cQ _ _).1 h;have hd:=dO (rX (D:=d') (r:=d) (by rw[iF];omega))
 have e:=rY (D:=z) h1;have a1:=aN (z:=cr z d') hd;have a2:=aN (z:=cr z d) h2;have a3:=dJ (z:=cr z d') hd;have a4:=dJ (z:=cr z d) h2;rw[dM] at a1 a2 a3 a4;omega
theorem aeG{d d':Pt}(h:ay d d'=true):d≠(0,0)/\d'≠(0,0):=by
 obtain⟨_,h2⟩:=(cQ _ _).1 h;exact⟨rX (D:=d') (by rw[iF];omega),rX (D:=d) (by omega)⟩
theorem G6{d d':Pt}(h:ay d d'=true)(z:Pt):ak z d=ak z d':=by
 have h1:=G5 h;have h2:=(wZ h z).1;have a:=mg (z:=z) (w:=d);have b:=mg (z:=z) (w:=d');rw[<-h1,<-h2] at b;exact l8.2 (a.trans b.symm)
theorem LJ{d d':Pt}(h:ay d d'=true)(z:Pt):ak d z=ak d' z:=by
 have h1:=G5 h;have h2:=wZ h z;have a:=mg (z:=d) (w:=z);have b:=mg (z:=d') (w:=z);rw[bV z d] at a;rw[bV z d',<-h1] at b;have h5:(0< -cr z d)↔(0< -cr z d'):=by omega
 rw[<-h5] at b;exact l8.2 (a.trans b.symm)
theorem LK{x y z:Pt}(h1:ay x y=true)(h2:ay y z=true):ay x z=true:=by
 obtain⟨a1,a2⟩:=(cQ _ _).1 h1;obtain⟨b1,b2⟩:=(cQ _ _).1 h2;have hy:=dO (aeG h1).2;refine(cQ _ _).2 ⟨((wZ h2 x).2).1 a1,?_⟩;have e2:dt x z*dt y y=dt x y*dt y z+cr y x*cr y z:=by unfold dt cr;grind
 rw[b1] at e2;have:=aR a2 b2;have q:=aN (z:=dt x z) hy;rw[dM] at q;exact q.1 (by omega)
theorem aeH{d d':Pt}(h:ay d d'=true)(z:Pt):ay z d=ay z d':=by
 cases h1:ay z d<;>cases h2:ay z d'
 ·rfl
 ·rw[LK h2 (by rw[UH];exact h)] at h1;cases h1
 ·rw[LK h1 h] at h2;cases h2
 ·rfl
theorem UI{es:List (Pt×Pt)}{n:N3}{d d':Pt}(h:ay d d'=true):cV es n d=cV es n d'/\dP es n d=dP es n d':=by
 have e1:AS es n (fun z=>nz z&&ak z d)=AS es n (fun z=>nz z&&ak z d'):=EC fun e _ _=>by simp only[G6 h];exact⟨trivial,trivial⟩
 have e2:AS es n (fun z=>ay z d)=AS es n (fun z=>ay z d'):=EC fun e _ _=>by simp only[aeH h];exact⟨trivial,trivial⟩
 unfold dP cV;rw[e1,e2];exact⟨rfl,rfl⟩
theorem dS(a b:N3):wv b a=neg (wv a b):=by unfold wv neg;exact dC (by simp only;omega) (by simp only;omega)
theorem LM{z:Pt}(h1:aM z)(h2:aM (neg z)):False:=by
 unfold aM neg at*;simp only at h2;omega
theorem aeI{es:List (Pt×Pt)}{l:List Nd}(hN:bK es l){n:Nd}(hn:n∈l){z:Pt}(hz:z∈arms es n):∃m,m∈l/\(di es l n m\/di es l m n)/\ay (wv n m) z=true:=by
 obtain⟨dZ,e,he,ho,r9⟩:=jw.1 hz;have cn:=hN.can n hn;obtain⟨p,hp,hpl,kz⟩:∃p:Pt,on (rl (p.1,p.2,1) e.1) (rl (p.1,p.2,1) e.2)=true/\(p.1,p.2,1)∈l/\z=rl n p:=by
  have h0:∀p:Pt,rl (p.1,p.2,1) p=(0,0):=fun p=>by unfold rl rel;exact dC (by simp only;omega) (by simp only;omega)
  rcases r9 with h|h
  ·exact⟨e.1,qy _ _ (ae (h0 _)),(hN.CN he).1,h⟩
  ·exact⟨e.2,qy _ _ (af (h0 _)),(hN.CN he).2,h⟩
 have cp:=hN.can _ hpl;have hwz:wv n (p.1,p.2,1)=z:=by rw[CO,kz]
 have i1:n∈held e l:=gv.2 ⟨hn,ho⟩;have i2:(p.1,p.2,1)∈held e l:=gv.2 ⟨hpl,hp⟩;have hc:∀m∈held e l,Ge.Can m:=fun m hm=>hN.can m (gv.1 hm).1
 by_cases hr:aM z
 ·have hlt:lt (au n) (au (p.1,p.2,1)):=(lS cn cp).2 (by rw[hwz];exact hr)
  obtain⟨t,ht⟩:=Uv (hN.CL e) hc i1 i2 hlt;have hpc:di es l n t:=⟨e,he,ht⟩;obtain⟨_,htl,hrt⟩:=hpc.facts hN;refine⟨t,htl,ae hpc,(cQ _ _).2 ?_⟩;have hL:=CM (hN.can t htl).pos hrt ho (gv.1 (pQ ht).2).2;have hcr:cr (wv n t) z=0:=by
   rcases r9 with h|h
   ·rw[h];exact hL.1
   ·rw[h];exact hL.2
  exact⟨hcr,jN hrt hr hcr⟩
 ·have hr':=fF dZ hr;have hlt:lt (au (p.1,p.2,1)) (au n):=(lS cp cn).2 (by rw[dS,hwz];exact hr')
  obtain⟨f,hf⟩:=Uw (hN.CL e) hc i1 i2 hlt;have hpc:di es l f n:=⟨e,he,hf⟩;obtain⟨hfl,_,hrf⟩:=hpc.facts hN;have hL:=CM cn.pos hrf (gv.1 (pQ hf).1).2 ho;have yw:=(oX (hN.can f hfl).pos cn.pos hrf e.1).2 hL.1;have hL2:=(oX (hN.can f hfl).pos cn.pos hrf e.2).2 hL.2;have hcr:cr (wv f n) z=0:=by
   rcases r9 with h|h
   ·rw[h];exact yw
   ·rw[h];exact hL2
  refine⟨f,hfl,af hpc,(cQ _ _).2 ?_⟩;have hd:=jN hrf hr' (by rw[fh];omega)
  rw[j6] at hd;rw[dS f n,eI,qw];omega
def Sd(es:List (Pt×Pt))(l:List Nd)(aF:Int->Bool)(a b:Nd):Prop:=
 (di es l a b/\aF (LL es a b)=true/\aF (RR es a b)=false)\/(di es l b a/\aF (RR es b a)=true/\aF (LL es b a)=false)
theorem Sd.pc{es:List (Pt×Pt)}{l:List Nd}{aF:Int->Bool}{a b:Nd}(h:Sd es l aF a b):di es l a b\/di es l b a:=by
 rcases h with h|h
 ·exact ae h.1
 ·exact af h.1
theorem fW{es:List (Pt×Pt)}{l:List Nd}(hN:bK es l){a b:Nd}(h:di es l a b\/di es l b a):wv a b≠(0,0)/\a∈l/\b∈l:=by
 rcases h with h|h
 ·obtain⟨h1,h2,h3⟩:=h.facts hN;exact⟨jS h3,h1,h2⟩
 ·obtain⟨h1,h2,h3⟩:=h.facts hN;exact⟨by rw[dS b a];exact ji (jS h3),h2,h1⟩
theorem Sd.leave{rg:List (List Pt)}{l:List Nd}(hN:bK (ag rg) l){aF:Int->Bool}{a b:Nd}(h:Sd (ag rg) l aF a b):aF (cV (ag rg) a (wv a b))=false/\aF (dP (ag rg) a (wv a b))=true:=by
 rcases h with⟨h,h1,h2⟩|⟨h,h1,h2⟩
 ·obtain⟨k1,k2⟩:=uo (h.nB hN);rw[k1] at h2;rw[k2] at h1;exact⟨h2,h1⟩
 ·obtain⟨k1,k2⟩:=Az (h.nB hN);rw[k1,<-dS] at h1;rw[k2,<-dS] at h2;exact⟨h2,h1⟩
theorem Sd.xa{rg:List (List Pt)}{l:List Nd}(hN:bK (ag rg) l){aF:Int->Bool}{a b:Nd}(h:Sd (ag rg) l aF a b):aF (cV (ag rg) b (wv b a))=true/\aF (dP (ag rg) b (wv b a))=false:=by
 rcases h with⟨h,h1,h2⟩|⟨h,h1,h2⟩
 ·obtain⟨k1,k2⟩:=Az (h.nB hN);rw[k1,<-dS] at h2;rw[k2,<-dS] at h1;exact⟨h1,h2⟩
 ·obtain⟨k1,k2⟩:=uo (h.nB hN);rw[k1] at h1;rw[k2] at h2;exact⟨h1,h2⟩
theorem Sd.of{rg:List (List Pt)}{l:List Nd}(hN:bK (ag rg) l){aF:Int->Bool}{a b:Nd}(h:di (ag rg) l a b\/di (ag rg) l b a)(h1:aF (cV (ag rg) a (wv a b))=false)(h2:aF (dP (ag rg) a (wv a b))=true):Sd (ag rg) l aF a b:=by
 rcases h with h|h
 ·obtain⟨k1,k2⟩:=uo (h.nB hN);exact ae ⟨h,by rw[k2];exact h2,by rw[k1];exact h1⟩
 ·obtain⟨k1,k2⟩:=Az (h.nB hN);rw[<-dS] at k1 k2;exact af ⟨h,by rw[k1];exact h2,by rw[k2];exact h1⟩
theorem G7{rg:List (List Pt)}{l:List Nd}(hN:bK (ag rg) l){aF:Int->Bool}{n:Nd}(hn:n∈l){z:Pt}(hz:vQ (ag rg) n aF z):∃m,Sd (ag rg) l aF n m/\ay (wv n m) z=true:=by
 obtain⟨m,hm,hp,hs⟩:=aeI hN hn hz.mem;obtain⟨e1,e2⟩:=UI (es:=ag rg) (n:=n) hs;exact⟨m,Sd.of hN hp (by rw[e1];exact hz.out) (by rw[e2];exact hz.aF),hs⟩
theorem Sd.next{rg:List (List Pt)}{l:List Nd}(hN:bK (ag rg) l){aF:Int->Bool}{a b:Nd}(h:Sd (ag rg) l aF a b):∃c,Sd (ag rg) l aF b c:=by
 obtain⟨h1,h2⟩:=h.xa hN;obtain⟨hne,_,hb⟩:=fW hN h.pc;obtain⟨z,hz⟩:=aak (by rw[dS a b];exact ji hne) h1 h2
 obtain⟨c,hc,_⟩:=G7 hN hb hz;exact⟨c,hc⟩
theorem Sd.oJ{rg:List (List Pt)}{l:List Nd}(hN:bK (ag rg) l){aF:Int->Bool}{a b c:Nd}(h:Sd (ag rg) l aF a b)(h':Sd (ag rg) l aF b c):ay (wv b c) (wv b a)=false:=by
 cases hs:ay (wv b c) (wv b a)
 ·rfl
 ·obtain⟨e1,_⟩:=UI (es:=ag rg) (n:=b) hs;have k1:=(h.xa hN).1;have k2:=(h'.leave hN).1;rw[e1,k1] at k2;cases k2
theorem CP{es:List (Pt×Pt)}{l:List Nd}(hN:bK es l){n t t':Nd}(h:di es l n t\/di es l t n)(h':di es l n t'\/di es l t' n)(hs:ay (wv n t) (wv n t')=true):t=t':=by
 have dw:∀{x y:Nd},x∈l->y∈l->x=y\/lt (au x) (au y)\/lt (au y) (au x):=fun{x y} hx hy=>by
  have cx:=hN.can x hx;have cy:=hN.can y hy;unfold lt;rcases eD (pc (au x) (au y)) 0 with h|h|h
  ·exact af (ae h)
  ·exact ae (sU cx cy h)
  ·exact af (af (by rw[Fv];omega))
 have mv:∀x y:Nd,(∀i:Int,i=i)->n.2.2*(wv x y).1=x.2.2*(wv n y).1-y.2.2*(wv n x).1/\n.2.2*(wv x y).2=x.2.2*(wv n y).2-y.2.2*(wv n x).2:=fun x y _=>by
  unfold wv;constructor<;>(simp only;grind)
 obtain⟨_,hn,ht⟩:=fW hN h;obtain⟨_,_,ht'⟩:=fW hN h';have cn:=hN.can n hn;have key:∀{x y:Nd},x∈l->y∈l->di es l n y->ay (wv n x) (wv n y)=true->lt (au x) (au y)->False:=fun{x y} hx hy hpc hsm hl=>by
  obtain⟨_,_,hr⟩:=hpc.facts hN;obtain⟨s1,s2⟩:=(cQ _ _).1 hsm;have LN:=(lS (hN.can x hx) (hN.can y hy)).1 hl;have c1:cr (wv n y) (wv n x)=0:=by rw[bV];omega
  have c2:cr (wv n y) (wv x y)=0:=by
   obtain⟨m1,m2⟩:=mv x y (fun _=>rfl)
   have:n.2.2*cr (wv n y) (wv x y)=(wv n y).1*(n.2.2*(wv x y).2)-(wv n y).2*(n.2.2*(wv x y).1):=by unfold cr;grind
   rw[m1,m2] at this;refine(dJ cn.pos).1 (this.trans ?_);unfold cr at c1
   grind
  exact hpc.gap hN hx ⟨oI hr c1 (by rw[iF];exact s2),oI hr c2 (jN hr LN c2)⟩
 have key':∀{x y:Nd},x∈l->y∈l->di es l y n->ay (wv n x) (wv n y)=true->lt (au y) (au x)->False:=fun{x y} hx hy hpc hsm hl=>by
  obtain⟨_,_,hr⟩:=hpc.facts hN;obtain⟨s1,s2⟩:=(cQ _ _).1 hsm;have LN:=(lS (hN.can y hy) (hN.can x hx)).1 hl;have e1:wv y n=neg (wv n y):=dS n y;have e2:wv x n=neg (wv n x):=dS n x;have c1:cr (wv y n) (wv x n)=0:=by rw[e1,e2,eI,fh,bV (wv n x)];omega
  have c2:cr (wv y n) (wv y x)=0:=by
   obtain⟨m1,m2⟩:=mv y x (fun _=>rfl)
   have:n.2.2*cr (wv n y) (wv y x)=(wv n y).1*(n.2.2*(wv y x).2)-(wv n y).2*(n.2.2*(wv y x).1):=by unfold cr;grind
   rw[m1,m2] at this;have k:cr (wv n y) (wv y x)=0:=by
    refine(dJ cn.pos).1 (this.trans ?_);have c3:cr (wv n y) (wv n x)=0:=by rw[bV];omega
    unfold cr at c3
    grind
   rw[e1,eI];omega
  exact hpc.gap hN hx ⟨oI hr c2 (jN hr LN c2),oI hr c1 (by rw[e1,e2,qw,j6,iF];omega)⟩
 have hs':ay (wv n t') (wv n t)=true:=by rw[UH];exact hs
 have oG:=G5 hs;rcases h with h|h<;>rcases h' with h'|h'
 ·rcases dw ht ht' with k|k|k
  ·exact k
  ·exact(key ht ht' h' hs k).elim
  ·exact(key ht' ht h hs' k).elim
 ·exfalso;have r1:=(h.facts hN).2.2;have r2:=(h'.facts hN).2.2;rw[dS n t'] at r2;exact LM (oG.1 r1) r2
 ·exfalso;have r1:=(h.facts hN).2.2;have r2:=(h'.facts hN).2.2;rw[dS n t] at r1;exact LM (oG.2 r2) r1
 ·rcases dw ht ht' with k|k|k
  ·exact k
  ·exact(key' ht' ht h hs' k).elim
  ·exact(key' ht ht' h' hs k).elim
theorem G8{a l l' k:Pt}(h:ay l k=true):cw a l l'=cw a k l':=by
 unfold cw;rw[LJ h,G6 h,G6 h]
theorem aeJ{rg:List (List Pt)}{l:List Nd}(hN:bK (ag rg) l){aF:Int->Bool}{a a' b c:Nd}(h:Sd (ag rg) l aF a b)(h':Sd (ag rg) l aF a' b)(hc:Sd (ag rg) l aF b c)
  (hm:∀c',Sd (ag rg) l aF b c'->¬tC (wv a b) (wv b c') (wv b c)<0)(hm':∀c',Sd (ag rg) l aF b c'->¬tC (wv a' b) (wv b c') (wv b c)<0):a=a':=by
 obtain⟨n1,_,hb⟩:=fW hN h.pc;obtain⟨n2,_,_⟩:=fW hN h'.pc;obtain⟨n3,_,_⟩:=fW hN hc.pc;have m1:wv b a≠(0,0):=by rw[dS a b];exact ji n1
 have m2:wv b a'≠(0,0):=by rw[dS a' b];exact ji n2
 cases hs:ay (wv b a) (wv b a')
 ·exfalso;obtain⟨h1,h2⟩:=h.xa hN;obtain⟨h1',h2'⟩:=h'.xa hN;obtain⟨z,hz,kj⟩:=PD m1 m2 hs h1 h2 h1' h2' n3 (h.oJ hN hc) (h'.oJ hN hc);obtain⟨c',hc',hsm⟩:=G7 hN hb hz;obtain⟨n4,_,_⟩:=fW hN hc'.pc;rcases kj with k|k
  ·rw[<-G8 hsm] at k;have:=(AB m1 n4 n3 (h.oJ hN hc') (h.oJ hN hc)).2 k;rw[<-dS] at this;exact hm c' hc' this
  ·rw[<-G8 hsm] at k;have:=(AB m2 n4 n3 (h'.oJ hN hc') (h'.oJ hN hc)).2 k;rw[<-dS] at this;exact hm' c' hc' this
 ·exact CP hN h.pc.symm h'.pc.symm hs
theorem Sd.straight{rg:List (List Pt)}{l:List Nd}(hN:bK (ag rg) l){aF:Int->Bool}{a b c:Nd}(h:Sd (ag rg) l aF a b)(h':Sd (ag rg) l aF b c)(hc:cr (wv a b) (wv b c)=0):ay (wv a b) (wv b c)=true:=by
 refine(cQ _ _).2 ⟨hc,?_⟩;have hb:=h.oJ hN h';obtain⟨n1,_,_⟩:=fW hN h.pc;obtain⟨n3,_,_⟩:=fW hN h'.pc;have hd:=JO hb (by rw[dS a b,fh,bV (wv a b)];omega)
 rw[dS a b,j6,iF] at hd;have hne:dt (wv a b) (wv b c)≠0:=fun h0=>by
  have e:dt (wv a b) (wv b c)*dt (wv a b) (wv b c)+cr (wv a b) (wv b c)*cr (wv a b) (wv b c)=dt (wv a b) (wv a b)*dt (wv b c) (wv b c):=by unfold dt cr;grind
  have:=aR (dO n1) (dO n3);rw[h0,hc] at e;omega
 omega
end Go.Proofs.YtkjhhooecopolaaGreatDoor.Ga
