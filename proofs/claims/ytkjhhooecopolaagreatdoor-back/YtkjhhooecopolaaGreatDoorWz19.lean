import Derived.Test.YtkjhhooecopolaaGreatDoorWz18
set_option maxRecDepth 100000
set_option maxHeartbeats 4000000
namespace Go.Proofs.YtkjhhooecopolaaGreatDoor.Ga
open Ge
structure bC(es:List (Pt×Pt))(l:List Nd):Prop where
 map:l.map ax=gV es
 can:∀n∈l,Ge.Can n
 ne:∀e∈es,e.1≠e.2
theorem bC.mem{es:List (Pt×Pt)}{l:List Nd}(h:bC es l){n:Nd}(hn:Ge.Can n)(hi:isNode es (ax n)):n∈l:=by
 have h1:ax n∈l.map ax:=by rw[h.map];exact((xP es).2.2 _).2 hi
 obtain⟨m,hm,he⟩:=aN.1 h1;rw[zT hn (h.can m hm) he.symm];exact hm
theorem mU{a b:Nd}(ha:Ge.Can a)(hb:Ge.Can b):lt (ax a) (ax b)↔aJ (wv a b):=by
 unfold lt aJ wv;rw[Ia ha hb];have s1:=sg (a.1*b.2.2-b.1*a.2.2);have s2:=sg (a.2.1*b.2.2-b.2.1*a.2.2);have e1:a.2.2*b.1=b.1*a.2.2:=dX _ _;have e2:b.2.2*a.1=a.1*b.2.2:=dX _ _;have e3:a.2.2*b.2.1=b.2.1*a.2.2:=dX _ _;have e4:b.2.2*a.2.1=a.2.1*b.2.2:=dX _ _;simp only;rw[e1,e2,e3,e4];split<;>omega
def yh(l:List Nd):Prop:=l.Pairwise fun a b=>lt (ax a) (ax b)
theorem bC.oP{es:List (Pt×Pt)}{l:List Nd}(h:bC es l):yh l:=by
 have:=(xP es).2.1;rw[<-h.map] at this;exact lR.1 this
theorem bC.DU{es:List (Pt×Pt)}{l:List Nd}(h:bC es l)(e:Pt×Pt):yh (held e l):=abk _ h.oP
theorem ic{e:Pt×Pt}{l:List Nd}{n:Nd}:n∈held e l↔n∈l/\on (rl n e.1) (rl n e.2)=true:=by
 unfold held;rw[eY];exact Fw
theorem qK:∀{m:List Nd}{q:Nd×Nd},q∈nexts m->q.1∈m/\q.2∈m
 |[],_,h=>by simp[nexts] at h
 |[_],_,h=>by simp[nexts] at h
 |a::b::r,q,h=>by
  rcases aP.1 h with h|h
  ·rw[h];simp
  ·have:=qK (m:=b::r) h;exact⟨aT _ this.1,aT _ this.2⟩
theorem Vz:∀{m:List Nd},yh m->∀{q:Nd×Nd},q∈nexts m->lt (ax q.1) (ax q.2)
 |[],_,_,h=>by simp[nexts] at h
 |[_],_,_,h=>by simp[nexts] at h
 |a::b::r,hp,q,h=>by
  rcases aP.1 h with h|h
  ·rw[h];exact(fK.1 hp).1 b (by simp)
  ·exact Vz (fK.1 hp).2 h
theorem VA:∀{m:List Nd},yh m->(∀n∈m,Ge.Can n)->∀{q:Nd×Nd},q∈nexts m->∀{x:Nd},x∈m->¬(lt (ax q.1) (ax x)/\lt (ax x) (ax q.2))
 |[],_,_,_,h,_,_=>by simp[nexts] at h
 |[_],_,_,_,h,_,_=>by simp[nexts] at h
 |a::b::r,hp,hc,q,h,x,hx=>by
  obtain⟨p1,p2⟩:=fK.1 hp;have asym:∀{y z:Nd},Ge.Can y->Ge.Can z->lt (ax y) (ax z)->¬lt (ax z) (ax y):=fun hy hz h1 h2=>lt_irrefl _ (lt_trans (df hy) (df hz) (df hy) h1 h2)
  have MI:=hc a (by simp)
  have hcb:=hc b (by simp)
  rcases aP.1 h with h|h
  ·rw[h];rintro⟨k1,k2⟩;simp only at k1 k2;rcases aP.1 hx with e|hx
   ·rw[e] at k1;exact lt_irrefl _ k1
   ·rcases aP.1 hx with e|hx
    ·rw[e] at k2;exact lt_irrefl _ k2
    ·exact asym (hc x (by simp[hx])) hcb k2 ((fK.1 p2).1 x hx)
  ·rintro⟨k1,k2⟩;rcases aP.1 hx with e|hx
   ·rw[e] at k1;have hq:=(qK h).1;exact asym MI (hc q.1 (by rcases aP.1 hq with e'|e'<;>simp[e'])) (p1 q.1 hq) k1
   ·exact VA p2 (fun n hn=>hc n (aT _ hn)) h hx ⟨k1,k2⟩
theorem VB:∀{m:List Nd},yh m->(∀n∈m,Ge.Can n)->∀{x y:Nd},x∈m->y∈m->lt (ax x) (ax y)->∃t,(x,t)∈nexts m
 |[],_,_,_,_,h,_,_=>by simp at h
 |[a],_,_,x,y,h,h',hl=>by
  have e1:x=a:=by simpa using h
  have e2:y=a:=by simpa using h'
  rw[e1,e2] at hl;exact absurd hl (lt_irrefl _)
 |a::b::r,hp,hc,x,y,hx,hy,hl=>by
  obtain⟨p1,p2⟩:=fK.1 hp;rcases aP.1 hx with e|hx
  ·exact⟨b,by rw[e];simp[nexts]⟩
  ·rcases aP.1 hy with e|hy
   ·exfalso;rw[e] at hl;exact lt_irrefl _ (lt_trans (df (hc a (by simp))) (df (hc x (aT _ hx))) (df (hc a (by simp))) (p1 x hx) hl)
   ·obtain⟨t,ht⟩:=VB p2 (fun n hn=>hc n (aT _ hn)) hx hy hl
    exact⟨t,aT _ ht⟩
theorem VC:∀{m:List Nd},yh m->(∀n∈m,Ge.Can n)->∀{x y:Nd},x∈m->y∈m->lt (ax y) (ax x)->∃f,(f,x)∈nexts m
 |[],_,_,_,_,h,_,_=>by simp at h
 |[a],_,_,x,y,h,h',hl=>by
  have e1:x=a:=by simpa using h
  have e2:y=a:=by simpa using h'
  rw[e1,e2] at hl;exact absurd hl (lt_irrefl _)
 |a::b::r,hp,hc,x,y,hx,hy,hl=>by
  obtain⟨p1,p2⟩:=fK.1 hp;rcases aP.1 hx with e|hx
  ·exfalso;rw[e] at hl;rcases aP.1 hy with e'|hy
   ·rw[e'] at hl;exact lt_irrefl _ hl
   ·exact lt_irrefl _ (lt_trans (df (hc a (by simp))) (df (hc y (aT _ hy))) (df (hc a (by simp))) (p1 y hy) hl)
  ·by_cases hb:x=b
   ·exact⟨a,by rw[hb];simp[nexts]⟩
   ·have hb':lt (ax b) (ax x):=by
     rcases aP.1 hx with e|hx
     ·exact absurd e hb
     ·exact(fK.1 p2).1 x hx
    obtain⟨f,hf⟩:=VC p2 (fun n hn=>hc n (aT _ hn)) hx (FT ..) hb'
    exact⟨f,aT _ hf⟩
theorem kQ{a b:N3}{D:Pt}(hD:aJ D)(hc:cr D (wv a b)=0)(hd:0<dt D (wv a b)):Behind a b D:=by
 rcases hD with h|⟨h1,h2⟩
 ·left;refine⟨h,?_,hc⟩;have e:dt D (wv a b)*D.1=(wv a b).1*dt D D:=by unfold cr at hc;unfold dt;grind
  have k:=aQ (z:=(wv a b).1) (cP (kG (ag h)));have p:=aR hd h;rw[dX] at k;omega
 ·right;unfold cr at hc;unfold dt at hd;rw[h1] at hc hd;have k:=dE (z:=(wv a b).1) h2;have q:=aQ (z:=(wv a b).2) h2;exact⟨h1,h2,k.1 (by omega),q.1 (by omega)⟩
theorem MJ{a b:N3}{D:Pt}(h:Behind a b D):0<dt D (wv a b):=by
 rcases h with⟨h1,h2,h3⟩|⟨h1,h2,h3,h4⟩
 ·exact ko (ag h1) (ag h2) h3
 ·unfold dt;rw[h1];have:=aR h2 h4;omega
theorem VD{a b:N3}{D:Pt}(h:Behind a b D):aJ (wv a b):=by
 rcases h with⟨_,h2,_⟩|⟨_,_,h3,h4⟩
 ·exact ag h2
 ·exact ah ⟨h3,h4⟩
theorem DV{f t:N3}(VE:0<t.2.2)(_hr:aJ (wv f t)){p q:Pt}(h1:on (rl f p) (rl f q)=true)(h2:on (rl t p) (rl t q)=true):lam (wv f t) f p=0/\lam (wv f t) f q=0:=by
 obtain⟨a1,a2⟩:=(jt _ _).1 h1;obtain⟨b1,_⟩:=(jt _ _).1 h2;have e:f.2.2*f.2.2*cr (rl t p) (rl t q)=t.2.2*t.2.2*cr (rl f p) (rl f q)-t.2.2*(lam (wv f t) f q-lam (wv f t) f p):=by
  have k:f.2.2*f.2.2*cr (rl t p) (rl t q)=(f.2.2*(rl t p).1)*(f.2.2*(rl t q).2)-(f.2.2*(rl t p).2)*(f.2.2*(rl t q).1):=by unfold cr;grind
  obtain⟨e1,e2⟩:=kF f t p;obtain⟨e3,e4⟩:=kF f t q;rw[k,e1,e2,e3,e4];unfold lam cr
  grind
 rw[a1,b1] at e;have ht:0<t.2.2:=VE;have hll:lam (wv f t) f q=lam (wv f t) f p:=by
  have:=dE (z:=lam (wv f t) f q-lam (wv f t) f p) ht;have:=this.1 (by omega)
  omega
 have c:=pG (D:=wv f t) a1;have hp0:lam (wv f t) f p=0:=by
  apply fV;intro hn;have hd:=cP (KW (D:=wv f t) (r:=rl f p) hn);have k:lam (wv f t) f p*(dt (rl f p) (rl f p)-dt (rl f p) (rl f q))=0:=by
   rw[mI];unfold lam at*;rw[hll] at c;omega
  rcases abl.1 k with k|k
  ·exact hn k
  ·omega
 exact⟨hp0,by rw[hll];exact hp0⟩
theorem VF{f t m:N3}(hf:0<f.2.2)(ht:0<t.2.2)(hm:0<m.2.2)(hr:aJ (wv f t)){p q:Pt}(h1:on (rl f p) (rl f q)=true)(h2:on (rl t p) (rl t q)=true)(b1:Behind f m (wv f t))(b2:Behind m t (wv f t)):on (rl m p) (rl m q)=true:=by
 have hD:=kG hr;obtain⟨l1,l2⟩:=DV ht hr h1 h2;have lm:∀z,lam (wv f t) f z=0->lam (wv f t) m z=0:=fun z hz=>by have:=oh hf hm b1 z;omega
 have lt:∀z,lam (wv f t) f z=0->lam (wv f t) t z=0:=fun z hz=>by have:=oh hf ht (xh hr) z;omega
 have o1:=(qo hD l1 l2).1 h1;have o2:=(qo hD (lt p l1) (lt q l2)).1 h2;refine(qo hD (lm p l1) (lm q l2)).2 ?_;have d1:=MJ b1;have d2:=MJ b2;have d3:=MJ (xh hr);have mv:∀(a b:N3)(z:Pt),a.2.2*dt (wv f t) (rl b z)=b.2.2*dt (wv f t) (rl a z)-dt (wv f t) (wv a b):=fun a b z=>by
  obtain⟨e1,e2⟩:=kF a b z;have:a.2.2*dt (wv f t) (rl b z)=(wv f t).1*(a.2.2*(rl b z).1)+(wv f t).2*(a.2.2*(rl b z).2):=by unfold dt;grind
  rw[this,e1,e2];unfold dt
  grind
 have low:∀z,dt (wv f t) (rl f z)<=0->dt (wv f t) (rl m z)<0/\dt (wv f t) (rl t z)<0:=fun z hz=>by
  have k1:=mv f m z;have k2:=mv f t z;have p1:=aQ (z:=dt (wv f t) (rl f z)) hm;have p2:=neg_mul (z:=dt (wv f t) (rl m z)) hf;have p3:=aQ (z:=dt (wv f t) (rl f z)) ht;have p4:=neg_mul (z:=dt (wv f t) (rl t z)) hf;omega
 have high:∀z,0<=dt (wv f t) (rl t z)->0<dt (wv f t) (rl m z):=fun z hz=>by
  have k1:=mv m t z;have p1:=neg_mul (z:=dt (wv f t) (rl t z)) hm;have p2:=aQ (z:=dt (wv f t) (rl m z)) ht;omega
 generalize wv f t=D at*;by_cases hp:dt D (rl f p)<=0
 ·obtain⟨x1,x2⟩:=low p hp;have hq:0<=dt D (rl t q):=by
   apply Bt.1;intro h;exact vh x2 h o2
  exact rE (dS x1) (dS (high q hq))
 ·have hq:dt D (rl f q)<=0:=by
   apply Bt.1;intro h;exact xj (by omega) h o1
  obtain⟨x1,x2⟩:=low q hq;have hp':0<=dt D (rl t p):=by
   apply Bt.1;intro h;exact vh h x2 o2
  exact Gc (dS (high p hp')) (dS x1)
def cL(es:List (Pt×Pt))(l:List Nd)(f t:Nd):Prop:=∃e∈es,(f,t)∈nexts (held e l)
theorem cL.facts{es:List (Pt×Pt)}{l:List Nd}(hN:bC es l){f t:Nd}(h:cL es l f t):f∈l/\t∈l/\aJ (wv f t):=by
 obtain⟨e,he,hn⟩:=h;obtain⟨h1,h2⟩:=qK hn;have h1':=(ic.1 h1).1;have h2':=(ic.1 h2).1;exact⟨h1',h2',(mU (hN.can _ h1') (hN.can _ h2')).1 (Vz (hN.DU e) hn)⟩
theorem cL.gap{es:List (Pt×Pt)}{l:List Nd}(hN:bC es l){f t:Nd}(h:cL es l f t){m:Nd}(hm:m∈l):¬(Behind f m (wv f t)/\Behind m t (wv f t)):=by
 rintro⟨b1,b2⟩;obtain⟨hf,ht,hr⟩:=h.facts hN;obtain⟨e,he,hn⟩:=h;obtain⟨h1,h2⟩:=qK hn;have cf:=hN.can _ hf;have ct:=hN.can _ ht;have cm:=hN.can _ hm;have ho:=VF cf.pos ct.pos cm.pos hr (ic.1 h1).2 (ic.1 h2).2 b1 b2;exact VA (hN.DU e) (fun n hn=>hN.can n (ic.1 hn).1) hn (ic.2 ⟨hm,ho⟩) ⟨(mU cf cm).2 (VD b1),(mU cm ct).2 (VD b2)⟩
theorem DW(z:Pt):Ge.Can (z.1,z.2,1):=⟨by show(0:Int)<1;decide,by show Int.gcd (Int.gcd z.1 z.2) 1=1;exact Qs ..⟩
theorem DX(z:Pt):ax (z.1,z.2,1)=pt z:=by unfold ax pt;simp only[Hf]
theorem bC.Aq{es:List (Pt×Pt)}{l:List Nd}(hN:bC es l){e:Pt×Pt}(he:e∈es):(e.1.1,e.1.2,1)∈l/\(e.2.1,e.2.2,1)∈l:=
 ⟨hN.mem (DW e.1) (ag ⟨e,he,ag (DX _)⟩),hN.mem (DW e.2) (ag ⟨e,he,ah (DX _)⟩)⟩
theorem DY(f:N3)(z:Pt):wv f (z.1,z.2,1)=rl f z:=by unfold wv rl rel;simp
theorem VG(t:N3)(z:Pt):wv (z.1,z.2,1) t=neg (rl t z):=by unfold wv rl rel neg;exact bX (by simp;omega) (by simp;omega)
theorem cL.VH{es:List (Pt×Pt)}{l:List Nd}(hN:bC es l){f t:Nd}(h:cL es l f t){z:Pt}(hz:(z.1,z.2,1)∈l):mJ f t (wv f t) z:=by
 intro hl;obtain⟨hf,ht,hr⟩:=h.facts hN;apply fV;intro hn;have hl':=(qp (hN.can _ hf).pos (hN.can _ ht).pos hr z).2 hl;refine h.gap hN hz ⟨kQ hr ?_ ?_,kQ hr ?_ ?_⟩
 ·rw[DY];exact hl
 ·rw[DY];omega
 ·rw[VG,dP];unfold lam at hl';omega
 ·rw[VG,ju];omega
def iX(u v:Pt)(a b:Int):N3:=(u.1*b-v.1*a,u.2*b-v.2*a,b-a)
theorem VI(f:N3)(D u v:Pt):wv f (iX u v (lam D f u) (lam D f v))=(D.1*cr (rl f u) (rl f v),D.2*cr (rl f u) (rl f v)):=by
 unfold wv iX lam cr rl rel;exact bX (by simp only;grind) (by simp only;grind)
theorem afX{a b:N3}{D:Pt}{k:Int}(hD:aJ D)(hk:0<k)(h:wv a b=(D.1*k,D.2*k)):Behind a b D:=by
 refine kQ hD ?_ ?_
 ·rw[h];unfold cr;simp only;grind
 ·rw[h];have e:dt D (D.1*k,D.2*k)=k*dt D D:=by unfold dt;simp only;grind
  rw[e];exact aR hk (cP (kG hD))
theorem afY{f t:N3}{D:Pt}(hB:Behind f t D)(u v:Pt):t.2.2*(wv (iX u v (lam D f u) (lam D f v)) t).1= -(f.2.2*cr (rl t u) (rl t v))*D.1/\t.2.2*(wv (iX u v (lam D f u) (lam D f v)) t).2= -(f.2.2*cr (rl t u) (rl t v))*D.2:=by
 have m1:=KS hB u;have m2:=KS hB v;have e:=VI t D u v;have e1:=au Prod.fst e;have e2:=au Prod.snd e;unfold wv iX at e1 e2⊢;simp only at e1 e2⊢;generalize lam D f u=a at*;generalize lam D f v=b at*;generalize lam D t u=a' at*;generalize lam D t v=b' at*;constructor
 ·have k:t.2.2*((b-a)*t.1-t.2.2*(u.1*b-v.1*a))=(t.2.2*b-t.2.2*a)*t.1-t.2.2*(u.1*(t.2.2*b)-v.1*(t.2.2*a)):=by grind
  rw[k,<-m1,<-m2];have k2:(f.2.2*b'-f.2.2*a')*t.1-t.2.2*(u.1*(f.2.2*b')-v.1*(f.2.2*a'))= -f.2.2*(t.2.2*(u.1*b'-v.1*a')-(b'-a')*t.1):=by grind
  rw[k2,e1]
  grind
 ·have k:t.2.2*((b-a)*t.2.1-t.2.2*(u.2*b-v.2*a))=(t.2.2*b-t.2.2*a)*t.2.1-t.2.2*(u.2*(t.2.2*b)-v.2*(t.2.2*a)):=by grind
  rw[k,<-m1,<-m2];have k2:(f.2.2*b'-f.2.2*a')*t.2.1-t.2.2*(u.2*(f.2.2*b')-v.2*(f.2.2*a'))= -f.2.2*(t.2.2*(u.2*b'-v.2*a')-(b'-a')*t.2.1):=by grind
  rw[k2,e2]
  grind
theorem afZ{u v:Pt}{a b:Int}(ha:a<=0)(hb:0<=b):on (rl (iX u v a b) u) (rl (iX u v a b) v)=true:=by
 have e1:rl (iX u v a b) u=(a*(v.1-u.1),a*(v.2-u.2)):=by unfold rl rel iX;exact bX (by simp only;grind) (by simp only;grind)
 have e2:rl (iX u v a b) v=(b*(v.1-u.1),b*(v.2-u.2)):=by unfold rl rel iX;exact bX (by simp only;grind) (by simp only;grind)
 rw[e1,e2,jt];constructor
 ·unfold cr;simp only;grind
 ·have e:dt (a*(v.1-u.1),a*(v.2-u.2)) (b*(v.1-u.1),b*(v.2-u.2))=(a*b)*((v.1-u.1)*(v.1-u.1)+(v.2-u.2)*(v.2-u.2)):=by unfold dt;simp only;grind
  rw[e];refine Fv (rE ha hb) ?_;have k:∀x:Int,0<=x*x:=fun x=>by
   rcases Bq 0 x with h|h
   ·exact iN h h
   ·exact qZ h h
  have:=k (v.1-u.1);have:=k (v.2-u.2);omega
theorem af0{m:N3}(hm:0<m.2.2):∃n:Nd,Ge.Can n/\ax n=(aW m.1 m.2.2,aW m.2.1 m.2.2)/\n.1*m.2.2=m.1*n.2.2/\n.2.1*m.2.2=m.2.1*n.2.2:=by
 obtain⟨c,q⟩:=MG m.1 m.2.1 hm;refine⟨canon m.1 m.2.1 m.2.2,c,q,?_,?_⟩
 ·have h:=au Prod.fst q;have k:=zS (a:=(canon m.1 m.2.1 m.2.2).1) (c:=m.1) c.pos hm;have h':aW (canon m.1 m.2.1 m.2.2).1 (canon m.1 m.2.1 m.2.2).2.2=aW m.1 m.2.2:=h;rw[h',zC] at k;have:=uY.1 k.symm;omega
 ·have h:=au Prod.snd q;have k:=zS (a:=(canon m.1 m.2.1 m.2.2).2.1) (c:=m.2.1) c.pos hm;have h':aW (canon m.1 m.2.1 m.2.2).2.1 (canon m.1 m.2.1 m.2.2).2.2=aW m.2.1 m.2.2:=h;rw[h',zC] at k;have:=uY.1 k.symm;omega
theorem MK{n m:N3}(e1:n.1*m.2.2=m.1*n.2.2)(e2:n.2.1*m.2.2=m.2.1*n.2.2)(z:Pt):m.2.2*(rl n z).1=n.2.2*(rl m z).1/\m.2.2*(rl n z).2=n.2.2*(rl m z).2:=by
 unfold rl rel;simp only;constructor
 ·rw[mI,mI,dX m.2.2 n.1,e1];grind
 ·rw[mI,mI,dX m.2.2 n.2.1,e2];grind
theorem IQ{n m:N3}(hn:0<n.2.2)(hm:0<m.2.2)(e1:n.1*m.2.2=m.1*n.2.2)(e2:n.2.1*m.2.2=m.2.1*n.2.2){u v:Pt}(h:on (rl m u) (rl m v)=true):on (rl n u) (rl n v)=true:=by
 obtain⟨h1,h2⟩:=(jt _ _).1 h;obtain⟨a1,a2⟩:=MK e1 e2 u;obtain⟨b1,b2⟩:=MK e1 e2 v;have k1:m.2.2*m.2.2*cr (rl n u) (rl n v)=n.2.2*n.2.2*cr (rl m u) (rl m v):=by
  have:m.2.2*m.2.2*cr (rl n u) (rl n v)=(m.2.2*(rl n u).1)*(m.2.2*(rl n v).2)-(m.2.2*(rl n u).2)*(m.2.2*(rl n v).1):=by unfold cr;grind
  rw[this,a1,a2,b1,b2];unfold cr
  grind
 have k2:m.2.2*m.2.2*dt (rl n u) (rl n v)=n.2.2*n.2.2*dt (rl m u) (rl m v):=by
  have:m.2.2*m.2.2*dt (rl n u) (rl n v)=(m.2.2*(rl n u).1)*(m.2.2*(rl n v).1)+(m.2.2*(rl n u).2)*(m.2.2*(rl n v).2):=by unfold dt;grind
  rw[this,a1,a2,b1,b2];unfold dt
  grind
 have p:=aR hm hm;have q:=aR hn hn;have z1:=dE (z:=cr (rl n u) (rl n v)) p;have z2:=aQ (z:=dt (rl n u) (rl n v)) p;have z3:=aQ (z:=dt (rl m u) (rl m v)) q;rw[h1] at k1;refine(jt _ _).2 ⟨z1.1 (by omega),by omega⟩
theorem af1{f n m:N3}{D:Pt}(hn:0<n.2.2)(hm:0<m.2.2)(e1:n.1*m.2.2=m.1*n.2.2)(e2:n.2.1*m.2.2=m.2.1*n.2.2)(h:Behind f m D):Behind f n D:=by
 have w1:m.2.2*(wv f n).1=n.2.2*(wv f m).1:=by unfold wv;simp only;grind
 have w2:m.2.2*(wv f n).2=n.2.2*(wv f m).2:=by unfold wv;simp only;grind
 have a1:=aQ (z:=(wv f n).1) hm;have a2:=aQ (z:=(wv f m).1) hn;have a3:=dE (z:=(wv f n).1) hm;have a4:=dE (z:=(wv f m).1) hn;have a5:=aQ (z:=(wv f n).2) hm;have a6:=aQ (z:=(wv f m).2) hn;have hc:m.2.2*cr D (wv f n)=n.2.2*cr D (wv f m):=by
  have:m.2.2*cr D (wv f n)=D.1*(m.2.2*(wv f n).2)-D.2*(m.2.2*(wv f n).1):=by unfold cr;grind
  rw[this,w1,w2];unfold cr
  grind
 have a7:=dE (z:=cr D (wv f n)) hm;rcases h with⟨h1,h2,h3⟩|⟨h1,h2,h3,h4⟩
 ·rw[h3] at hc;exact ag ⟨h1,by omega,a7.1 (by omega)⟩
 ·exact ah ⟨h1,h2,by omega,by omega⟩
theorem af2{t n m:N3}{D:Pt}(hn:0<n.2.2)(hm:0<m.2.2)(e1:n.1*m.2.2=m.1*n.2.2)(e2:n.2.1*m.2.2=m.2.1*n.2.2)(h:Behind m t D):Behind n t D:=by
 have w1:m.2.2*(wv n t).1=n.2.2*(wv m t).1:=by unfold wv;simp only;grind
 have w2:m.2.2*(wv n t).2=n.2.2*(wv m t).2:=by unfold wv;simp only;grind
 have a1:=aQ (z:=(wv n t).1) hm;have a2:=aQ (z:=(wv m t).1) hn;have a3:=dE (z:=(wv n t).1) hm;have a4:=dE (z:=(wv m t).1) hn;have a5:=aQ (z:=(wv n t).2) hm;have a6:=aQ (z:=(wv m t).2) hn;have hc:m.2.2*cr D (wv n t)=n.2.2*cr D (wv m t):=by
  have:m.2.2*cr D (wv n t)=D.1*(m.2.2*(wv n t).2)-D.2*(m.2.2*(wv n t).1):=by unfold cr;grind
  rw[this,w1,w2];unfold cr
  grind
 have a7:=dE (z:=cr D (wv n t)) hm;rcases h with⟨h1,h2,h3⟩|⟨h1,h2,h3,h4⟩
 ·rw[h3] at hc;exact ag ⟨h1,by omega,a7.1 (by omega)⟩
 ·exact ah ⟨h1,h2,by omega,by omega⟩
def jY(e:Pt×Pt)(z:Pt):Int:=(e.2.1-e.1.1)*(z.2-e.1.2)-(e.2.2-e.1.2)*(z.1-e.1.1)
theorem af3{f:N3}{D:Pt}{e:Pt×Pt}(hf:0<f.2.2)(hD:D≠(0,0))(hne:e.1≠e.2)(l1:lam D f e.1=0)(l2:lam D f e.2=0):∃k k':Int,k≠0/\k'≠0/\∀z,k*jY e z=k'*lam D f z:=by
 have par:D.1*(e.2.2-e.1.2)=D.2*(e.2.1-e.1.1):=by
  have:f.2.2*(D.1*(e.2.2-e.1.2)-D.2*(e.2.1-e.1.1))=lam D f e.2-lam D f e.1:=by unfold lam cr rl rel;simp only;grind
  rw[l1,l2] at this;have:=(dE hf).1 (show _=0 by rw[this];rfl)
  omega
 have hz:∀z,lam D f z=f.2.2*(D.1*(z.2-e.1.2)-D.2*(z.1-e.1.1)):=fun z=>by
  have:lam D f z-lam D f e.1=f.2.2*(D.1*(z.2-e.1.2)-D.2*(z.1-e.1.1)):=by unfold lam cr rl rel;simp only;grind
  rw[l1] at this;omega
 by_cases h1:D.1=0
 ·have h2:D.2≠0:=fun h2=>hD (bX h1 h2)
  have h3:e.2.1-e.1.1=0:=by
   rw[h1,uW] at par;rcases abl.1 par.symm with h|h
   ·exact absurd h h2
   ·exact h
  have h4:e.2.2-e.1.2≠0:=fun h4=>hne (bX (by omega) (by omega))
  refine⟨D.2*f.2.2,e.2.2-e.1.2,aa4 h2 (by omega),h4,fun z=>?_⟩
  rw[hz z];unfold jY;rw[h1,h3]
  grind
 ·have h4:e.2.1-e.1.1≠0:=fun h4=>by
   rw[h4,y8] at par;rcases abl.1 par with h|h
   ·exact h1 h
   ·exact hne (bX (by omega) (by omega))
  refine⟨D.1*f.2.2,e.2.1-e.1.1,aa4 h1 (by omega),h4,fun z=>?_⟩
  rw[hz z];unfold jY;have:D.1*f.2.2*((e.2.1-e.1.1)*(z.2-e.1.2)-(e.2.2-e.1.2)*(z.1-e.1.1))=f.2.2*((e.2.1-e.1.1)*(D.1*(z.2-e.1.2))-(D.1*(e.2.2-e.1.2))*(z.1-e.1.1)):=by grind
  rw[this,par]
  grind
theorem af4(e0 e:Pt×Pt):cK e e0=jY e0 e.1-jY e0 e.2/\mX e e0=e.2.1*jY e0 e.1-e.1.1*jY e0 e.2/\mY e e0=e.2.2*jY e0 e.1-e.1.2*jY e0 e.2:=by
 unfold mX mY mT cK jY;refine⟨?_,?_,?_⟩<;>grind
theorem cL.VJ{es:List (Pt×Pt)}{l:List Nd}(hN:bC es l){f t:Nd}(h:cL es l f t){u v:Pt}(he:(u,v)∈es\/(v,u)∈es)(h1:lam (wv f t) f u<=0)(h2:0<=lam (wv f t) f v)(h3:lam (wv f t) f u<lam (wv f t) f v):cr (rl f u) (rl f v)<=0\/0<=cr (rl t u) (rl t v):=by
 apply fV;intro hn;obtain⟨hf,ht,hr⟩:=h.facts hN;have cf:=hN.can _ hf;have ct:=hN.can _ ht;have pZ:0<(iX u v (lam (wv f t) f u) (lam (wv f t) f v)).2.2:=by show 0<lam (wv f t) f v-lam (wv f t) f u;omega
 have b1:Behind f (iX u v (lam (wv f t) f u) (lam (wv f t) f v)) (wv f t):=afX hr (k:=cr (rl f u) (rl f v)) (by omega) (VI f (wv f t) u v)
 have b2:Behind (iX u v (lam (wv f t) f u) (lam (wv f t) f v)) t (wv f t):=by
  obtain⟨e1,e2⟩:=afY (xh hr) u v;have kp:0< -(f.2.2*cr (rl t u) (rl t v)):=by
   have:=(neg_mul (z:=cr (rl t u) (rl t v)) cf.pos).2 (by omega)
   omega
  refine kQ hr ?_ ?_
  ·have z:=dE (z:=cr (wv f t) (wv (iX u v (lam (wv f t) f u) (lam (wv f t) f v)) t)) ct.pos;refine z.1 ?_;have:t.2.2*cr (wv f t) (wv (iX u v (lam (wv f t) f u) (lam (wv f t) f v)) t)=(wv f t).1*(t.2.2*(wv (iX u v (lam (wv f t) f u) (lam (wv f t) f v)) t).2)-(wv f t).2*(t.2.2*(wv (iX u v (lam (wv f t) f u) (lam (wv f t) f v)) t).1):=by unfold cr;grind
   rw[this,e1,e2]
   grind
  ·have z:=aQ (z:=dt (wv f t) (wv (iX u v (lam (wv f t) f u) (lam (wv f t) f v)) t)) ct.pos;refine z.1 ?_;have:t.2.2*dt (wv f t) (wv (iX u v (lam (wv f t) f u) (lam (wv f t) f v)) t)=(wv f t).1*(t.2.2*(wv (iX u v (lam (wv f t) f u) (lam (wv f t) f v)) t).1)+(wv f t).2*(t.2.2*(wv (iX u v (lam (wv f t) f u) (lam (wv f t) f v)) t).2):=by unfold dt;grind
   rw[this,e1,e2];have e3:(wv f t).1*(-(f.2.2*cr (rl t u) (rl t v))*(wv f t).1)+(wv f t).2*(-(f.2.2*cr (rl t u) (rl t v))*(wv f t).2)= -(f.2.2*cr (rl t u) (rl t v))*dt (wv f t) (wv f t):=by unfold dt;grind
   rw[e3];exact aR kp (cP (kG hr))
 have o1:=afZ (u:=u) (v:=v) h1 h2;obtain⟨e0,Ar,hn0⟩:=id h;obtain⟨i1,i2⟩:=qK hn0;have o2:=VF cf.pos ct.pos pZ hr (ic.1 i1).2 (ic.1 i2).2 b1 b2;obtain⟨L1,L2⟩:=DV ct.pos hr (ic.1 i1).2 (ic.1 i2).2;obtain⟨k,k',hk,hk',hkk⟩:=af3 cf.pos (kG hr) (hN.ne e0 Ar) L1 L2;obtain⟨n,cn,qn,n1,n2⟩:=af0 pZ;have VK:=IQ cn.pos pZ n1 n2 o1;have on2:=IQ cn.pos pZ n1 n2 o2;have pr:jY e0 v*lam (wv f t) f u=jY e0 u*lam (wv f t) f v:=by
  have a:=hkk u;have b:=hkk v;have:k*(jY e0 v*lam (wv f t) f u)=k*(jY e0 u*lam (wv f t) f v):=by
   calc k*(jY e0 v*lam (wv f t) f u)=k*jY e0 v*lam (wv f t) f u:=by grind
    _=k'*lam (wv f t) f v*lam (wv f t) f u:=by rw[b]
    _=k'*lam (wv f t) f u*lam (wv f t) f v:=by grind
    _=k*jY e0 u*lam (wv f t) f v:=by rw[a]
    _=k*(jY e0 u*lam (wv f t) f v):=by grind
  exact yZ hk this
 have dK:jY e0 u≠jY e0 v:=fun he=>by
  have a:=hkk u;have b:=hkk v;rw[he,b] at a;have:=yZ hk' a;omega
 have Au:∀e:Pt×Pt,e∈es->(e=(u,v)\/e=(v,u))->isNode es (ax n):=fun e hee heq=>by
  obtain⟨c1,c2,c3⟩:=af4 e0 e;have hc:cK e e0≠0:=by
   rw[c1];rcases heq with h|h<;>rw[h]<;>simp only<;>omega
  have hq:ax n=fw e e0:=by
   rw[qn];unfold fw;refine bX ?_ ?_
   ·refine zE (by omega) hc ?_
    rw[c1,c2];unfold iX;simp only;rcases heq with h|h<;>rw[h]<;>simp only<;>grind
   ·refine zE (by omega) hc ?_
    rw[c1,c3];unfold iX;simp only;rcases heq with h|h<;>rw[h]<;>simp only<;>grind
  refine ah ⟨e,hee,e0,Ar,hc,hq,?_,?_⟩
  ·rw[<-hq,zW cn];rcases heq with h|h<;>rw[h]
   ·exact VK
   ·show on (rl n v) (rl n u)=true;rw[vk];exact VK
  ·rw[<-hq,zW cn];exact on2
 have hin:isNode es (ax n):=by
  rcases he with he|he
  ·exact Au _ he (ag rfl)
  ·exact Au _ he (ah rfl)
 exact h.gap hN (hN.mem cn hin) ⟨af1 cn.pos pZ n1 n2 b1,af2 cn.pos pZ n1 n2 b2⟩
theorem cL.kK{es:List (Pt×Pt)}{l:List Nd}(hN:bC es l){f t:Nd}(h:cL es l f t):rF es f t:=by
 obtain⟨hf,ht,hr⟩:=h.facts hN;refine⟨(hN.can _ hf).pos,(hN.can _ ht).pos,hr,fun e he=>⟨fun a b c=>h.VJ hN (ag he) a b c,fun a b c=>?_⟩,fun e he=>⟨h.VH hN (hN.Aq he).1,h.VH hN (hN.Aq he).2⟩⟩
 have:=h.VJ hN (u:=e.2) (v:=e.1) (ah he) a b c;rw[bT (rl f e.1) (rl f e.2),bT (rl t e.1) (rl t e.2)] at this;omega
theorem Av(z w:Pt):ai z w=ai w z:=by
 unfold ai;rw[bT z w,iR];congr 1;exact decide_eq_decide.2 (by omega)
theorem yi{d d':Pt}(h:ai d d'=true):aJ d↔aJ d':=by
 obtain⟨h1,h2⟩:=(bA _ _).1 h;have hd:=cP (tS (D:=d') (r:=d) (by rw[iR];omega))
 have e1:d'.1*dt d d=d.1*dt d d':=by unfold cr at h1;unfold dt;grind
 have e2:d'.2*dt d d=d.2*dt d d':=by unfold cr at h1;unfold dt;grind
 have a1:=aQ (z:=d'.1) hd;have a2:=aQ (z:=d.1) h2;have a3:=dE (z:=d'.1) hd;have a4:=dE (z:=d.1) h2;have a5:=aQ (z:=d'.2) hd;have a6:=aQ (z:=d.2) h2;rw[dX] at a1 a2 a3 a4 a5 a6;unfold aJ;omega
theorem oQ{d d':Pt}(h:ai d d'=true)(z:Pt):(0<cr z d↔0<cr z d')/\(cr z d=0↔cr z d'=0):=by
 obtain⟨h1,h2⟩:=(bA _ _).1 h;have hd:=cP (tS (D:=d') (r:=d) (by rw[iR];omega))
 have e:=pG (D:=z) h1;have a1:=aQ (z:=cr z d') hd;have a2:=aQ (z:=cr z d) h2;have a3:=dE (z:=cr z d') hd;have a4:=dE (z:=cr z d) h2;rw[dX] at a1 a2 a3 a4;omega
theorem vX{d d':Pt}(h:ai d d'=true):d≠(0,0)/\d'≠(0,0):=by
 obtain⟨_,h2⟩:=(bA _ _).1 h;exact⟨tS (D:=d') (by rw[iR];omega),tS (D:=d) (by omega)⟩
theorem IU{d d':Pt}(h:ai d d'=true)(z:Pt):ak z d=ak z d':=by
 have h1:=yi h;have h2:=(oQ h z).1;have a:=kI (z:=z) (w:=d);have b:=kI (z:=z) (w:=d');rw[<-h1,<-h2] at b;exact lg.2 (a.trans b.symm)
theorem IW{d d':Pt}(h:ai d d'=true)(z:Pt):ak d z=ak d' z:=by
 have h1:=yi h;have h2:=oQ h z;have a:=kI (z:=d) (w:=z);have b:=kI (z:=d') (w:=z);rw[bT z d] at a;rw[bT z d',<-h1] at b;have h5:(0< -cr z d)↔(0< -cr z d'):=by omega
 rw[<-h5] at b;exact lg.2 (a.trans b.symm)
theorem ML{x y z:Pt}(h1:ai x y=true)(h2:ai y z=true):ai x z=true:=by
 obtain⟨a1,a2⟩:=(bA _ _).1 h1;obtain⟨b1,b2⟩:=(bA _ _).1 h2;have hy:=cP (vX h1).2;refine(bA _ _).2 ⟨((oQ h2 x).2).1 a1,?_⟩;have e2:dt x z*dt y y=dt x y*dt y z+cr y x*cr y z:=by unfold dt cr;grind
 rw[b1] at e2;have:=aR a2 b2;have q:=aQ (z:=dt x z) hy;rw[dX] at q;exact q.1 (by omega)
theorem IX{d d':Pt}(h:ai d d'=true)(z:Pt):ai z d=ai z d':=by
 cases h1:ai z d<;>cases h2:ai z d'
 ·rfl
 ·rw[ML h2 (by rw[Av];exact h)] at h1;cases h1
 ·rw[ML h1 h] at h2;cases h2
 ·rfl
theorem DZ{es:List (Pt×Pt)}{n:N3}{d d':Pt}(h:ai d d'=true):bg es n d=bg es n d'/\bH es n d=bH es n d':=by
 have e1:AS es n (fun z=>nz z&&ak z d)=AS es n (fun z=>nz z&&ak z d'):=F9 fun e _ _=>by simp only[IU h];exact⟨trivial,trivial⟩
 have e2:AS es n (fun z=>ai z d)=AS es n (fun z=>ai z d'):=F9 fun e _ _=>by simp only[IX h];exact⟨trivial,trivial⟩
 unfold bH bg;rw[e1,e2];exact⟨rfl,rfl⟩
theorem dU(a b:N3):wv b a=neg (wv a b):=by unfold wv neg;exact bX (by simp only;omega) (by simp only;omega)
theorem D3{z:Pt}(h1:aJ z)(h2:aJ (neg z)):False:=by
 unfold aJ neg at*;simp only at h2;omega
theorem af7{es:List (Pt×Pt)}{l:List Nd}(hN:bC es l){n:Nd}(hn:n∈l){z:Pt}(hz:z∈arms es n):∃m,m∈l/\(cL es l n m\/cL es l m n)/\ai (wv n m) z=true:=by
 obtain⟨fh,e,he,ho,om⟩:=jG.1 hz;have cn:=hN.can n hn;obtain⟨p,hp,hpl,lH⟩:∃p:Pt,on (rl (p.1,p.2,1) e.1) (rl (p.1,p.2,1) e.2)=true/\(p.1,p.2,1)∈l/\z=rl n p:=by
  have h0:∀p:Pt,rl (p.1,p.2,1) p=(0,0):=fun p=>by unfold rl rel;exact bX (by simp only;omega) (by simp only;omega)
  rcases om with h|h
  ·exact⟨e.1,lj _ _ (ag (h0 _)),(hN.Aq he).1,h⟩
  ·exact⟨e.2,lj _ _ (ah (h0 _)),(hN.Aq he).2,h⟩
 have cp:=hN.can _ hpl;have hwz:wv n (p.1,p.2,1)=z:=by rw[DY,lH]
 have i1:n∈held e l:=ic.2 ⟨hn,ho⟩;have i2:(p.1,p.2,1)∈held e l:=ic.2 ⟨hpl,hp⟩;have hc:∀m∈held e l,Ge.Can m:=fun m hm=>hN.can m (ic.1 hm).1
 by_cases hr:aJ z
 ·have hlt:lt (ax n) (ax (p.1,p.2,1)):=(mU cn cp).2 (by rw[hwz];exact hr)
  obtain⟨t,ht⟩:=VB (hN.DU e) hc i1 i2 hlt;have hpc:cL es l n t:=⟨e,he,ht⟩;obtain⟨_,htl,hrt⟩:=hpc.facts hN;refine⟨t,htl,ag hpc,(bA _ _).2 ?_⟩;have hL:=DV (hN.can t htl).pos hrt ho (ic.1 (qK ht).2).2;have hcr:cr (wv n t) z=0:=by
   rcases om with h|h
   ·rw[h];exact hL.1
   ·rw[h];exact hL.2
  exact⟨hcr,ko hrt hr hcr⟩
 ·have hr':=fM fh hr;have hlt:lt (ax (p.1,p.2,1)) (ax n):=(mU cp cn).2 (by rw[dU,hwz];exact hr')
  obtain⟨f,hf⟩:=VC (hN.DU e) hc i1 i2 hlt;have hpc:cL es l f n:=⟨e,he,hf⟩;obtain⟨hfl,_,hrf⟩:=hpc.facts hN;have hL:=DV cn.pos hrf (ic.1 (qK hf).1).2 ho;have hL1:=(qp (hN.can f hfl).pos cn.pos hrf e.1).2 hL.1;have hL2:=(qp (hN.can f hfl).pos cn.pos hrf e.2).2 hL.2;have hcr:cr (wv f n) z=0:=by
   rcases om with h|h
   ·rw[h];exact hL1
   ·rw[h];exact hL2
  refine⟨f,hfl,ah hpc,(bA _ _).2 ?_⟩;have hd:=ko hrf hr' (by rw[dP];omega)
  rw[ju] at hd;rw[dU f n,dI,lh];omega
def Sd(es:List (Pt×Pt))(l:List Nd)(inn:Int->Bool)(a b:Nd):Prop:=
 (cL es l a b/\inn (LL es a b)=true/\inn (RR es a b)=false)\/(cL es l b a/\inn (RR es b a)=true/\inn (LL es b a)=false)
theorem Sd.pc{es:List (Pt×Pt)}{l:List Nd}{inn:Int->Bool}{a b:Nd}(h:Sd es l inn a b):cL es l a b\/cL es l b a:=by
 rcases h with h|h
 ·exact ag h.1
 ·exact ah h.1
theorem eF{es:List (Pt×Pt)}{l:List Nd}(hN:bC es l){a b:Nd}(h:cL es l a b\/cL es l b a):wv a b≠(0,0)/\a∈l/\b∈l:=by
 rcases h with h|h
 ·obtain⟨h1,h2,h3⟩:=h.facts hN;exact⟨kG h3,h1,h2⟩
 ·obtain⟨h1,h2,h3⟩:=h.facts hN;exact⟨by rw[dU b a];exact jc (kG h3),h2,h1⟩
theorem Sd.leave{rg:List (List Pt)}{l:List Nd}(hN:bC (ae rg) l){inn:Int->Bool}{a b:Nd}(h:Sd (ae rg) l inn a b):inn (bg (ae rg) a (wv a b))=false/\inn (bH (ae rg) a (wv a b))=true:=by
 rcases h with⟨h,h1,h2⟩|⟨h,h1,h2⟩
 ·obtain⟨k1,k2⟩:=rG (h.kK hN);rw[k1] at h2;rw[k2] at h1;exact⟨h2,h1⟩
 ·obtain⟨k1,k2⟩:=zi (h.kK hN);rw[k1,<-dU] at h1;rw[k2,<-dU] at h2;exact⟨h2,h1⟩
theorem Sd.yj{rg:List (List Pt)}{l:List Nd}(hN:bC (ae rg) l){inn:Int->Bool}{a b:Nd}(h:Sd (ae rg) l inn a b):inn (bg (ae rg) b (wv b a))=true/\inn (bH (ae rg) b (wv b a))=false:=by
 rcases h with⟨h,h1,h2⟩|⟨h,h1,h2⟩
 ·obtain⟨k1,k2⟩:=zi (h.kK hN);rw[k1,<-dU] at h2;rw[k2,<-dU] at h1;exact⟨h1,h2⟩
 ·obtain⟨k1,k2⟩:=rG (h.kK hN);rw[k1] at h1;rw[k2] at h2;exact⟨h1,h2⟩
theorem Sd.of{rg:List (List Pt)}{l:List Nd}(hN:bC (ae rg) l){inn:Int->Bool}{a b:Nd}(h:cL (ae rg) l a b\/cL (ae rg) l b a)(h1:inn (bg (ae rg) a (wv a b))=false)(h2:inn (bH (ae rg) a (wv a b))=true):Sd (ae rg) l inn a b:=by
 rcases h with h|h
 ·obtain⟨k1,k2⟩:=rG (h.kK hN);exact ag ⟨h,by rw[k2];exact h2,by rw[k1];exact h1⟩
 ·obtain⟨k1,k2⟩:=zi (h.kK hN);rw[<-dU] at k1 k2;exact ah ⟨h,by rw[k1];exact h2,by rw[k2];exact h1⟩
theorem D4{rg:List (List Pt)}{l:List Nd}(hN:bC (ae rg) l){inn:Int->Bool}{n:Nd}(hn:n∈l){z:Pt}(hz:xk (ae rg) n inn z):∃m,Sd (ae rg) l inn n m/\ai (wv n m) z=true:=by
 obtain⟨m,hm,hp,hs⟩:=af7 hN hn hz.mem;obtain⟨e1,e2⟩:=DZ (es:=ae rg) (n:=n) hs;exact⟨m,Sd.of hN hp (by rw[e1];exact hz.out) (by rw[e2];exact hz.inn),hs⟩
theorem Sd.next{rg:List (List Pt)}{l:List Nd}(hN:bC (ae rg) l){inn:Int->Bool}{a b:Nd}(h:Sd (ae rg) l inn a b):∃c,Sd (ae rg) l inn b c:=by
 obtain⟨h1,h2⟩:=h.yj hN;obtain⟨hne,_,hb⟩:=eF hN h.pc;obtain⟨z,hz⟩:=abT (by rw[dU a b];exact jc hne) h1 h2
 obtain⟨c,hc,_⟩:=D4 hN hb hz;exact⟨c,hc⟩
theorem Sd.pS{rg:List (List Pt)}{l:List Nd}(hN:bC (ae rg) l){inn:Int->Bool}{a b c:Nd}(h:Sd (ae rg) l inn a b)(h':Sd (ae rg) l inn b c):ai (wv b c) (wv b a)=false:=by
 cases hs:ai (wv b c) (wv b a)
 ·rfl
 ·obtain⟨e1,_⟩:=DZ (es:=ae rg) (n:=b) hs;have k1:=(h.yj hN).1;have k2:=(h'.leave hN).1;rw[e1,k1] at k2;cases k2
theorem vY{es:List (Pt×Pt)}{l:List Nd}(hN:bC es l){n t t':Nd}(h:cL es l n t\/cL es l t n)(h':cL es l n t'\/cL es l t' n)(hs:ai (wv n t) (wv n t')=true):t=t':=by
 have dO:∀{x y:Nd},x∈l->y∈l->x=y\/lt (ax x) (ax y)\/lt (ax y) (ax x):=fun{x y} hx hy=>by
  have cx:=hN.can x hx;have cy:=hN.can y hy;unfold lt;rcases eK (pc (ax x) (ax y)) 0 with h|h|h
  ·exact ah (ag h)
  ·exact ag (um cx cy h)
  ·exact ah (ah (by rw[He];omega))
 have mv:∀x y:Nd,(∀i:Int,i=i)->n.2.2*(wv x y).1=x.2.2*(wv n y).1-y.2.2*(wv n x).1/\n.2.2*(wv x y).2=x.2.2*(wv n y).2-y.2.2*(wv n x).2:=fun x y _=>by
  unfold wv;constructor<;>(simp only;grind)
 obtain⟨_,hn,ht⟩:=eF hN h;obtain⟨_,_,ht'⟩:=eF hN h';have cn:=hN.can n hn;have key:∀{x y:Nd},x∈l->y∈l->cL es l n y->ai (wv n x) (wv n y)=true->lt (ax x) (ax y)->False:=fun{x y} hx hy hpc hsm hl=>by
  obtain⟨_,_,hr⟩:=hpc.facts hN;obtain⟨s1,s2⟩:=(bA _ _).1 hsm;have MM:=(mU (hN.can x hx) (hN.can y hy)).1 hl;have c1:cr (wv n y) (wv n x)=0:=by rw[bT];omega
  have c2:cr (wv n y) (wv x y)=0:=by
   obtain⟨m1,m2⟩:=mv x y (fun _=>rfl)
   have:n.2.2*cr (wv n y) (wv x y)=(wv n y).1*(n.2.2*(wv x y).2)-(wv n y).2*(n.2.2*(wv x y).1):=by unfold cr;grind
   rw[m1,m2] at this;refine(dE cn.pos).1 (this.trans ?_);unfold cr at c1
   grind
  exact hpc.gap hN hx ⟨kQ hr c1 (by rw[iR];exact s2),kQ hr c2 (ko hr MM c2)⟩
 have key':∀{x y:Nd},x∈l->y∈l->cL es l y n->ai (wv n x) (wv n y)=true->lt (ax y) (ax x)->False:=fun{x y} hx hy hpc hsm hl=>by
  obtain⟨_,_,hr⟩:=hpc.facts hN;obtain⟨s1,s2⟩:=(bA _ _).1 hsm;have MM:=(mU (hN.can y hy) (hN.can x hx)).1 hl;have e1:wv y n=neg (wv n y):=dU n y;have e2:wv x n=neg (wv n x):=dU n x;have c1:cr (wv y n) (wv x n)=0:=by rw[e1,e2,dI,dP,bT (wv n x)];omega
  have c2:cr (wv y n) (wv y x)=0:=by
   obtain⟨m1,m2⟩:=mv y x (fun _=>rfl)
   have:n.2.2*cr (wv n y) (wv y x)=(wv n y).1*(n.2.2*(wv y x).2)-(wv n y).2*(n.2.2*(wv y x).1):=by unfold cr;grind
   rw[m1,m2] at this;have k:cr (wv n y) (wv y x)=0:=by
    refine(dE cn.pos).1 (this.trans ?_);have c3:cr (wv n y) (wv n x)=0:=by rw[bT];omega
    unfold cr at c3
    grind
   rw[e1,dI];omega
  exact hpc.gap hN hx ⟨kQ hr c2 (ko hr MM c2),kQ hr c1 (by rw[e1,e2,lh,ju,iR];omega)⟩
 have hs':ai (wv n t') (wv n t)=true:=by rw[Av];exact hs
 have pQ:=yi hs;rcases h with h|h<;>rcases h' with h'|h'
 ·rcases dO ht ht' with k|k|k
  ·exact k
  ·exact(key ht ht' h' hs k).elim
  ·exact(key ht' ht h hs' k).elim
 ·exfalso;have r1:=(h.facts hN).2.2;have r2:=(h'.facts hN).2.2;rw[dU n t'] at r2;exact D3 (pQ.1 r1) r2
 ·exfalso;have r1:=(h.facts hN).2.2;have r2:=(h'.facts hN).2.2;rw[dU n t] at r1;exact D3 (pQ.2 r2) r1
 ·rcases dO ht ht' with k|k|k
  ·exact k
  ·exact(key' ht' ht h hs' k).elim
  ·exact(key' ht ht' h' hs k).elim
theorem IY{a l l' k:Pt}(h:ai l k=true):cw a l l'=cw a k l':=by
 unfold cw;rw[IW h,IU h,IU h]
theorem af9{rg:List (List Pt)}{l:List Nd}(hN:bC (ae rg) l){inn:Int->Bool}{a a' b c:Nd}(h:Sd (ae rg) l inn a b)(h':Sd (ae rg) l inn a' b)(hc:Sd (ae rg) l inn b c)
  (hm:∀c',Sd (ae rg) l inn b c'->¬tC (wv a b) (wv b c') (wv b c)<0)(hm':∀c',Sd (ae rg) l inn b c'->¬tC (wv a' b) (wv b c') (wv b c)<0):a=a':=by
 obtain⟨n1,_,hb⟩:=eF hN h.pc;obtain⟨n2,_,_⟩:=eF hN h'.pc;obtain⟨n3,_,_⟩:=eF hN hc.pc;have m1:wv b a≠(0,0):=by rw[dU a b];exact jc n1
 have m2:wv b a'≠(0,0):=by rw[dU a' b];exact jc n2
 cases hs:ai (wv b a) (wv b a')
 ·exfalso;obtain⟨h1,h2⟩:=h.yj hN;obtain⟨h1',h2'⟩:=h'.yj hN;obtain⟨z,hz,lD⟩:=QY m1 m2 hs h1 h2 h1' h2' n3 (h.pS hN hc) (h'.pS hN hc);obtain⟨c',hc',hsm⟩:=D4 hN hb hz;obtain⟨n4,_,_⟩:=eF hN hc'.pc;rcases lD with k|k
  ·rw[<-IY hsm] at k;have:=(Cc m1 n4 n3 (h.pS hN hc') (h.pS hN hc)).2 k;rw[<-dU] at this;exact hm c' hc' this
  ·rw[<-IY hsm] at k;have:=(Cc m2 n4 n3 (h'.pS hN hc') (h'.pS hN hc)).2 k;rw[<-dU] at this;exact hm' c' hc' this
 ·exact vY hN h.pc.symm h'.pc.symm hs
theorem Sd.straight{rg:List (List Pt)}{l:List Nd}(hN:bC (ae rg) l){inn:Int->Bool}{a b c:Nd}(h:Sd (ae rg) l inn a b)(h':Sd (ae rg) l inn b c)(hc:cr (wv a b) (wv b c)=0):ai (wv a b) (wv b c)=true:=by
 refine(bA _ _).2 ⟨hc,?_⟩;have hb:=h.pS hN h';obtain⟨n1,_,_⟩:=eF hN h.pc;obtain⟨n3,_,_⟩:=eF hN h'.pc;have hd:=K4 hb (by rw[dU a b,dP,bT (wv a b)];omega)
 rw[dU a b,ju,iR] at hd;have hne:dt (wv a b) (wv b c)≠0:=fun h0=>by
  have e:dt (wv a b) (wv b c)*dt (wv a b) (wv b c)+cr (wv a b) (wv b c)*cr (wv a b) (wv b c)=dt (wv a b) (wv a b)*dt (wv b c) (wv b c):=by unfold dt cr;grind
  have:=aR (cP n1) (cP n3);rw[h0,hc] at e;omega
 omega
end Go.Proofs.YtkjhhooecopolaaGreatDoor.Ga
