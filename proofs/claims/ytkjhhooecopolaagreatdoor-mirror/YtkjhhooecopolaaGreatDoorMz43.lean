import Derived.Test.YtkjhhooecopolaaGreatDoorMz42
set_option maxRecDepth 100000
set_option maxHeartbeats 4000000
namespace Go.Proofs.YtkjhhooecopolaaGreatDoor.Gb
open Ge Ga
theorem pick{α β γ:Type}{P:α->β->Prop}{φ:α->List γ}{ψ:β->List γ}:∀(Ds:List α),(∀D∈Ds,∃R,P D R/\(ψ R).Perm (φ D))->∃Z:List (α×β),Z.map Prod.fst=Ds/\(∀z∈Z,P z.1 z.2)/\(Z.map fun z=>ψ z.2).flatten.Perm (Ds.map φ).flatten
 |[],_=>⟨[],rfl,by simp,by simp⟩
 |D::Ds,h=>by
  obtain⟨Z,e,h1,h2⟩:=pick Ds fun D' hD'=>h D' (bn _ hD')
  obtain⟨R,hR,hp⟩:=h D (by simp)
  refine⟨(D,R)::Z,by simp[e],fun z hz=>?_,?_⟩
  ·rcases aQ.1 hz with q|q
   ·rw[q];exact hR
   ·exact h1 z q
  ·simp only[gK,BO];exact hp.append h2
section
variable{rg:List (List Pt)}{l:List Nd}{r:Int}{Xs:List PB}
theorem Fs{nx:Nat->Nat}{mk:Nat->Bool}{n k:Nat}{L:List Nat}(hc:oF nx mk n k L):(∀t,t+1<L.length->L.getD (t+1) 0=nx (L.getD t 0))/\L.getD 0 0=k/\nx (L.getD (L.length-1) 0)=k/\0<L.length:=by
 have h0:=bT.1 hc.head;refine⟨fun t ht=>?_,?_,?_,h0.1⟩
 ·have a:L[t]?=some L[t]:=ay (by omega)
  have b:L[t+1]?=some L[t+1]:=ay ht;rw[lQ,lQ,a,b];exact hc.step t _ _ a b
 ·rw[lQ,hc.head];rfl
 ·obtain⟨hp,_⟩:=h0;have hp1:L.length-1<L.length:=by omega
  have a:L[L.length-1]?=some L[L.length-1]:=ay hp1;rw[lQ,a];exact hc.back _ (by rw[pN];exact a)
theorem SX.it(h:SX rg l r Xs){mk:Nat->Bool}{k:Nat}{L:List Nat}(hc:oF (cd Xs) mk Xs.length k L):∀t,t<L.length->Gb.it (jT (af l) Xs) t (pi l Xs k)=pi l Xs (L.getD t 0)
 |0,_=>by rw[(Fs hc).2.1];rfl
 |t+1,ht=>by
  have ih:=SX.it h hc t (by omega)
  show jT (af l) Xs (Gb.it (jT (af l) Xs) t (pi l Xs k))=_;rw[ih,(Fs hc).1 t ht];refine yN h (hc.free _ ?_).1;rw[lQ,ay (by omega)]
  exact ie _
theorem vw{L:List Nat}{t:Nat}(ht:t<L.length):L.getD t 0∈L:=by
 rw[lQ,ay ht];exact ie _
theorem SX.cir(h:SX rg l r Xs){mk:Nat->Bool}{k:Nat}{L:List Nat}(hc:oF (cd Xs) mk Xs.length k L):Cv (jT (af l) Xs) (pi l Xs k) L.length:=by
 obtain⟨_,_,g3,g4⟩:=Fs hc;refine⟨g4,?_,fun i j hi hj e=>?_⟩
 ·have e:L.length=(L.length-1)+1:=by omega
  rw[e];show jT (af l) Xs (Gb.it (jT (af l) Xs) (L.length-1) (pi l Xs k))=_;rw[SX.it h hc _ (by omega),yN h (hc.free _ (vw (by omega))).1,g3]
 ·rw[SX.it h hc i hi,SX.it h hc j hj] at e;have:=SX.Ex h (hc.free _ (vw hi)).1 (hc.free _ (vw hj)).1 e;rw[lQ,lQ,ay hi,ay hj] at this;exact(List.getElem_inj hc.nd).1 this
theorem aak(L:List Nat):(List.range L.length).map (fun t=>L.getD t 0)=L:=by
 refine xx (by simp) fun i h1 h2=>?_
 simp[List.getD_eq_getElem?_getD,h2]
theorem SX.rings(h:SX rg l r Xs)(hB:BD Xs){mk:Nat->Bool}{k:Nat}{L:List Nat}(hc:oF (cd Xs) mk Xs.length k L):∃Z:List (List Nat×List Sg),Z.map Prod.fst=bf Xs L/\(∀z∈Z,Rel l Xs z.1 z.2)/\(Z.map Prod.snd).flatten.Perm (L.map (pi l Xs)):=by
 have hW:=SX.wd h hB;have hC:=SX.cir h hc;obtain⟨_,g2,_,g4⟩:=Fs hc;have hk:k<Xs.length:=by rw[<-g2];exact(hc.free _ (vw g4)).1
 have vv:pi l Xs k∈sS (af l) Xs:=Ey _ hk;have hlt:∀t,t<L.length->L.getD t 0<Xs.length:=fun t ht=>(hc.free _ (vw ht)).1
 obtain⟨_,hperm,alx⟩:=parted (f:=fun i=>(Gb.it (jT (af l) Xs) i (pi l Xs k)).1) (m:=L.length) (hW.nc vv hC) (fun j hj e=>by
   rw[hW.uh vv] at e;exact hW.ne _ (hW.nO vv j) e) (by show(Gb.it (jT (af l) Xs) L.length (pi l Xs k)).1=_;rw[hC.per];rfl)
  (fun i=>nG (fun i j=>kQ Xs (L.getD i 0) (L.getD j 0)) (List.range i)) rfl (fun i hi=>by
   show xH _ i _ (nG _ (List.range (i+1)));rw[FP,aac];refine alo _ i _ fun o ho=>?_
   have hoL:o<L.length:=by
    rcases bW.1 ho with q|q
    ·have:=aad _ i o q;omega
    ·have:=bJ.1 q;omega
   show kQ Xs (L.getD i 0) (L.getD o 0)=true↔(Gb.it (jT (af l) Xs) o (pi l Xs k)).1=(Gb.it (jT (af l) Xs) (i+1) (pi l Xs k)).1;rw[hW.uh vv,SX.it h hc i hi,SX.it h hc o hoL];unfold kQ;rw[decide_eq_true_iff];constructor
   ·intro e;exact congrArg (PM (af l)) e.symm
   ·intro e;exact(tF h.nl (SX.pK h (hlt o hoL)).1 (SX.pK h (hlt i hi)).2 e).symm)
 have hE:bf Xs L=((nG (fun i j=>kQ Xs (L.getD i 0) (L.getD j 0)) (List.range L.length)).2.map fun D=>D.map fun t=>L.getD t 0).map (cN Xs):=by
  rw[alj];have:=alm (kQ Xs) (fun t=>L.getD t 0) (List.range L.length)
  rw[aak] at this;rw[this]
 generalize(nG (fun i j=>kQ Xs (L.getD i 0) (L.getD j 0)) (List.range L.length)).2=Ds at*
 obtain⟨Z,e1,e2,e3⟩:=pick (P:=fun D R=>Rel l Xs (cN Xs (D.map fun t=>L.getD t 0)) R) (φ:=fun D=>(D.map fun t=>L.getD t 0).map (pi l Xs)) (ψ:=fun R=>R) Ds fun D hD=>by
  obtain⟨d,hd⟩:=alx D hD;refine SX.rel h hB (fun a ha=>?_) ?_
  ·obtain⟨t,ht,rfl⟩:=aX.1 ha;exact hlt t (hd.lt t ht)
  ·have:=hd.ring hW vv hC;have e:(D.map fun t=>L.getD t 0).map (pi l Xs)=D.map fun t=>Gb.it (jT (af l) Xs) t (pi l Xs k):=by
    rw[ke];exact KG fun t ht=>(SX.it h hc t (hd.lt t ht)).symm
   rw[e];exact this
 refine⟨Z.map fun z=>(cN Xs (z.1.map fun t=>L.getD t 0),z.2),?_,fun z hz=>?_,?_⟩
 ·rw[hE,ke,ke,<-e1,ke];rfl
 ·obtain⟨y,hy,rfl⟩:=aX.1 hz;exact e2 y hy
 ·rw[ke];refine e3.trans ?_;have e4:(Ds.map fun D=>(D.map fun t=>L.getD t 0).map (pi l Xs)).flatten=Ds.flatten.map fun t=>pi l Xs (L.getD t 0):=by
   rw[List.map_flatten];congr 1;refine KG fun D _=>?_
   rw[ke];rfl
  rw[e4];refine(hperm.map _).trans ?_;have e5:(List.range L.length).map (fun t=>pi l Xs (L.getD t 0))=L.map (pi l Xs):=by
   have:=congrArg (List.map (pi l Xs)) (aak L);rw[ke] at this;exact this
  rw[e5]
theorem JR{M:Int}(hM:0<M){a b:Nd}(ha:OK M a)(hb:OK M b):a.2.2*b.2.2*(dr (PM M a,PM M b)).1=M*(wv a b).1/\a.2.2*b.2.2*(dr (PM M a,PM M b)).2=M*(wv a b).2:=by
 obtain⟨k,hk,e,e1⟩:=El hM ha.p ha.d;obtain⟨j,hj,f,f1⟩:=El hM hb.p hb.d;rw[e1,f1];constructor
 ·show a.2.2*b.2.2*(b.1*j-a.1*k)=M*(a.2.2*b.1-b.2.2*a.1);have:a.2.2*b.2.2*(b.1*j-a.1*k)=a.2.2*b.1*(b.2.2*j)-b.2.2*a.1*(a.2.2*k):=by grind
  rw[this,e,f]
  grind
 ·show a.2.2*b.2.2*(b.2.1*j-a.2.1*k)=M*(a.2.2*b.2.1-b.2.2*a.2.1);have:a.2.2*b.2.2*(b.2.1*j-a.2.1*k)=a.2.2*b.2.1*(b.2.2*j)-b.2.2*a.2.1*(a.2.2*k):=by grind
  rw[this,e,f]
  grind
theorem JS{n a b:Pt}:gH (n1 n) a b↔(dr (n,a)).1<=0/\0<(dr (n,b)).1:=by unfold gH;rw[dV,dV]
theorem JT{n a b:Pt}(h:gH (n1 n) a b):kW (n1 n) (a,b)=(dr (a,b)).1/\kY (n1 n) (a,b)= -cr (dr (a,b)) (dr (a,n))/\kS (n1 n) (a,b)=(dr (a,b)).2:=by
 obtain⟨x,y,z,_⟩:=Bk h;rw[x,y,z,dV,dV];refine⟨by unfold dr;simp only;omega,?_,by unfold dr;simp only;omega⟩
 unfold cr dr;simp only;grind
theorem SX.fS(h:SX rg l r Xs){n:Nd}(hn:n∈l){i:Nat}(hi:i<Xs.length):js Xs n i=true↔Gb.gH (n1 (PM (af l) n)) (pi l Xs i).1 (pi l Xs i).2/\kY (n1 (PM (af l) n)) (pi l Xs i)<0:=by
 obtain⟨hM,hO⟩:=bQ.ok h.nl;obtain⟨hf,ht⟩:=SX.pK h hi;have p1:=jo hM (hO n hn) (hO _ hf);have p2:=jo hM (hO n hn) (hO _ ht);have p3:=jo hM (hO _ hf) (hO _ ht);have p4:=jo hM (hO _ hf) (hO n hn);have c:=(p3.cr p4).1;obtain⟨p,q,hp,hq,e1,_⟩:=p1;obtain⟨p',q',hp',hq',e2,_⟩:=p2;have g1:=jS hp hq e1;have g2:=jS hp' hq' e2;have w1:n.1*(xi Xs i).f.2.2<(xi Xs i).f.1*n.2.2↔0<(wv n (xi Xs i).f).1:=by
  unfold wv;simp only;rw[dX n.2.2,dX (xi Xs i).f.2.2];omega
 have w2:n.1*(xi Xs i).t.2.2<(xi Xs i).t.1*n.2.2↔0<(wv n (xi Xs i).t).1:=by
  unfold wv;simp only;rw[dX n.2.2,dX (xi Xs i).t.2.2];omega
 unfold js;rw[qq,qq,KJ,decide_eq_false_iff_not,decide_eq_true_iff,decide_eq_true_iff,w1,w2];constructor
 ·rintro⟨⟨k1,k2⟩,k3⟩;have hcr:Gb.gH (n1 (PM (af l) n)) (pi l Xs i).1 (pi l Xs i).2:=JS.2 ⟨by show(dr (PM (af l) n,PM (af l) (xi Xs i).f)).1<=0;omega,g2.1.2 k2⟩
  refine⟨hcr,?_⟩;have:=(JT hcr).2.1;show kY (n1 (PM (af l) n)) ((pi l Xs i).1,(pi l Xs i).2)<0;rw[this];have:=c.2 k3;show -cr (dr (PM (af l) (xi Xs i).f,PM (af l) (xi Xs i).t)) (dr (PM (af l) (xi Xs i).f,PM (af l) n))<0;omega
 ·rintro⟨hcr,hk⟩;have k1:=(JS.1 hcr).1;have k2:=(JS.1 hcr).2;have:=(JT hcr).2.1;have hk':kY (n1 (PM (af l) n)) ((pi l Xs i).1,(pi l Xs i).2)<0:=hk;rw[this] at hk';have hk2: -cr (dr (PM (af l) (xi Xs i).f,PM (af l) (xi Xs i).t)) (dr (PM (af l) (xi Xs i).f,PM (af l) n))<0:=hk';have xa:(dr (PM (af l) n,PM (af l) (xi Xs i).f)).1<=0:=k1;have xd:0<(dr (PM (af l) n,PM (af l) (xi Xs i).t)).1:=k2;exact⟨⟨by omega,g2.1.1 xd⟩,c.1 (by omega)⟩
theorem SX.dep(h:SX rg l r Xs){n:Nd}(hn:n∈l){i j:Nat}(hi:i<Xs.length)(hj:j<Xs.length)(bi:js Xs n i=true)(bj:js Xs n j=true):qo n (xi Xs i) (xi Xs j)<0↔aV (n1 (PM (af l) n)) (pi l Xs j) (pi l Xs i)=true:=by
 obtain⟨hM,hO⟩:=bQ.ok h.nl;have ci:=((SX.fS h hn hi).1 bi).1;have cj:=((SX.fS h hn hj).1 bj).1;obtain⟨i1,i2,i3⟩:=JT ci;obtain⟨j1,j2,j3⟩:=JT cj;obtain⟨fi,ti⟩:=SX.pK h hi;obtain⟨fj,tj⟩:=SX.pK h hj;have a1:=JR hM (hO _ fi) (hO _ ti);have a2:=JR hM (hO _ fi) (hO n hn);have b1:=JR hM (hO _ fj) (hO _ tj);have b2:=JR hM (hO _ fj) (hO n hn);have hp1:=(hO _ fi).p;have hp2:=(hO _ ti).p;have se:=(hO _ fj).p;have hp4:=(hO _ tj).p;have hp5:=(hO n hn).p;have cc:=(SX.gH h hi hj);have ccs:=wS (xi Xs i) (xi Xs j);have hcS:=(SX.pd h hi).cr (SX.pd h hj);have pU:=PZ (cr (wv (xi Xs i).f (xi Xs i).t) (wv (xi Xs j).f (xi Xs j).t));have e1:∀i,((pi l Xs i).1,(pi l Xs i).2)=pi l Xs i:=fun i=>rfl
 rw[e1] at i1 i2 i3 j1 j2 j3;have key:∃p q:Int,0<p/\0<q/\p*(kY (n1 (PM (af l) n)) (pi l Xs j)*kW (n1 (PM (af l) n)) (pi l Xs i)-kY (n1 (PM (af l) n)) (pi l Xs i)*kW (n1 (PM (af l) n)) (pi l Xs j))=q*(cr (wv (xi Xs i).f (xi Xs i).t) (wv (xi Xs i).f n)*((xi Xs j).f.2.2*(wv (xi Xs j).f (xi Xs j).t).1)-cr (wv (xi Xs j).f (xi Xs j).t) (wv (xi Xs j).f n)*((xi Xs i).f.2.2*(wv (xi Xs i).f (xi Xs i).t).1)):=by
  rw[i1,i2,j1,j2];refine⟨((xi Xs i).f.2.2*(xi Xs i).t.2.2)*((xi Xs i).f.2.2*n.2.2)*((xi Xs j).f.2.2*(xi Xs j).t.2.2)*(xi Xs j).f.2.2,af l*af l*af l,aP (aP (aP (aP hp1 hp2) (aP hp1 hp5)) (aP se hp4)) se,aP (aP hM hM) hM,?_⟩;have x1:dr ((pi l Xs i).1,(pi l Xs i).2)=dr (PM (af l) (xi Xs i).f,PM (af l) (xi Xs i).t):=rfl;have x2:dr ((pi l Xs i).1,PM (af l) n)=dr (PM (af l) (xi Xs i).f,PM (af l) n):=rfl;have y1:dr ((pi l Xs j).1,(pi l Xs j).2)=dr (PM (af l) (xi Xs j).f,PM (af l) (xi Xs j).t):=rfl;have y2:dr ((pi l Xs j).1,PM (af l) n)=dr (PM (af l) (xi Xs j).f,PM (af l) n):=rfl;have x1':dr (pi l Xs i)=dr (PM (af l) (xi Xs i).f,PM (af l) (xi Xs i).t):=rfl;have y1':dr (pi l Xs j)=dr (PM (af l) (xi Xs j).f,PM (af l) (xi Xs j).t):=rfl
  first |rw[x1,x2,y1,y2]|rw[x1',x2,y1',y2]
  generalize dr (PM (af l) (xi Xs i).f,PM (af l) (xi Xs i).t)=A at*;generalize dr (PM (af l) (xi Xs i).f,PM (af l) n)=B at*;generalize dr (PM (af l) (xi Xs j).f,PM (af l) (xi Xs j).t)=C at*;generalize dr (PM (af l) (xi Xs j).f,PM (af l) n)=D at*;generalize wv (xi Xs i).f (xi Xs i).t=A' at*;generalize wv (xi Xs i).f n=B' at*;generalize wv (xi Xs j).f (xi Xs j).t=C' at*;generalize wv (xi Xs j).f n=D' at*;generalize(xi Xs i).f.2.2=f1 at*;generalize(xi Xs i).t.2.2=t1 at*;generalize(xi Xs j).f.2.2=f2 at*;generalize(xi Xs j).t.2.2=t2 at*;generalize n.2.2=nn at*;generalize af l=M at*;clear i1 i2 i3 j1 j2 j3 ci cj cc ccs hcS pU e1 x1 x2 y1 y2 x1' y1' hp1 hp2 se hp4 hp5;have u1:f1*t1*(f1*nn)*cr A B=M*M*cr A' B':=by
   have:f1*t1*(f1*nn)*cr A B=(f1*t1*A.1)*(f1*nn*B.2)-(f1*t1*A.2)*(f1*nn*B.1):=by unfold cr;grind
   rw[this,a1.1,a1.2,a2.1,a2.2];unfold cr;grind
  have u2:f2*t2*(f2*nn)*cr C D=M*M*cr C' D':=by
   have:f2*t2*(f2*nn)*cr C D=(f2*t2*C.1)*(f2*nn*D.2)-(f2*t2*C.2)*(f2*nn*D.1):=by unfold cr;grind
   rw[this,b1.1,b1.2,b2.1,b2.2];unfold cr;grind
  have v:f1*t1*(f1*nn)*(f2*t2)*f2*(-cr C D*A.1- -cr A B*C.1)=f2*(f1*t1*(f1*nn)*cr A B)*(f2*t2*C.1)-f1*(f2*t2*(f2*nn)*cr C D)*(f1*t1*A.1):=by grind
  rw[v,u1,u2,a1.1,b1.1]
  grind
 obtain⟨p,q,hp,hq,ek⟩:=key;have sk:=jS hp hq ek;have sd:=PZ (cr (wv (xi Xs i).f (xi Xs i).t) (wv (xi Xs i).f n)*((xi Xs j).f.2.2*(wv (xi Xs j).f (xi Xs j).t).1)-cr (wv (xi Xs j).f (xi Xs j).t) (wv (xi Xs j).f n)*((xi Xs i).f.2.2*(wv (xi Xs i).f (xi Xs i).t).1));have hS:kS (n1 (PM (af l) n)) (pi l Xs j)*kW (n1 (PM (af l) n)) (pi l Xs i)<kS (n1 (PM (af l) n)) (pi l Xs i)*kW (n1 (PM (af l) n)) (pi l Xs j)↔cr (dr (pi l Xs i)) (dr (pi l Xs j))<0:=by
  rw[i1,i3,j1,j3];have:cr (dr (pi l Xs i)) (dr (pi l Xs j))=(dr (pi l Xs j)).2*(dr (pi l Xs i)).1-(dr (pi l Xs i)).2*(dr (pi l Xs j)).1:=by unfold cr;grind
  have e3:∀i,dr ((pi l Xs i).1,(pi l Xs i).2)=dr (pi l Xs i):=fun i=>rfl
  rw[this]
  first |(rw[e3,e3];omega)|omega
 rw[Bb,hS];unfold qo EO;by_cases hz:(cr (wv (xi Xs i).f (xi Xs i).t) (wv (xi Xs i).f n)*((xi Xs j).f.2.2*(wv (xi Xs j).f (xi Xs j).t).1)-cr (wv (xi Xs j).f (xi Xs j).t) (wv (xi Xs j).f n)*((xi Xs i).f.2.2*(wv (xi Xs i).f (xi Xs i).t).1)).sign=0
 ·rw[if_pos hz,ccs];omega
 ·rw[if_neg hz];omega
theorem aaq{cf:Nat->Nat->Int}:∀(L:List Nat)(m:Nat),(∀a∈m::L,∀b∈m::L,∀c∈m::L,cf a b<0->cf c b<0\/cf a c<0)->(∀a∈m::L,∀b∈m::L,cf a b<0->¬cf b a<0)->bu cf L m∈m::L/\∀k∈m::L,¬cf k (bu cf L m)<0
 |[],m,_,ha=>⟨by simp[bu],fun k hk e=>by
  have:k=m:=bJ.1 hk;subst this;exact ha k (by simp) k (by simp) e e⟩
 |b::L,m,hw,ha=>by
  unfold bu;have sub:∀x∈(if cf b m<0 then b else m)::L,x∈m::b::L:=fun x hx=>by
   rcases aQ.1 hx with q|q
   ·rw[q];split<;>simp
   ·simp[q]
  obtain⟨h1,h2⟩:=aaq L (if cf b m<0 then b else m) (fun a ha b hb c hc=>hw a (sub a ha) b (sub b hb) c (sub c hc)) (fun a h1 b h2=>ha a (sub a h1) b (sub b h2))
  refine⟨sub _ h1,fun k hk e=>?_⟩
  have hr:=sub _ h1;by_cases jQ:cf b m<0
  ·rw[if_pos jQ] at h1 h2 e hr;rcases aQ.1 hk with q|q
   ·subst q;rcases hw k (by simp) _ hr b (by simp) e with w|w
    ·exact h2 b (by simp) w
    ·exact ha b (by simp) k (by simp) jQ w
   ·exact h2 k (by rcases aQ.1 q with q|q<;>simp[q]) e
  ·rw[if_neg jQ] at h1 h2 e hr;rcases aQ.1 hk with q|q
   ·exact h2 k (by simp[q]) e
   ·rcases aQ.1 q with q|q
    ·subst q;rcases hw k (by simp) _ hr m (by simp) e with w|w
     ·exact h2 m (by simp) w
     ·exact jQ w
    ·exact h2 k (by simp[q]) e
theorem SX.lowest(h:SX rg l r Xs){n:Nd}(hn:n∈l)(hs:dO Xs n Xs.length≠[]):ic Xs n<Xs.length/\js Xs n (ic Xs n)=true/\∀i,i<Xs.length->js Xs n i=true->aV (n1 (PM (af l) n)) (pi l Xs (ic Xs n)) (pi l Xs i)=false:=by
 obtain⟨m,L,e⟩:∃m L,dO Xs n Xs.length=m::L:=by
  cases q:dO Xs n Xs.length with
  |nil=>exact absurd q hs
  |cons m L=>exact⟨m,L,rfl⟩
 have mem:∀i,i∈m::L↔i<Xs.length/\js Xs n i=true:=fun i=>by
  rw[<-e];unfold dO;rw[jw,qu]
 have ql:ic Xs n=bu (fun i j=>qo n (xi Xs i) (xi Xs j)) L m:=by unfold ic;rw[e];rfl
 have dk:∀i∈m::L,∀j∈m::L,qo n (xi Xs i) (xi Xs j)<0↔aV (n1 (PM (af l) n)) (pi l Xs j) (pi l Xs i)=true:=fun i hi j hj=>SX.dep h hn ((mem i).1 hi).1 ((mem j).1 hj).1 ((mem i).1 hi).2 ((mem j).1 hj).2
 obtain⟨h1,h2⟩:=aaq (cf:=fun i j=>qo n (xi Xs i) (xi Xs j)) L m (fun a ha b hb c hc k=>by
   rcases Bd _ _ _ (pi l Xs c) ((dk a ha b hb).1 k) with w|w
   ·exact Or.inr ((dk a ha c hc).2 w)
   ·exact Or.inl ((dk c hc b hb).2 w)) (fun a ha b hb k1 k2=>by
   have:=Bc _ _ _ _ ((dk a ha b hb).1 k1) ((dk b hb a ha).1 k2);rw[Em] at this;cases this)
 rw[<-ql] at h1 h2;refine⟨((mem _).1 h1).1,((mem _).1 h1).2,fun i hi hb=>?_⟩
 have him:=(mem i).2 ⟨hi,hb⟩;cases q:aV (n1 (PM (af l) n)) (pi l Xs (ic Xs n)) (pi l Xs i)
 ·rfl
 ·exact absurd ((dk i him _ h1).2 q) (h2 i him)
theorem SX.alz(h:SX rg l r Xs)(hB:BD Xs){n:Nd}(hn:n∈l)(hin:takes r (Ga.PP (aa rg) n)=true){u:Nat}(hu:u<Xs.length)(kF:js Xs n u=true)(hmin:∀i,i<Xs.length->js Xs n i=true->aV (n1 (PM (af l) n)) (pi l Xs u) (pi l Xs i)=false){es:List Sg}(hcl:Cl es)(hi:In (sS (af l) Xs) es):Lf es (pi l Xs u)=Ga.PP es (n1 (PM (af l) n)):=by
 have hW:=SX.wd h hB;have huS:pi l Xs u∈sS (af l) Xs:=Ey _ hu;obtain⟨hcu,hyu⟩:=(SX.fS h hn hu).1 kF;have hris:aN (dr (pi l Xs u)):=by
  have c:=JS.1 hcu;refine Or.inl ?_;have e:(dr (pi l Xs u)).1=(dr (PM (af l) n,(pi l Xs u).2)).1-(dr (PM (af l) n,(pi l Xs u).1)).1:=by unfold dr;simp only;omega
  omega
 have hP:=(hW.oP hi huS).1 hris;obtain⟨qH,rfl⟩:=hcl;have ht:=(hts (show(0:Int)<1 by decide) hcu hP).2
 have ha:=(vM hP).2;have e1:Lf (aa qH) (pi l Xs u)=LL (aa qH) (n1 (pi l Xs u).1) (n1 (pi l Xs u).2):=by
  rw[ha,mR];rfl
 rw[e1,ht,NF];refine X9 _ fun e he hw=>?_
 cases q:aV (n1 (PM (af l) n)) ((pi l Xs u).1,(pi l Xs u).2) e
 ·rw[decide_eq_true (Jp hyu q)];rfl
 ·
  refine(decide_eq_false fun JU=>?_).symm
  obtain⟨j,hj,hje⟩:∃j,j<Xs.length/\(e=pi l Xs j\/e=rv (pi l Xs j)):=by
   rcases hi e he with k|k
   ·obtain⟨j,hj,ej⟩:=jr _ k;exact⟨j,hj,Or.inl ej⟩
   ·obtain⟨j,hj,ej⟩:=jr _ k;exact⟨j,hj,Or.inr (congrArg rv ej)⟩
  have hkj:aV (n1 (PM (af l) n)) (pi l Xs u) (pi l Xs j)=true:=by
   rcases hje with k|k
   ·rw[k] at q;exact q
   ·rw[k,(Jo _ _ _).2] at q;exact q
  have JV:kY (n1 (PM (af l) n)) (pi l Xs j)<0:=by
   rcases hje with k|k
   ·rw[k] at JU;exact JU
   ·rw[k,(Ez _ _).2.1] at JU;exact JU
  rcases Ya JV with c|c
  ·have:=hmin j hj ((SX.fS h hn hj).2 ⟨c,JV⟩);rw[hkj] at this;cases this
  ·have alC:kY (n1 (PM (af l) n)) (PM (af l) (xi Xs j).t,PM (af l) (xi Xs j).f)<0:=by
    have:=(Ez (n1 (PM (af l) n)) (pi l Xs j)).2.1;rw[<-this] at JV;exact JV
   obtain⟨f,t,hft,cft,yft,kft⟩:=aiL h.nl hn hin (h.sd hj) c alC;obtain⟨v,hv,v1,v2⟩:=h.find hft;have epv:pi l Xs v=(PM (af l) f,PM (af l) t):=by show(PM (af l) (xi Xs v).f,PM (af l) (xi Xs v).t)=_;rw[v1,v2]
   have IA:=(SX.fS h hn hv).2 (by rw[epv];exact⟨cft,yft⟩)
   have k2:aV (n1 (PM (af l) n)) (pi l Xs j) (pi l Xs v)=true:=by
    rw[epv];have:=(Jo (n1 (PM (af l) n)) (pi l Xs j) (PM (af l) f,PM (af l) t)).1;rw[<-this];exact kft
   have:=hmin v hv IA;rw[Bc _ _ _ _ hkj k2] at this;cases this
theorem SX.alG(h:SX rg l r Xs)(hB:BD Xs){mk:Nat->Bool}{k:Nat}{L:List Nat}(hc:oF (cd Xs) mk Xs.length k L)(y7:Wk Xs k L)(hno:∀ring∈bf Xs L,bV Xs ring=false):Fc (sS (af l) Xs) (pi l Xs k) (pi l Xs (ic Xs (xi Xs k).f)):=by
 have hW:=SX.wd h hB;have hC:=SX.cir h hc;have hk:k<Xs.length:=y7.lt k (aY y7.head);have hn:=(SX.pK h hk).1;have hin:takes r (Ga.PP (aa rg) (xi Xs k).f)=true:=by
  cases q:takes r (Ga.PP (aa rg) (xi Xs k).f)
  ·obtain⟨ring,hr,hs⟩:=h.Zi hB y7 q;rw[hno ring hr] at hs;cases hs
  ·rfl
 obtain⟨Z,e1,e2,e3⟩:=SX.rings h hB hc;have hgt:∀{t},t<L.length->L.getD t 0<Xs.length:=fun ht=>(hc.free _ (vw ht)).1
 intro es hcl hi;obtain⟨l1,l2,l3⟩:=SX.lowest h hn (h.seen hB y7 hno);rw[SX.alz h hB hn hin l1 l2 l3 hcl hi];refine hW.aiT (Ey _ hk) hC (fun i vo=>?_) (fun R hR yO hs=>?_) hcl hi
 ·rw[SX.it h hc i vo];have hm:=vw vo;have hle:=y7.least _ hm;rcases Ld (pi l Xs k).1 (pi l Xs (L.getD i 0)).1 with q|q
  ·exact q
  ·by_cases e:(xi Xs (L.getD i 0)).f=(xi Xs k).f
   ·show ge (PM (af l) (xi Xs k).f) (PM (af l) (xi Xs (L.getD i 0)).f);rw[e];exact Gu _
   ·exact absurd (SX.geq h (SX.pK h (hgt vo)).1 hn q e) hle
 ·obtain⟨i,vo,yO⟩:=yO;rw[SX.it h hc i vo] at yO;have hmem:pi l Xs (L.getD i 0)∈(Z.map Prod.snd).flatten:=e3.mem_iff.2 (aX.2 ⟨_,vw vo,rfl⟩);obtain⟨R',hR',hm'⟩:=zq.1 hmem;obtain⟨z,hz,rfl⟩:=aX.1 hR';have hrel:=e2 z hz;have:=hR.eq hW hrel.lr yO hm';rw[this] at hs;have h1:=hrel.sh.2 hs;rw[hno z.1 (by rw[<-e1];exact aX.2 ⟨z,hz,rfl⟩)] at h1
  cases h1
end
abbrev RP:=List Nat×List Sg
abbrev xf:=RP×List RP
def tR(p:xf):Pg:=(p.1.1,p.2.map Prod.fst)
def vq(p:xf):List Sg:=p.1.2++(p.2.map Prod.snd).flatten
def jZ(PL:List xf):List Sg:=(PL.map vq).flatten
section
variable{rg:List (List Pt)}{l:List Nd}{r:Int}{Xs:List PB}
structure aau(l:List Nd)(Xs:List PB)(p:xf):Prop where
 shell:Rel l Xs p.1.1 p.1.2
 Qc:shl p.1.2
 hole:∀z∈p.2,Rel l Xs z.1 z.2/\¬shl z.2
 part:∀z∈p.2,∀a∈p.1.2,∀s∈z.2,Fc (sS (af l) Xs) a s
structure CI(l:List Nd)(Xs:List PB)(st:St)(PL:List xf):Prop where
 ps:st.ps=PL.map tR
 ok:∀p∈PL,aau l Xs p
 own:∀j,j<Xs.length->st.aF j=true->∃p,PL[st.ow j]?=some p/\∀a∈p.1.2,Fc (sS (af l) Xs) a (pi l Xs j)
 per:(jZ PL).Perm (((List.range Xs.length).filter st.aF).map (pi l Xs))
theorem filter_or{α:Type}(p q:α->Bool):∀(L:List α),(∀x∈L,p x=true->q x=false)->(L.filter fun x=>p x||q x).Perm (L.filter p++L.filter q)
 |[],_=>by simp
 |x::L,h=>by
  have ih:=filter_or p q L fun y hy=>h y (bn _ hy)
  cases hp:p x
  ·cases hq:q x
   ·rw[xy (by simp[hp,hq]),xy (by simp[hp]),xy (by simp[hq])]
    exact ih
   ·rw[BZ (by simp[hq]),xy (by simp[hp]),BZ hq]
    exact(ih.cons x).trans (List.perm_middle).symm
  ·have hq:=h x (by simp) hp
   rw[BZ (by simp[hp]),BZ hp,xy (by simp[hq])]
   exact ih.cons x
theorem marks{n:Nat}{mk:Nat->Bool}{L:List Nat}(hnd:L.Nodup)(hf:∀a∈L,a<n/\mk a=false):((List.range n).filter fun j=>mk j||L.contains j).Perm ((List.range n).filter mk++L):=by
 refine(filter_or mk L.contains (List.range n) fun x _ hx=>?_).trans (FT _ ?_)
 ·cases q:L.contains x
  ·rfl
  ·have:=(hf x (tZ.1 q)).2;rw[hx] at this;cases this
 ·refine(List.perm_ext_iff_of_nodup (acg _ List.nodup_range) hnd).2 fun a=>?_
  rw[jw,qu,tZ];exact⟨fun k=>k.2,fun k=>⟨(hf a k).1,k⟩⟩
theorem alH{P:List Nat->Bool}{A B:List (List Nat)}{x:List Nat}(hx:P x=true)(hB:∀y∈B,P y=false):tO P (A++x::B)=x:=by
 unfold tO;rw[KR,rE,if_pos hx];have:∀(B:List (List Nat)) acc,(∀y∈B,P y=false)->B.foldl (fun acc r=>if P r then r else acc) acc=acc:=by
  intro B;induction B with
  |nil=>intro acc _;rfl
  |cons b B ih=>
   intro acc h;rw[rE,h b (by simp)]
   exact ih acc fun y hy=>h y (bn _ hy)
 exact this B x hB
theorem aav{α:Type}(P:α->Bool):∀(L:List α),L.any P=true->∃A x B,L=A++x::B/\P x=true/\∀y∈A,P y=false
 |[],h=>by simp at h
 |x::L,h=>by
  cases hp:P x
  ·have h':L.any P=true:=by rw[List.any_cons,hp] at h;simpa using h
   obtain⟨A,y,B,e,h1,h2⟩:=aav P L h';refine⟨x::A,y,B,by rw[e];rfl,h1,fun z hz=>?_⟩
   rcases aQ.1 hz with q|q
   ·rw[q];exact hp
   ·exact h2 z q
  ·exact⟨[],x,L,rfl,hp,by simp⟩
theorem alI{PL:List xf}{q:Nat}{p:xf}(h:PL[q]?=some p)(Z:List RP):(jZ (PL.set q (p.1,p.2++Z))).Perm (jZ PL++(Z.map Prod.snd).flatten):=by
 obtain⟨hq,e⟩:=bT.1 h;have e1:PL=PL.take q++p::PL.drop (q+1):=by
  rw[<-e,List.getElem_cons_drop,Rb]
 have e2:PL.set q (p.1,p.2++Z)=PL.take q++(p.1,p.2++Z)::PL.drop (q+1):=List.set_eq_take_append_cons_drop.trans (if_pos hq);rw[e2];have e3:jZ PL=jZ (PL.take q)++(vq p++jZ (PL.drop (q+1))):=by
  have:=congrArg jZ e1;rw[this];simp[jZ]
 rw[e3];have e4:jZ (PL.take q++(p.1,p.2++Z)::PL.drop (q+1))=jZ (PL.take q)++((vq p++(Z.map Prod.snd).flatten)++jZ (PL.drop (q+1))):=by
  simp[jZ,vq]
 rw[e4,fD,fD,fD];exact FT _ (FT _ FU)
theorem SX.Qd(h:SX rg l r Xs)(hB:BD Xs){mk:Nat->Bool}{k:Nat}{L:List Nat}(hc:oF (cd Xs) mk Xs.length k L){i:Nat}(hi:i∈L):Fc (sS (af l) Xs) (pi l Xs k) (pi l Xs i):=by
 obtain⟨t,ht,e⟩:=j5.1 hi;have:=SX.it h hc t ht;have e1:L.getD t 0=i:=by rw[lQ,ay ht,e];rfl
 rw[e1] at this;rw[<-this];obtain⟨_,g2,_,g4⟩:=Fs hc;have hk:k<Xs.length:=by rw[<-g2];exact(hc.free _ (vw g4)).1
 exact(SX.wd h hB).fc (Ey _ hk) (GF _ _ t)
theorem CI.step(h:SX rg l r Xs)(hB:BD Xs){st:St}{k:Nat}{PL:List xf}(hk:k<Xs.length)(hP:PV Xs st k)(hC:CI l Xs st PL):∃PL',CI l Xs (oG Xs st k) PL':=by
 have hW:=SX.wd h hB;unfold oG;cases hm:st.aF k
 ·rw[if_neg (by simp)]
  obtain⟨hc,y7⟩:=h.walk hB hP hk hm;obtain⟨Z,z1,z2,z3⟩:=SX.rings h hB hc;generalize hL:cD Xs st.aF k=L at*;have eK:=hc.free;have hmk:=marks hc.nd eK;have zin:∀z∈Z,∀s∈z.2,∃i∈L,s=pi l Xs i:=fun z hz s hs=>by
   have:s∈(Z.map Prod.snd).flatten:=zq.2 ⟨z.2,aX.2 ⟨z,hz,rfl⟩,hs⟩;obtain⟨i,hi,e⟩:=aX.1 (z3.mem_iff.1 this);exact⟨i,hi,e.symm⟩
  have Bz:∀z∈Z,∀s∈z.2,Fc (sS (af l) Xs) (pi l Xs k) s:=fun z hz s hs=>by
   obtain⟨i,hi,rfl⟩:=zin z hz s hs;exact SX.Qd h hB hc hi
  have hnd:(Z.map Prod.snd).flatten.Nodup:=by
   refine z3.nodup_iff.2 ?_;refine List.Pairwise.map _ (fun a b hab e=>?_) (qs (R:=fun a b=>a≠b) (S:=fun a b=>a∈L/\b∈L/\a≠b) (fun ha hb k=>⟨ha,hb,k⟩) hc.nd)
   exact hab.2.2 (SX.Ex h (eK a hab.1).1 (eK b hab.2.1).1 e)
  by_cases jI:(bf Xs L).any (bV Xs)=true
  ·rw[if_pos jI];rw[<-z1,List.any_map] at jI;obtain⟨Z1,z0,Z2,eZ,hs0,lU⟩:=aav _ Z jI;have hz0:z0∈Z:=by rw[eZ];simp
   have xJ:∀z∈Z2,bV Xs z.1=false:=fun z hz=>by
    cases q:bV Xs z.1
    ·rfl
    ·exfalso;have hzZ:z∈Z:=by rw[eZ];simp[hz]
     have r0:=z2 z0 hz0;have r1:=z2 z hzZ;obtain⟨a,_,ha,_⟩:=lV r0.lr.ring.ne;obtain⟨a',_,ha',_⟩:=lV r1.lr.ring.ne;have ma:a∈z0.2:=vF ha;have ma':a'∈z.2:=vF ha';have e:=r0.lr.one hW r1.lr (r0.sh.1 hs0) (r1.sh.1 q) ha ha' ((Bz z0 hz0 a ma).symm.trans (Bz z hzZ a' ma'));rw[eZ] at hnd;simp only[iy,gK,Ra,BO] at hnd;have hd:=(KO.1 (KO.1 hnd).2.1).2.2;exact hd a ma a (zq.2 ⟨z.2,aX.2 ⟨z,hz,rfl⟩,by rw[<-e];exact ma⟩) rfl
   have Qe:bV Xs z0.1=true:=hs0;have hsh:tO (bV Xs) (bf Xs L)=z0.1:=by
    rw[<-z1,eZ,iy,gK];exact alH Qe fun y hy=>by
     obtain⟨z,hz,rfl⟩:=aX.1 hy;exact xJ z hz
   have vk:((bf Xs L).filter fun r=> !bV Xs r)=(Z1++Z2).map Prod.fst:=by
    rw[<-z1,eZ,iy,gK,F4,xy (by simp[Qe])]
    rw[iy];congr 1
    ·rw[Kt];intro y hy;obtain⟨z,hz,rfl⟩:=aX.1 hy;have:bV Xs z.1=false:=lU z hz;simp[this]
    ·rw[Kt];intro y hy;obtain⟨z,hz,rfl⟩:=aX.1 hy;simp[xJ z hz]
   rw[hsh,vk];have aax:∀z∈Z1++Z2,z∈Z/\bV Xs z.1=false:=fun z hz=>by
    rcases bW.1 hz with q|q
    ·exact⟨by rw[eZ];simp[q],lU z q⟩
    ·exact⟨by rw[eZ];simp[q],xJ z q⟩
   refine⟨PL++[(z0,Z1++Z2)],?_,fun p hp=>?_,fun j hj lL=>?_,?_⟩
   ·show st.ps++[_]=_;rw[hC.ps];simp[tR]
   ·rcases bW.1 hp with q|q
    ·exact hC.ok p q
    ·rw[bJ.1 q];refine⟨z2 z0 hz0,(z2 z0 hz0).sh.1 Qe,fun z hz=>?_,fun z hz a ha s hs=>?_⟩
     ·obtain⟨k1,k2⟩:=aax z hz;exact⟨z2 z k1,fun w=>by rw[(z2 z k1).sh.2 w] at k2;cases k2⟩
     ·exact(Bz z0 hz0 a ha).symm.trans (Bz z (aax z hz).1 s hs)
   ·show ∃p,(PL++[(z0,Z1++Z2)])[if L.contains j then st.ps.length else st.ow j]?=some p/\_
    have Fu:(st.aF j||L.contains j)=true:=lL
    cases q:L.contains j
    ·rw[q,F8] at Fu;obtain⟨p,e,hp⟩:=hC.own j hj Fu;refine⟨p,?_,hp⟩;rw[if_neg (by simp),dZ (bT.1 e).1]
     exact e
    ·refine⟨(z0,Z1++Z2),?_,fun a ha=>(Bz z0 hz0 a ha).symm.trans (SX.Qd h hB hc (tZ.1 q))⟩
     rw[if_pos rfl,hC.ps,iH,nI (ae _)];simp
   ·show(jZ (PL++[(z0,Z1++Z2)])).Perm (((List.range Xs.length).filter fun j=>st.aF j||L.contains j).map (pi l Xs))
    have e1:jZ (PL++[(z0,Z1++Z2)])=jZ PL++(z0.2++((Z1++Z2).map Prod.snd).flatten):=by simp[jZ,vq]
    rw[e1];refine(acu hC.per ?_).trans ((hmk.map _).trans (by rw[iy])).symm
    refine List.Perm.trans ?_ z3;rw[eZ];simp only[iy,gK,Ra,BO];rw[<-fD,<-fD];exact List.perm_append_comm.append_right _
  ·rw[if_neg jI];have hno:∀ring∈bf Xs L,bV Xs ring=false:=fun ring hr=>by
    cases q:bV Xs ring
    ·rfl
    ·exact absurd (xn.2 ⟨ring,hr,q⟩) jI
   have ql:=h.low hB hP hk hm (by rw[hL];exact hno)
   obtain⟨p,ep,hpf⟩:=hC.own _ ql.2.1 ql.2.2;have Js:=SX.alG h hB hc y7 hno;generalize hq:st.ow (ic Xs (xi Xs k).f)=q at*;have kD:st.ps.getD q ([],[])=tR p:=by
    rw[lQ,hC.ps,gm,ep];rfl
   have wT:∀a∈p.1.2,Fc (sS (af l) Xs) a (pi l Xs k):=fun a ha=>(hpf a ha).trans Js.symm
   refine⟨PL.set q (p.1,p.2++Z),?_,fun p' hp'=>?_,fun j hj lL=>?_,?_⟩
   ·show st.ps.set q _=_;rw[kD,hC.ps,aco];congr 1;show((tR p).1,(tR p).2++bf Xs L)=_;rw[<-z1];unfold tR;simp
   ·rcases anz hp' with w|w
    ·exact hC.ok p' w
    ·subst w;have hp:=hC.ok p (aY ep);refine⟨hp.shell,hp.Qc,fun z hz=>?_,fun z hz a ha s hs=>?_⟩
     ·rcases bW.1 hz with w|w
      ·exact hp.hole z w
      ·refine⟨z2 z w,fun v=>?_⟩
       have:=(z2 z w).sh.2 v;rw[hno z.1 (by rw[<-z1];exact aX.2 ⟨z,w,rfl⟩)] at this
       cases this
     ·rcases bW.1 hz with w|w
      ·exact hp.part z w a ha s hs
      ·exact(wT a ha).trans (Bz z w s hs)
   ·have mH:q<PL.length:=(bT.1 ep).1;show ∃p',(PL.set q (p.1,p.2++Z))[if L.contains j then q else st.ow j]?=some p'/\_
    have Fu:(st.aF j||L.contains j)=true:=lL
    cases w:L.contains j
    ·rw[w,F8] at Fu;obtain⟨p',e',hp'⟩:=hC.own j hj Fu;rw[if_neg (by simp)]
     by_cases Br:st.ow j=q
     ·rw[Br] at e'⊢;rw[ep] at e';obtain rfl:p=p':=mN e';exact⟨(p.1,p.2++Z),by rw[rF mH],hp'⟩
     ·exact⟨p',by rw[xk (fun x=>Br x.symm)];exact e',hp'⟩
    ·rw[if_pos rfl];exact⟨(p.1,p.2++Z),by rw[rF mH],fun a ha=>(wT a ha).trans (SX.Qd h hB hc (tZ.1 w))⟩
   ·show(jZ (PL.set q (p.1,p.2++Z))).Perm (((List.range Xs.length).filter fun j=>st.aF j||L.contains j).map (pi l Xs))
    refine(alI ep Z).trans ?_;refine(acu hC.per z3).trans ((hmk.map _).trans (by rw[iy])).symm
 ·rw[if_pos rfl];exact⟨PL,hC⟩
theorem SX.ci(h:SX rg l r Xs)(hB:BD Xs):∀k,k<=Xs.length->∃PL,CI l Xs (aK Xs k) PL
 |0,_=>⟨[],rfl,by simp,fun j _ hm=>by simp[aK] at hm,by simp[aK,jZ]⟩
 |k+1,hk=>by
  obtain⟨PL,hC⟩:=SX.ci h hB k (by omega)
  rw[yU];exact CI.step h hB (by omega) (h.pv hB k (by omega)) hC
theorem SX.wX(h:SX rg l r Xs)(hB:BD Xs):∃PL,(aK Xs Xs.length).ps=PL.map tR/\(∀p∈PL,aau l Xs p)/\(jZ PL).Perm (sS (af l) Xs):=by
 obtain⟨PL,hC⟩:=SX.ci h hB Xs.length (ae _);refine⟨PL,hC.ps,hC.ok,hC.per.trans ?_⟩;have hP:=h.pv hB Xs.length (ae _);have e:(List.range Xs.length).filter (aK Xs Xs.length).aF=List.range Xs.length:=by
  rw[Kt];intro a ha;exact hP.low a (qu.1 ha)
 rw[e];unfold sS;have e2:(List.range Xs.length).map (pi l Xs)=Xs.map (ph (af l)):=by
  refine xx (by simp) fun i h1 h2=>?_
  simp only[acp,List.getElem_range];unfold pi xi;rw[lQ,ay (by simpa using h2)]
  rfl
 rw[e2]
end
end Go.Proofs.YtkjhhooecopolaaGreatDoor.Gb
