import Derived.Test.YtkjhhooecopolaaGreatDoorAz28
set_option maxRecDepth 100000
set_option maxHeartbeats 4000000
namespace Go.Proofs.YtkjhhooecopolaaGreatDoor
open Value renaming int->I,complex->A,agg->u,slice->D
open IntKind renaming i64->J
open FloatKind renaming f64->C
open Go renaming World->G,Value->Y
open Option renaming some->K,none->Z
open Bool renaming true->aP,false->aQ
section
open Go.RowKit
open N
theorem r7{nx:Nat->Nat}{mk:Nat->Bool}{n:Nat}(b:∀j,j<n->nx j<n):∀(m:Nat)(a:V Nat)(j:Nat),j<n->iB n mk (fp nx mk m a j)+(fp nx mk m a j).length<=iB n mk a+a.length
 |0,_,_,_=>aX _
 |m+1,a,j,d=>by show iB n mk (if mk j||a.contains j then a else fp nx mk m (a++[j]) (nx j))+(if mk j||a.contains j then a else fp nx mk m (a++[j]) (nx j)).length<=_;cases e:(mk j||a.contains j);simp only[jD,kf];have:=DE d e;have c:=r7 (mk:=mk) b m (a++[j]) (nx j)<|b j d;rw[bG] at c;simp only[dc,fw] at c;omega;simp only[jk];exact aX _
section
variable{rg:V (V O)}{l:V Nd}{r:Int}{Xs:V PB}
structure PV(Xs:V PB)(st:St)(k:Nat):Prop where
 closed:∀j,j<Xs.length->st.bC (dF Xs j)=st.bC j
 low:∀j,j<k->st.bC j=aP
 own:∀j,j<Xs.length->st.bC j=aP->st.ow j<st.ps.length
 len:st.ps.length<=k
 hol:∀(q:Nat) p,st.ps[q]?=K p->p.2.length+iB Xs.length st.bC []<=Xs.length
theorem PV.zero(Xs:V PB):PV Xs (bT Xs 0) 0:=by refine⟨λ_ _=>rfl,λj h=>U,λj _ h=>?_,aX _,λq p h=>?_⟩;simp[bT] at h;simp[bT] at h
theorem SX.walk(h:SX rg l r Xs)(g:BD Xs){st:St}{k:Nat}(P:PV Xs st k)(q:k<Xs.length)(S:st.bC k=aQ):jZ (dF Xs) st.bC Xs.length k (dK Xs st.bC k)/\Wk Xs k (dK Xs st.bC k):=by have d:=Sl (nx:=dF Xs) (mk:=st.bC) (n:=Xs.length) (i:=k) (λj R=>(h.next g R).1) (λa b c m p=>h.inj g c m p) P.closed q S;refine⟨d,λa c=>(d.free a c).1,d.head,λt a b c m=>?_,λa c=>d.Sm c,λa c=>?_,λa c=>?_⟩;have e:=(d.free a<|bB c).1;rw[d.step t a b c m];exact(h.next g e).2.1;have e:=(d.free a<|oD c).1;have:=d.back a c;rw[<-this];exact(h.next g e).2.1.symm;obtain⟨x,B⟩:=d.free a c;have s:k<=a:=(by apply Nat.not_lt.1;intro f;rw[P.low a f] at B;cases B);rcases VV s with f|p;have v:∀{i:Nat}(Q:i<Xs.length),xi Xs i=Xs[i]:=λQ=>qt<|be Q;have:=jm.1 g.kF k a q x f;rw[v q,v x];exact this;rw[<-p,rR];omega
theorem IH{L:V Nat}{k:Nat}(b:Wk Xs k L):cF Xs L≠[]:=by have p:0<L.length:=fT.2 (λe=>by have:=b.head;rw[e] at this;simp at this);obtain⟨z,h⟩:∃z,L[L.length-1]?=K z:=⟨_,be U⟩;have q:∀s,L[0]?=K s->(xi Xs s).f=(xi Xs k).f:=λs c=>(by rw[b.head] at c;injection c with c;rw[c]);have g:=OC.all b.conn q (L.length-1) U;obtain⟨_,t⟩:=g.snoc h;have d:L=L.take (L.length-1)++[z]:=(by (conv=>lhs;rw[<-dV (l:=L),show L.length=L.length-1+1 by omega,fg,h]);rfl);have m:=b.back z (by rw[lA];exact h);unfold cF;rw[d,rV];unfold iO;rcases wD Xs ((cV Xs<|L.take<|L.length-1).1++[z]) z with⟨_,r⟩|⟨R,x,v,_⟩;exfalso;obtain⟨a,n⟩:∃a,((cV Xs<|L.take<|L.length-1).1++[z])[0]?=K a:=⟨_,be E⟩;exact r a (bB n)<|(t a n).trans m.symm;rw[y U];simp
theorem PV.step(h:SX rg l r Xs)(v:BD Xs){st:St}{k:Nat}(c:PV Xs st k)(R:k<Xs.length):PV Xs (lM Xs st k) (k+1):=by cases y:st.bC k;obtain⟨T,M⟩:=h.walk v c R y;have A:k∈dK Xs st.bC k:=bB M.head;have d:=T.closed (λa b O Q z=>h.inj v O Q z) c.closed;have hleft:=r7 (mk:=st.bC) (λj x=>(h.next v x).1) Xs.length [] k R;have o:iB Xs.length (λj=>st.bC j||(dK Xs st.bC k).contains j) []=iB Xs.length st.bC (dK Xs st.bC k):=(by unfold iB;simp);have Z:(cF Xs<|dK Xs st.bC k).length<=(dK Xs st.bC k).length:=(by have:=(zB Xs (dK Xs st.bC k) (dK Xs st.bC k).length).2;rw[dV] at this;exact this);have w:iB Xs.length st.bC (dK Xs st.bC k)+(dK Xs st.bC k).length<=iB Xs.length st.bC []:=hleft;have t:∀j,j<k+1->(st.bC j||(dK Xs st.bC k).contains j)=aP:=λj x=>(by by_cases e:j=k;rw[e,mK.2 A];simp;rw[c.low j U];rfl);have X:=qw Xs.length st.bC [];unfold lM;rw[y];simp only[jD,kf];split;refine⟨d,t,λj x m=>?_,by simp;exact c.len,λq p g=>?_⟩;simp only[bG,dc,fw];split;omega;rename_i B;have:st.bC j=aP:=(by have e:(dK Xs st.bC k).contains j=aQ:=(by simpa using B);simp only[e,xa] at m;exact m);have:=c.own j x this;omega;rw[o];simp only at g;by_cases I:q<st.ps.length;rw[dQ I] at g;have:=c.hol q p g;omega;have H:q=st.ps.length:=(by have:=(bX.1 g).1;simp at this;omega);rw[H] at g;have e:p=(o8 (dl Xs)<|cF Xs<|dK Xs st.bC k,(cF Xs<|dK Xs st.bC k).filter λr=> !dl Xs r):=(by simpa using g.symm);rw[e];have:=pB (λr=> !dl Xs r)<|cF Xs<|dK Xs st.bC k;simp only;omega;rename_i G;have u:∀ring∈cF Xs (dK Xs st.bC k),dl Xs ring=aQ:=λring Y=>(by cases hs:dl Xs ring;rfl;exact absurd (Aw.2 ⟨ring,Y,hs⟩) (by simpa using G));have J:=h.seen v M u;have S:=Si J;have n:=IE Xs _ _ _ S;have D:gI Xs (xi Xs k).f<k:=(by apply Nat.not_le.1;intro C;have Q:=Sr (Xs:=Xs) (v.v _<|gm R).cf (v.v _<|gm n) (et.1 S).2;rcases VV C with F|z;have L:∀{i:Nat}(N:i<Xs.length),xi Xs i=Xs[i]:=λN=>qt<|be N;have:=jm.1 v.kF k _ R n F;rw[<-L R,<-L n] at this;exact this Q;rw[<-z] at Q;exact lt_irrefl _ Q);have P:=c.own _ n<|c.low _ D;refine⟨d,t,λj x m=>?_,by simp;have:=c.len;omega,λq p g=>?_⟩;simp only[jE];split;exact P;rename_i B;have:st.bC j=aP:=(by have e:(dK Xs st.bC k).contains j=aQ:=(by simpa using B);simp only[e,xa] at m;exact m);exact c.own j x this;rw[o];simp only at g;by_cases s:st.ow (gI Xs (xi Xs k).f)=q;rw[s] at g;rw[ox (by rw[<-s];exact P)] at g;injection g with g;rw[<-g];simp only[bG];have W:st.ps[q]?=K (st.ps.getD q ([],[])):=(by rw[fi,be (by rw[<-s];exact P)];rfl);have:=c.hol q _ W;omega;rw[ss s] at g;have:=c.hol q p g;omega;unfold lM;rw[y];simp only[jk];refine⟨c.closed,λj x=>?_,c.own,by have:=c.len;omega,c.hol⟩;by_cases e:j=k;rw[e];exact y;exact c.low j U
theorem SX.pv(h:SX rg l r Xs)(a:BD Xs):∀k,k<=Xs.length->PV Xs (bT Xs k) k
 |0,_=>PV.zero Xs
 |k+1,b=>by rw[ue];exact(h.pv a k U).step h a U
theorem SX.low(h:SX rg l r Xs)(b:BD Xs){st:St}{k:Nat}(s:PV Xs st k)(e:k<Xs.length)(B:st.bC k=aQ)(p:∀ring∈cF Xs (dK Xs st.bC k),dl Xs ring=aQ):eO Xs (xi Xs k).f Xs.length≠[]/\gI Xs (xi Xs k).f<Xs.length/\st.bC (gI Xs (xi Xs k).f)=aP:=by obtain⟨_,v⟩:=h.walk b s e B;have d:=h.seen b v p;have c:=Si d;have a:=IE Xs _ _ _ c;refine⟨d,a,s.low _ ?_⟩;apply Nat.not_le.1;intro m;have g:=Sr (Xs:=Xs) (b.v _<|gm e).cf (b.v _<|gm a) (et.1 c).2;rcases VV m with n|x;have q:∀{i:Nat}(t:i<Xs.length),xi Xs i=Xs[i]:=λt=>qt<|be t;have:=jm.1 b.kF k _ e a n;rw[<-q e,<-q a] at this;exact this g;rw[<-x] at g;exact lt_irrefl _ g
end
end
end Go.Proofs.YtkjhhooecopolaaGreatDoor
