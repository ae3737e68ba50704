import Derived.Test.YtkjhhooecopolaaGreatDoorAz32
set_option maxRecDepth 100000
set_option maxHeartbeats 4000000
namespace Go.Proofs.YtkjhhooecopolaaGreatDoor
open Value renaming int->I,complex->A,agg->u,slice->D
open IntKind renaming i64->J
open FloatKind renaming f64->C
open Go renaming World->G,Value->Y
open Option renaming some->K,none->Z
open Bool renaming true->aP,false->aQ
namespace Gb
open N W
section
variable{S:V w}{nx:w->w}
theorem Wd.DU(h:Wd S nx):∀(T:V w)(b c:w)(e:O),b∈S->(∀s∈T,s∈S)->Path b.2 T e->bh (dr c) (dr b)=aP->bh (dr<|(tG b T).getLastD c) (dr<|T.getLastD b)=aP
 |[],_,_,_,_,_,_,g=>g
 |s::T,b,c,e,q,k,l,g=>by have f:=k s E;have n:(s::T).getLastD b=T.getLastD s:=(by grind);rw[n];unfold tG;by_cases d:L (dr b) (dr s)=0;rw[y d];exact h.DU T s c e f (λa m=>k a<|bW _ m) l.2<|zg g<|h.Qu q f l.1 d;rw[X d];have p:(s::tG s T).getLastD c=(tG s T).getLastD s:=(by grind);rw[p];exact h.DU T s s e f (λa m=>k a<|bW _ m) l.2<|we<|h.aaT f
end
def iZ(c:Nat->Nat->Bool)(p:V Nat×V (V Nat))(s:Nat):V Nat×V (V Nat):=
 if 0<=gD (c s) (p.1++[s]) then((p.1++[s]).take (gD (c s)<|p.1++[s]).toNat,p.2++[(p.1++[s]).drop (gD (c s)<|p.1++[s]).toNat]) else(p.1++[s],p.2)
def eD(c:Nat->Nat->Bool)(W:V Nat):V Nat×V (V Nat):=W.foldl (iZ c) ([],[])
theorem DV(c:Nat->Nat->Bool)(W:V Nat)(s:Nat):eD c (W++[s])=iZ c (eD c W) s:=by unfold eD;simp
theorem agb(Xs:V PB)(W:V Nat):cV Xs W=((eD (iW Xs) W).1,(eD (iW Xs) W).2.map<|eH Xs):=by have a:∀(W:V Nat)(p:V Nat×V (V Nat)),W.foldl (iO Xs) (p.1,p.2.map<|eH Xs)=((W.foldl (iZ<|iW Xs) p).1,(W.foldl (iZ<|iW Xs) p).2.map<|eH Xs):=(by intro W;induction W with|nil=>simp|cons s W b=>intro p;rw[ls,ls,<-b];congr 1;unfold iO iZ iX;simp only;by_cases h:0<=gD (iW Xs s) (p.1++[s]);grind;grind);exact a W ([],[])
theorem agc(Xs:V PB)(W:V Nat):cF Xs W=(eD (iW Xs) W).2.map (eH Xs):=by unfold cF;rw[agb]
theorem agd{P:Nat->Bool}(g:Nat->Nat)(l:V Nat):gD P (l.map g)=gD (λx=>P<|g x) l:=DF l 0 λ_ _=>rfl
theorem Th(c:Nat->Nat->Bool)(g:Nat->Nat)(W:V Nat):eD c (W.map g)=((eD (λi j=>c (g i)<|g j) W).1.map g,(eD (λi j=>c (g i)<|g j) W).2.map (·.map g)):=by have a:∀(W:V Nat)(p:V Nat×V (V Nat)),(W.map g).foldl (iZ c) (p.1.map g,p.2.map (·.map g))=((W.foldl (iZ λi j=>c (g i)<|g j) p).1.map g,(W.foldl (iZ λi j=>c (g i)<|g j) p).2.map (·.map g)):=(by intro W;induction W with|nil=>simp|cons s W b=>intro p;rw[gU,ls,ls,<-b];congr 1;unfold iZ;simp only;have e:p.1.map g++[g s]=(p.1++[s]).map g:=E;rw[e,agd];by_cases h:0<=gD (λx=>c (g s)<|g x) (p.1++[s]);rw[y h,y h];simp;grind);exact a W ([],[])
theorem age(c:Nat->Nat->Bool)(p:V Nat×V (V Nat))(s:Nat):∀o∈(iZ c p s).1,o∈p.1++[s]:=by intro o a;unfold iZ at a;grind
theorem IZ(c:Nat->Nat->Bool):∀(i:Nat),∀o∈(eD c<|List.range i).1,o<i
 |0,o,a=>by simp[eD] at a
 |i+1,o,a=>by rw[lZ,DV] at a;rcases dm.1 (age c _ i o a) with q|q;have:=IZ c i o q;omega;grind
theorem Ti{ν:Type}{f:Nat->ν}(c:Nat->Nat->Bool)(i:Nat)(p:V Nat×V (V Nat))(d:∀o∈p.1++[i],c i o=aP↔f o=f (i+1)):rH f i p (iZ c p i):=by unfold iZ gD;rcases DK (P:=c i) (p.1++[i]) 0 with⟨h,a⟩|⟨R,x,h,a,n,q⟩;rw[X U];refine j ⟨λo b e=>?_,rfl⟩;grind;have e:(fq (c i) (p.1++[i]) 0).toNat=R:=(by omega);rw[y U,e];have s:=bB a;refine F ⟨(p.1++[i]).take R,x,(p.1++[i]).drop<|R+1,?_,(d x s).1 n,λo b k=>?_,?_⟩;rw[<-qx a,oy];obtain⟨t,r,m⟩:=ig.1 b;grind;rw[<-qx a]
theorem I0(Xs:V PB):∀(c:V Nat)(b:Nat)(B:V Nat),tI Xs b (c++B)=tI Xs b c++tI Xs (c.getLastD b) B
 |[],_,_=>rfl
 |a::c,b,B=>by have d:=I0 Xs c a B;have e:(a::c).getLastD b=c.getLastD a:=(by grind);show _++tI Xs a (c++B)=(_++tI Xs a c)++_;grind
theorem DW{cf:Nat->Nat->Int}{d:Nat}:∀(l:V Nat)(m:Nat),d∈m::l->(∀x∈m::l,x≠d->cf d x<0)->(∀x∈m::l,¬cf x d<0)->cD cf l m=d
 |[],m,h,_,_=>(cI.1 h).symm
 |b::l,m,h,c,f=>by unfold cD;by_cases e:m=d;subst e;rw[X<|f b E];exact DW l m E (λx a=>c x (by grind))<|λx a=>f x (by grind);by_cases g:b=d;subst g;rw[y<|c m E e];exact DW l b E (λx a=>c x (by grind))<|λx a=>f x (by grind);have k:d∈l:=(by grind);refine DW l _ (bW _ k) (λx a=>?_)<|λx a=>?_;grind;grind
section
variable{rg:V (V O)}{l:V Nd}{r:Int}{Xs:V PB}
abbrev pi(l:V Nd)(Xs:V PB)(i:Nat):w:=ph (aZ l)<|xi Xs i
theorem SX.pd(h:SX rg l r Xs){i:Nat}(a:i<Xs.length):Pm (dr<|pi l Xs i) (wv (xi Xs i).f (xi Xs i).t):=
 iN (bZ.ok h.nl).1 ((bZ.ok h.nl).2 _ (fZ h.nl (h.sd a).pc).2.1) ((bZ.ok h.nl).2 _ (fZ h.nl (h.sd a).pc).2.2)
theorem SX.mC(h:SX rg l r Xs){i:Nat}(a:i<Xs.length):(xi Xs i).f∈l/\(xi Xs i).t∈l:=(fZ h.nl (h.sd a).pc).2
theorem I1(x:Int):(x.sign=0↔x=0)/\(0<x.sign↔0<x)/\(x.sign<0↔x<0):=by simp
theorem SX.eN(h:SX rg l r Xs){i j:Nat}(c:i<Xs.length)(d:j<Xs.length):(fn (xi Xs i) (xi Xs j)=0↔L (dr<|pi l Xs i) (dr<|pi l Xs j)=0)/\(0<fn (xi Xs i) (xi Xs j)↔0<L (dr<|pi l Xs i) (dr<|pi l Xs j)):=by rw[rT];have a:=I1<|L (wv (xi Xs i).f (xi Xs i).t)<|wv (xi Xs j).f (xi Xs j).t;have b:=(SX.pd h c).L<|SX.pd h d;omega
theorem SX.tG(h:SX rg l r Xs):∀(c:V Nat)(b:Nat),b<Xs.length->(∀a∈c,a<Xs.length)->(tI Xs b c).map (pi l Xs)=Gb.tG (pi l Xs b) (c.map<|pi l Xs)
 |[],_,_,_=>rfl
 |s::c,b,q,f=>by have g:=f s E;have m:=SX.tG h c s g<|λa p=>f a<|bW _ p;have k:=(SX.eN h g q).1;have n:L (dr<|pi l Xs s) (dr<|pi l Xs b)=0↔L (dr<|pi l Xs b) (dr<|pi l Xs s)=0:=(by rw[da];omega);show((if fn (xi Xs s) (xi Xs b)=0 then[] else[s])++tI Xs s c).map (pi l Xs)=if L (dr<|pi l Xs b) (dr<|pi l Xs s)=0 then Gb.tG (pi l Xs s) (c.map<|pi l Xs) else pi l Xs s::Gb.tG (pi l Xs s) (c.map<|pi l Xs);grind
theorem SX.geq(h:SX rg l r Xs){a b:Nd}(c:a∈l)(d:b∈l):ge (PM (aZ l) a) (PM (aZ l) b)->a≠b->cC a b<0:=by intro g f;have k:=Di g<|λe=>f<|mB h.nl c d e;have:=(iN (bZ.ok h.nl).1 ((bZ.ok h.nl).2 a c)<|(bZ.ok h.nl).2 b d).bF.1 k;rw[wn];exact(kZ (h.nl.can a c)<|h.nl.can b d).2 this
theorem DZ{α:Type}(a:V α){B:V α}(b:B≠[])(d e:α):(a++B).getLastD d=B.getLastD e:=by rw[jF,jF,Hv a b];cases q:B.getLast? with|none=>simp_all|some z=>rfl
theorem SX.ring(h:SX rg l r Xs)(hB:BD Xs){D1 D2:V Nat}(hl:∀a∈D1++D2,a<Xs.length)(hR:LR (sS (aZ l) Xs) (iU (aZ l) Xs) ((D2++D1).map<|pi l Xs))(h2:D2≠[]):eH Xs (D1++D2)=d8 Xs (D2++D1):=by have hW:=SX.wd h hB;obtain⟨d,p,rfl⟩:∃d p,D2=d::p:=(by cases D2 with|nil=>grind|cons d c=>simp);have B:=hl d E;have M:(d::p++D1).Nodup:=(by have:=hR.ring.nd;exact List.Pairwise.of_map (pi l Xs) (λa b k e=>k<|by rw[e]) this);have hz:∃z,(d::p++D1).getLastD 0=z/\z∈d::p++D1:=(by grind);obtain⟨z,s,hz2⟩:=hz;have hzl:z<Xs.length:=hl z (by grind);obtain⟨a,T,t,g,e1,e2,e3,_⟩:=hR.wf hW;have ha:a=pi l Xs d:=(by grind);have hturn:fn (xi Xs d) (xi Xs z)≠0:=λe=>(by have hzz:((d::p++D1).map<|pi l Xs).getLastD s0=pi l Xs z:=(by grind);have hc:=((SX.eN h B hzl).1).1 e;have:L (dr<|pi l Xs z) (dr<|pi l Xs d)=0:=(by rw[da];omega);unfold fQ at e3;rw[hzz,e1] at e3;have e4:Gb.tG (pi l Xs z) (a::T)=Gb.tG a T:=(by show(if L (dr<|pi l Xs z) (dr a)=0 then _ else _)=_;grind);simp_all);have hT:d8 Xs (D1++d::p)=tI Xs ((d::p).getLastD 0) D1++d::tI Xs d p:=(by unfold d8;rw[I0,DZ D1 E 0 0];congr 1;have:D1.getLastD ((d::p).getLastD 0)=z:=(by grind);rw[this];show(if fn (xi Xs d) (xi Xs z)=0 then[] else[d])++tI Xs d p=_;grind);have hT':d8 Xs (d::p++D1)=(d::tI Xs d p)++tI Xs ((d::p).getLastD 0) D1:=(by unfold d8;rw[s,I0];congr 1;show(if fn (xi Xs d) (xi Xs z)=0 then[] else[d])++tI Xs d p=_;grind);have o:∀x∈d8 Xs (D1++d::p),x∈D1++d::p:=λx v=>ww Xs _ _ x v;have H:∀x,x∈D1++d::p↔x∈d::p++D1:=λx=>(by grind);have i:∀x∈D1++d::p,x≠d->cC (xi Xs d).f (xi Xs x).f<0:=λx v w=>(by have Y:=(H x).1 v;have hg:=hR.least (pi l Xs d) E (pi l Xs x)<|bA.2 ⟨x,Y,rfl⟩;refine SX.geq h (SX.mC h B).1 (SX.mC h<|hl x v).1 hg λe=>?_;have hx2:x∈p++D1:=(by grind);have S:=hR.ring.iA;simp only[lW,gU,fF] at S;exact S.1 (pi l Xs x) (bA.2 ⟨x,hx2,rfl⟩)<|bd (PM<|aZ l) e);have Q:jA Xs (d8 Xs (D1++d::p))=d:=(by unfold jA;have w:d8 Xs (D1++d::p)≠[]:=(by grind);obtain⟨m,G,eU⟩:∃m G,d8 Xs (D1++d::p)=m::G:=(by cases q:d8 Xs (D1++d::p) with|nil=>grind|cons m G=>simp);rw[eU];refine DW G m ?_ (λx v F=>?_)<|λx v k=>?_;grind;grind;rw[<-eU] at v;by_cases e:x=d;subst e;rw[rR] at k;omega;have:=i x (o x v) e;rw[wn] at k this;exact N.lt_irrefl _<|N.lt_trans (N.dH<|h.nl.can _ (SX.mC h B).1) (N.dH<|h.nl.can _ (SX.mC h<|hl x<|o x v).1) (N.dH<|h.nl.can _ (SX.mC h B).1) this k);have W:oZ Xs (d8 Xs (D1++d::p))=(tI Xs ((d::p).getLastD 0) D1).length:=(by unfold oZ gD;rw[Q,hT];rcases DK (P:=λj=>j == d) (tI Xs ((d::p).getLastD 0) D1++d::tI Xs d p) 0 with⟨_,q2⟩|⟨R,x,q1,q2,q3,q4⟩;grind;rw[q1];have F:x=d:=(by grind);subst F;have O:x∉tI Xs ((x::p).getLastD 0) D1:=λk=>(by have k1:=ww Xs _ _ x k;grind);have h1:¬R<(tI Xs ((x::p).getLastD 0) D1).length:=λk=>(by grind);have h2:¬(tI Xs ((x::p).getLastD 0) D1).length<R:=λk=>(by grind);omega);unfold eH;grind
structure Rel(l:V Nd)(Xs:V PB)(q:V Nat)(R:V w):Prop where
 lr:LR (sS (aZ l) Xs) (iU (aZ l) Xs) R
 fQ:(YtkjhhooecopolaaGreatDoor.fr Xs q).map (PM<|aZ l)=fQ R
 sh:dl Xs q=aP↔shl R
theorem SX.rel(h:SX rg l r Xs)(hB:BD Xs){D:V Nat}(G:∀a∈D,a<Xs.length)(hR:abc (sS (aZ l) Xs) (iU (aZ l) Xs) (D.map<|pi l Xs)):∃R,Rel l Xs (eH Xs D) R/\R.Perm (D.map<|pi l Xs):=by have hW:=SX.wd h hB;obtain⟨b,B,e,m⟩:=hR.Qs;obtain⟨g,f,rfl,rfl,rfl⟩:=List.map_eq_append_iff.1 e;have amh:f≠[]\/g=[]/\f≠[]\/f=[]:=(by grind);have W:∀g f:V Nat,(∀a∈g++f,a<Xs.length)->LR (sS (aZ l) Xs) (iU (aZ l) Xs) ((f++g).map<|pi l Xs)->f≠[]->Rel l Xs (eH Xs<|g++f) ((f++g).map<|pi l Xs):=(by intro g f G m h2;have er:=SX.ring h hB G m h2;rw[er];have S:f++g≠[]:=(by simp[h2]);obtain⟨z,hz⟩:∃z,(f++g).getLast?=K z:=(by cases q:(f++g).getLast? with|none=>simp_all|some z=>simp);have Q:∀a∈f++g,a<Xs.length:=λa ha=>G a (by grind);have hzl:=Q z<|oD hz;have hlast:(f++g).getLastD 0=z:=(by grind);have n:((f++g).map<|pi l Xs).getLastD s0=pi l Xs z:=(by grind);have ht:(d8 Xs<|f++g).map (pi l Xs)=Gb.tG (pi l Xs z) ((f++g).map<|pi l Xs):=(by unfold d8;rw[hlast];exact SX.tG h _ z hzl Q);have P:(YtkjhhooecopolaaGreatDoor.fr Xs<|d8 Xs<|f++g).map (PM<|aZ l)=Gb.fQ ((f++g).map<|pi l Xs):=(by unfold Gb.fQ;rw[n,<-ht];unfold YtkjhhooecopolaaGreatDoor.fr;rw[eS,eS];rfl);refine⟨m,P,?_⟩;obtain⟨a,T,t,U,v,e2,Y,_⟩:=m.wf hW;have o:((f++g).map<|pi l Xs).getLast?=K (pi l Xs z):=(by grind);have p:=m.ring.mem;have hp:=m.ring.path (a:=a) (by grind);have hlen:=bd List.length P;have H:(d8 Xs<|f++g).map (pi l Xs)=a::Gb.tG a T:=(by rw[ht,v];show(if L (dr<|pi l Xs z) (dr a)=0 then Gb.tG a T else a::Gb.tG a T)=_;by_cases hc:L (dr<|pi l Xs z) (dr a)=0;exfalso;unfold Gb.fQ at Y;rw[n,v] at Y;have e4:Gb.tG (pi l Xs z) (a::T)=Gb.tG a T:=(by show(if L (dr<|pi l Xs z) (dr a)=0 then _ else _)=_;rw[y hc]);simp_all;rw[X hc]);obtain⟨x,c,eV⟩:∃x c,d8 Xs (f++g)=x::c:=(by cases q:d8 Xs (f++g) with|nil=>grind|cons x c=>simp);have j:∀d∈d8 Xs (f++g),d<Xs.length:=λd N=>Q d<|ww Xs _ _ d N;rw[eV] at H j⊢;rw[gU] at H;injection H with q1 q2;have hxl:=j x E;obtain⟨d,N⟩:∃d,(x::c).getLast?=K d:=(by grind);have hyl:=j d<|oD N;have hyG:(Gb.tG a T).getLastD a=pi l Xs d:=(by grind);have F:a∈sS (aZ l) Xs:=p a (by grind);have hTS:∀s∈T,s∈sS (aZ l) Xs:=λs hs=>p s (by grind);have i:=hW.DU T a a a.1 F hTS (by rw[v] at hp;exact hp.2)<|we<|hW.aaT F;have wz:T.getLastD a=pi l Xs z:=(by grind);rw[hyG,wz] at i;unfold dl;have g1:(x::c).getLastD 0=d:=(by grind);have g2:(x::c).headD 0=x:=rfl;rw[g1,g2,iE,(SX.eN h hyl hxl).2,q1];have hs:=(tV i<|dr a).1;rw[da<|dr<|pi l Xs d,da<|dr<|pi l Xs z] at hs;have M:0<L (dr<|pi l Xs d) (dr a)↔0<L (dr<|pi l Xs z) (dr a):=(by have s2:=tV i<|neg<|dr a;rw[e8,e8] at s2;have x1:L (dr<|pi l Xs d) (dr a)= -L (dr a) (dr<|pi l Xs d):=da _ _;have x2:L (dr<|pi l Xs z) (dr a)= -L (dr a) (dr<|pi l Xs z):=da _ _;omega);rw[M];constructor;intro k;exact⟨a,pi l Xs z,by grind,o,k⟩;rintro⟨a',z',w,O,k⟩;grind);by_cases q:f=[];subst q;refine⟨g.map<|pi l Xs,?_,E⟩;have S:g≠[]:=λe=>hR.ne (by grind);grind;grind
end
theorem pick{α β γ:Type}{P:α->β->Prop}{φ:α->V γ}{ψ:β->V γ}:∀(c:V α),(∀a∈c,∃R,P a R/\(ψ R).Perm (φ a))->∃b:V (α×β),b.map Prod.fst=c/\(∀z∈b,P z.1 z.2)/\(b.map λz=>ψ z.2).flatten.Perm (c.map φ).flatten
 |[],_=>⟨[],rfl,E,E⟩
 |a::c,h=>by obtain⟨b,e,g,k⟩:=pick c λf d=>h f<|bW _ d;obtain⟨R,l,m⟩:=h a E;refine⟨(a,R)::b,by simp[e],λz n=>?_,?_⟩;grind;grind
section
variable{rg:V (V O)}{l:V Nd}{r:Int}{Xs:V PB}
theorem qD{nx:Nat->Nat}{mk:Nat->Bool}{n k:Nat}{L:V Nat}(c:jZ nx mk n k L):(∀t,t+1<L.length->L.getD (t+1) 0=nx (L.getD t 0))/\L.getD 0 0=k/\nx (L.getD (L.length-1) 0)=k/\0<L.length:=by have e:=bX.1 c.head;refine⟨λt f=>?_,?_,?_,e.1⟩;have a:L[t]?=K L[t]:=be U;have b:L[t+1]?=K L[t+1]:=be f;rw[fi,fi,a,b];exact c.step t _ _ a b;grind;obtain⟨g,_⟩:=e;have d:L.length-1<L.length:=U;have a:=be d;rw[fi,a];exact c.back _ (by grind)
theorem SX.it(h:SX rg l r Xs){mk:Nat->Bool}{k:Nat}{L:V Nat}(a:jZ (dF Xs) mk Xs.length k L):∀t,t<L.length->Gb.it (iU (aZ l) Xs) t (pi l Xs k)=pi l Xs (L.getD t 0)
 |0,_=>by rw[(qD a).2.1];rfl
 |t+1,b=>by have c:=SX.it h a t U;show iU (aZ l) Xs (Gb.it (iU (aZ l) Xs) t<|pi l Xs k)=_;rw[c,(qD a).1 t b];refine ud h (a.free _ ?_).1;grind
theorem ll{L:V Nat}{t:Nat}(a:t<L.length):L.getD t 0∈L:=by grind
theorem SX.D0(h:SX rg l r Xs){mk:Nat->Bool}{k:Nat}{L:V Nat}(a:jZ (dF Xs) mk Xs.length k L):vZ (iU (aZ l) Xs) (pi l Xs k) L.length:=by obtain⟨_,_,d,f⟩:=qD a;refine⟨f,?_,λi j b c e=>?_⟩;have e:L.length=(L.length-1)+1:=U;rw[e];show iU (aZ l) Xs (Gb.it (iU (aZ l) Xs) (L.length-1)<|pi l Xs k)=_;rw[SX.it h a _ U,ud h (a.free _<|ll U).1,d];rw[SX.it h a i b,SX.it h a j c] at e;have:=SX.zu h (a.free _<|ll b).1 (a.free _<|ll c).1 e;rw[fi,fi,be b,be c] at this;exact(List.getElem_inj a.nd).1 this
theorem D3(L:V Nat):(List.range L.length).map (λt=>L.getD t 0)=L:=by refine nA E λi b a=>?_;grind
theorem SX.agf(h:SX rg l r Xs)(u:BD Xs){mk:Nat->Bool}{k:Nat}{L:V Nat}(c:jZ (dF Xs) mk Xs.length k L):(∀D∈(eD (iW Xs) L).2,(∀a∈D,a<Xs.length)/\abc (sS (aZ l) Xs) (iU (aZ l) Xs) (D.map<|pi l Xs))/\(eD (iW Xs) L).2.flatten.Perm L:=by
 have p:=SX.wd h u;have x:=SX.D0 h c;obtain⟨_,R,_,S⟩:=qD c;have A:k<Xs.length:=by rw[<-R];exact(c.free _<|ll S).1
 have b:pi l Xs k∈sS (aZ l) Xs:=zv _ A;have n:∀t,t<L.length->L.getD t 0<Xs.length:=λt v=>(c.free _<|ll v).1;obtain⟨_,hperm,g⟩:=parted (f:=λi=>(Gb.it (iU (aZ l) Xs) i<|pi l Xs k).1) (m:=L.length) (p.nc b x) (λj G e=>by
   rw[p.oa b] at e;exact p.ne _ (p.abh b j) e) (by show(Gb.it (iU (aZ l) Xs) L.length (pi l Xs k)).1=_;rw[x.per];rfl)
  (λi=>eD (λi j=>iW Xs (L.getD i 0)<|L.getD j 0)<|List.range i) rfl (λi Q=>by
   show rH _ i _ (eD _<|List.range<|i+1);rw[lZ,DV];refine Ti _ i _ λo C=>?_;have s:o<L.length:=by
    rcases dm.1 C with q|q
    .have:=IZ _ i o q;omega
    grind
   show iW Xs (L.getD i 0) (L.getD o 0)=aP↔(Gb.it (iU (aZ l) Xs) o<|pi l Xs k).1=(Gb.it (iU (aZ l) Xs) (i+1)<|pi l Xs k).1;rw[p.oa b,SX.it h c i Q,SX.it h c o s];unfold iW;rw[iE];constructor
   .intro e;exact bd (PM<|aZ l) e.symm
   .intro e;exact(mB h.nl (SX.mC h (n o s)).1 (SX.mC h (n i Q)).2 e).symm)
 have y:(eD (iW Xs) L).2=(eD (λi j=>iW Xs (L.getD i 0)<|L.getD j 0)<|List.range L.length).2.map λD=>D.map λt=>L.getD t 0:=(by have:=Th (iW Xs) (λt=>L.getD t 0)<|List.range L.length;rw[D3] at this;rw[this]);rw[y];generalize(eD (λi j=>iW Xs (L.getD i 0)<|L.getD j 0)<|List.range L.length).2=F at*;refine⟨λE B=>?_,?_⟩;obtain⟨D,w,rfl⟩:=bA.1 B;obtain⟨d,P⟩:=g D w;refine⟨λa z=>?_,?_⟩;grind;have:=P.ring p b x;have e:(D.map λt=>L.getD t 0).map (pi l Xs)=D.map λt=>Gb.it (iU (aZ l) Xs) t (pi l Xs k):=(by rw[eS];exact abH λt v=>(SX.it h c t<|P.lt t v).symm);grind;rw[<-KE];have:=hperm.map λt=>L.getD t 0;rw[D3] at this;omega
theorem SX.rings(h:SX rg l r Xs)(a:BD Xs){mk:Nat->Bool}{k:Nat}{L:V Nat}(m:jZ (dF Xs) mk Xs.length k L):∃Z:V (V Nat×V w),Z.map Prod.fst=cF Xs L/\(∀z∈Z,Rel l Xs z.1 z.2)/\(Z.map Prod.snd).flatten.Perm (L.map<|pi l Xs):=by obtain⟨g,p⟩:=SX.agf h a m;rw[agc];generalize(eD (iW Xs) L).2=c at*;obtain⟨Z,d,e,f⟩:=pick (P:=λD R=>Rel l Xs (eH Xs D) R) (φ:=λD=>D.map<|pi l Xs) (ψ:=λR=>R) c λD b=>SX.rel h a (g D b).1 (g D b).2;refine⟨Z.map λz=>(eH Xs z.1,z.2),?_,λz q=>?_,?_⟩;rw[eS,<-d,eS];rfl;grind;rw[eS];refine f.trans ?_;grind
theorem D4{M:Int}(c:0<M){a b:Nd}(d:OK M a)(g:OK M b):a.2.2*b.2.2*(dr (PM M a,PM M b)).1=M*(wv a b).1/\a.2.2*b.2.2*(dr (PM M a,PM M b)).2=M*(wv a b).2:=by obtain⟨k,n,e,h⟩:=od c d.p d.d;obtain⟨j,m,f,l⟩:=od c g.p g.d;rw[h,l];constructor;show a.2.2*b.2.2*(b.1*j-a.1*k)=M*(a.2.2*b.1-b.2.2*a.1);grind;show a.2.2*b.2.2*(b.2.1*j-a.2.1*k)=M*(a.2.2*b.2.1-b.2.2*a.2.1);grind
theorem D5{n a b:O}:eN (n1 n) a b↔(dr (n,a)).1<=0/\0<(dr (n,b)).1:=by unfold eN;rw[eG,eG]
theorem D6{n a b:O}(h:eN (n1 n) a b):kW (n1 n) (a,b)=(dr (a,b)).1/\kY (n1 n) (a,b)= -L (dr (a,b)) (dr (a,n))/\kS (n1 n) (a,b)=(dr (a,b)).2:=by obtain⟨x,y,z,_⟩:=rU h;rw[x,y,z,eG,eG];refine⟨by unfold dr;grind,?_,by unfold dr;grind⟩;unfold L dr;grind
theorem SX.dg(h:SX rg l r Xs){n:Nd}(k:n∈l){i:Nat}(j:i<Xs.length):jB Xs n i=aP↔Gb.eN (n1<|PM (aZ l) n) (pi l Xs i).1 (pi l Xs i).2/\kY (n1<|PM (aZ l) n) (pi l Xs i)<0:=by obtain⟨e,b⟩:=bZ.ok h.nl;obtain⟨g,P⟩:=SX.mC h j;have C:=iN e (b n k)<|b _ g;have D:=iN e (b n k)<|b _ P;have F:=iN e (b _ g)<|b _ P;have G:=iN e (b _ g)<|b n k;have c:=(F.L G).1;obtain⟨p,q,w,y,R,_⟩:=C;obtain⟨J,K,m,s,S,_⟩:=D;have I:=gC w y R;have B:=gC m s S;have w1:n.1*(xi Xs i).f.2.2<(xi Xs i).f.1*n.2.2↔0<(wv n (xi Xs i).f).1:=(by unfold wv;grind);have H:n.1*(xi Xs i).t.2.2<(xi Xs i).t.1*n.2.2↔0<(wv n (xi Xs i).t).1:=(by unfold wv;grind);unfold jB;rw[jl,jl,uw,E7,iE,iE,w1,H];constructor;rintro⟨⟨Q,v⟩,A⟩;have a:Gb.eN (n1<|PM (aZ l) n) (pi l Xs i).1 (pi l Xs i).2:=D5.2 ⟨by show(dr (PM (aZ l) n,PM (aZ l) (xi Xs i).f)).1<=0;omega,B.1.2 v⟩;refine⟨a,?_⟩;have:=(D6 a).2.1;show kY (n1<|PM (aZ l) n) ((pi l Xs i).1,(pi l Xs i).2)<0;rw[this];have:=c.2 A;show -L (dr (PM (aZ l) (xi Xs i).f,PM (aZ l) (xi Xs i).t)) (dr (PM (aZ l) (xi Xs i).f,PM (aZ l) n))<0;omega;rintro⟨a,o⟩;have Q:=(D5.1 a).1;have v:=(D5.1 a).2;have:=(D6 a).2.1;have d:=o;rw[this] at d;have u: -L (dr (PM (aZ l) (xi Xs i).f,PM (aZ l) (xi Xs i).t)) (dr (PM (aZ l) (xi Xs i).f,PM (aZ l) n))<0:=d;have z:(dr (PM (aZ l) n,PM (aZ l) (xi Xs i).f)).1<=0:=Q;have x:0<(dr (PM (aZ l) n,PM (aZ l) (xi Xs i).t)).1:=v;omega
theorem SX.dep(h:SX rg l r Xs){n:Nd}(m:n∈l){i j:Nat}(u:i<Xs.length)(w:j<Xs.length)(bi:jB Xs n i=aP)(bj:jB Xs n j=aP):oh n (xi Xs i) (xi Xs j)<0↔bJ (n1<|PM (aZ l) n) (pi l Xs j) (pi l Xs i)=aP:=by obtain⟨e,c⟩:=bZ.ok h.nl;have ci:=((SX.dg h m u).1 bi).1;have cj:=((SX.dg h m w).1 bj).1;obtain⟨G,T,V⟩:=D6 ci;obtain⟨H,W,Y⟩:=D6 cj;obtain⟨S,Z⟩:=SX.mC h u;obtain⟨o,tj⟩:=SX.mC h w;have P:=D4 e (c _ S)<|c _ Z;have J:=D4 e (c _ S)<|c n m;have Q:=D4 e (c _ o)<|c _ tj;have K:=D4 e (c _ o)<|c n m;have s:=(c _ S).p;have z:=(c _ Z).p;have x:=(c _ o).p;have E:=(c _ tj).p;have F:=(c n m).p;have R:=rT (xi Xs i)<|xi Xs j;have hcS:=(SX.pd h u).L<|SX.pd h w;have hsg:=I1<|L (wv (xi Xs i).f (xi Xs i).t)<|wv (xi Xs j).f (xi Xs j).t;have e1:∀i,((pi l Xs i).1,(pi l Xs i).2)=pi l Xs i:=λi=>rfl;rw[e1] at G T V H W Y;have I:∃p q:Int,0<p/\0<q/\p*(kY (n1<|PM (aZ l) n) (pi l Xs j)*kW (n1<|PM (aZ l) n) (pi l Xs i)-kY (n1<|PM (aZ l) n) (pi l Xs i)*kW (n1<|PM (aZ l) n) (pi l Xs j))=q*(L (wv (xi Xs i).f (xi Xs i).t) (wv (xi Xs i).f n)*((xi Xs j).f.2.2*(wv (xi Xs j).f (xi Xs j).t).1)-L (wv (xi Xs j).f (xi Xs j).t) (wv (xi Xs j).f n)*((xi Xs i).f.2.2*(wv (xi Xs i).f (xi Xs i).t).1)):=(by rw[G,T,H,W];refine⟨((xi Xs i).f.2.2*(xi Xs i).t.2.2)*((xi Xs i).f.2.2*n.2.2)*((xi Xs j).f.2.2*(xi Xs j).t.2.2)*(xi Xs j).f.2.2,aZ l*aZ l*aZ l,bD (bD (bD (bD s z)<|bD s F)<|bD x E) x,bD (bD e e) e,?_⟩;have x1:dr ((pi l Xs i).1,(pi l Xs i).2)=dr (PM (aZ l) (xi Xs i).f,PM (aZ l) (xi Xs i).t):=rfl;have x2:dr ((pi l Xs i).1,PM (aZ l) n)=dr (PM (aZ l) (xi Xs i).f,PM (aZ l) n):=rfl;have y1:dr ((pi l Xs j).1,(pi l Xs j).2)=dr (PM (aZ l) (xi Xs j).f,PM (aZ l) (xi Xs j).t):=rfl;have y2:dr ((pi l Xs j).1,PM (aZ l) n)=dr (PM (aZ l) (xi Xs j).f,PM (aZ l) n):=rfl;(first |rw[x1,x2,y1,y2]|rw[x1',x2,y1',y2]);generalize dr (PM (aZ l) (xi Xs i).f,PM (aZ l) (xi Xs i).t)=A at*;generalize dr (PM (aZ l) (xi Xs i).f,PM (aZ l) n)=B at*;generalize dr (PM (aZ l) (xi Xs j).f,PM (aZ l) (xi Xs j).t)=C at*;generalize dr (PM (aZ l) (xi Xs j).f,PM (aZ l) n)=D at*;generalize wv (xi Xs i).f (xi Xs i).t=A' at*;generalize wv (xi Xs i).f n=B' at*;generalize wv (xi Xs j).f (xi Xs j).t=C' at*;generalize wv (xi Xs j).f n=D' at*;generalize(xi Xs i).f.2.2=a at*;generalize(xi Xs i).t.2.2=g at*;generalize(xi Xs j).f.2.2=b at*;generalize(xi Xs j).t.2.2=k at*;generalize n.2.2=d at*;generalize aZ l=M at*;have u1:a*g*(a*d)*L A B=M*M*L A' B':=(by have:a*g*(a*d)*L A B=(a*g*A.1)*(a*d*B.2)-(a*g*A.2)*(a*d*B.1):=(by unfold L;grind);rw[this,P.1,P.2,J.1,J.2];unfold L;grind);have u2:b*k*(b*d)*L C D=M*M*L C' D':=(by have:b*k*(b*d)*L C D=(b*k*C.1)*(b*d*D.2)-(b*k*C.2)*(b*d*D.1):=(by unfold L;grind);rw[this,Q.1,Q.2,K.1,K.2];unfold L;grind);grind);obtain⟨p,q,hp,hq,ek⟩:=I;have sk:=gC hp hq ek;have sd:=I1<|L (wv (xi Xs i).f (xi Xs i).t) (wv (xi Xs i).f n)*((xi Xs j).f.2.2*(wv (xi Xs j).f (xi Xs j).t).1)-L (wv (xi Xs j).f (xi Xs j).t) (wv (xi Xs j).f n)*((xi Xs i).f.2.2*(wv (xi Xs i).f (xi Xs i).t).1);have hS:kS (n1<|PM (aZ l) n) (pi l Xs j)*kW (n1<|PM (aZ l) n) (pi l Xs i)<kS (n1<|PM (aZ l) n) (pi l Xs i)*kW (n1<|PM (aZ l) n) (pi l Xs j)↔L (dr<|pi l Xs i) (dr<|pi l Xs j)<0:=(by rw[G,V,H,Y];have:L (dr<|pi l Xs i) (dr<|pi l Xs j)=(dr<|pi l Xs j).2*(dr<|pi l Xs i).1-(dr<|pi l Xs i).2*(dr<|pi l Xs j).1:=(by unfold L;grind);omega);rw[wh,hS];unfold oh zD;grind
theorem I2{cf:Nat->Nat->Int}:∀(L:V Nat)(m:Nat),(∀a∈m::L,∀b∈m::L,∀c∈m::L,cf a b<0->cf c b<0\/cf a c<0)->(∀a∈m::L,∀b∈m::L,cf a b<0->¬cf b a<0)->cD cf L m∈m::L/\∀k∈m::L,¬cf k (cD cf L m)<0
 |[],m,_,l=>⟨by simp[cD],λk n e=>by
  have:k=m:=cI.1 n;subst this;exact l k E k E e e⟩
 |b::L,m,r,l=>by unfold cD;have d:∀x∈(if cf b m<0 then b else m)::L,x∈m::b::L:=λx v=>(by grind);obtain⟨h,f⟩:=I2 L (if cf b m<0 then b else m) (λa l b s c t=>r a (d a l) b (d b s) c<|d c t)<|λa h b f=>l a (d a h) b<|d b f;grind
theorem SX.lowest(h:SX rg l r Xs){n:Nd}(R:n∈l)(S:eO Xs n Xs.length≠[]):gI Xs n<Xs.length/\jB Xs n (gI Xs n)=aP/\∀i,i<Xs.length->jB Xs n i=aP->bJ (n1<|PM (aZ l) n) (pi l Xs<|gI Xs n) (pi l Xs i)=aQ:=by
 obtain⟨m,L,e⟩:∃m L,eO Xs n Xs.length=m::L:=(by cases q:eO Xs n Xs.length with|nil=>grind|cons m L=>simp);have mem:∀i,i∈m::L↔i<Xs.length/\jB Xs n i=aP:=λi=>(by rw[<-e];unfold eO;simp);have t:gI Xs n=cD (λi d=>oh n (xi Xs i)<|xi Xs d) L m:=by unfold gI;grind
 have g:=λi x d Q=>SX.dep h R ((mem i).1 x).1 ((mem d).1 Q).1 ((mem i).1 x).2 ((mem d).1 Q).2;obtain⟨v,B⟩:=I2 (cf:=λi d=>oh n (xi Xs i)<|xi Xs d) L m (λa p b f c P k=>by
   rcases rJ _ _ _ (pi l Xs c) ((g a p b f).1 k) with w|w
   grind
   grind) (λa p b f o y=>by
   have:=rI _ _ _ _ ((g a p b f).1 o) ((g b f a p).1 y);rw[wi] at this;grind)
 grind
theorem SX.agh(h:SX rg l r Xs)(Y:BD Xs){n:Nd}(S:n∈l)(G:takes r (W.PP (o rg) n)=aP){u:Nat}(O:u<Xs.length)(I:jB Xs n u=aP)(g:∀i,i<Xs.length->jB Xs n i=aP->bJ (n1<|PM (aZ l) n) (pi l Xs u) (pi l Xs i)=aQ){es:V w}(C:Cl es)(N:In (sS (aZ l) Xs) es):Lf es (pi l Xs u)=W.PP es (n1<|PM (aZ l) n):=by
 have Z:=SX.wd h Y;have H:pi l Xs u∈sS (aZ l) Xs:=zv _ O;obtain⟨s,J⟩:=(SX.dg h S O).1 I;have P:bF (dr<|pi l Xs u):=(by have c:=D5.1 s;refine j ?_;have e:(dr<|pi l Xs u).1=(dr (PM (aZ l) n,(pi l Xs u).2)).1-(dr (PM (aZ l) n,(pi l Xs u).1)).1:=(by unfold dr;grind);omega);have M:=(Z.kJ N H).1 P;obtain⟨R,rfl⟩:=C;have ht:=(hts (show(0:Int)<1 by decide) s M).2;have ha:=(oS M).2;have X:Lf (o R) (pi l Xs u)=LL (o R) (n1 (pi l Xs u).1) (n1 (pi l Xs u).2):=(by rw[ha,ko];rfl);rw[X,ht,Dp];refine wu _ λe he hw=>?_;cases q:bJ (n1<|PM (aZ l) n) ((pi l Xs u).1,(pi l Xs u).2) e;rw[ff<|DA J q];rfl
 ·
  refine(jd λb=>?_).symm;obtain⟨a,m,x⟩:∃a,a<Xs.length/\(e=pi l Xs a\/e=rv (pi l Xs a)):=by
   rcases N e he with k|k
   .obtain⟨a,m,z⟩:=iV _ k;grind
   .obtain⟨a,m,z⟩:=iV _ k;exact⟨a,m,F<|bd rv z⟩
  have B:bJ (n1<|PM (aZ l) n) (pi l Xs u) (pi l Xs a)=aP:=by
   rcases x with k|k
   grind
   .rw[k,(zx _ _ _).2] at q;exact q
  have d:kY (n1<|PM (aZ l) n) (pi l Xs a)<0:=by
   rcases x with k|k
   grind
   .rw[k,(zw _ _).2.1] at b;exact b
  rcases Rh d with c|c
  .have:=g a m<|(SX.dg h S m).2 ⟨c,d⟩;grind
  .have Q:kY (n1<|PM (aZ l) n) (PM (aZ l) (xi Xs a).t,PM (aZ l) (xi Xs a).f)<0:=by
    have:=(zw (n1<|PM (aZ l) n)<|pi l Xs a).2.1;rw[<-this] at d;exact d
   obtain⟨f,t,D,y,L,K⟩:=aed h.nl S G (h.sd m) c Q;obtain⟨v,T,v1,v2⟩:=h.find D;have p:pi l Xs v=(PM (aZ l) f,PM (aZ l) t):=by show(PM (aZ l) (xi Xs v).f,PM (aZ l) (xi Xs v).t)=_;grind
   have A:=(SX.dg h S T).2 (by grind);have k2:bJ (n1<|PM (aZ l) n) (pi l Xs a) (pi l Xs v)=aP:=by
    rw[p];have:=(zx (n1<|PM (aZ l) n) (pi l Xs a) (PM (aZ l) f,PM (aZ l) t)).1;rw[<-this];exact K
   have:=g v T A;rw[rI _ _ _ _ B k2] at this;grind
theorem SX.agi(h:SX rg l r Xs)(g:BD Xs){mk:Nat->Bool}{k:Nat}{L:V Nat}(m:jZ (dF Xs) mk Xs.length k L)(b:Wk Xs k L)(d:∀ring∈cF Xs L,dl Xs ring=aQ):Fc (sS (aZ l) Xs) (pi l Xs k) (pi l Xs<|gI Xs (xi Xs k).f):=by have u:=SX.wd h g;have F:=SX.D0 h m;have y:=b.lt k<|bB b.head;have S:=(SX.mC h y).1;have B:takes r (W.PP (o rg) (xi Xs k).f)=aP:=(by cases q:takes r (W.PP (o rg) (xi Xs k).f);obtain⟨ring,I,s⟩:=h.So g b q;grind;rfl);obtain⟨Z,C,D,E⟩:=SX.rings h g m;have x:∀{t},t<L.length->L.getD t 0<Xs.length:=λJ=>(m.free _<|ll J).1;intro es n w;obtain⟨K,M,N⟩:=SX.lowest h S<|h.seen g b d;rw[SX.agh h g S B K M N n w];refine u.aej (zv _ y) F (λi a=>?_) (λR G c s=>?_) n w;rw[SX.it h m i a];have H:=ll a;have P:=b.least _ H;rcases vW (pi l Xs k).1 (pi l Xs<|L.getD i 0).1 with q|q;exact q;by_cases e:(xi Xs<|L.getD i 0).f=(xi Xs k).f;show ge (PM (aZ l) (xi Xs k).f) (PM (aZ l) (xi Xs<|L.getD i 0).f);rw[e];exact tZ _;exact absurd (SX.geq h (SX.mC h<|x a).1 S q e) P;obtain⟨i,a,c⟩:=c;rw[SX.it h m i a] at c;have p:=E.mem_iff.2<|bA.2 ⟨_,ll a,rfl⟩;obtain⟨O,v,Q⟩:=pG.1 p;obtain⟨z,A,rfl⟩:=bA.1 v;have hrel:=D z A;have:=G.eq u hrel.lr c Q;rw[this] at s;have j:=hrel.sh.2 s;grind
end
abbrev RP:=V Nat×V w
abbrev se:=RP×V RP
def o9(p:se):Pg:=(p.1.1,p.2.map Prod.fst)
def r6(p:se):V w:=p.1.2++(p.2.map Prod.snd).flatten
def jN(PL:V se):V w:=(PL.map r6).flatten
section
variable{rg:V (V O)}{l:V Nd}{r:Int}{Xs:V PB}
structure Tj(l:V Nd)(Xs:V PB)(p:se):Prop where
 shell:Rel l Xs p.1.1 p.1.2
 I3:shl p.1.2
 hole:∀z∈p.2,Rel l Xs z.1 z.2/\¬shl z.2
 part:∀z∈p.2,∀a∈p.1.2,∀s∈z.2,Fc (sS (aZ l) Xs) a s
structure CI(l:V Nd)(Xs:V PB)(st:St)(PL:V se):Prop where
 ps:st.ps=PL.map o9
 ok:∀p∈PL,Tj l Xs p
 own:∀j,j<Xs.length->st.bC j=aP->∃p,PL[st.ow j]?=K p/\∀a∈p.1.2,Fc (sS (aZ l) Xs) a (pi l Xs j)
 per:(jN PL).Perm (((List.range Xs.length).filter st.bC).map<|pi l Xs)
theorem filter_or{α:Type}(p q:α->Bool):∀(L:V α),(∀x∈L,p x=aP->q x=aQ)->(L.filter λx=>p x||q x).Perm (L.filter p++L.filter q)
 |[],_=>E
 |x::L,h=>by have c:=filter_or p q L λy d=>h y<|bW _ d;cases a:p x;cases b:q x;grind;rw[wZ (by simp[b]),sN (by simp[a]),wZ b];exact(c.cons x).trans (List.perm_middle).symm;simp_all
theorem marks{n:Nat}{mk:Nat->Bool}{L:V Nat}(b:L.Nodup)(c:∀a∈L,a<n/\mk a=aQ):((List.range n).filter λj=>mk j||L.contains j).Perm ((List.range n).filter mk++L):=by refine(filter_or mk L.contains (List.range n) λx _ d=>?_).trans<|At _ ?_;grind;refine(List.perm_ext_iff_of_nodup (VJ _ List.nodup_range) b).2 λa=>?_;grind
theorem agj{P:V Nat->Bool}{A B:V (V Nat)}{x:V Nat}(e:P x=aP)(d:∀a∈B,P a=aQ):o8 P (A++x::B)=x:=by unfold o8;rw[nw,ls,y e];have:∀(B:V (V Nat)) c,(∀a∈B,P a=aQ)->B.foldl (λc r=>if P r then r else c) c=c:=(by intro B;induction B with|nil=>simp|cons b B g=>grind);grind
theorem Tl{α:Type}(P:α->Bool):∀(L:V α),L.any P=aP->∃a x B,L=a++x::B/\P x=aP/\∀y∈a,P y=aQ
 |[],h=>by grind
 |x::L,h=>by cases b:P x;have c:L.any P=aP:=(by grind);obtain⟨a,y,B,e,d,f⟩:=Tl P L c;grind;exact⟨[],x,L,rfl,b,E⟩
theorem agk{PL:V se}{q:Nat}{p:se}(h:PL[q]?=K p)(Z:V RP):(jN<|PL.set q (p.1,p.2++Z)).Perm (jN PL++(Z.map Prod.snd).flatten):=by obtain⟨f,e⟩:=bX.1 h;have a:PL=PL.take q++p::PL.drop (q+1):=(by rw[<-e,List.getElem_cons_drop,oy]);have b:PL.set q (p.1,p.2++Z)=PL.take q++(p.1,p.2++Z)::PL.drop (q+1):=List.set_eq_take_append_cons_drop.trans<|y f;rw[b];have c:jN PL=jN (PL.take q)++(r6 p++jN (PL.drop<|q+1)):=(by have:=bd jN a;rw[this];simp[jN]);rw[c];have d:jN (PL.take q++(p.1,p.2++Z)::PL.drop (q+1))=jN (PL.take q)++((r6 p++(Z.map Prod.snd).flatten)++jN (PL.drop<|q+1)):=(by simp[jN,r6]);grind
theorem SX.I4(h:SX rg l r Xs)(g:BD Xs){mk:Nat->Bool}{k:Nat}{L:V Nat}(a:jZ (dF Xs) mk Xs.length k L){i:Nat}(m:i∈L):Fc (sS (aZ l) Xs) (pi l Xs k) (pi l Xs i):=by
 obtain⟨t,b,e⟩:=ig.1 m;have:=SX.it h a t b;have c:L.getD t 0=i:=by grind
 rw[c] at this;rw[<-this];obtain⟨_,d,_,f⟩:=qD a;have n:k<Xs.length:=by rw[<-d];exact(a.free _<|ll f).1
 exact(SX.wd h g).fc (zv _ n)<|ze _ _ t
theorem CI.step(h:SX rg l r Xs)(G:BD Xs){st:St}{k:Nat}{PL:V se}(hk:k<Xs.length)(hP:PV Xs st k)(P:CI l Xs st PL):∃PL',CI l Xs (lM Xs st k) PL':=by have hW:=SX.wd h G;unfold lM;cases hm:st.bC k;rw[X E];obtain⟨H,zH⟩:=h.walk G hP hk hm;obtain⟨Z,z1,N,z3⟩:=SX.rings h G H;generalize hL:dK Xs st.bC k=L at*;have T:=H.free;have hmk:=marks H.nd T;have zin:∀z∈Z,∀s∈z.2,∃i∈L,s=pi l Xs i:=λz d s M=>(by have:s∈(Z.map Prod.snd).flatten:=pG.2 ⟨z.2,bA.2 ⟨z,d,rfl⟩,M⟩;grind);have o:∀z∈Z,∀s∈z.2,Fc (sS (aZ l) Xs) (pi l Xs k) s:=λz d s M=>(by obtain⟨i,hi,rfl⟩:=zin z d s M;exact SX.I4 h G H hi);have Y:(Z.map Prod.snd).flatten.Nodup:=(by refine z3.nodup_iff.2 ?_;refine List.Pairwise.map _ (λa b O e=>?_)<|kQ (R:=λa b=>a≠b) (S:=λa b=>a∈L/\b∈L/\a≠b) (λt hb k=>⟨t,hb,k⟩) H.nd;exact O.2.2<|SX.zu h (T a O.1).1 (T b O.2.1).1 e);by_cases g:(cF Xs L).any (dl Xs)=aP;rw[y g];rw[<-z1,List.any_map] at g;obtain⟨D,n,A,F,hs0,abg⟩:=Tl _ Z g;have Q:n∈Z:=(by grind);have W:∀z∈A,dl Xs z.1=aQ:=λz d=>(by cases q:dl Xs z.1;rfl;exfalso;have Tm:z∈Z:=(by grind);have r0:=N n Q;have r1:=N z Tm;obtain⟨a,_,t,_⟩:=jL r0.lr.ring.ne;obtain⟨a',_,ha',_⟩:=jL r1.lr.ring.ne;have ma:a∈n.2:=lC t;have ma':a'∈z.2:=lC ha';have e:=r0.lr.one hW r1.lr (r0.sh.1 hs0) (r1.sh.1 q) t ha'<|(o n Q a ma).symm.trans<|o z Tm a' ma';rw[F] at Y;simp only[abb,gU,Ah,um] at Y;grind);have u:dl Xs n.1=aP:=hs0;have hsh:o8 (dl Xs) (cF Xs L)=n.1:=(by rw[<-z1,F,abb,gU];exact agj u λc hy=>(by obtain⟨z,d,rfl⟩:=bA.1 hy;grind));have hho:((cF Xs L).filter λr=> !dl Xs r)=(D++A).map Prod.fst:=(by rw[<-z1,F,abb,gU,nr,sN<|by simp[u]];rw[abb];congr 1;rw[E5];intro c hy;obtain⟨z,d,rfl⟩:=bA.1 hy;grind;rw[E5];intro c hy;obtain⟨z,d,rfl⟩:=bA.1 hy;grind);rw[hsh,hho];have B:∀z∈D++A,z∈Z/\dl Xs z.1=aQ:=λz d=>(by rcases dm.1 d with q|q;grind;grind);refine⟨PL++[(n,D++A)],?_,λp J=>?_,λj hj U=>?_,?_⟩;show st.ps++[_]=_;rw[P.ps];simp[o9];rcases dm.1 J with q|q;exact P.ok p q;rw[cI.1 q];refine⟨N n Q,(N n Q).sh.1 u,λz d=>?_,λz d a t s M=>?_⟩;obtain⟨k1,k2⟩:=B z d;exact⟨N z k1,λw=>by rw[(N z k1).sh.2 w] at k2;cases k2⟩;exact(o n Q a t).symm.trans (o z (B z d).1 s M);show ∃p,(PL++[(n,D++A)])[if L.contains j then st.ps.length else st.ow j]?=K p/\_;have m:(st.bC j||L.contains j)=aP:=U;cases q:L.contains j;rw[q,xa] at m;obtain⟨p,e,J⟩:=P.own j hj m;grind;refine⟨(n,D++A),?_,λa t=>(o n Q a t).symm.trans<|SX.I4 h G H<|mK.1 q⟩;rw[y rfl,P.ps,eK,jc<|aX _];simp;show(jN<|PL++[(n,D++A)]).Perm (((List.range Xs.length).filter λj=>st.bC j||L.contains j).map<|pi l Xs);have e1:jN (PL++[(n,D++A)])=jN PL++(n.2++((D++A).map Prod.snd).flatten):=(by simp[jN,r6]);rw[e1];refine(List.Perm.append P.per ?_).trans ((hmk.map _).trans<|by rw[abb]).symm;grind;rw[X g];have hno:∀ring∈cF Xs L,dl Xs ring=aQ:=λring hr=>(by grind);have I:=h.low G hP hk hm (by grind);obtain⟨p,ep,hpf⟩:=P.own _ I.2.1 I.2.2;have hlf:=SX.agi h G H zH hno;generalize hq:st.ow (gI Xs (xi Xs k).f)=q at*;have Dj:st.ps.getD q ([],[])=o9 p:=(by rw[fi,P.ps,aa9,ep];rfl);have D7:=λa t=>(hpf a t).trans hlf.symm;refine⟨PL.set q (p.1,p.2++Z),?_,λp' C=>?_,λj hj U=>?_,?_⟩;show st.ps.set q _=_;rw[Dj,P.ps,VT];congr 1;show((o9 p).1,(o9 p).2++cF Xs L)=_;rw[<-z1];unfold o9;simp;rcases Ax C with w|w;exact P.ok p' w;subst w;have J:=P.ok p<|bB ep;refine⟨J.shell,J.I3,λz d=>?_,λz d a t s M=>?_⟩;rcases dm.1 d with w|w;exact J.hole z w;refine⟨N z w,λv=>?_⟩;have:=(N z w).sh.2 v;grind;rcases dm.1 d with w|w;exact J.part z w a t s M;exact(D7 a t).trans (o z w s M);have D8:=(bX.1 ep).1;show ∃p',(PL.set q (p.1,p.2++Z))[if L.contains j then q else st.ow j]?=K p'/\_;have m:(st.bC j||L.contains j)=aP:=U;cases w:L.contains j;rw[w,xa] at m;obtain⟨p',e',C⟩:=P.own j hj m;grind;rw[y rfl];exact⟨(p.1,p.2++Z),by grind,λa t=>(D7 a t).trans<|SX.I4 h G H<|mK.1 w⟩;show(jN<|PL.set q (p.1,p.2++Z)).Perm (((List.range Xs.length).filter λj=>st.bC j||L.contains j).map<|pi l Xs);refine(agk ep Z).trans ?_;refine(List.Perm.append P.per z3).trans ((hmk.map _).trans<|by rw[abb]).symm;grind
theorem SX.ci(h:SX rg l r Xs)(a:BD Xs):∀k,k<=Xs.length->∃PL,CI l Xs (bT Xs k) PL
 |0,_=>⟨[],rfl,E,λj _ c=>by simp[bT] at c,by simp[bT,jN]⟩
 |k+1,d=>by obtain⟨PL,b⟩:=SX.ci h a k U;rw[ue];exact CI.step h a U (h.pv a k U) b
theorem SX.rY(h:SX rg l r Xs)(c:BD Xs):∃PL,(bT Xs Xs.length).ps=PL.map o9/\(∀p∈PL,Tj l Xs p)/\(jN PL).Perm (sS (aZ l) Xs):=by obtain⟨PL,b⟩:=SX.ci h c Xs.length<|aX _;refine⟨PL,b.ps,b.ok,b.per.trans ?_⟩;have g:=h.pv c Xs.length<|aX _;have e:(List.range Xs.length).filter (bT Xs Xs.length).bC=List.range Xs.length:=(by rw[E5];intro a k;exact g.low a<|gV.1 k);rw[e];unfold sS;have d:(List.range Xs.length).map (pi l Xs)=Xs.map (ph<|aZ l):=(by refine nA E λi m f=>?_;simp only[sO,KF];unfold pi xi;grind);rw[d]
end
abbrev NP:=V Nd×V (V Nd)
def ndP(Xs:V PB)(p:Pg):NP:=(YtkjhhooecopolaaGreatDoor.fr Xs p.1,p.2.map<|YtkjhhooecopolaaGreatDoor.fr Xs)
def fin(Xs:V PB):V NP:=(qB Xs (bT Xs Xs.length).ps).map<|ndP Xs
def sf(c:V Nd):V UInt8:=40::(Pl.df Pl.fC ((c++c.take 1).map N.T)++[41])
def pe(F:V NP):V UInt8:=wJ<|F.map λp=>qC (sf p.1)<|p.2.map sf
theorem I5(Xs:V PB):r9 Xs=pe (fin Xs):=by unfold r9 pe fin DT;rw[eS];congr 1;refine abH λp _=>?_;show jR Xs p=qC (sf<|YtkjhhooecopolaaGreatDoor.fr Xs p.1) ((p.2.map<|YtkjhhooecopolaaGreatDoor.fr Xs).map sf);unfold jR;rw[eS];rfl
structure Canon(S:V w)(nx:w->w)(l:V Nd)(F:V NP):Prop where
 nd:∀p∈F,(∀n∈p.1,n∈l)/\∀h∈p.2,∀n∈h,n∈l
 c1:∀p∈F,∃R,LR S nx R/\shl R/\p.1.map (PM<|aZ l)=fQ R/\∀h∈p.2,∃H,LR S nx H/\¬shl H/\h.map (PM<|aZ l)=fQ H/\∀a∈R,∀s∈H,Fc S a s
 c2:∀R,LR S nx R->shl R->∃p∈F,p.1.map (PM<|aZ l)=fQ R
 c3:∀H,LR S nx H->¬shl H->∃p∈F,∃h∈p.2,h.map (PM<|aZ l)=fQ H
 s1:F.Pairwise λp q=>eJ p.1 q.1<0
 s2:∀p∈F,p.2.Pairwise λa b=>eJ a b<0
theorem I6{α:Type}{lt:α->α->Prop}(d:∀x,¬lt x x)(f:∀x y,lt x y->¬lt y x):∀{c B:V α},c.Pairwise lt->B.Pairwise lt->(∀x,x∈c↔x∈B)->c=B
 |[],[],_,_,_=>rfl
 |[],b::B,_,_,h=>by have:=(h b).2 E;grind
 |a::c,[],_,_,h=>by have:=(h a).1 E;grind
 |a::c,b::B,p,r,h=>by obtain⟨k,m⟩:=fF.1 p;obtain⟨l,n⟩:=fF.1 r;have e:a=b:=(by rcases bK.1 ((h a).1 E) with q|q;exact q;rcases bK.1 ((h b).2 E) with w|w;grind;grind);subst e;congr 1;refine I6 d f m n λx=>?_;grind
theorem I7{α β:Type}{k:α->β}{lt:β->β->Prop}(c:∀x,¬lt x x):∀{b:V α},b.Pairwise (λx y=>lt (k x)<|k y)->∀{x y},x∈b->y∈b->k x=k y->x=y
 |[],_,_,_,h,_,_=>by grind
 |a::b,g,x,y,l,m,e=>by obtain⟨d,f⟩:=fF.1 g;rcases bK.1 l with q|q<;>rcases bK.1 m with w|w;rw[q,w];grind;grind;exact I7 c f q w e
theorem D9(r:V Nd):¬eJ r r<0:=by rw[zF];omega
section
variable{es:V (O×O)}{l:V Nd}{S:V w}{nx:w->w}
theorem Ea(e:bZ es l):∀{a b:V Nd},(∀n∈a,n∈l)->(∀n∈b,n∈l)->a.map (PM<|aZ l)=b.map (PM<|aZ l)->a=b
 |[],[],_,_,_=>rfl
 |[],_::_,_,_,h=>by grind
 |_::_,[],_,_,h=>by grind
 |a::c,b::B,f,g,h=>by rw[gU,gU] at h;injection h with k m;rw[mB e (f a E) (g b E) k,Ea e (λn d=>f n<|by simp[d]) (λn d=>g n<|by simp[d]) m]
theorem Tn(d:bZ es l){a b:V Nd}(e:∀n∈a,n∈l)(f:∀n∈b,n∈l)(h:eJ a b<0):¬eJ b a<0:=λk=>by
 have:=wH a b a (λn c=>d.can n<|e n c) (λn c=>d.can n<|f n c) (λn c=>d.can n<|e n c) h k;rw[zF] at this;omega
theorem Canon.eq(h:Wd S nx)(o:bZ es l){F F':V NP}(c:Canon S nx l F)(e:Canon S nx l F'):F=F':=by have B:∀{F F':V NP},Canon S nx l F->Canon S nx l F'->∀p∈F,∃g∈F',g.1=p.1/\∀x∈p.2,x∈g.2:=(by intro F F' c e p i;obtain⟨R,G,M,r3,r4⟩:=c.c1 p i;obtain⟨g,d,I⟩:=e.c2 R G M;have k1:=Ea o (e.nd g d).1 (c.nd p i).1<|I.trans r3.symm;refine⟨g,d,k1,λx j=>?_⟩;obtain⟨H,D,Y,Z,h4⟩:=r4 x j;obtain⟨r,f,y,E,K⟩:=e.c3 H D Y;have C:y=x:=Ea o ((e.nd r f).2 y E) ((c.nd p i).2 x j)<|K.trans Z.symm;obtain⟨z,N,s2,s3,s4⟩:=e.c1 r f;obtain⟨w,t1,t2,t3,t4⟩:=s4 y E;have T:w=H:=t1.zi h D<|t3.symm.trans K;rw[T] at t4;obtain⟨a,_,t,_⟩:=jL G.ring.ne;obtain⟨A,_,v,_⟩:=jL N.ring.ne;obtain⟨b,_,P,_⟩:=jL D.ring.ne;have U:R=z:=G.one h N M s2 t v<|(h4 a (lC t) b<|lC P).trans (t4 A (lC v) b<|lC P).symm;have u:=Ea o (e.nd r f).1 (e.nd g d).1 (by grind);have k3:r=g:=I7 (k:=Prod.fst) (lt:=λa b=>eJ a b<0) D9 e.s1 f d u;grind);have s:∀{F F':V NP},Canon S nx l F->Canon S nx l F'->∀p∈F,p∈F':=(by intro F F' c e p i;obtain⟨g,d,J,O⟩:=B c e p i;obtain⟨q,hq,X,L⟩:=B e c g d;have:q=p:=I7 (k:=Prod.fst) (lt:=λa b=>eJ a b<0) D9 c.s1 hq i<|X.trans J;rw[this] at L;have W:p.2=g.2:=(by have m:=λx j=>(c.nd p i).2 x j;have Q:=λx j=>(e.nd g d).2 x j;refine I6 (lt:=λa b=>(∀n∈a,n∈l)/\(∀n∈b,n∈l)/\eJ a b<0) (λx k=>D9 x k.2.2) (λx y k u=>Tn o k.1 k.2.1 k.2.2 u.2.2) ?_ ?_ λx=>⟨O x,L x⟩;exact kQ (λt P k=>⟨m _ t,m _ P,k⟩) (c.s2 p i);exact kQ (λt P k=>⟨Q _ t,Q _ P,k⟩) (e.s2 g d));grind);have m:∀{F:V NP},Canon S nx l F->F.Pairwise (λp q=>(∀n∈p.1,n∈l)/\(∀n∈q.1,n∈l)/\eJ p.1 q.1<0):=λc=>kQ (λt P k=>⟨(c.nd _ t).1,(c.nd _ P).1,k⟩) c.s1;exact I6 (lt:=λp q:NP=>(∀n∈p.1,n∈l)/\(∀n∈q.1,n∈l)/\eJ p.1 q.1<0) (λx k=>D9 x.1 k.2.2) (λx y k u=>Tn o k.1 k.2.1 k.2.2 u.2.2) (m c) (m e) λx=>⟨s c e x,s e c x⟩
variable{S':V w}{nx':w->w}
theorem To{a x y:O}(d:a≠(0,0))(e:x≠(0,0))(f:y≠(0,0))(p:bh x a=aQ)(q:bh y a=aQ)(r:bh x y=aQ):cw a x y=aP\/cw a y x=aP:=by have b:=ik e d;have c:=ik f d;have t3:=ik e f;rw[p] at b;rw[q] at c;rw[r] at t3;rw[kk,kk];grind
theorem ags(h:Wd S nx)(k:Wd S' nx')(e:∀s,s∈S↔s∈S'){s:w}(c:s∈S):nx s=nx' s:=by obtain⟨d,f⟩:=h.tX s c;obtain⟨l,g⟩:=k.tX s<|(e s).1 c;have b:=(e _).2 l;have m:=h.w1 s c _ b g;have n:=k.w1 s ((e s).1 c) _ ((e _).1 d) f;cases q:bh (dr<|nx s) (dr<|nx' s);rcases To (iz<|h.aaT c) (h.aaT d) (h.aaT b) (h.two _ d _ c f) (h.two _ b _ c g) q with a|a;grind;grind;exact h.one _ d _ b (f.trans g.symm) q
theorem I8(h:Wd S nx)(a:Wd S' nx')(b:∀s,s∈S↔s∈S'){s:w}(c:s∈S):∀k,it nx k s=it nx' k s
 |0=>rfl
 |k+1=>by show nx (it nx k s)=nx' (it nx' k s);rw[<-I8 h a b c k];exact ags h a b<|h.abh c k
theorem LR.same(h:Wd S nx)(d:Wd S' nx')(c:∀s,s∈S↔s∈S'){R:V w}(k:LR S nx R):LR S' nx' R:=by have mV:∀{s t},t∈S->qr nx s t->qr nx' s t:=(by rintro s t a ⟨e,n,f,g⟩;refine⟨e,n,by rw[<-I8 h d c a];exact f,λj l m=>?_⟩;rw[<-I8 h d c a];grind);refine⟨⟨k.ring.ne,λs b=>(c s).1<|k.ring.mem s b,k.ring.iA,λi s t b a=>mV (k.ring.mem t<|bB a)<|k.ring.mV i s t b a,λs t b a=>mV (k.ring.mem t<|lC a)<|k.ring.cls s t b a⟩,k.least⟩
theorem Fc.same(a:∀s,s∈S↔s∈S'){s u:w}(k:Fc S s u):Fc S' s u:=λes b d=>k es b λe c=>by
 rcases d e c with q|q
 grind
 grind
theorem Canon.same(h:Wd S nx)(d:Wd S' nx')(e:∀s,s∈S↔s∈S'){F:V NP}(c:Canon S nx l F):Canon S' nx' l F:=by have b:=λs=>(e s).symm;refine⟨c.nd,λp t=>?_,λR q=>c.c2 R<|q.same d h b,λH n=>c.c3 H<|n.same d h b,c.s1,c.s2⟩;obtain⟨R,P,Q,i,j⟩:=c.c1 p t;refine⟨R,P.same h d e,Q,i,λx B=>?_⟩;obtain⟨H,f,g,k,m⟩:=j x B;exact⟨H,f.same h d e,g,k,λa r s v=>(m a r s v).same e⟩
end
theorem Tp{β:Type}(cf:β->β->Int)(L:V β)(c:Sort.SWO (ltOf λi j:Fin L.length=>cf L[i] L[j])):(jM cf L).Perm L/\(jM cf L).Pairwise (λx y=>¬cf y x<0):=by unfold jM;by_cases h:0<L.length;rw[dif_pos h];obtain⟨n,f,g⟩:=IR _ c h;refine⟨?_,?_⟩;have k:=f.map (λi:Fin L.length=>L[i]);simp_all;rw[ic,jm];simp_all;simp_all
section
variable{rg:V (V O)}{l:V Nd}{r:Int}{Xs:V PB}
theorem Rel.nodes(h:SX rg l r Xs){q:V Nat}(d:∀a∈q,a<Xs.length):∀n∈YtkjhhooecopolaaGreatDoor.fr Xs q,n∈l:=λn c=>by
 obtain⟨a,b,rfl⟩:=bA.1 c;exact(SX.mC h<|d a b).1
theorem SX.canon(h:SX rg l r Xs)(Y:BD Xs):Canon (sS (aZ l) Xs) (iU (aZ l) Xs) l (fin Xs):=by
 have T:=SX.wd h Y;obtain⟨PL,E,f,u⟩:=SX.rY h Y;have hpn:=h.pn Y Xs.length<|aX _;have I:(sS (aZ l) Xs).Nodup:=(by unfold sS;rw[List.Nodup,ic,jm];intro i c J hj hij e;have gx:∀{i:Nat}(J:i<Xs.length),xi Xs i=Xs[i]:=λJ=>qt<|be J;have:=SX.zu h J hj (by grind);omega);have hnd:=u.nodup_iff.2 I;obtain⟨nd1,O⟩:=xf.1 hnd;rw[ic] at O;have K:=λp d=>nd1 _<|bA.2 ⟨p,d,rfl⟩;have v:∀p∈PL,(∀a∈p.1.1,a<Xs.length)/\∀z∈p.2,∀a∈z.1,a<Xs.length:=λp d=>(by have:=hpn (o9 p) (by grind);exact⟨this.1.lt,λz m=>(this.2 z.1<|bA.2 ⟨z,m,rfl⟩).lt⟩)
 have can:∀q:V Nat,(∀a∈q,a<Xs.length)->∀n∈YtkjhhooecopolaaGreatDoor.fr Xs q,N.Can n:=λq A n hn=>h.nl.can n<|Rel.nodes h A n hn;have hole:∀p∈PL,(jM (qy Xs)<|p.2.map Prod.fst).Perm (p.2.map Prod.fst)/\((jM (qy Xs)<|p.2.map Prod.fst).map<|YtkjhhooecopolaaGreatDoor.fr Xs).Pairwise λa b=>eJ a b<0:=λp d=>by
  obtain⟨s1,s2⟩:=Tp (qy Xs) (p.2.map Prod.fst) (wI (λi:Fin (p.2.map Prod.fst).length=>YtkjhhooecopolaaGreatDoor.fr Xs (p.2.map Prod.fst)[i]) λi a Q=>by
   grind)
  refine⟨s1,?_⟩;have hk:(p.2.map λz=>YtkjhhooecopolaaGreatDoor.fr Xs z.1).Nodup:=(by have hd:=(wY.1<|K p d).2.1;obtain⟨_,d2⟩:=xf.1 hd;rw[ic] at d2;rw[List.Nodup,ic];refine kQ (λ{z w} m hw k e=>?_) d2;have D:=((f p d).hole z m).1;have P:=((f p d).hole w hw).1;have X:=D.lr.zi T P.lr (by rw[<-D.fQ,<-P.fQ,e]);obtain⟨a,_,Q,_⟩:=jL D.lr.ring.ne;have o:=lC Q;grind);have S:((jM (qy Xs)<|p.2.map Prod.fst).map<|YtkjhhooecopolaaGreatDoor.fr Xs).Nodup:=(by grind);rw[ic];rw[List.Nodup,ic] at S;refine kQ (λ{x y} t C k=>?_)<|s2.and S;have mem:∀x∈jM (qy Xs) (p.2.map Prod.fst),∀n∈YtkjhhooecopolaaGreatDoor.fr Xs x,N.Can n:=λx t=>(by obtain⟨z,m,rfl⟩:=bA.1<|s1.mem_iff.1 t;grind);rcases wG (YtkjhhooecopolaaGreatDoor.fr Xs x) (YtkjhhooecopolaaGreatDoor.fr Xs y) (mem x t) (mem y C) with q|q|q;exact q;exact absurd q k.1;grind
 have hsw:Sort.SWO (ltOf λi c:Fin ((bT Xs Xs.length).ps.map<|abd Xs).length=>qz Xs ((bT Xs Xs.length).ps.map<|abd Xs)[i] ((bT Xs Xs.length).ps.map<|abd Xs)[c]):=
  wI (λi:Fin ((bT Xs Xs.length).ps.map<|abd Xs).length=>YtkjhhooecopolaaGreatDoor.fr Xs ((bT Xs Xs.length).ps.map<|abd Xs)[i].1) λi a Q=>by
   have hm:((bT Xs Xs.length).ps.map<|abd Xs)[i]∈(bT Xs Xs.length).ps.map (abd Xs):=eo _;obtain⟨g,hg,eg⟩:=bA.1 hm;have hg':g∈PL.map o9:=by grind
   obtain⟨p,d,rfl⟩:=bA.1 hg';have B:=Q;have e2:((bT Xs Xs.length).ps.map<|abd Xs)[i].1=p.1.1:=by rw[<-eg];rfl
   grind
 obtain⟨W,t2⟩:=Tp (qz Xs) ((bT Xs Xs.length).ps.map<|abd Xs) hsw;have s:∀x,x∈fin Xs↔∃p∈PL,x=(YtkjhhooecopolaaGreatDoor.fr Xs p.1.1,(jM (qy Xs)<|p.2.map Prod.fst).map<|YtkjhhooecopolaaGreatDoor.fr Xs):=λx=>(by unfold fin qB;rw[bA];constructor;rintro⟨g,hg,rfl⟩;have:=W.mem_iff.1 hg;rw[E,eS] at this;obtain⟨p,d,rfl⟩:=bA.1 this;exact⟨p,d,rfl⟩;rintro⟨p,d,rfl⟩;refine⟨abd Xs<|o9 p,W.mem_iff.2 ?_,rfl⟩;grind);have find:∀R,LR (sS (aZ l) Xs) (iU (aZ l) Xs) R->∃p∈PL,p.1.2=R\/∃z∈p.2,z.2=R:=λR G=>(by obtain⟨a,_,Q,_⟩:=jL G.ring.ne;have o:=lC Q;obtain⟨L,hL,haL⟩:=pG.1<|u.mem_iff.2<|G.ring.mem a o;obtain⟨p,d,rfl⟩:=bA.1 hL;rcases dm.1 haL with q|q;exact⟨p,d,j<|(f p d).shell.lr.eq T G q o⟩;obtain⟨H,Z,haH⟩:=pG.1 q;obtain⟨z,m,rfl⟩:=bA.1 Z;exact⟨p,d,F ⟨z,m,((f p d).hole z m).1.lr.eq T G haH o⟩⟩);refine⟨λx t=>?_,λx t=>?_,λR G M=>?_,λH Z M=>?_,?_,λx t=>?_⟩;obtain⟨p,d,rfl⟩:=(s x).1 t;refine⟨Rel.nodes h (v p d).1,λy C=>?_⟩;obtain⟨q,A,rfl⟩:=bA.1 C;obtain⟨z,m,rfl⟩:=bA.1<|(hole p d).1.mem_iff.1 A;exact Rel.nodes h<|(v p d).2 z m;obtain⟨p,d,rfl⟩:=(s x).1 t;have ok:=f p d;refine⟨p.1.2,ok.shell.lr,ok.I3,ok.shell.fQ,λy C=>?_⟩;obtain⟨q,A,rfl⟩:=bA.1 C;obtain⟨z,m,rfl⟩:=bA.1<|(hole p d).1.mem_iff.1 A;exact⟨z.2,(ok.hole z m).1.lr,(ok.hole z m).2,(ok.hole z m).1.fQ,ok.part z m⟩;obtain⟨p,d,q|⟨z,m,q⟩⟩:=find R G;exact⟨_,(s _).2 ⟨p,d,rfl⟩,by rw[<-q];exact(f p d).shell.fQ⟩;rw[<-q] at M;exact absurd M ((f p d).hole z m).2;obtain⟨p,d,q|⟨z,m,q⟩⟩:=find H Z;rw[<-q] at M;exact absurd (f p d).I3 M;exact⟨_,(s _).2 ⟨p,d,rfl⟩,YtkjhhooecopolaaGreatDoor.fr Xs z.1,bA.2 ⟨z.1,(hole p d).1.mem_iff.2<|bA.2 ⟨z,m,rfl⟩,rfl⟩,by rw[<-q];exact((f p d).hole z m).1.fQ⟩;unfold fin qB;rw[ic];have hk:((bT Xs Xs.length).ps.map<|abd Xs).Pairwise λa b=>YtkjhhooecopolaaGreatDoor.fr Xs a.1≠YtkjhhooecopolaaGreatDoor.fr Xs b.1:=(by rw[E,eS,ic];refine kQ (λ{p q} d A k e=>?_) O;have D:=(f p d).shell;have P:=(f q A).shell;have e':YtkjhhooecopolaaGreatDoor.fr Xs p.1.1=YtkjhhooecopolaaGreatDoor.fr Xs q.1.1:=e;have X:=D.lr.zi T P.lr (by rw[<-D.fQ,<-P.fQ,e']);obtain⟨a,_,Q,_⟩:=jL D.lr.ring.ne;have o:=lC Q;exact k a (pK _ o) a (pK _ (by grind)) rfl);have S:=W.symm.pairwise hk<|λk e=>k e.symm;refine kQ (λ{x y} t C k=>?_)<|t2.and S;have mem:∀x∈jM (qz Xs) ((bT Xs Xs.length).ps.map<|abd Xs),∀n∈YtkjhhooecopolaaGreatDoor.fr Xs x.1,N.Can n:=λx t=>(by have:=W.mem_iff.1 t;rw[E,eS] at this;obtain⟨p,d,rfl⟩:=bA.1 this;exact can p.1.1 (v p d).1);rcases wG (YtkjhhooecopolaaGreatDoor.fr Xs x.1) (YtkjhhooecopolaaGreatDoor.fr Xs y.1) (mem x t) (mem y C) with q|q|q;exact q;exact absurd q k.1;grind;grind
theorem agv{qE:V (V O)}{r':Int}{zI:V PB}(h:SX rg l r Xs)(n:BD Xs)(c:SX qE l r' zI)(d:BD zI)(p:∀a b,Sd (o rg) l (takes r) a b↔Sd (o qE) l (takes r') a b):r9 Xs=r9 zI:=by have t:=SX.wd h n;have e:=SX.wd c d;have q:∀s,s∈sS (aZ l) Xs↔s∈sS (aZ l) zI:=λs=>(by unfold sS;rw[bA,bA];constructor;rintro⟨x,k,rfl⟩;obtain⟨y,m,f,g⟩:=c.all _ _<|(p _ _).1<|h.mem x k;exact⟨y,m,by unfold ph;rw[f,g]⟩;rintro⟨x,k,rfl⟩;obtain⟨y,m,f,g⟩:=h.all _ _<|(p _ _).2<|c.mem x k;exact⟨y,m,by unfold ph;rw[f,g]⟩);rw[I5,I5,((SX.canon h n).same t e q).eq e c.nl<|SX.canon c d]
end
end Gb
end Go.Proofs.YtkjhhooecopolaaGreatDoor
