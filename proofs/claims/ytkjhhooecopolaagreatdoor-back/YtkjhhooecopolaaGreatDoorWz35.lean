import Derived.Test.YtkjhhooecopolaaGreatDoorWz34
set_option maxRecDepth 100000
set_option maxHeartbeats 4000000
namespace Go.Proofs.YtkjhhooecopolaaGreatDoor.Gb
open Ge Ga
abbrev RP:=List Nat×List Sg
abbrev qX:=RP×List RP
def mF(p:qX):Pg:=(p.1.1,p.2.map Prod.fst)
def uK(p:qX):List Sg:=p.1.2++(p.2.map Prod.snd).flatten
def jr(PL:List qX):List Sg:=(PL.map uK).flatten
section
variable{rg:List (List Pt)}{l:List Nd}{r:Int}{Xs:List PB}
structure Ze(l:List Nd)(Xs:List PB)(p:qX):Prop where
 shell:Rel l Xs p.1.1 p.1.2
 O7:shl p.1.2
 hole:∀z∈p.2,Rel l Xs z.1 z.2/\¬shl z.2
 part:∀z∈p.2,∀a∈p.1.2,∀s∈z.2,Fc (sS (aa l) Xs) a s
structure CI(l:List Nd)(Xs:List PB)(st:St)(PL:List qX):Prop where
 ps:st.ps=PL.map mF
 ok:∀p∈PL,Ze l Xs p
 own:∀j,j<Xs.length->st.aK j=true->∃p,PL[st.ow j]?=some p/\∀a∈p.1.2,Fc (sS (aa l) Xs) a (pi l Xs j)
 per:(jr PL).Perm (((List.range Xs.length).filter st.aK).map (pi l Xs))
theorem filter_or{α:Type}(p q:α->Bool):∀(L:List α),(∀x∈L,p x=true->q x=false)->(L.filter fun x=>p x||q x).Perm (L.filter p++L.filter q)
 |[],_=>by simp
 |x::L,h=>by
  have ih:=filter_or p q L fun y hy=>h y (aT _ hy)
  cases hp:p x
  ·cases hq:q x
   ·rw[pF (by simp[hp,hq]),pF (by simp[hp]),pF (by simp[hq])]
    exact ih
   ·rw[oc (by simp[hq]),pF (by simp[hp]),oc hq]
    exact(ih.cons x).trans (List.perm_middle).symm
  ·have hq:=h x (by simp) hp
   rw[oc (by simp[hp]),oc hp,pF (by simp[hq])]
   exact ih.cons x
theorem marks{n:Nat}{mk:Nat->Bool}{L:List Nat}(hnd:L.Nodup)(hf:∀a∈L,a<n/\mk a=false):((List.range n).filter fun j=>mk j||L.contains j).Perm ((List.range n).filter mk++L):=by
 refine(filter_or mk L.contains (List.range n) fun x _ hx=>?_).trans (FE _ ?_)
 ·cases q:L.contains x
  ·rfl
  ·have:=(hf x (tP.1 q)).2;rw[hx] at this;cases this
 ·refine(List.perm_ext_iff_of_nodup (abk _ List.nodup_range) hnd).2 fun a=>?_
  rw[eY,qi,tP];exact⟨fun k=>k.2,fun k=>⟨(hf a k).1,k⟩⟩
theorem aj5{P:List Nat->Bool}{A B:List (List Nat)}{x:List Nat}(hx:P x=true)(hB:∀y∈B,P y=false):tz P (A++x::B)=x:=by
 unfold tz;rw[KJ,rq,aj hx];have:∀(B:List (List Nat)) acc,(∀y∈B,P y=false)->B.foldl (fun acc r=>if P r then r else acc) acc=acc:=by
  intro B;induction B with
  |nil=>intro acc _;rfl
  |cons b B ih=>
   intro acc h;rw[rq,h b (by simp)]
   exact ih acc fun y hy=>h y (aT _ hy)
 exact this B x hB
theorem Zf{α:Type}(P:α->Bool):∀(L:List α),L.any P=true->∃A x B,L=A++x::B/\P x=true/\∀y∈A,P y=false
 |[],h=>by simp at h
 |x::L,h=>by
  cases hp:P x
  ·have h':L.any P=true:=by rw[List.any_cons,hp] at h;simpa using h
   obtain⟨A,y,B,e,h1,h2⟩:=Zf P L h';refine⟨x::A,y,B,by rw[e];rfl,h1,fun z hz=>?_⟩
   rcases aP.1 hz with q|q
   ·rw[q];exact hp
   ·exact h2 z q
  ·exact⟨[],x,L,rfl,hp,by simp⟩
theorem aj6{PL:List qX}{q:Nat}{p:qX}(h:PL[q]?=some p)(Z:List RP):(jr (PL.set q (p.1,p.2++Z))).Perm (jr PL++(Z.map Prod.snd).flatten):=by
 obtain⟨hq,e⟩:=bZ.1 h;have e1:PL=PL.take q++p::PL.drop (q+1):=by
  rw[<-e,List.getElem_cons_drop,KA]
 have e2:PL.set q (p.1,p.2++Z)=PL.take q++(p.1,p.2++Z)::PL.drop (q+1):=List.set_eq_take_append_cons_drop.trans (aj hq);rw[e2];have e3:jr PL=jr (PL.take q)++(uK p++jr (PL.drop (q+1))):=by
  have:=au jr e1;rw[this];simp[jr]
 rw[e3];have e4:jr (PL.take q++(p.1,p.2++Z)::PL.drop (q+1))=jr (PL.take q)++((uK p++(Z.map Prod.snd).flatten)++jr (PL.drop (q+1))):=by
  simp[jr,uK]
 rw[e4,fB,fB,fB];exact FE _ (FE _ FH)
theorem SX.O8(h:SX rg l r Xs)(hB:BD Xs){mk:Nat->Bool}{k:Nat}{L:List Nat}(hc:nW (cJ Xs) mk Xs.length k L){i:Nat}(hi:i∈L):Fc (sS (aa l) Xs) (pi l Xs k) (pi l Xs i):=by
 obtain⟨t,ht,e⟩:=iO.1 hi;have:=SX.it h hc t ht;have e1:L.getD t 0=i:=by rw[lS,aC ht,e];rfl
 rw[e1] at this;rw[<-this];obtain⟨_,g2,_,g4⟩:=E7 hc;have hk:k<Xs.length:=by rw[<-g2];exact(hc.free _ (uP g4)).1
 exact(SX.wd h hB).fc (Ei _ hk) (Ck _ _ t)
theorem CI.step(h:SX rg l r Xs)(hB:BD Xs){st:St}{k:Nat}{PL:List qX}(hk:k<Xs.length)(hP:PV Xs st k)(hC:CI l Xs st PL):∃jQ,CI l Xs (nX Xs st k) jQ:=by
 have hW:=SX.wd h hB;unfold nX;cases hm:st.aK k
 ·rw[af (by simp)]
  obtain⟨hc,yJ⟩:=h.walk hB hP hk hm;obtain⟨Z,z1,z2,z3⟩:=SX.rings h hB hc;generalize hL:cM Xs st.aK k=L at*;have iu:=hc.free;have hmk:=marks hc.nd iu;have zin:∀z∈Z,∀s∈z.2,∃i∈L,s=pi l Xs i:=fun z hz s hs=>by
   have:s∈(Z.map Prod.snd).flatten:=tO.2 ⟨z.2,aN.2 ⟨z,hz,rfl⟩,hs⟩;obtain⟨i,hi,e⟩:=aN.1 (z3.mem_iff.1 this);exact⟨i,hi,e.symm⟩
  have Be:∀z∈Z,∀s∈z.2,Fc (sS (aa l) Xs) (pi l Xs k) s:=fun z hz s hs=>by
   obtain⟨i,hi,rfl⟩:=zin z hz s hs;exact SX.O8 h hB hc hi
  have hnd:(Z.map Prod.snd).flatten.Nodup:=by
   refine z3.nodup_iff.2 ?_;refine List.Pairwise.map _ (fun a b hab e=>?_) (rC (R:=fun a b=>a≠b) (S:=fun a b=>a∈L/\b∈L/\a≠b) (fun ha hb k=>⟨ha,hb,k⟩) hc.nd)
   exact hab.2.2 (SX.AH h (iu a hab.1).1 (iu b hab.2.1).1 e)
  by_cases kz:(bp Xs L).any (cC Xs)=true
  ·rw[aj kz];rw[<-z1,List.any_map] at kz;obtain⟨Z1,z0,Z2,eZ,hs0,lV⟩:=Zf _ Z kz;have hz0:z0∈Z:=by rw[eZ];simp
   have rJ:∀z∈Z2,cC Xs z.1=false:=fun z hz=>by
    cases q:cC Xs z.1
    ·rfl
    ·exfalso;have Zg:z∈Z:=by rw[eZ];simp[hz]
     have r0:=z2 z0 hz0;have r1:=z2 z Zg;obtain⟨a,_,ha,_⟩:=jI r0.lr.ring.ne;obtain⟨a',_,ha',_⟩:=jI r1.lr.ring.ne;have ma:a∈z0.2:=qj ha;have ma':a'∈z.2:=qj ha';have e:=r0.lr.one hW r1.lr (r0.sh.1 hs0) (r1.sh.1 q) ha ha' ((Be z0 hz0 a ma).symm.trans (Be z Zg a' ma'));rw[eZ] at hnd;simp only[ja,eI,Qu,tN] at hnd;have hd:=(KG.1 (KG.1 hnd).2.1).2.2;exact hd a ma a (tO.2 ⟨z.2,aN.2 ⟨z,hz,rfl⟩,by rw[<-e];exact ma⟩) rfl
   have O9:cC Xs z0.1=true:=hs0;have hsh:tz (cC Xs) (bp Xs L)=z0.1:=by
    rw[<-z1,eZ,ja,eI];exact aj5 O9 fun y hy=>by
     obtain⟨z,hz,rfl⟩:=aN.1 hy;exact rJ z hz
   have uH:((bp Xs L).filter fun r=> !cC Xs r)=(Z1++Z2).map Prod.fst:=by
    rw[<-z1,eZ,ja,eI,BB,pF (by simp[O9])]
    rw[ja];congr 1
    ·rw[Kn];intro y hy;obtain⟨z,hz,rfl⟩:=aN.1 hy;have:cC Xs z.1=false:=lV z hz;simp[this]
    ·rw[Kn];intro y hy;obtain⟨z,hz,rfl⟩:=aN.1 hy;simp[rJ z hz]
   rw[hsh,uH];have Zh:∀z∈Z1++Z2,z∈Z/\cC Xs z.1=false:=fun z hz=>by
    rcases bQ.1 hz with q|q
    ·exact⟨by rw[eZ];simp[q],lV z q⟩
    ·exact⟨by rw[eZ];simp[q],rJ z q⟩
   refine⟨PL++[(z0,Z1++Z2)],?_,fun p hp=>?_,fun j hj lN=>?_,?_⟩
   ·show st.ps++[_]=_;rw[hC.ps];simp[mF]
   ·rcases bQ.1 hp with q|q
    ·exact hC.ok p q
    ·rw[bY.1 q];refine⟨z2 z0 hz0,(z2 z0 hz0).sh.1 O9,fun z hz=>?_,fun z hz a ha s hs=>?_⟩
     ·obtain⟨k1,k2⟩:=Zh z hz;exact⟨z2 z k1,fun w=>by rw[(z2 z k1).sh.2 w] at k2;cases k2⟩
     ·exact(Be z0 hz0 a ha).symm.trans (Be z (Zh z hz).1 s hs)
   ·show ∃p,(PL++[(z0,Z1++Z2)])[if L.contains j then st.ps.length else st.ow j]?=some p/\_
    have E8:(st.aK j||L.contains j)=true:=lN
    cases q:L.contains j
    ·rw[q,FV] at E8;obtain⟨p,e,hp⟩:=hC.own j hj E8;refine⟨p,?_,hp⟩;rw[af (by simp),fC (bZ.1 e).1]
     exact e
    ·refine⟨(z0,Z1++Z2),?_,fun a ha=>(Be z0 hz0 a ha).symm.trans (SX.O8 h hB hc (tP.1 q))⟩
     rw[aj rfl,hC.ps,iF,n9 (ay _)];simp
   ·show(jr (PL++[(z0,Z1++Z2)])).Perm (((List.range Xs.length).filter fun j=>st.aK j||L.contains j).map (pi l Xs))
    have e1:jr (PL++[(z0,Z1++Z2)])=jr PL++(z0.2++((Z1++Z2).map Prod.snd).flatten):=by simp[jr,uK]
    rw[e1];refine(abw hC.per ?_).trans ((hmk.map _).trans (by rw[ja])).symm
    refine List.Perm.trans ?_ z3;rw[eZ];simp only[ja,eI,Qu,tN];rw[<-fB,<-fB];exact List.perm_append_comm.append_right _
  ·rw[af kz];have hno:∀ring∈bp Xs L,cC Xs ring=false:=fun ring hr=>by
    cases q:cC Xs ring
    ·rfl
    ·exact absurd (QF.2 ⟨ring,hr,q⟩) kz
   have pW:=h.low hB hP hk hm (by rw[hL];exact hno)
   obtain⟨p,ep,E9⟩:=hC.own _ pW.2.1 pW.2.2;have Jp:=SX.aj4 h hB hc yJ hno;generalize hq:st.ow (ij Xs (xi Xs k).f)=q at*;have kL:st.ps.getD q ([],[])=mF p:=by
    rw[lS,hC.ps,gz,ep];rfl
   have wF:∀a∈p.1.2,Fc (sS (aa l) Xs) a (pi l Xs k):=fun a ha=>(E9 a ha).trans Jp.symm
   refine⟨PL.set q (p.1,p.2++Z),?_,fun p' hp'=>?_,fun j hj lN=>?_,?_⟩
   ·show st.ps.set q _=_;rw[kL,hC.ps,abq];congr 1;show((mF p).1,(mF p).2++bp Xs L)=_;rw[<-z1];unfold mF;simp
   ·rcases amE hp' with w|w
    ·exact hC.ok p' w
    ·subst w;have hp:=hC.ok p (aZ ep);refine⟨hp.shell,hp.O7,fun z hz=>?_,fun z hz a ha s hs=>?_⟩
     ·rcases bQ.1 hz with w|w
      ·exact hp.hole z w
      ·refine⟨z2 z w,fun v=>?_⟩
       have:=(z2 z w).sh.2 v;rw[hno z.1 (by rw[<-z1];exact aN.2 ⟨z,w,rfl⟩)] at this
       cases this
     ·rcases bQ.1 hz with w|w
      ·exact hp.part z w a ha s hs
      ·exact(wF a ha).trans (Be z w s hs)
   ·have mr:q<PL.length:=(bZ.1 ep).1;show ∃p',(PL.set q (p.1,p.2++Z))[if L.contains j then q else st.ow j]?=some p'/\_
    have E8:(st.aK j||L.contains j)=true:=lN
    cases w:L.contains j
    ·rw[w,FV] at E8;obtain⟨p',e',hp'⟩:=hC.own j hj E8;rw[af (by simp)]
     by_cases AZ:st.ow j=q
     ·rw[AZ] at e'⊢;rw[ep] at e';obtain rfl:p=p':=gA e';exact⟨(p.1,p.2++Z),by rw[ru mr],hp'⟩
     ·exact⟨p',by rw[wZ (fun x=>AZ x.symm)];exact e',hp'⟩
    ·rw[aj rfl];exact⟨(p.1,p.2++Z),by rw[ru mr],fun a ha=>(wF a ha).trans (SX.O8 h hB hc (tP.1 w))⟩
   ·show(jr (PL.set q (p.1,p.2++Z))).Perm (((List.range Xs.length).filter fun j=>st.aK j||L.contains j).map (pi l Xs))
    refine(aj6 ep Z).trans ?_;refine(abw hC.per z3).trans ((hmk.map _).trans (by rw[ja])).symm
 ·rw[aj rfl];exact⟨PL,hC⟩
theorem SX.ci(h:SX rg l r Xs)(hB:BD Xs):∀k,k<=Xs.length->∃PL,CI l Xs (aM Xs k) PL
 |0,_=>⟨[],rfl,by simp,fun j _ hm=>by simp[aM] at hm,by simp[aM,jr]⟩
 |k+1,hk=>by
  obtain⟨PL,hC⟩:=SX.ci h hB k (by omega)
  rw[yD];exact CI.step h hB (by omega) (h.pv hB k (by omega)) hC
theorem SX.qU(h:SX rg l r Xs)(hB:BD Xs):∃PL,(aM Xs Xs.length).ps=PL.map mF/\(∀p∈PL,Ze l Xs p)/\(jr PL).Perm (sS (aa l) Xs):=by
 obtain⟨PL,hC⟩:=SX.ci h hB Xs.length (ay _);refine⟨PL,hC.ps,hC.ok,hC.per.trans ?_⟩;have hP:=h.pv hB Xs.length (ay _);have e:(List.range Xs.length).filter (aM Xs Xs.length).aK=List.range Xs.length:=by
  rw[Kn];intro a ha;exact hP.low a (qi.1 ha)
 rw[e];unfold sS;have e2:(List.range Xs.length).map (pi l Xs)=Xs.map (ph (aa l)):=by
  refine xg (by simp) fun i h1 h2=>?_
  simp only[abr,List.getElem_range];unfold pi xi;rw[lS,aC (by simpa using h2)]
  rfl
 rw[e2]
end
abbrev NP:=List Nd×List (List Nd)
def Zi(Xs:List PB)(p:Pg):NP:=(Go.Proofs.YtkjhhooecopolaaGreatDoor.fr Xs p.1,p.2.map (Go.Proofs.YtkjhhooecopolaaGreatDoor.fr Xs))
def fin(Xs:List PB):List NP:=(tA Xs (aM Xs Xs.length).ps).map (Zi Xs)
def jD(c:List Nd):List UInt8:=40::(Pl.bh Pl.gI ((c++c.take 1).map Ge.ax)++[41])
def yK(F:List NP):List UInt8:=uO (F.map fun p=>oZ (jD p.1) (p.2.map jD))
theorem Bf(Xs:List PB):qW Xs=yK (fin Xs):=by
 unfold qW yK fin E5;rw[fL];congr 1;refine rB fun p _=>?_
 show fI Xs p=oZ (jD (Go.Proofs.YtkjhhooecopolaaGreatDoor.fr Xs p.1)) ((p.2.map (Go.Proofs.YtkjhhooecopolaaGreatDoor.fr Xs)).map jD);unfold fI;rw[fL];rfl
structure Canon(S:List Sg)(nx:Sg->Sg)(l:List Nd)(F:List NP):Prop where
 nd:∀p∈F,(∀n∈p.1,n∈l)/\∀h∈p.2,∀n∈h,n∈l
 c1:∀p∈F,∃R,LR S nx R/\shl R/\p.1.map (PM (aa l))=aY R/\∀h∈p.2,∃H,LR S nx H/\¬shl H/\h.map (PM (aa l))=aY H/\∀a∈R,∀s∈H,Fc S a s
 c2:∀R,LR S nx R->shl R->∃p∈F,p.1.map (PM (aa l))=aY R
 c3:∀H,LR S nx H->¬shl H->∃p∈F,∃h∈p.2,h.map (PM (aa l))=aY H
 s1:F.Pairwise fun p q=>fH p.1 q.1<0
 s2:∀p∈F,p.2.Pairwise fun a b=>fH a b<0
theorem Pb{α:Type}{lt:α->α->Prop}(yL:∀x,¬lt x x)(mn:∀x y,lt x y->¬lt y x):∀{A B:List α},A.Pairwise lt->B.Pairwise lt->(∀x,x∈A↔x∈B)->A=B
 |[],[],_,_,_=>rfl
 |[],b::B,_,_,h=>by have:=(h b).2 (by simp);simp at this
 |a::A,[],_,_,h=>by have:=(h a).1 (by simp);simp at this
 |a::A,b::B,hA,hB,h=>by
  obtain⟨a1,a2⟩:=fK.1 hA;obtain⟨b1,b2⟩:=fK.1 hB;have e:a=b:=by
   rcases aP.1 ((h a).1 (by simp)) with q|q
   ·exact q
   ·rcases aP.1 ((h b).2 (by simp)) with w|w
    ·exact w.symm
    ·exact absurd (a1 b w) (mn _ _ (b1 a q))
  subst e;congr 1;refine Pb yL mn a2 b2 fun x=>?_
  constructor
  ·intro hx;rcases aP.1 ((h x).1 (aT _ hx)) with q|q
   ·exact absurd (a1 x hx) (by rw[q];exact yL _)
   ·exact q
  ·intro hx;rcases aP.1 ((h x).2 (aT _ hx)) with q|q
   ·exact absurd (b1 x hx) (by rw[q];exact yL _)
   ·exact q
theorem Pc{α β:Type}{k:α->β}{lt:β->β->Prop}(yL:∀x,¬lt x x):∀{A:List α},A.Pairwise (fun x y=>lt (k x) (k y))->∀{x y},x∈A->y∈A->k x=k y->x=y
 |[],_,_,_,h,_,_=>by simp at h
 |a::A,hA,x,y,hx,hy,e=>by
  obtain⟨a1,a2⟩:=fK.1 hA;rcases aP.1 hx with q|q<;>rcases aP.1 hy with w|w
  ·rw[q,w]
  ·have:=a1 y w;rw[<-q,e] at this;exact absurd this (yL _)
  ·have:=a1 x q;rw[<-w,e] at this;exact absurd this (yL _)
  ·exact Pc yL a2 q w e
theorem JT(r:List Nd):¬fH r r<0:=by rw[JH];omega
section
variable{es:List (Pt×Pt)}{l:List Nd}{S:List Sg}{nx:Sg->Sg}
theorem JU(hN:bC es l):∀{a b:List Nd},(∀n∈a,n∈l)->(∀n∈b,n∈l)->a.map (PM (aa l))=b.map (PM (aa l))->a=b
 |[],[],_,_,_=>rfl
 |[],_::_,_,_,h=>by simp at h
 |_::_,[],_,_,h=>by simp at h
 |a::A,b::B,ha,hb,h=>by
  rw[eI,eI] at h;injection h with h1 h2;rw[oW hN (ha a (by simp)) (hb b (by simp)) h1,JU hN (fun n hn=>ha n (by simp[hn])) (fun n hn=>hb n (by simp[hn])) h2]
theorem Zj(hN:bC es l){a b:List Nd}(ha:∀n∈a,n∈l)(hb:∀n∈b,n∈l)(h:fH a b<0):¬fH b a<0:=fun k=>by
 have:=JJ a b a (fun n hn=>hN.can n (ha n hn)) (fun n hn=>hN.can n (hb n hn)) (fun n hn=>hN.can n (ha n hn)) h k
 rw[JH] at this;omega
theorem Canon.eq(h:Wd S nx)(hN:bC es l){F F':List NP}(c:Canon S nx l F)(c':Canon S nx l F'):F=F':=by
 have half:∀{F F':List NP},Canon S nx l F->Canon S nx l F'->∀p∈F,∃p'∈F',p'.1=p.1/\∀x∈p.2,x∈p'.2:=by
  intro F F' c c' p hp;obtain⟨R,r1,r2,r3,r4⟩:=c.c1 p hp;obtain⟨p',hp',e'⟩:=c'.c2 R r1 r2;have k1:p'.1=p.1:=JU hN (c'.nd p' hp').1 (c.nd p hp).1 (e'.trans r3.symm);refine⟨p',hp',k1,fun x hx=>?_⟩
  obtain⟨H,h1,h2,h3,h4⟩:=r4 x hx;obtain⟨p'',JV,y,hy,ey⟩:=c'.c3 H h1 h2;have exy:y=x:=JU hN ((c'.nd p'' JV).2 y hy) ((c.nd p hp).2 x hx) (ey.trans h3.symm);obtain⟨R'',s1,s2,s3,s4⟩:=c'.c1 p'' JV;obtain⟨H'',t1,t2,t3,t4⟩:=s4 y hy;have eH:H''=H:=t1.GG h h1 (t3.symm.trans ey);rw[eH] at t4;obtain⟨a,_,ha,_⟩:=jI r1.ring.ne;obtain⟨a'',_,Zk,_⟩:=jI s1.ring.ne;obtain⟨b,_,hb,_⟩:=jI h1.ring.ne;have eR:R=R'':=r1.one h s1 r2 s2 ha Zk ((h4 a (qj ha) b (qj hb)).trans (t4 a'' (qj Zk) b (qj hb)).symm);have k2:p''.1=p'.1:=JU hN (c'.nd p'' JV).1 (c'.nd p' hp').1 (by rw[s3,e',eR])
  have k3:p''=p':=Pc (k:=Prod.fst) (lt:=fun a b=>fH a b<0) JT c'.s1 JV hp' k2
  rw[<-k3,<-exy];exact hy
 have full:∀{F F':List NP},Canon S nx l F->Canon S nx l F'->∀p∈F,p∈F':=by
  intro F F' c c' p hp;obtain⟨p',hp',e1,e2⟩:=half c c' p hp;obtain⟨q,hq,f1,f2⟩:=half c' c p' hp';have:q=p:=Pc (k:=Prod.fst) (lt:=fun a b=>fH a b<0) JT c.s1 hq hp (f1.trans e1)
  rw[this] at f2;have eh:p.2=p'.2:=by
   have hin:∀x∈p.2,∀n∈x,n∈l:=fun x hx=>(c.nd p hp).2 x hx
   have hin':∀x∈p'.2,∀n∈x,n∈l:=fun x hx=>(c'.nd p' hp').2 x hx
   refine Pb (lt:=fun a b=>(∀n∈a,n∈l)/\(∀n∈b,n∈l)/\fH a b<0) (fun x k=>JT x k.2.2) (fun x y k k2=>Zj hN k.1 k.2.1 k.2.2 k2.2.2) ?_ ?_ fun x=>⟨e2 x,f2 x⟩
   ·exact rC (fun ha hb k=>⟨hin _ ha,hin _ hb,k⟩) (c.s2 p hp)
   ·exact rC (fun ha hb k=>⟨hin' _ ha,hin' _ hb,k⟩) (c'.s2 p' hp')
  have:p=p':=bX e1.symm eh;rw[this];exact hp'
 have hin:∀{F:List NP},Canon S nx l F->F.Pairwise (fun p q=>(∀n∈p.1,n∈l)/\(∀n∈q.1,n∈l)/\fH p.1 q.1<0):=fun c=>rC (fun ha hb k=>⟨(c.nd _ ha).1,(c.nd _ hb).1,k⟩) c.s1
 exact Pb (lt:=fun p q:NP=>(∀n∈p.1,n∈l)/\(∀n∈q.1,n∈l)/\fH p.1 q.1<0) (fun x k=>JT x.1 k.2.2) (fun x y k k2=>Zj hN k.1 k.2.1 k.2.2 k2.2.2) (hin c) (hin c') fun x=>⟨full c c' x,full c' c x⟩
variable{S':List Sg}{nx':Sg->Sg}
theorem akb{a x y:Pt}(ha:a≠(0,0))(hx:x≠(0,0))(hy:y≠(0,0))(h1:ai x a=false)(h2:ai y a=false)(h3:ai x y=false):cw a x y=true\/cw a y x=true:=by
 have t1:=gG hx ha;have t2:=gG hy ha;have t3:=gG hx hy;rw[h1] at t1;rw[h2] at t2;rw[h3] at t3;rw[kJ,kJ];cases a1:ak x a<;>cases a2:ak a x<;>rw[a1,a2] at t1<;>simp[bb] at t1<;>cases b1:ak y a<;>cases b2:ak a y<;>rw[b1,b2] at t2<;>simp[bb] at t2<;>cases c1:ak x y<;>cases c2:ak y x<;>rw[c1,c2] at t3<;>simp[bb] at t3<;>simp
theorem akc(h:Wd S nx)(h':Wd S' nx')(hS:∀s,s∈S↔s∈S'){s:Sg}(hs:s∈S):nx s=nx' s:=by
 obtain⟨a1,a2⟩:=h.qs s hs;obtain⟨b1,b2⟩:=h'.qs s ((hS s).1 hs);have JW:=(hS _).2 b1;have k1:=h.w1 s hs _ JW b2;have k2:=h'.w1 s ((hS s).1 hs) _ ((hS _).1 a1) a2;cases q:ai (dr (nx s)) (dr (nx' s))
 ·rcases akb (jc (h.dK hs)) (h.dK a1) (h.dK JW) (h.two _ a1 _ hs a2) (h.two _ JW _ hs b2) q with w|w
  ·rw[k2] at w;cases w
  ·rw[k1] at w;cases w
 ·exact h.one _ a1 _ JW (a2.trans b2.symm) q
theorem Pd(h:Wd S nx)(h':Wd S' nx')(hS:∀s,s∈S↔s∈S'){s:Sg}(hs:s∈S):∀k,it nx k s=it nx' k s
 |0=>rfl
 |k+1=>by
  show nx (it nx k s)=nx' (it nx' k s);rw[<-Pd h h' hS hs k];exact akc h h' hS (h.iG hs k)
theorem LR.same(h:Wd S nx)(h':Wd S' nx')(hS:∀s,s∈S↔s∈S'){R:List Sg}(k:LR S nx R):LR S' nx' R:=by
 have gU:∀{s t},t∈S->mM nx s t->mM nx' s t:=by
  rintro s t ht ⟨e,n,e1,e2⟩;refine⟨e,n,by rw[<-Pd h h' hS ht];exact e1,fun j j1 j2=>?_⟩
  rw[<-Pd h h' hS ht];exact e2 j j1 j2
 refine⟨⟨k.ring.ne,fun s hs=>(hS s).1 (k.ring.mem s hs),k.ring.mK,fun i s t hs ht=>gU (k.ring.mem t (aZ ht)) (k.ring.gU i s t hs ht),fun s t hs ht=>gU (k.ring.mem t (qj ht)) (k.ring.cls s t hs ht)⟩,k.least⟩
theorem Fc.same(hS:∀s,s∈S↔s∈S'){s u:Sg}(k:Fc S s u):Fc S' s u:=fun es hc hi=>k es hc fun e he=>by
 rcases hi e he with q|q
 ·exact ag ((hS _).2 q)
 ·exact ah ((hS _).2 q)
theorem Canon.same(h:Wd S nx)(h':Wd S' nx')(hS:∀s,s∈S↔s∈S'){F:List NP}(c:Canon S nx l F):Canon S' nx' l F:=by
 have aA:∀s,s∈S'↔s∈S:=fun s=>(hS s).symm
 refine⟨c.nd,fun p hp=>?_,fun R hR=>c.c2 R (hR.same h' h aA),fun H hH=>c.c3 H (hH.same h' h aA),c.s1,c.s2⟩
 obtain⟨R,r1,r2,r3,r4⟩:=c.c1 p hp;refine⟨R,r1.same h h' hS,r2,r3,fun x hx=>?_⟩
 obtain⟨H,h1,h2,h3,h4⟩:=r4 x hx;exact⟨H,h1.same h h' hS,h2,h3,fun a ha s hs=>(h4 a ha s hs).same hS⟩
end
theorem Fa{β:Type}(cf:β->β->Int)(L:List β)(hO:Sort.SWO (ltOf fun i j:Fin L.length=>cf L[i] L[j])):(iZ cf L).Perm L/\(iZ cf L).Pairwise (fun x y=>¬cf y x<0):=by
 unfold iZ;by_cases h:0<L.length
 ·rw[u7 h];obtain⟨hd,p3,p4⟩:=OS _ hO h;refine⟨?_,?_⟩
  ·have k:=p3.map (fun i:Fin L.length=>L[i])
   have e3:(Array.ofFn (id:Fin L.length->Fin L.length)).toList.map (fun i:Fin L.length=>L[i])=L:=by
    apply xg
    ·simp
    ·intro i h1 h2;simp
   rw[e3] at k;exact k
  ·rw[lR,kE];intro i j hi hj hij;exact p4 i j (by simpa using hi) (by simpa using hj) hij
 ·rw[BJ h];have:L=[]:=gF.1 (by omega)
  subst this;exact⟨FP _,List.Pairwise.nil⟩
section
variable{rg:List (List Pt)}{l:List Nd}{r:Int}{Xs:List PB}
theorem Rel.nodes(h:SX rg l r Xs){q:List Nat}(hq:∀a∈q,a<Xs.length):∀n∈Go.Proofs.YtkjhhooecopolaaGreatDoor.fr Xs q,n∈l:=fun n hn=>by
 obtain⟨a,ha,rfl⟩:=aN.1 hn;exact(SX.o8 h (hq a ha)).1
theorem SX.canon(h:SX rg l r Xs)(hB:BD Xs):Canon (sS (aa l) Xs) (iA (aa l) Xs) l (fin Xs):=by
 have hW:=SX.wd h hB;obtain⟨PL,e1,hok,wQ⟩:=SX.qU h hB;have Bg:=h.pn hB Xs.length (ay _);have akd:(sS (aa l) Xs).Nodup:=by
  unfold sS;rw[List.Nodup,lR,kE];intro i j hi hj hij e;have gx:∀{i:Nat}(hi:i<Xs.length),xi Xs i=Xs[i]:=fun hi=>sL (aC hi)
  have:=SX.AH h hi hj (by rw[gx hi,gx hj];exact e)
  omega
 have hnd:(jr PL).Nodup:=wQ.nodup_iff.2 akd;obtain⟨Fb,Zl⟩:=amG.1 hnd;rw[lR] at Zl;have ake:∀p∈PL,(uK p).Nodup:=fun p hp=>Fb _ (aN.2 ⟨p,hp,rfl⟩)
 have uQ:∀p∈PL,(∀a∈p.1.1,a<Xs.length)/\∀z∈p.2,∀a∈z.1,a<Xs.length:=fun p hp=>by
  have:=Bg (mF p) (by rw[e1];exact aN.2 ⟨p,hp,rfl⟩)
  exact⟨this.1.lt,fun z hz=>(this.2 z.1 (aN.2 ⟨z,hz,rfl⟩)).lt⟩
 have can:∀q:List Nat,(∀a∈q,a<Xs.length)->∀n∈Go.Proofs.YtkjhhooecopolaaGreatDoor.fr Xs q,Ge.Can n:=fun q hq n hn=>h.nl.can n (Rel.nodes h hq n hn)
 have hole:∀p∈PL,(iZ (qc Xs) (p.2.map Prod.fst)).Perm (p.2.map Prod.fst)/\((iZ (qc Xs) (p.2.map Prod.fst)).map (Go.Proofs.YtkjhhooecopolaaGreatDoor.fr Xs)).Pairwise fun a b=>fH a b<0:=fun p hp=>by
  obtain⟨s1,s2⟩:=Fa (qc Xs) (p.2.map Prod.fst) (uM (fun i:Fin (p.2.map Prod.fst).length=>Go.Proofs.YtkjhhooecopolaaGreatDoor.fr Xs (p.2.map Prod.fst)[i]) fun i a ha=>by
   have hm:(p.2.map Prod.fst)[i]∈p.2.map Prod.fst:=gw _;obtain⟨z,hz,e⟩:=aN.1 hm;have ha':a∈Go.Proofs.YtkjhhooecopolaaGreatDoor.fr Xs (p.2.map Prod.fst)[i]:=ha;rw[<-e] at ha';exact can z.1 ((uQ p hp).2 z hz) a ha')
  refine⟨s1,?_⟩;have hk:(p.2.map fun z=>Go.Proofs.YtkjhhooecopolaaGreatDoor.fr Xs z.1).Nodup:=by
   have hd:=(KG.1 (ake p hp)).2.1;obtain⟨_,d2⟩:=amG.1 hd;rw[lR] at d2;rw[List.Nodup,lR];refine rC (fun{z w} hz hw k e=>?_) d2
   have rz:=((hok p hp).hole z hz).1;have Fe:=((hok p hp).hole w hw).1;have ee:=rz.lr.GG hW Fe.lr (by rw[<-rz.aY,<-Fe.aY,e])
   obtain⟨a,_,ha,_⟩:=jI rz.lr.ring.ne;have ma:=qj ha;exact k a ma a (by rw[<-ee];exact ma) rfl
  have hk2:((iZ (qc Xs) (p.2.map Prod.fst)).map (Go.Proofs.YtkjhhooecopolaaGreatDoor.fr Xs)).Nodup:=by
   refine((s1.map (Go.Proofs.YtkjhhooecopolaaGreatDoor.fr Xs)).nodup_iff).2 ?_;rw[fL];exact hk
  rw[lR];rw[List.Nodup,lR] at hk2;refine rC (fun{x y} hx hy k=>?_) (s2.and hk2)
  have mem:∀x∈iZ (qc Xs) (p.2.map Prod.fst),∀n∈Go.Proofs.YtkjhhooecopolaaGreatDoor.fr Xs x,Ge.Can n:=fun x hx=>by
   obtain⟨z,hz,rfl⟩:=aN.1 (s1.mem_iff.1 hx);exact can z.1 ((uQ p hp).2 z hz)
  rcases JI (Go.Proofs.YtkjhhooecopolaaGreatDoor.fr Xs x) (Go.Proofs.YtkjhhooecopolaaGreatDoor.fr Xs y) (mem x hx) (mem y hy) with q|q|q
  ·exact q
  ·exact absurd q k.1
  ·exact absurd q k.2
 have hsw:Sort.SWO (ltOf fun i j:Fin ((aM Xs Xs.length).ps.map (dA Xs)).length=>mD Xs ((aM Xs Xs.length).ps.map (dA Xs))[i] ((aM Xs Xs.length).ps.map (dA Xs))[j]):=
  uM (fun i:Fin ((aM Xs Xs.length).ps.map (dA Xs)).length=>Go.Proofs.YtkjhhooecopolaaGreatDoor.fr Xs ((aM Xs Xs.length).ps.map (dA Xs))[i].1) fun i a ha=>by
   have hm:((aM Xs Xs.length).ps.map (dA Xs))[i]∈(aM Xs Xs.length).ps.map (dA Xs):=gw _;obtain⟨g,hg,eg⟩:=aN.1 hm;have hg':g∈PL.map mF:=by rw[<-e1];exact hg
   obtain⟨p,hp,rfl⟩:=aN.1 hg';have ha':a∈Go.Proofs.YtkjhhooecopolaaGreatDoor.fr Xs ((aM Xs Xs.length).ps.map (dA Xs))[i].1:=ha;have e2:((aM Xs Xs.length).ps.map (dA Xs))[i].1=p.1.1:=by rw[<-eg];rfl
   rw[e2] at ha';exact can p.1.1 (uQ p hp).1 a ha'
 obtain⟨t1,t2⟩:=Fa (mD Xs) ((aM Xs Xs.length).ps.map (dA Xs)) hsw;have hmem:∀x,x∈fin Xs↔∃p∈PL,x=(Go.Proofs.YtkjhhooecopolaaGreatDoor.fr Xs p.1.1,(iZ (qc Xs) (p.2.map Prod.fst)).map (Go.Proofs.YtkjhhooecopolaaGreatDoor.fr Xs)):=fun x=>by
  unfold fin tA;rw[aN];constructor
  ·rintro⟨g,hg,rfl⟩;have:=t1.mem_iff.1 hg;rw[e1,fL] at this;obtain⟨p,hp,rfl⟩:=aN.1 this;exact⟨p,hp,rfl⟩
  ·rintro⟨p,hp,rfl⟩;refine⟨dA Xs (mF p),t1.mem_iff.2 ?_,rfl⟩;rw[e1,fL];exact aN.2 ⟨p,hp,rfl⟩
 have find:∀R,LR (sS (aa l) Xs) (iA (aa l) Xs) R->∃p∈PL,p.1.2=R\/∃z∈p.2,z.2=R:=fun R hR=>by
  obtain⟨a,_,ha,_⟩:=jI hR.ring.ne;have ma:=qj ha;obtain⟨L,hL,EL⟩:=tO.1 (wQ.mem_iff.2 (hR.ring.mem a ma));obtain⟨p,hp,rfl⟩:=aN.1 hL;rcases bQ.1 EL with q|q
  ·exact⟨p,hp,ag ((hok p hp).shell.lr.eq hW hR q ma)⟩
  ·obtain⟨H,hH,Pe⟩:=tO.1 q;obtain⟨z,hz,rfl⟩:=aN.1 hH;exact⟨p,hp,ah ⟨z,hz,((hok p hp).hole z hz).1.lr.eq hW hR Pe ma⟩⟩
 refine⟨fun x hx=>?_,fun x hx=>?_,fun R hR hs=>?_,fun H hH hs=>?_,?_,fun x hx=>?_⟩
 ·obtain⟨p,hp,rfl⟩:=(hmem x).1 hx;refine⟨Rel.nodes h (uQ p hp).1,fun y hy=>?_⟩
  obtain⟨q,hq,rfl⟩:=aN.1 hy;obtain⟨z,hz,rfl⟩:=aN.1 ((hole p hp).1.mem_iff.1 hq);exact Rel.nodes h ((uQ p hp).2 z hz)
 ·obtain⟨p,hp,rfl⟩:=(hmem x).1 hx;have ok:=hok p hp;refine⟨p.1.2,ok.shell.lr,ok.O7,ok.shell.aY,fun y hy=>?_⟩
  obtain⟨q,hq,rfl⟩:=aN.1 hy;obtain⟨z,hz,rfl⟩:=aN.1 ((hole p hp).1.mem_iff.1 hq);exact⟨z.2,(ok.hole z hz).1.lr,(ok.hole z hz).2,(ok.hole z hz).1.aY,ok.part z hz⟩
 ·obtain⟨p,hp,q|⟨z,hz,q⟩⟩:=find R hR
  ·exact⟨_,(hmem _).2 ⟨p,hp,rfl⟩,by rw[<-q];exact(hok p hp).shell.aY⟩
  ·rw[<-q] at hs;exact absurd hs ((hok p hp).hole z hz).2
 ·obtain⟨p,hp,q|⟨z,hz,q⟩⟩:=find H hH
  ·rw[<-q] at hs;exact absurd (hok p hp).O7 hs
  ·exact⟨_,(hmem _).2 ⟨p,hp,rfl⟩,Go.Proofs.YtkjhhooecopolaaGreatDoor.fr Xs z.1,aN.2 ⟨z.1,(hole p hp).1.mem_iff.2 (aN.2 ⟨z,hz,rfl⟩),rfl⟩,by rw[<-q];exact((hok p hp).hole z hz).1.aY⟩
 ·unfold fin tA;rw[lR];have hk:((aM Xs Xs.length).ps.map (dA Xs)).Pairwise fun a b=>Go.Proofs.YtkjhhooecopolaaGreatDoor.fr Xs a.1≠Go.Proofs.YtkjhhooecopolaaGreatDoor.fr Xs b.1:=by
   rw[e1,fL,lR];refine rC (fun{p q} hp hq k e=>?_) Zl
   have rz:=(hok p hp).shell;have Fe:=(hok q hq).shell;have e':Go.Proofs.YtkjhhooecopolaaGreatDoor.fr Xs p.1.1=Go.Proofs.YtkjhhooecopolaaGreatDoor.fr Xs q.1.1:=e;have ee:=rz.lr.GG hW Fe.lr (by rw[<-rz.aY,<-Fe.aY,e'])
   obtain⟨a,_,ha,_⟩:=jI rz.lr.ring.ne;have ma:=qj ha;exact k a (nr _ ma) a (nr _ (by rw[<-ee];exact ma)) rfl
  have hk2:(iZ (mD Xs) ((aM Xs Xs.length).ps.map (dA Xs))).Pairwise fun a b=>Go.Proofs.YtkjhhooecopolaaGreatDoor.fr Xs a.1≠Go.Proofs.YtkjhhooecopolaaGreatDoor.fr Xs b.1:=t1.symm.pairwise hk (fun k e=>k e.symm)
  refine rC (fun{x y} hx hy k=>?_) (t2.and hk2)
  have mem:∀x∈iZ (mD Xs) ((aM Xs Xs.length).ps.map (dA Xs)),∀n∈Go.Proofs.YtkjhhooecopolaaGreatDoor.fr Xs x.1,Ge.Can n:=fun x hx=>by
   have:=t1.mem_iff.1 hx;rw[e1,fL] at this;obtain⟨p,hp,rfl⟩:=aN.1 this;exact can p.1.1 (uQ p hp).1
  rcases JI (Go.Proofs.YtkjhhooecopolaaGreatDoor.fr Xs x.1) (Go.Proofs.YtkjhhooecopolaaGreatDoor.fr Xs y.1) (mem x hx) (mem y hy) with q|q|q
  ·exact q
  ·exact absurd q k.1
  ·exact absurd q k.2
 ·obtain⟨p,hp,rfl⟩:=(hmem x).1 hx;exact(hole p hp).2
theorem akf{cG:List (List Pt)}{r':Int}{iM:List PB}(h:SX rg l r Xs)(hB:BD Xs)(h':SX cG l r' iM)(hB':BD iM)(hs:∀a b,Sd (ae rg) l (takes r) a b↔Sd (ae cG) l (takes r') a b):qW Xs=qW iM:=by
 have hW:=SX.wd h hB;have hW':=SX.wd h' hB';have hS:∀s,s∈sS (aa l) Xs↔s∈sS (aa l) iM:=fun s=>by
  unfold sS;rw[aN,aN];constructor
  ·rintro⟨x,hx,rfl⟩;obtain⟨y,hy,e1,e2⟩:=h'.all _ _ ((hs _ _).1 (h.mem x hx));exact⟨y,hy,by unfold ph;rw[e1,e2]⟩
  ·rintro⟨x,hx,rfl⟩;obtain⟨y,hy,e1,e2⟩:=h.all _ _ ((hs _ _).2 (h'.mem x hx));exact⟨y,hy,by unfold ph;rw[e1,e2]⟩
 rw[Bf,Bf,((SX.canon h hB).same hW hW' hS).eq hW' h'.nl (SX.canon h' hB')]
end
end Go.Proofs.YtkjhhooecopolaaGreatDoor.Gb
