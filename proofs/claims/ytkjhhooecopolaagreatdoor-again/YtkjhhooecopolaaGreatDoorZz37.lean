import Derived.Test.YtkjhhooecopolaaGreatDoorZz36
set_option maxRecDepth 100000
set_option maxHeartbeats 4000000
namespace Go.Proofs.YtkjhhooecopolaaGreatDoor.Gb
open Ge Ga
abbrev RP:=List Nat×List Sg
abbrev vr:=RP×List RP
def rM(p:vr):Pg:=(p.1.1,p.2.map Prod.fst)
def tS(p:vr):List Sg:=p.1.2++(p.2.map Prod.snd).flatten
def jJ(PL:List vr):List Sg:=(PL.map tS).flatten
section
variable{rg:List (List Pt)}{l:List Nd}{r:Int}{Xs:List PB}
structure Ye(l:List Nd)(Xs:List PB)(p:vr):Prop where
 shell:Rel l Xs p.1.1 p.1.2
 NZ:shl p.1.2
 hole:∀z∈p.2,Rel l Xs z.1 z.2/\¬shl z.2
 part:∀z∈p.2,∀a∈p.1.2,∀s∈z.2,Fc (sS (ai l) Xs) a s
structure CI(l:List Nd)(Xs:List PB)(st:St)(PL:List vr):Prop where
 ps:st.ps=PL.map rM
 ok:∀p∈PL,Ye l Xs p
 own:∀j,j<Xs.length->st.aJ j=true->∃p,PL[st.ow j]?=some p/\∀a∈p.1.2,Fc (sS (ai l) Xs) a (pi l Xs j)
 per:(jJ PL).Perm (((List.range Xs.length).filter st.aJ).map (pi l Xs))
theorem filter_or{α:Type}(p q:α->Bool):∀(L:List α),(∀x∈L,p x=true->q x=false)->(L.filter fun x=>p x||q x).Perm (L.filter p++L.filter q)
 |[],_=>by simp
 |x::L,h=>by
  have ih:=filter_or p q L fun y hy=>h y (bo _ hy)
  cases hp:p x
  ·cases hq:q x
   ·rw[vL (by simp[hp,hq]),vL (by simp[hp]),vL (by simp[hq])]
    exact ih
   ·rw[Ak (by simp[hq]),vL (by simp[hp]),Ak hq]
    exact(ih.cons x).trans (List.perm_middle).symm
  ·have hq:=h x (by simp) hp
   rw[Ak (by simp[hp]),Ak hp,vL (by simp[hq])]
   exact ih.cons x
theorem marks{n:Nat}{mk:Nat->Bool}{L:List Nat}(hnd:L.Nodup)(hf:∀a∈L,a<n/\mk a=false):((List.range n).filter fun j=>mk j||L.contains j).Perm ((List.range n).filter mk++L):=by
 refine(filter_or mk L.contains (List.range n) fun x _ hx=>?_).trans (Ei _ ?_)
 ·cases q:L.contains x
  ·rfl
  ·have:=(hf x (rW.1 q)).2;rw[hx] at this;cases this
 ·refine(List.perm_ext_iff_of_nodup (ZJ _ List.nodup_range) hnd).2 fun a=>?_
  rw[ik,oW,rW];exact⟨fun k=>k.2,fun k=>⟨(hf a k).1,k⟩⟩
theorem aiN{P:List Nat->Bool}{A B:List (List Nat)}{x:List Nat}(hx:P x=true)(hB:∀y∈B,P y=false):rJ P (A++x::B)=x:=by
 unfold rJ;rw[Ju,qj,ah hx];have:∀(B:List (List Nat)) acc,(∀y∈B,P y=false)->B.foldl (fun acc r=>if P r then r else acc) acc=acc:=by
  intro B;induction B with
  |nil=>intro acc _;rfl
  |cons b B ih=>
   intro acc h;rw[qj,h b (by simp)]
   exact ih acc fun y hy=>h y (bo _ hy)
 exact this B x hB
theorem Yf{α:Type}(P:α->Bool):∀(L:List α),L.any P=true->∃A x B,L=A++x::B/\P x=true/\∀y∈A,P y=false
 |[],h=>by simp at h
 |x::L,h=>by
  cases hp:P x
  ·have h':L.any P=true:=by rw[List.any_cons,hp] at h;simpa using h
   obtain⟨A,y,B,e,h1,h2⟩:=Yf P L h';refine⟨x::A,y,B,by rw[e];rfl,h1,fun z hz=>?_⟩
   rcases aP.1 hz with q|q
   ·rw[q];exact hp
   ·exact h2 z q
  ·exact⟨[],x,L,rfl,hp,by simp⟩
theorem aiO{PL:List vr}{q:Nat}{p:vr}(h:PL[q]?=some p)(Z:List RP):(jJ (PL.set q (p.1,p.2++Z))).Perm (jJ PL++(Z.map Prod.snd).flatten):=by
 obtain⟨hq,e⟩:=bU.1 h;have e1:PL=PL.take q++p::PL.drop (q+1):=by
  rw[<-e,List.getElem_cons_drop,OY]
 have e2:PL.set q (p.1,p.2++Z)=PL.take q++(p.1,p.2++Z)::PL.drop (q+1):=List.set_eq_take_append_cons_drop.trans (ah hq);rw[e2];have e3:jJ PL=jJ (PL.take q)++(tS p++jJ (PL.drop (q+1))):=by
  have:=aw jJ e1;rw[this];simp[jJ]
 rw[e3];have e4:jJ (PL.take q++(p.1,p.2++Z)::PL.drop (q+1))=jJ (PL.take q)++((tS p++(Z.map Prod.snd).flatten)++jJ (PL.drop (q+1))):=by
  simp[jJ,tS]
 rw[e4,eF,eF,eF];exact Ei _ (Ei _ Jc)
theorem SX.N0(h:SX rg l r Xs)(hB:BD Xs){mk:Nat->Bool}{k:Nat}{L:List Nat}(hc:mP (bZ Xs) mk Xs.length k L){i:Nat}(hi:i∈L):Fc (sS (ai l) Xs) (pi l Xs k) (pi l Xs i):=by
 obtain⟨t,ht,e⟩:=jL.1 hi;have:=SX.it h hc t ht;have e1:L.getD t 0=i:=by rw[kI,aD ht,e];rfl
 rw[e1] at this;rw[<-this];obtain⟨_,g2,_,g4⟩:=DT hc;have hk:k<Xs.length:=by rw[<-g2];exact(hc.free _ (tW g4)).1
 exact(SX.wd h hB).fc (C7 _ hk) (EX _ _ t)
theorem CI.step(h:SX rg l r Xs)(hB:BD Xs){st:St}{k:Nat}{PL:List vr}(hk:k<Xs.length)(hP:PV Xs st k)(hC:CI l Xs st PL):∃PL',CI l Xs (mQ Xs st k) PL':=by
 have hW:=SX.wd h hB;unfold mQ;cases hm:st.aJ k
 ·rw[aa (by simp)]
  obtain⟨hc,xG⟩:=h.walk hB hP hk hm;obtain⟨Z,z1,z2,z3⟩:=SX.rings h hB hc;generalize hL:cz Xs st.aJ k=L at*;have gK:=hc.free;have hmk:=marks hc.nd gK;have zin:∀z∈Z,∀s∈z.2,∃i∈L,s=pi l Xs i:=fun z hz s hs=>by
   have:s∈(Z.map Prod.snd).flatten:=xQ.2 ⟨z.2,bp.2 ⟨z,hz,rfl⟩,hs⟩;obtain⟨i,hi,e⟩:=bp.1 (z3.mem_iff.1 this);exact⟨i,hi,e.symm⟩
  have zQ:∀z∈Z,∀s∈z.2,Fc (sS (ai l) Xs) (pi l Xs k) s:=fun z hz s hs=>by
   obtain⟨i,hi,rfl⟩:=zin z hz s hs;exact SX.N0 h hB hc hi
  have hnd:(Z.map Prod.snd).flatten.Nodup:=by
   refine z3.nodup_iff.2 ?_;refine List.Pairwise.map _ (fun a b hab e=>?_) (rV (R:=fun a b=>a≠b) (S:=fun a b=>a∈L/\b∈L/\a≠b) (fun ha hb k=>⟨ha,hb,k⟩) hc.nd)
   exact hab.2.2 (SX.C6 h (gK a hab.1).1 (gK b hab.2.1).1 e)
  by_cases jQ:(bg Xs L).any (bQ Xs)=true
  ·rw[ah jQ];rw[<-z1,List.any_map] at jQ;obtain⟨Z1,z0,Z2,eZ,hs0,kM⟩:=Yf _ Z jQ;have hz0:z0∈Z:=by rw[eZ];simp
   have qA:∀z∈Z2,bQ Xs z.1=false:=fun z hz=>by
    cases q:bQ Xs z.1
    ·rfl
    ·exfalso;have Yg:z∈Z:=by rw[eZ];simp[hz]
     have r0:=z2 z0 hz0;have r1:=z2 z Yg;obtain⟨a,_,ha,_⟩:=kN r0.lr.ring.ne;obtain⟨a',_,ha',_⟩:=kN r1.lr.ring.ne;have ma:a∈z0.2:=uh ha;have ma':a'∈z.2:=uh ha';have e:=r0.lr.one hW r1.lr (r0.sh.1 hs0) (r1.sh.1 q) ha ha' ((zQ z0 hz0 a ma).symm.trans (zQ z Yg a' ma'));rw[eZ] at hnd;simp only[iD,iE,Zu,Et] at hnd;have hd:=(Jr.1 (Jr.1 hnd).2.1).2.2;exact hd a ma a (xQ.2 ⟨z.2,bp.2 ⟨z,hz,rfl⟩,by rw[<-e];exact ma⟩) rfl
   have N4:bQ Xs z0.1=true:=hs0;have hsh:rJ (bQ Xs) (bg Xs L)=z0.1:=by
    rw[<-z1,eZ,iD,iE];exact aiN N4 fun y hy=>by
     obtain⟨z,hz,rfl⟩:=bp.1 hy;exact qA z hz
   have tP:((bg Xs L).filter fun r=> !bQ Xs r)=(Z1++Z2).map Prod.fst:=by
    rw[<-z1,eZ,iD,iE,Ep,vL (by simp[N4])]
    rw[iD];congr 1
    ·rw[Jb];intro y hy;obtain⟨z,hz,rfl⟩:=bp.1 hy;have:bQ Xs z.1=false:=kM z hz;simp[this]
    ·rw[Jb];intro y hy;obtain⟨z,hz,rfl⟩:=bp.1 hy;simp[qA z hz]
   rw[hsh,tP];have Yh:∀z∈Z1++Z2,z∈Z/\bQ Xs z.1=false:=fun z hz=>by
    rcases bT.1 hz with q|q
    ·exact⟨by rw[eZ];simp[q],kM z q⟩
    ·exact⟨by rw[eZ];simp[q],qA z q⟩
   refine⟨PL++[(z0,Z1++Z2)],?_,fun p hp=>?_,fun j hj kE=>?_,?_⟩
   ·show st.ps++[_]=_;rw[hC.ps];simp[rM]
   ·rcases bT.1 hp with q|q
    ·exact hC.ok p q
    ·rw[bI.1 q];refine⟨z2 z0 hz0,(z2 z0 hz0).sh.1 N4,fun z hz=>?_,fun z hz a ha s hs=>?_⟩
     ·obtain⟨k1,k2⟩:=Yh z hz;exact⟨z2 z k1,fun w=>by rw[(z2 z k1).sh.2 w] at k2;cases k2⟩
     ·exact(zQ z0 hz0 a ha).symm.trans (zQ z (Yh z hz).1 s hs)
   ·show ∃p,(PL++[(z0,Z1++Z2)])[if L.contains j then st.ps.length else st.ow j]?=some p/\_
    have DU:(st.aJ j||L.contains j)=true:=kE
    cases q:L.contains j
    ·rw[q,Ew] at DU;obtain⟨p,e,hp⟩:=hC.own j hj DU;refine⟨p,?_,hp⟩;rw[aa (by simp),eG (bU.1 e).1]
     exact e
    ·refine⟨(z0,Z1++Z2),?_,fun a ha=>(zQ z0 hz0 a ha).symm.trans (SX.N0 h hB hc (rW.1 q))⟩
     rw[ah rfl,hC.ps,gV,mW (ax _)];simp
   ·show(jJ (PL++[(z0,Z1++Z2)])).Perm (((List.range Xs.length).filter fun j=>st.aJ j||L.contains j).map (pi l Xs))
    have e1:jJ (PL++[(z0,Z1++Z2)])=jJ PL++(z0.2++((Z1++Z2).map Prod.snd).flatten):=by simp[jJ,tS]
    rw[e1];refine(List.Perm.append hC.per ?_).trans ((hmk.map _).trans (by rw[iD])).symm
    refine List.Perm.trans ?_ z3;rw[eZ];simp only[iD,iE,Zu,Et];rw[<-eF,<-eF];exact List.perm_append_comm.append_right _
  ·rw[aa jQ];have hno:∀ring∈bg Xs L,bQ Xs ring=false:=fun ring hr=>by
    cases q:bQ Xs ring
    ·rfl
    ·exact absurd (Ag.2 ⟨ring,hr,q⟩) jQ
   have oM:=h.low hB hP hk hm (by rw[hL];exact hno)
   obtain⟨p,ep,hpf⟩:=hC.own _ oM.2.1 oM.2.2;have H4:=SX.aiM h hB hc xG hno;generalize hq:st.ow (gA Xs (xi Xs k).f)=q at*;have jT:st.ps.getD q ([],[])=rM p:=by
    rw[kI,hC.ps,fR,ep];rfl
   have vd:∀a∈p.1.2,Fc (sS (ai l) Xs) a (pi l Xs k):=fun a ha=>(hpf a ha).trans H4.symm
   refine⟨PL.set q (p.1,p.2++Z),?_,fun p' hp'=>?_,fun j hj kE=>?_,?_⟩
   ·show st.ps.set q _=_;rw[jT,hC.ps,ZQ];congr 1;show((rM p).1,(rM p).2++bg Xs L)=_;rw[<-z1];unfold rM;simp
   ·rcases akv hp' with w|w
    ·exact hC.ok p' w
    ·subst w;have hp:=hC.ok p (bh ep);refine⟨hp.shell,hp.NZ,fun z hz=>?_,fun z hz a ha s hs=>?_⟩
     ·rcases bT.1 hz with w|w
      ·exact hp.hole z w
      ·refine⟨z2 z w,fun v=>?_⟩
       have:=(z2 z w).sh.2 v;rw[hno z.1 (by rw[<-z1];exact bp.2 ⟨z,w,rfl⟩)] at this
       cases this
     ·rcases bT.1 hz with w|w
      ·exact hp.part z w a ha s hs
      ·exact(vd a ha).trans (zQ z w s hs)
   ·have ll:q<PL.length:=(bU.1 ep).1;show ∃p',(PL.set q (p.1,p.2++Z))[if L.contains j then q else st.ow j]?=some p'/\_
    have DU:(st.aJ j||L.contains j)=true:=kE
    cases w:L.contains j
    ·rw[w,Ew] at DU;obtain⟨p',e',hp'⟩:=hC.own j hj DU;rw[aa (by simp)]
     by_cases zK:st.ow j=q
     ·rw[zK] at e'⊢;rw[ep] at e';obtain rfl:p=p':=lG e';exact⟨(p.1,p.2++Z),by rw[ql ll],hp'⟩
     ·exact⟨p',by rw[vE (fun x=>zK x.symm)];exact e',hp'⟩
    ·rw[ah rfl];exact⟨(p.1,p.2++Z),by rw[ql ll],fun a ha=>(vd a ha).trans (SX.N0 h hB hc (rW.1 w))⟩
   ·show(jJ (PL.set q (p.1,p.2++Z))).Perm (((List.range Xs.length).filter fun j=>st.aJ j||L.contains j).map (pi l Xs))
    refine(aiO ep Z).trans ?_;refine(List.Perm.append hC.per z3).trans ((hmk.map _).trans (by rw[iD])).symm
 ·rw[ah rfl];exact⟨PL,hC⟩
theorem SX.ci(h:SX rg l r Xs)(hB:BD Xs):∀k,k<=Xs.length->∃PL,CI l Xs (aL Xs k) PL
 |0,_=>⟨[],rfl,by simp,fun j _ hm=>by simp[aL] at hm,by simp[aL,jJ]⟩
 |k+1,hk=>by
  obtain⟨PL,hC⟩:=SX.ci h hB k (by omega)
  rw[xz];exact CI.step h hB (by omega) (h.pv hB k (by omega)) hC
theorem SX.vk(h:SX rg l r Xs)(hB:BD Xs):∃PL,(aL Xs Xs.length).ps=PL.map rM/\(∀p∈PL,Ye l Xs p)/\(jJ PL).Perm (sS (ai l) Xs):=by
 obtain⟨PL,hC⟩:=SX.ci h hB Xs.length (ax _);refine⟨PL,hC.ps,hC.ok,hC.per.trans ?_⟩;have hP:=h.pv hB Xs.length (ax _);have e:(List.range Xs.length).filter (aL Xs Xs.length).aJ=List.range Xs.length:=by
  rw[Jb];intro a ha;exact hP.low a (oW.1 ha)
 rw[e];unfold sS;have e2:(List.range Xs.length).map (pi l Xs)=Xs.map (ph (ai l)):=by
  refine vK (by simp) fun i h1 h2=>?_
  simp only[ZR,List.getElem_range];unfold pi xi;rw[kI,aD (by simpa using h2)]
  rfl
 rw[e2]
end
abbrev NP:=List Nd×List (List Nd)
def Yi(Xs:List PB)(p:Pg):NP:=(Go.Proofs.YtkjhhooecopolaaGreatDoor.fr Xs p.1,p.2.map (Go.Proofs.YtkjhhooecopolaaGreatDoor.fr Xs))
def fin(Xs:List PB):List NP:=(rL Xs (aL Xs Xs.length).ps).map (Yi Xs)
def DV(c:List Nd):List UInt8:=40::(Pl.aU Pl.dE ((c++c.take 1).map Ge.au)++[41])
def N5(F:List NP):List UInt8:=zP (F.map fun p=>xE (DV p.1) (p.2.map DV))
theorem N6(Xs:List PB):tV Xs=N5 (fin Xs):=by
 unfold tV N5 fin Iy;rw[jM];congr 1;refine Jk fun p _=>?_
 show dR Xs p=xE (DV (Go.Proofs.YtkjhhooecopolaaGreatDoor.fr Xs p.1)) ((p.2.map (Go.Proofs.YtkjhhooecopolaaGreatDoor.fr Xs)).map DV);unfold dR;rw[jM];rfl
structure Canon(S:List Sg)(nx:Sg->Sg)(l:List Nd)(F:List NP):Prop where
 nd:∀p∈F,(∀n∈p.1,n∈l)/\∀h∈p.2,∀n∈h,n∈l
 c1:∀p∈F,∃R,LR S nx R/\shl R/\p.1.map (PM (ai l))=iV R/\∀h∈p.2,∃H,LR S nx H/\¬shl H/\h.map (PM (ai l))=iV H/\∀a∈R,∀s∈H,Fc S a s
 c2:∀R,LR S nx R->shl R->∃p∈F,p.1.map (PM (ai l))=iV R
 c3:∀H,LR S nx H->¬shl H->∃p∈F,∃h∈p.2,h.map (PM (ai l))=iV H
 s1:F.Pairwise fun p q=>eY p.1 q.1<0
 s2:∀p∈F,p.2.Pairwise fun a b=>eY a b<0
theorem N7{α:Type}{lt:α->α->Prop}(xH:∀x,¬lt x x)(lg:∀x y,lt x y->¬lt y x):∀{A B:List α},A.Pairwise lt->B.Pairwise lt->(∀x,x∈A↔x∈B)->A=B
 |[],[],_,_,_=>rfl
 |[],b::B,_,_,h=>by have:=(h b).2 (by simp);simp at this
 |a::A,[],_,_,h=>by have:=(h a).1 (by simp);simp at this
 |a::A,b::B,hA,hB,h=>by
  obtain⟨a1,a2⟩:=fE.1 hA;obtain⟨b1,b2⟩:=fE.1 hB;have e:a=b:=by
   rcases aP.1 ((h a).1 (by simp)) with q|q
   ·exact q
   ·rcases aP.1 ((h b).2 (by simp)) with w|w
    ·exact w.symm
    ·exact absurd (a1 b w) (lg _ _ (b1 a q))
  subst e;congr 1;refine N7 xH lg a2 b2 fun x=>?_
  constructor
  ·intro hx;rcases aP.1 ((h x).1 (bo _ hx)) with q|q
   ·exact absurd (a1 x hx) (by rw[q];exact xH _)
   ·exact q
  ·intro hx;rcases aP.1 ((h x).2 (bo _ hx)) with q|q
   ·exact absurd (b1 x hx) (by rw[q];exact xH _)
   ·exact q
theorem N8{α β:Type}{k:α->β}{lt:β->β->Prop}(xH:∀x,¬lt x x):∀{A:List α},A.Pairwise (fun x y=>lt (k x) (k y))->∀{x y},x∈A->y∈A->k x=k y->x=y
 |[],_,_,_,h,_,_=>by simp at h
 |a::A,hA,x,y,hx,hy,e=>by
  obtain⟨a1,a2⟩:=fE.1 hA;rcases aP.1 hx with q|q<;>rcases aP.1 hy with w|w
  ·rw[q,w]
  ·have:=a1 y w;rw[<-q,e] at this;exact absurd this (xH _)
  ·have:=a1 x q;rw[<-w,e] at this;exact absurd this (xH _)
  ·exact N8 xH a2 q w e
theorem IH(r:List Nd):¬eY r r<0:=by rw[Iq];omega
section
variable{es:List (Pt×Pt)}{l:List Nd}{S:List Sg}{nx:Sg->Sg}
theorem II(hN:bK es l):∀{a b:List Nd},(∀n∈a,n∈l)->(∀n∈b,n∈l)->a.map (PM (ai l))=b.map (PM (ai l))->a=b
 |[],[],_,_,_=>rfl
 |[],_::_,_,_,h=>by simp at h
 |_::_,[],_,_,h=>by simp at h
 |a::A,b::B,ha,hb,h=>by
  rw[iE,iE] at h;injection h with h1 h2;rw[rA hN (ha a (by simp)) (hb b (by simp)) h1,II hN (fun n hn=>ha n (by simp[hn])) (fun n hn=>hb n (by simp[hn])) h2]
theorem Yj(hN:bK es l){a b:List Nd}(ha:∀n∈a,n∈l)(hb:∀n∈b,n∈l)(h:eY a b<0):¬eY b a<0:=fun k=>by
 have:=Iu a b a (fun n hn=>hN.can n (ha n hn)) (fun n hn=>hN.can n (hb n hn)) (fun n hn=>hN.can n (ha n hn)) h k
 rw[Iq] at this;omega
theorem Canon.eq(h:Wd S nx)(hN:bK es l){F F':List NP}(c:Canon S nx l F)(c':Canon S nx l F'):F=F':=by
 have half:∀{F F':List NP},Canon S nx l F->Canon S nx l F'->∀p∈F,∃p'∈F',p'.1=p.1/\∀x∈p.2,x∈p'.2:=by
  intro F F' c c' p hp;obtain⟨R,r1,r2,r3,r4⟩:=c.c1 p hp;obtain⟨p',hp',e'⟩:=c'.c2 R r1 r2;have k1:p'.1=p.1:=II hN (c'.nd p' hp').1 (c.nd p hp).1 (e'.trans r3.symm);refine⟨p',hp',k1,fun x hx=>?_⟩
  obtain⟨H,h1,h2,h3,h4⟩:=r4 x hx;obtain⟨p'',IJ,y,hy,ey⟩:=c'.c3 H h1 h2;have exy:y=x:=II hN ((c'.nd p'' IJ).2 y hy) ((c.nd p hp).2 x hx) (ey.trans h3.symm);obtain⟨R'',s1,s2,s3,s4⟩:=c'.c1 p'' IJ;obtain⟨H'',t1,t2,t3,t4⟩:=s4 y hy;have eH:H''=H:=t1.J4 h h1 (t3.symm.trans ey);rw[eH] at t4;obtain⟨a,_,ha,_⟩:=kN r1.ring.ne;obtain⟨a'',_,Yk,_⟩:=kN s1.ring.ne;obtain⟨b,_,hb,_⟩:=kN h1.ring.ne;have eR:R=R'':=r1.one h s1 r2 s2 ha Yk ((h4 a (uh ha) b (uh hb)).trans (t4 a'' (uh Yk) b (uh hb)).symm);have k2:p''.1=p'.1:=II hN (c'.nd p'' IJ).1 (c'.nd p' hp').1 (by rw[s3,e',eR])
  have k3:p''=p':=N8 (k:=Prod.fst) (lt:=fun a b=>eY a b<0) IH c'.s1 IJ hp' k2
  rw[<-k3,<-exy];exact hy
 have full:∀{F F':List NP},Canon S nx l F->Canon S nx l F'->∀p∈F,p∈F':=by
  intro F F' c c' p hp;obtain⟨p',hp',e1,e2⟩:=half c c' p hp;obtain⟨q,hq,f1,f2⟩:=half c' c p' hp';have:q=p:=N8 (k:=Prod.fst) (lt:=fun a b=>eY a b<0) IH c.s1 hq hp (f1.trans e1)
  rw[this] at f2;have eh:p.2=p'.2:=by
   have hin:∀x∈p.2,∀n∈x,n∈l:=fun x hx=>(c.nd p hp).2 x hx
   have hin':∀x∈p'.2,∀n∈x,n∈l:=fun x hx=>(c'.nd p' hp').2 x hx
   refine N7 (lt:=fun a b=>(∀n∈a,n∈l)/\(∀n∈b,n∈l)/\eY a b<0) (fun x k=>IH x k.2.2) (fun x y k k2=>Yj hN k.1 k.2.1 k.2.2 k2.2.2) ?_ ?_ fun x=>⟨e2 x,f2 x⟩
   ·exact rV (fun ha hb k=>⟨hin _ ha,hin _ hb,k⟩) (c.s2 p hp)
   ·exact rV (fun ha hb k=>⟨hin' _ ha,hin' _ hb,k⟩) (c'.s2 p' hp')
  have:p=p':=dC e1.symm eh;rw[this];exact hp'
 have hin:∀{F:List NP},Canon S nx l F->F.Pairwise (fun p q=>(∀n∈p.1,n∈l)/\(∀n∈q.1,n∈l)/\eY p.1 q.1<0):=fun c=>rV (fun ha hb k=>⟨(c.nd _ ha).1,(c.nd _ hb).1,k⟩) c.s1
 exact N7 (lt:=fun p q:NP=>(∀n∈p.1,n∈l)/\(∀n∈q.1,n∈l)/\eY p.1 q.1<0) (fun x k=>IH x.1 k.2.2) (fun x y k k2=>Yj hN k.1 k.2.1 k.2.2 k2.2.2) (hin c) (hin c') fun x=>⟨full c c' x,full c' c x⟩
variable{S':List Sg}{nx':Sg->Sg}
theorem aiV{a x y:Pt}(ha:a≠(0,0))(hx:x≠(0,0))(hy:y≠(0,0))(h1:ay x a=false)(h2:ay y a=false)(h3:ay x y=false):cw a x y=true\/cw a y x=true:=by
 have t1:=gZ hx ha;have t2:=gZ hy ha;have t3:=gZ hx hy;rw[h1] at t1;rw[h2] at t2;rw[h3] at t3;rw[kK,kK];cases a1:ak x a<;>cases a2:ak a x<;>rw[a1,a2] at t1<;>simp[bb] at t1<;>cases b1:ak y a<;>cases b2:ak a y<;>rw[b1,b2] at t2<;>simp[bb] at t2<;>cases c1:ak x y<;>cases c2:ak y x<;>rw[c1,c2] at t3<;>simp[bb] at t3<;>simp
theorem aiW(h:Wd S nx)(h':Wd S' nx')(hS:∀s,s∈S↔s∈S'){s:Sg}(hs:s∈S):nx s=nx' s:=by
 obtain⟨a1,a2⟩:=h.yj s hs;obtain⟨b1,b2⟩:=h'.yj s ((hS s).1 hs);have IK:=(hS _).2 b1;have k1:=h.w1 s hs _ IK b2;have k2:=h'.w1 s ((hS s).1 hs) _ ((hS _).1 a1) a2;cases q:ay (dr (nx s)) (dr (nx' s))
 ·rcases aiV (ji (h.gh hs)) (h.gh a1) (h.gh IK) (h.two _ a1 _ hs a2) (h.two _ IK _ hs b2) q with w|w
  ·rw[k2] at w;cases w
  ·rw[k1] at w;cases w
 ·exact h.one _ a1 _ IK (a2.trans b2.symm) q
theorem N9(h:Wd S nx)(h':Wd S' nx')(hS:∀s,s∈S↔s∈S'){s:Sg}(hs:s∈S):∀k,it nx k s=it nx' k s
 |0=>rfl
 |k+1=>by
  show nx (it nx k s)=nx' (it nx' k s);rw[<-N9 h h' hS hs k];exact aiW h h' hS (h.mh hs k)
theorem LR.same(h:Wd S nx)(h':Wd S' nx')(hS:∀s,s∈S↔s∈S'){R:List Sg}(k:LR S nx R):LR S' nx' R:=by
 have o6:∀{s t},t∈S->vV nx s t->vV nx' s t:=by
  rintro s t ht ⟨e,n,e1,e2⟩;refine⟨e,n,by rw[<-N9 h h' hS ht];exact e1,fun j j1 j2=>?_⟩
  rw[<-N9 h h' hS ht];exact e2 j j1 j2
 refine⟨⟨k.ring.ne,fun s hs=>(hS s).1 (k.ring.mem s hs),k.ring.oa,fun i s t hs ht=>o6 (k.ring.mem t (bh ht)) (k.ring.o6 i s t hs ht),fun s t hs ht=>o6 (k.ring.mem t (uh ht)) (k.ring.cls s t hs ht)⟩,k.least⟩
theorem Fc.same(hS:∀s,s∈S↔s∈S'){s u:Sg}(k:Fc S s u):Fc S' s u:=fun es hc hi=>k es hc fun e he=>by
 rcases hi e he with q|q
 ·exact ae ((hS _).2 q)
 ·exact af ((hS _).2 q)
theorem Canon.same(h:Wd S nx)(h':Wd S' nx')(hS:∀s,s∈S↔s∈S'){F:List NP}(c:Canon S nx l F):Canon S' nx' l F:=by
 have aA:∀s,s∈S'↔s∈S:=fun s=>(hS s).symm
 refine⟨c.nd,fun p hp=>?_,fun R hR=>c.c2 R (hR.same h' h aA),fun H hH=>c.c3 H (hH.same h' h aA),c.s1,c.s2⟩
 obtain⟨R,r1,r2,r3,r4⟩:=c.c1 p hp;refine⟨R,r1.same h h' hS,r2,r3,fun x hx=>?_⟩
 obtain⟨H,h1,h2,h3,h4⟩:=r4 x hx;exact⟨H,h1.same h h' hS,h2,h3,fun a ha s hs=>(h4 a ha s hs).same hS⟩
end
theorem Oa{β:Type}(cf:β->β->Int)(L:List β)(hO:Sort.SWO (ltOf fun i j:Fin L.length=>cf L[i] L[j])):(iT cf L).Perm L/\(iT cf L).Pairwise (fun x y=>¬cf y x<0):=by
 unfold iT;by_cases h:0<L.length
 ·rw[ug h];obtain⟨hd,p3,p4⟩:=ND _ hO h;refine⟨?_,?_⟩
  ·have k:=p3.map (fun i:Fin L.length=>L[i])
   have e3:(Array.ofFn (id:Fin L.length->Fin L.length)).toList.map (fun i:Fin L.length=>L[i])=L:=by
    apply vK
    ·simp
    ·intro i h1 h2;simp
   rw[e3] at k;exact k
  ·rw[lZ,lF];intro i j hi hj hij;exact p4 i j (by simpa using hi) (by simpa using hj) hij
 ·rw[Aj h];have:L=[]:=fK.1 (by omega)
  subst this;exact⟨Jp _,List.Pairwise.nil⟩
section
variable{rg:List (List Pt)}{l:List Nd}{r:Int}{Xs:List PB}
theorem Rel.nodes(h:SX rg l r Xs){q:List Nat}(hq:∀a∈q,a<Xs.length):∀n∈Go.Proofs.YtkjhhooecopolaaGreatDoor.fr Xs q,n∈l:=fun n hn=>by
 obtain⟨a,ha,rfl⟩:=bp.1 hn;exact(SX.nV h (hq a ha)).1
theorem SX.canon(h:SX rg l r Xs)(hB:BD Xs):Canon (sS (ai l) Xs) (jE (ai l) Xs) l (fin Xs):=by
 have hW:=SX.wd h hB;obtain⟨PL,e1,hok,Yl⟩:=SX.vk h hB;have hpn:=h.pn hB Xs.length (ax _);have aiY:(sS (ai l) Xs).Nodup:=by
  unfold sS;rw[List.Nodup,lZ,lF];intro i j hi hj hij e;have gx:∀{i:Nat}(hi:i<Xs.length),xi Xs i=Xs[i]:=fun hi=>tH (aD hi)
  have:=SX.C6 h hi hj (by rw[gx hi,gx hj];exact e)
  omega
 have hnd:(jJ PL).Nodup:=Yl.nodup_iff.2 aiY;obtain⟨nd1,Ym⟩:=akx.1 hnd;rw[lZ] at Ym;have ai0:∀p∈PL,(tS p).Nodup:=fun p hp=>nd1 _ (bp.2 ⟨p,hp,rfl⟩)
 have zR:∀p∈PL,(∀a∈p.1.1,a<Xs.length)/\∀z∈p.2,∀a∈z.1,a<Xs.length:=fun p hp=>by
  have:=hpn (rM p) (by rw[e1];exact bp.2 ⟨p,hp,rfl⟩)
  exact⟨this.1.lt,fun z hz=>(this.2 z.1 (bp.2 ⟨z,hz,rfl⟩)).lt⟩
 have can:∀q:List Nat,(∀a∈q,a<Xs.length)->∀n∈Go.Proofs.YtkjhhooecopolaaGreatDoor.fr Xs q,Ge.Can n:=fun q hq n hn=>h.nl.can n (Rel.nodes h hq n hn)
 have hole:∀p∈PL,(iT (rK Xs) (p.2.map Prod.fst)).Perm (p.2.map Prod.fst)/\((iT (rK Xs) (p.2.map Prod.fst)).map (Go.Proofs.YtkjhhooecopolaaGreatDoor.fr Xs)).Pairwise fun a b=>eY a b<0:=fun p hp=>by
  obtain⟨s1,s2⟩:=Oa (rK Xs) (p.2.map Prod.fst) (xD (fun i:Fin (p.2.map Prod.fst).length=>Go.Proofs.YtkjhhooecopolaaGreatDoor.fr Xs (p.2.map Prod.fst)[i]) fun i a ha=>by
   have hm:(p.2.map Prod.fst)[i]∈p.2.map Prod.fst:=gF _;obtain⟨z,hz,e⟩:=bp.1 hm;have ha':a∈Go.Proofs.YtkjhhooecopolaaGreatDoor.fr Xs (p.2.map Prod.fst)[i]:=ha;rw[<-e] at ha';exact can z.1 ((zR p hp).2 z hz) a ha')
  refine⟨s1,?_⟩;have hk:(p.2.map fun z=>Go.Proofs.YtkjhhooecopolaaGreatDoor.fr Xs z.1).Nodup:=by
   have hd:=(Jr.1 (ai0 p hp)).2.1;obtain⟨_,d2⟩:=akx.1 hd;rw[lZ] at d2;rw[List.Nodup,lZ];refine rV (fun{z w} hz hw k e=>?_) d2
   have rz:=((hok p hp).hole z hz).1;have DW:=((hok p hp).hole w hw).1;have ee:=rz.lr.J4 hW DW.lr (by rw[<-rz.iV,<-DW.iV,e])
   obtain⟨a,_,ha,_⟩:=kN rz.lr.ring.ne;have ma:=uh ha;exact k a ma a (by rw[<-ee];exact ma) rfl
  have hk2:((iT (rK Xs) (p.2.map Prod.fst)).map (Go.Proofs.YtkjhhooecopolaaGreatDoor.fr Xs)).Nodup:=by
   refine((s1.map (Go.Proofs.YtkjhhooecopolaaGreatDoor.fr Xs)).nodup_iff).2 ?_;rw[jM];exact hk
  rw[lZ];rw[List.Nodup,lZ] at hk2;refine rV (fun{x y} hx hy k=>?_) (s2.and hk2)
  have mem:∀x∈iT (rK Xs) (p.2.map Prod.fst),∀n∈Go.Proofs.YtkjhhooecopolaaGreatDoor.fr Xs x,Ge.Can n:=fun x hx=>by
   obtain⟨z,hz,rfl⟩:=bp.1 (s1.mem_iff.1 hx);exact can z.1 ((zR p hp).2 z hz)
  rcases Ir (Go.Proofs.YtkjhhooecopolaaGreatDoor.fr Xs x) (Go.Proofs.YtkjhhooecopolaaGreatDoor.fr Xs y) (mem x hx) (mem y hy) with q|q|q
  ·exact q
  ·exact absurd q k.1
  ·exact absurd q k.2
 have hsw:Sort.SWO (ltOf fun i j:Fin ((aL Xs Xs.length).ps.map (fI Xs)).length=>mU Xs ((aL Xs Xs.length).ps.map (fI Xs))[i] ((aL Xs Xs.length).ps.map (fI Xs))[j]):=
  xD (fun i:Fin ((aL Xs Xs.length).ps.map (fI Xs)).length=>Go.Proofs.YtkjhhooecopolaaGreatDoor.fr Xs ((aL Xs Xs.length).ps.map (fI Xs))[i].1) fun i a ha=>by
   have hm:((aL Xs Xs.length).ps.map (fI Xs))[i]∈(aL Xs Xs.length).ps.map (fI Xs):=gF _;obtain⟨g,hg,eg⟩:=bp.1 hm;have hg':g∈PL.map rM:=by rw[<-e1];exact hg
   obtain⟨p,hp,rfl⟩:=bp.1 hg';have ha':a∈Go.Proofs.YtkjhhooecopolaaGreatDoor.fr Xs ((aL Xs Xs.length).ps.map (fI Xs))[i].1:=ha;have e2:((aL Xs Xs.length).ps.map (fI Xs))[i].1=p.1.1:=by rw[<-eg];rfl
   rw[e2] at ha';exact can p.1.1 (zR p hp).1 a ha'
 obtain⟨t1,t2⟩:=Oa (mU Xs) ((aL Xs Xs.length).ps.map (fI Xs)) hsw;have hmem:∀x,x∈fin Xs↔∃p∈PL,x=(Go.Proofs.YtkjhhooecopolaaGreatDoor.fr Xs p.1.1,(iT (rK Xs) (p.2.map Prod.fst)).map (Go.Proofs.YtkjhhooecopolaaGreatDoor.fr Xs)):=fun x=>by
  unfold fin rL;rw[bp];constructor
  ·rintro⟨g,hg,rfl⟩;have:=t1.mem_iff.1 hg;rw[e1,jM] at this;obtain⟨p,hp,rfl⟩:=bp.1 this;exact⟨p,hp,rfl⟩
  ·rintro⟨p,hp,rfl⟩;refine⟨fI Xs (rM p),t1.mem_iff.2 ?_,rfl⟩;rw[e1,jM];exact bp.2 ⟨p,hp,rfl⟩
 have find:∀R,LR (sS (ai l) Xs) (jE (ai l) Xs) R->∃p∈PL,p.1.2=R\/∃z∈p.2,z.2=R:=fun R hR=>by
  obtain⟨a,_,ha,_⟩:=kN hR.ring.ne;have ma:=uh ha;obtain⟨L,hL,M8⟩:=xQ.1 (Yl.mem_iff.2 (hR.ring.mem a ma));obtain⟨p,hp,rfl⟩:=bp.1 hL;rcases bT.1 M8 with q|q
  ·exact⟨p,hp,ae ((hok p hp).shell.lr.eq hW hR q ma)⟩
  ·obtain⟨H,hH,haH⟩:=xQ.1 q;obtain⟨z,hz,rfl⟩:=bp.1 hH;exact⟨p,hp,af ⟨z,hz,((hok p hp).hole z hz).1.lr.eq hW hR haH ma⟩⟩
 refine⟨fun x hx=>?_,fun x hx=>?_,fun R hR hs=>?_,fun H hH hs=>?_,?_,fun x hx=>?_⟩
 ·obtain⟨p,hp,rfl⟩:=(hmem x).1 hx;refine⟨Rel.nodes h (zR p hp).1,fun y hy=>?_⟩
  obtain⟨q,hq,rfl⟩:=bp.1 hy;obtain⟨z,hz,rfl⟩:=bp.1 ((hole p hp).1.mem_iff.1 hq);exact Rel.nodes h ((zR p hp).2 z hz)
 ·obtain⟨p,hp,rfl⟩:=(hmem x).1 hx;have ok:=hok p hp;refine⟨p.1.2,ok.shell.lr,ok.NZ,ok.shell.iV,fun y hy=>?_⟩
  obtain⟨q,hq,rfl⟩:=bp.1 hy;obtain⟨z,hz,rfl⟩:=bp.1 ((hole p hp).1.mem_iff.1 hq);exact⟨z.2,(ok.hole z hz).1.lr,(ok.hole z hz).2,(ok.hole z hz).1.iV,ok.part z hz⟩
 ·obtain⟨p,hp,q|⟨z,hz,q⟩⟩:=find R hR
  ·exact⟨_,(hmem _).2 ⟨p,hp,rfl⟩,by rw[<-q];exact(hok p hp).shell.iV⟩
  ·rw[<-q] at hs;exact absurd hs ((hok p hp).hole z hz).2
 ·obtain⟨p,hp,q|⟨z,hz,q⟩⟩:=find H hH
  ·rw[<-q] at hs;exact absurd (hok p hp).NZ hs
  ·exact⟨_,(hmem _).2 ⟨p,hp,rfl⟩,Go.Proofs.YtkjhhooecopolaaGreatDoor.fr Xs z.1,bp.2 ⟨z.1,(hole p hp).1.mem_iff.2 (bp.2 ⟨z,hz,rfl⟩),rfl⟩,by rw[<-q];exact((hok p hp).hole z hz).1.iV⟩
 ·unfold fin rL;rw[lZ];have hk:((aL Xs Xs.length).ps.map (fI Xs)).Pairwise fun a b=>Go.Proofs.YtkjhhooecopolaaGreatDoor.fr Xs a.1≠Go.Proofs.YtkjhhooecopolaaGreatDoor.fr Xs b.1:=by
   rw[e1,jM,lZ];refine rV (fun{p q} hp hq k e=>?_) Ym
   have rz:=(hok p hp).shell;have DW:=(hok q hq).shell;have e':Go.Proofs.YtkjhhooecopolaaGreatDoor.fr Xs p.1.1=Go.Proofs.YtkjhhooecopolaaGreatDoor.fr Xs q.1.1:=e;have ee:=rz.lr.J4 hW DW.lr (by rw[<-rz.iV,<-DW.iV,e'])
   obtain⟨a,_,ha,_⟩:=kN rz.lr.ring.ne;have ma:=uh ha;exact k a (tY _ ma) a (tY _ (by rw[<-ee];exact ma)) rfl
  have hk2:(iT (mU Xs) ((aL Xs Xs.length).ps.map (fI Xs))).Pairwise fun a b=>Go.Proofs.YtkjhhooecopolaaGreatDoor.fr Xs a.1≠Go.Proofs.YtkjhhooecopolaaGreatDoor.fr Xs b.1:=t1.symm.pairwise hk (fun k e=>k e.symm)
  refine rV (fun{x y} hx hy k=>?_) (t2.and hk2)
  have mem:∀x∈iT (mU Xs) ((aL Xs Xs.length).ps.map (fI Xs)),∀n∈Go.Proofs.YtkjhhooecopolaaGreatDoor.fr Xs x.1,Ge.Can n:=fun x hx=>by
   have:=t1.mem_iff.1 hx;rw[e1,jM] at this;obtain⟨p,hp,rfl⟩:=bp.1 this;exact can p.1.1 (zR p hp).1
  rcases Ir (Go.Proofs.YtkjhhooecopolaaGreatDoor.fr Xs x.1) (Go.Proofs.YtkjhhooecopolaaGreatDoor.fr Xs y.1) (mem x hx) (mem y hy) with q|q|q
  ·exact q
  ·exact absurd q k.1
  ·exact absurd q k.2
 ·obtain⟨p,hp,rfl⟩:=(hmem x).1 hx;exact(hole p hp).2
theorem Yn{sK:List (List Pt)}{r':Int}{IL:List PB}(h:SX rg l r Xs)(hB:BD Xs)(h':SX sK l r' IL)(hB':BD IL)(hs:∀a b,Sd (ag rg) l (takes r) a b↔Sd (ag sK) l (takes r') a b):tV Xs=tV IL:=by
 have hW:=SX.wd h hB;have hW':=SX.wd h' hB';have hS:∀s,s∈sS (ai l) Xs↔s∈sS (ai l) IL:=fun s=>by
  unfold sS;rw[bp,bp];constructor
  ·rintro⟨x,hx,rfl⟩;obtain⟨y,hy,e1,e2⟩:=h'.all _ _ ((hs _ _).1 (h.mem x hx));exact⟨y,hy,by unfold ph;rw[e1,e2]⟩
  ·rintro⟨x,hx,rfl⟩;obtain⟨y,hy,e1,e2⟩:=h.all _ _ ((hs _ _).2 (h'.mem x hx));exact⟨y,hy,by unfold ph;rw[e1,e2]⟩
 rw[N6,N6,((SX.canon h hB).same hW hW' hS).eq hW' h'.nl (SX.canon h' hB')]
end
end Go.Proofs.YtkjhhooecopolaaGreatDoor.Gb
namespace Go.Proofs.YtkjhhooecopolaaGreatDoor
open Go.RowKit
theorem ai2(s:ByteArray)(r:Int)(w:World)(hm:s.size<=maxLen)(jP:Gl w)(h0:(Pl.err s.data.toList).1≠0):
  Calls Tryz.prog 39 #[.string s,.int .u8 r] w fun e w'=>e=.returned (.tuple #[.string ⟨#[]⟩,.int .i64 (Pl.err s.data.toList).1,.int .i64 (Pl.err s.data.toList).2])/\Below w.heap.size w w':=by
 have hne:(((Pl.err s.data.toList).1:Int) != 0)=true:=by rw[Aa];omega
 have HR:Hid (∀w1,Gl w1->Calls Tryz.prog 33 #[.string s] w1 fun e w'=>Below w1.heap.size w1 w'/\∃pv,e=.returned (.tuple #[.pointer pv,.int .i64 (Pl.err s.data.toList).1,.int .i64 (Pl.err s.data.toList).2])):=fun w1 g1=>by
  refine(uH s w1 hm g1).mono ?_;rintro e w' ⟨hb,pv,rfl,_⟩;exact⟨hb,pv,rfl⟩
 generalize(Pl.err s.data.toList).1=E at*;generalize(Pl.err s.data.toList).2=Pp at*;clear h0
 go_enter Tryz.func39,Tryz.ntmps39
 go_wp2_with fail
 refine(HR.out _ jP).mono ?_;rintro e w1 ⟨hb1,pv,rfl⟩
 go_wp2_with fail
 refine bodyPost_ret (v:=.tuple #[.string ⟨#[]⟩,.int .i64 E,.int .i64 Pp]) (by simp[results,Tryz.results39,go_sem]) rfl ⟨rfl,hb1⟩
theorem Yo(s:ByteArray)(hm:s.size<=maxLen)(h0:(Pl.err s.data.toList).1=0):∀w1,Gl w1->Calls Tryz.prog 33 #[.string s] w1 fun e w'=>Below w1.heap.size w1 w'/\∃rb rv,e=.returned (.tuple #[.pointer (some ⟨rb,0,none⟩),.int .i64 0,.int .i64 0])/\
  w'.cell? ⟨rb,6,none⟩=some rv/\rb<w'.heap.size/\pF w' rv (Pl.rings s.data.toList):=fun w1 g1=>by
 have hp2:=(nN h0).2.1;refine(uH s w1 hm g1).mono ?_;rintro e w' ⟨hb,pv,rfl,jz⟩;obtain⟨rb,rfl,_,hR⟩:=jz h0;obtain⟨c,t,r,tv,rv,hc,hl',hbk,hown,Cj⟩:=hR;exact⟨hb,rb,rv,by rw[h0,hp2];rfl,cell_of hbk 6,lt_of_heap hbk,KW Cj⟩
theorem ai3(s:ByteArray)(r:Int)(w:World)(hm:s.size<=maxLen)(jP:Gl w)(h0:(Pl.err s.data.toList).1=0)(hr:Ge.rule r=false):
  Calls Tryz.prog 39 #[.string s,.int .u8 r] w fun e w'=>e=.returned (.tuple #[.string ⟨#[]⟩,.int .i64 4,.int .i64 0])/\Below w.heap.size w w':=by
 have HR:Hid (∀w1,Gl w1->Calls Tryz.prog 33 #[.string s] w1 fun e w'=>Below w1.heap.size w1 w'/\∃rb rv,e=.returned (.tuple #[.pointer (some ⟨rb,0,none⟩),.int .i64 0,.int .i64 0])/\
  w'.cell? ⟨rb,6,none⟩=some rv/\rb<w'.heap.size/\pF w' rv (Pl.rings s.data.toList)):=Yo s hm h0
 have HI:Hid (∀w,Calls Tryz.prog 66 #[.int .u8 r] w fun e w'=>e=.returned (.bool false)/\w'=w):=fun w=>by
  have:=SH r w;rw[hr] at this;exact this
 clear hr h0
 go_enter Tryz.func39,Tryz.ntmps39
 go_wp2_with fail
 refine(HR.out _ jP).mono ?_;rintro e w1 ⟨hb1,rb,rv,rfl,_⟩;have uY:Hid (Below w.heap.size w w1):=hb1;clear hb1 HR
 go_wp2_with fail
 refine(HI.out _).mono ?_;rintro e w2 ⟨rfl,rfl⟩;clear HI
 go_wp2_with fail
 refine bodyPost_ret (v:=.tuple #[.string ⟨#[]⟩,.int .i64 4,.int .i64 0]) (by simp[results,Tryz.results39,go_sem]) rfl ⟨rfl,uY.out⟩
def mV(rg:List (List Ge.Pt))(r:Int)(TX:List UInt8):Prop:=∃Ps l,l.map Ge.au=Ge.eO (Ge.ag rg)/\(∀n∈l,Ge.Can n)/\mH (Ge.ag rg) l Ps/\(mK r (Ge.ag rg) Ps).length<=85000000/\TX=tV (mK r (Ge.ag rg) Ps)
theorem ai4(s:ByteArray)(r:Int)(w:World)(hm:s.size<=maxLen)(jP:Gl w)(h0:(Pl.err s.data.toList).1=0)(hr:Ge.rule r=true):
  Calls Tryz.prog 39 #[.string s,.int .u8 r] w fun e w'=>(∃TX,e=.returned (.tuple #[.string (ba TX),.int .i64 0,.int .i64 0])/\mV (Pl.rings s.data.toList) r TX)/\Below w.heap.size w w':=by
 have HR:Hid (∀w1,Gl w1->Calls Tryz.prog 33 #[.string s] w1 fun e w'=>Below w1.heap.size w1 w'/\∃rb rv,e=.returned (.tuple #[.pointer (some ⟨rb,0,none⟩),.int .i64 0,.int .i64 0])/\
  w'.cell? ⟨rb,6,none⟩=some rv/\rb<w'.heap.size/\pF w' rv (Pl.rings s.data.toList)):=Yo s hm h0
 have HI:Hid (∀w,Calls Tryz.prog 66 #[.int .u8 r] w fun e w'=>e=.returned (.bool true)/\w'=w):=fun w=>by
  have:=SH r w;rw[hr] at this;exact this
 obtain⟨hro,hrl,ic,hel⟩:=F7 h0;have DX:=Pl.Sm h0;have y9:Hid (∀v w1,pF w1 v (Pl.rings s.data.toList)->Calls Tryz.prog 36 #[v] w1 fun e w'=>∃v,e=.returned v/\fG w' v (Ge.ag (Pl.rings s.data.toList))/\Below w1.heap.size w1 w'):=fun v w1 hv=>KX _ v w1 hv hro hrl
 have Ob:Hid (∀v w1,fG w1 v (Ge.ag (Pl.rings s.data.toList))->Gl w1->Calls Tryz.prog 68 #[v,.int .u8 r] w1 fun e w'=>∃lv,e=.returned lv/\Calls Tryz.prog 69 #[lv] w' fun e w2=>∃lp,e=.returned lp/\Below w1.heap.size w1 w2/\Calls Tryz.prog 67 #[lp] w2 fun e w3=>(∃TX,e=.returned (.string (ba TX))/\mV (Pl.rings s.data.toList) r TX)/\Below w1.heap.size w1 w3):=fun v w1 hv bz=>by
  refine(aff _ r v w1 hv DX ic (fun e he=>Ge.Fb he)).mono ?_
  rintro e w' ⟨lv,rfl,Ps,l,wb,bs,jX,jo,pS,hbb,jb,hbl⟩;refine⟨lv,rfl,?_⟩;refine(ain jX jo ic pS jb hbl (bz.below hbb bz.sz)).mono ?_;rintro e w2 ⟨lp,rfl,hb2,hW⟩;have Oc:Below w1.heap.size w1 w2:=hbb.trans (hb2.mono hbb.size);refine⟨lp,rfl,Oc,hW.mono ?_⟩;rintro e w3 ⟨rfl,hb3⟩;exact⟨⟨_,rfl,Ps,l,jX,jo,pS,by rw[<-jb.len];exact hbl,rfl⟩,Oc.trans (hb3.mono Oc.size)⟩
 have Yp:Hid (∃P:List UInt8->Prop,P=mV (Pl.rings s.data.toList) r):=⟨_,rfl⟩;obtain⟨P,hP⟩:=Yp.out;rw[<-hP] at Ob;rw[<-hP];clear hr h0 hro hrl ic hel DX Yp hP;generalize Pl.rings s.data.toList=RG at*;generalize Ge.ag RG=ES at*
 go_enter Tryz.func39,Tryz.ntmps39
 go_wp2_with fail
 refine(HR.out _ jP).mono ?_;rintro e w1 ⟨hb1,rb,rv,rfl,c6,hlt,qY⟩;have bz:=jP.below hb1 jP.sz
 go_wp2_with fail
 refine(HI.out _).mono ?_;rintro e w2 ⟨rfl,rfl⟩;clear HI HR
 go_wp2_with fail
 refine(y9.out _ _ qY).mono ?_;rintro e w3 ⟨ev,rfl,od,hb3⟩;have fw:Below w.heap.size w w3:=hb1.trans (hb3.mono hb1.size);have mr:=bz.below hb3 bz.sz;have rh:Hid (Below w.heap.size w w3):=fw;have hcall:=Ob.out _ _ od mr;clear Ob y9 qY od hb3 fw hb1 c6
 go_wp2_with fail
 refine hcall.mono ?_;rintro e w4 ⟨lv,rfl,Yq⟩;clear hcall
 go_wp2_with fail
 refine Yq.mono ?_;rintro e w5 ⟨lp,rfl,az,Yr⟩;clear Yq
 go_wp2_with fail
 refine Yr.mono ?_;rintro e w6 ⟨⟨TX,rfl,DY⟩,aC⟩;have HX':Hid (P TX):=DY;have DM:Hid (Below w.heap.size w w6):=rh.out.trans (aC.mono rh.out.size);clear Yr az aC DY
 go_wp2_with fail
 refine bodyPost_ret (v:=.tuple #[.string (ba TX),.int .i64 0,.int .i64 0]) (by simp[results,Tryz.results39,go_sem]) rfl ⟨⟨TX,rfl,HX'.out⟩,DM.out⟩
namespace Gb
open Ge Ga
theorem Od:∀{l l':List Nd},(∀n∈l,Ge.Can n)->(∀n∈l',Ge.Can n)->l.map au=l'.map au->l=l'
 |[],[],_,_,_=>rfl
 |[],_::_,_,_,h=>by simp at h
 |_::_,[],_,_,h=>by simp at h
 |a::A,b::B,ha,hb,h=>by
  rw[iE,iE] at h;injection h with h1 h2;have e:a=b:=Ge.sU (ha a (by simp)) (hb b (by simp)) (by rw[h1];exact Ge.wu _)
  rw[e,Od (fun n hn=>ha n (by simp[hn])) (fun n hn=>hb n (by simp[hn])) h2]
theorem mV.eq{rg sK:List (List Pt)}{r r':Int}{T T':List UInt8}(hs:∀e∈ag rg,dU e)(hs':∀e∈ag sK,dU e)(hn:eO (ag rg)=eO (ag sK))(Wv:∀l,∀a b,Sd (ag rg) l (takes r) a b↔Sd (ag sK) l (takes r') a b)(h:mV rg r T)(h':mV sK r' T'):T=T':=by
 obtain⟨Ps,l,h1,h2,h3,h4,rfl⟩:=h;obtain⟨Ps',l',k1,k2,k3,k4,rfl⟩:=h';have e:l=l':=Od h2 k2 (by rw[h1,k1,hn])
 subst e;exact Yn (Hv h1 h2 h3) (Iz h1 hs h3 h4) (Hv k1 k2 k3) (Iz k1 hs' k3 k4) (Wv l)
theorem mV.det{rg:List (List Pt)}{r:Int}{T T':List UInt8}(hs:∀e∈ag rg,dU e)(h:mV rg r T)(h':mV rg r T'):T=T':=mV.eq hs hs rfl (fun _ _ _=>zW) h h'
theorem ai7{rg:List (List Pt)}{r:Int}{T:List UInt8}(h:mV rg r T):T≠[]:=by
 obtain⟨Ps,l,_,_,_,_,rfl⟩:=h;unfold tV Iy zP;split
 ·unfold XH;simp
 ·unfold DR;simp
end Gb
end Go.Proofs.YtkjhhooecopolaaGreatDoor
