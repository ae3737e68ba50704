import Derived.Test.YtkjhhooecopolaaGreatDoorYz38
set_option maxRecDepth 100000
set_option maxHeartbeats 4000000
namespace Go.Proofs.YtkjhhooecopolaaGreatDoor.Gb
open Ge Ga
abbrev RP:=List Nat×List Sg
abbrev xK:=RP×List RP
def uf(p:xK):Pg:=(p.1.1,p.2.map Prod.fst)
def vN(p:xK):List Sg:=p.1.2++(p.2.map Prod.snd).flatten
def kz(PL:List xK):List Sg:=(PL.map vN).flatten
section
variable{rg:List (List Pt)}{l:List Nd}{r:Int}{Xs:List PB}
structure aaX(l:List Nd)(Xs:List PB)(p:xK):Prop where
 shell:Rel l Xs p.1.1 p.1.2
 QF:shl p.1.2
 hole:∀z∈p.2,Rel l Xs z.1 z.2/\¬shl z.2
 part:∀z∈p.2,∀a∈p.1.2,∀s∈z.2,Fc (sS (aj l) Xs) a s
structure CI(l:List Nd)(Xs:List PB)(st:St)(PL:List xK):Prop where
 ps:st.ps=PL.map uf
 ok:∀p∈PL,aaX l Xs p
 own:∀j,j<Xs.length->st.aK j=true->∃p,PL[st.ow j]?=some p/\∀a∈p.1.2,Fc (sS (aj l) Xs) a (pi l Xs j)
 per:(kz PL).Perm (((List.range Xs.length).filter st.aK).map (pi l Xs))
theorem filter_or{α:Type}(p q:α->Bool):∀(L:List α),(∀x∈L,p x=true->q x=false)->(L.filter fun x=>p x||q x).Perm (L.filter p++L.filter q)
 |[],_=>by simp
 |x::L,h=>by
  have ih:=filter_or p q L fun y hy=>h y (bz _ hy)
  cases hp:p x
  ·cases hq:q x
   ·rw[xZ (by simp[hp,hq]),xZ (by simp[hp]),xZ (by simp[hq])]
    exact ih
   ·rw[CG (by simp[hq]),xZ (by simp[hp]),CG hq]
    exact(ih.cons x).trans (List.perm_middle).symm
  ·have hq:=h x (by simp) hp
   rw[CG (by simp[hp]),CG hp,xZ (by simp[hq])]
   exact ih.cons x
theorem marks{n:Nat}{mk:Nat->Bool}{L:List Nat}(hnd:L.Nodup)(hf:∀a∈L,a<n/\mk a=false):((List.range n).filter fun j=>mk j||L.contains j).Perm ((List.range n).filter mk++L):=by
 refine(filter_or mk L.contains (List.range n) fun x _ hx=>?_).trans (Gu _ ?_)
 ·cases q:L.contains x
  ·rfl
  ·have:=(hf x (uy.1 q)).2;rw[hx] at this;cases this
 ·refine(List.perm_ext_iff_of_nodup (acL _ List.nodup_range) hnd).2 fun a=>?_
  rw[jF,qH,uy];exact⟨fun k=>k.2,fun k=>⟨(hf a k).1,k⟩⟩
theorem al9{P:List Nat->Bool}{A B:List (List Nat)}{x:List Nat}(hx:P x=true)(hB:∀y∈B,P y=false):ub P (A++x::B)=x:=by
 unfold ub;rw[Ll,rQ,ah hx];have:∀(B:List (List Nat)) acc,(∀y∈B,P y=false)->B.foldl (fun acc r=>if P r then r else acc) acc=acc:=by
  intro B;induction B with
  |nil=>intro acc _;rfl
  |cons b B ih=>
   intro acc h;rw[rQ,h b (by simp)]
   exact ih acc fun y hy=>h y (bz _ hy)
 exact this B x hB
theorem aaY{α:Type}(P:α->Bool):∀(L:List α),L.any P=true->∃A x B,L=A++x::B/\P x=true/\∀y∈A,P y=false
 |[],h=>by simp at h
 |x::L,h=>by
  cases hp:P x
  ·have h':L.any P=true:=by rw[List.any_cons,hp] at h;simpa using h
   obtain⟨A,y,B,e,h1,h2⟩:=aaY P L h';refine⟨x::A,y,B,by rw[e];rfl,h1,fun z hz=>?_⟩
   rcases aV.1 hz with q|q
   ·rw[q];exact hp
   ·exact h2 z q
  ·exact⟨[],x,L,rfl,hp,by simp⟩
theorem ama{PL:List xK}{q:Nat}{p:xK}(h:PL[q]?=some p)(Z:List RP):(kz (PL.set q (p.1,p.2++Z))).Perm (kz PL++(Z.map Prod.snd).flatten):=by
 obtain⟨hq,e⟩:=bY.1 h;have e1:PL=PL.take q++p::PL.drop (q+1):=by
  rw[<-e,List.getElem_cons_drop,RS]
 have e2:PL.set q (p.1,p.2++Z)=PL.take q++(p.1,p.2++Z)::PL.drop (q+1):=List.set_eq_take_append_cons_drop.trans (ah hq);rw[e2];have e3:kz PL=kz (PL.take q)++(vN p++kz (PL.drop (q+1))):=by
  have:=aw kz e1;rw[this];simp[kz]
 rw[e3];have e4:kz (PL.take q++(p.1,p.2++Z)::PL.drop (q+1))=kz (PL.take q)++((vN p++(Z.map Prod.snd).flatten)++kz (PL.drop (q+1))):=by
  simp[kz,vN]
 rw[e4,fI,fI,fI];exact Gu _ (Gu _ Gv)
theorem SX.QG(h:SX rg l r Xs)(hB:BD Xs){mk:Nat->Bool}{k:Nat}{L:List Nat}(hc:oQ (cE Xs) mk Xs.length k L){i:Nat}(hi:i∈L):Fc (sS (aj l) Xs) (pi l Xs k) (pi l Xs i):=by
 obtain⟨t,ht,e⟩:=kB.1 hi;have:=SX.it h hc t ht;have e1:L.getD t 0=i:=by rw[l9,aD ht,e];rfl
 rw[e1] at this;rw[<-this];obtain⟨_,g2,_,g4⟩:=FZ hc;have hk:k<Xs.length:=by rw[<-g2];exact(hc.free _ (vR g4)).1
 exact(SX.wd h hB).fc (Fb _ hk) (Hg _ _ t)
theorem CI.step(h:SX rg l r Xs)(hB:BD Xs){st:St}{k:Nat}{PL:List xK}(hk:k<Xs.length)(hP:PV Xs st k)(hC:CI l Xs st PL):∃PL',CI l Xs (oU Xs st k) PL':=by
 have hW:=SX.wd h hB;unfold oU;cases hm:st.aK k
 ·rw[aa (by simp)]
  obtain⟨hc,zE⟩:=h.walk hB hP hk hm;obtain⟨Z,z1,z2,z3⟩:=SX.rings h hB hc;generalize hL:cJ Xs st.aK k=L at*;have fg:=hc.free;have hmk:=marks hc.nd fg;have zin:∀z∈Z,∀s∈z.2,∃i∈L,s=pi l Xs i:=fun z hz s hs=>by
   have:s∈(Z.map Prod.snd).flatten:=zS.2 ⟨z.2,bh.2 ⟨z,hz,rfl⟩,hs⟩;obtain⟨i,hi,e⟩:=bh.1 (z3.mem_iff.1 this);exact⟨i,hi,e.symm⟩
  have Ci:∀z∈Z,∀s∈z.2,Fc (sS (aj l) Xs) (pi l Xs k) s:=fun z hz s hs=>by
   obtain⟨i,hi,rfl⟩:=zin z hz s hs;exact SX.QG h hB hc hi
  have hnd:(Z.map Prod.snd).flatten.Nodup:=by
   refine z3.nodup_iff.2 ?_;refine List.Pairwise.map _ (fun a b hab e=>?_) (qG (R:=fun a b=>a≠b) (S:=fun a b=>a∈L/\b∈L/\a≠b) (fun ha hb k=>⟨ha,hb,k⟩) hc.nd)
   exact hab.2.2 (SX.Fa h (fg a hab.1).1 (fg b hab.2.1).1 e)
  by_cases jS:(bp Xs L).any (cd Xs)=true
  ·rw[ah jS];rw[<-z1,List.any_map] at jS;obtain⟨Z1,z0,Z2,eZ,hs0,mh⟩:=aaY _ Z jS;have hz0:z0∈Z:=by rw[eZ];simp
   have yn:∀z∈Z2,cd Xs z.1=false:=fun z hz=>by
    cases q:cd Xs z.1
    ·rfl
    ·exfalso;have hzZ:z∈Z:=by rw[eZ];simp[hz]
     have r0:=z2 z0 hz0;have r1:=z2 z hzZ;obtain⟨a,_,ha,_⟩:=mi r0.lr.ring.ne;obtain⟨a',_,ha',_⟩:=mi r1.lr.ring.ne;have ma:a∈z0.2:=wm ha;have ma':a'∈z.2:=wm ha';have e:=r0.lr.one hW r1.lr (r0.sh.1 hs0) (r1.sh.1 q) ha ha' ((Ci z0 hz0 a ma).symm.trans (Ci z hzZ a' ma'));rw[eZ] at hnd;simp only[iH,gU,RQ,Cy] at hnd;have hd:=(Lh.1 (Lh.1 hnd).2.1).2.2;exact hd a ma a (zS.2 ⟨z.2,bh.2 ⟨z,hz,rfl⟩,by rw[<-e];exact ma⟩) rfl
   have QH:cd Xs z0.1=true:=hs0;have hsh:ub (cd Xs) (bp Xs L)=z0.1:=by
    rw[<-z1,eZ,iH,gU];exact al9 QH fun y hy=>by
     obtain⟨z,hz,rfl⟩:=bh.1 hy;exact yn z hz
   have vK:((bp Xs L).filter fun r=> !cd Xs r)=(Z1++Z2).map Prod.fst:=by
    rw[<-z1,eZ,iH,gU,GC,xZ (by simp[QH])]
    rw[iH];congr 1
    ·rw[KY];intro y hy;obtain⟨z,hz,rfl⟩:=bh.1 hy;have:cd Xs z.1=false:=mh z hz;simp[this]
    ·rw[KY];intro y hy;obtain⟨z,hz,rfl⟩:=bh.1 hy;simp[yn z hz]
   rw[hsh,vK];have aa0:∀z∈Z1++Z2,z∈Z/\cd Xs z.1=false:=fun z hz=>by
    rcases cu.1 hz with q|q
    ·exact⟨by rw[eZ];simp[q],mh z q⟩
    ·exact⟨by rw[eZ];simp[q],yn z q⟩
   refine⟨PL++[(z0,Z1++Z2)],?_,fun p hp=>?_,fun j hj lW=>?_,?_⟩
   ·show st.ps++[_]=_;rw[hC.ps];simp[uf]
   ·rcases cu.1 hp with q|q
    ·exact hC.ok p q
    ·rw[bU.1 q];refine⟨z2 z0 hz0,(z2 z0 hz0).sh.1 QH,fun z hz=>?_,fun z hz a ha s hs=>?_⟩
     ·obtain⟨k1,k2⟩:=aa0 z hz;exact⟨z2 z k1,fun w=>by rw[(z2 z k1).sh.2 w] at k2;cases k2⟩
     ·exact(Ci z0 hz0 a ha).symm.trans (Ci z (aa0 z hz).1 s hs)
   ·show ∃p,(PL++[(z0,Z1++Z2)])[if L.contains j then st.ps.length else st.ow j]?=some p/\_
    have F4:(st.aK j||L.contains j)=true:=lW
    cases q:L.contains j
    ·rw[q,GI] at F4;obtain⟨p,e,hp⟩:=hC.own j hj F4;refine⟨p,?_,hp⟩;rw[aa (by simp),eD (bY.1 e).1]
     exact e
    ·refine⟨(z0,Z1++Z2),?_,fun a ha=>(Ci z0 hz0 a ha).symm.trans (SX.QG h hB hc (uy.1 q))⟩
     rw[ah rfl,hC.ps,iQ,nT (ai _)];simp
   ·show(kz (PL++[(z0,Z1++Z2)])).Perm (((List.range Xs.length).filter fun j=>st.aK j||L.contains j).map (pi l Xs))
    have e1:kz (PL++[(z0,Z1++Z2)])=kz PL++(z0.2++((Z1++Z2).map Prod.snd).flatten):=by simp[kz,vN]
    rw[e1];refine(acX hC.per ?_).trans ((hmk.map _).trans (by rw[iH])).symm
    refine List.Perm.trans ?_ z3;rw[eZ];simp only[iH,gU,RQ,Cy];rw[<-fI,<-fI];exact List.perm_append_comm.append_right _
  ·rw[aa jS];have hno:∀ring∈bp Xs L,cd Xs ring=false:=fun ring hr=>by
    cases q:cd Xs ring
    ·rfl
    ·exact absurd (xS.2 ⟨ring,hr,q⟩) jS
   have qA:=h.low hB hP hk hm (by rw[hL];exact hno)
   obtain⟨p,ep,hpf⟩:=hC.own _ qA.2.1 qA.2.2;have JT:=SX.al8 h hB hc zE hno;generalize hq:st.ow (ir Xs (xi Xs k).f)=q at*;have kN:st.ps.getD q ([],[])=uf p:=by
    rw[l9,hC.ps,gD,ep];rfl
   have xz:∀a∈p.1.2,Fc (sS (aj l) Xs) a (pi l Xs k):=fun a ha=>(hpf a ha).trans JT.symm
   refine⟨PL.set q (p.1,p.2++Z),?_,fun p' hp'=>?_,fun j hj lW=>?_,?_⟩
   ·show st.ps.set q _=_;rw[kN,hC.ps,acS];congr 1;show((uf p).1,(uf p).2++bp Xs L)=_;rw[<-z1];unfold uf;simp
   ·rcases an1 hp' with w|w
    ·exact hC.ok p' w
    ·subst w;have hp:=hC.ok p (bn ep);refine⟨hp.shell,hp.QF,fun z hz=>?_,fun z hz a ha s hs=>?_⟩
     ·rcases cu.1 hz with w|w
      ·exact hp.hole z w
      ·refine⟨z2 z w,fun v=>?_⟩
       have:=(z2 z w).sh.2 v;rw[hno z.1 (by rw[<-z1];exact bh.2 ⟨z,w,rfl⟩)] at this
       cases this
     ·rcases cu.1 hz with w|w
      ·exact hp.part z w a ha s hs
      ·exact(xz a ha).trans (Ci z w s hs)
   ·have mR:q<PL.length:=(bY.1 ep).1;show ∃p',(PL.set q (p.1,p.2++Z))[if L.contains j then q else st.ow j]?=some p'/\_
    have F4:(st.aK j||L.contains j)=true:=lW
    cases w:L.contains j
    ·rw[w,GI] at F4;obtain⟨p',e',hp'⟩:=hC.own j hj F4;rw[aa (by simp)]
     by_cases Ca:st.ow j=q
     ·rw[Ca] at e'⊢;rw[ep] at e';obtain rfl:p=p':=ni e';exact⟨(p.1,p.2++Z),by rw[rR mR],hp'⟩
     ·exact⟨p',by rw[xQ (fun x=>Ca x.symm)];exact e',hp'⟩
    ·rw[ah rfl];exact⟨(p.1,p.2++Z),by rw[rR mR],fun a ha=>(xz a ha).trans (SX.QG h hB hc (uy.1 w))⟩
   ·show(kz (PL.set q (p.1,p.2++Z))).Perm (((List.range Xs.length).filter fun j=>st.aK j||L.contains j).map (pi l Xs))
    refine(ama ep Z).trans ?_;refine(acX hC.per z3).trans ((hmk.map _).trans (by rw[iH])).symm
 ·rw[ah rfl];exact⟨PL,hC⟩
theorem SX.ci(h:SX rg l r Xs)(hB:BD Xs):∀k,k<=Xs.length->∃PL,CI l Xs (aP Xs k) PL
 |0,_=>⟨[],rfl,by simp,fun j _ hm=>by simp[aP] at hm,by simp[aP,kz]⟩
 |k+1,hk=>by
  obtain⟨PL,hC⟩:=SX.ci h hB k (by omega)
  rw[zz];exact CI.step h hB (by omega) (h.pv hB k (by omega)) hC
theorem SX.xD(h:SX rg l r Xs)(hB:BD Xs):∃PL,(aP Xs Xs.length).ps=PL.map uf/\(∀p∈PL,aaX l Xs p)/\(kz PL).Perm (sS (aj l) Xs):=by
 obtain⟨PL,hC⟩:=SX.ci h hB Xs.length (ai _);refine⟨PL,hC.ps,hC.ok,hC.per.trans ?_⟩;have hP:=h.pv hB Xs.length (ai _);have e:(List.range Xs.length).filter (aP Xs Xs.length).aK=List.range Xs.length:=by
  rw[KY];intro a ha;exact hP.low a (qH.1 ha)
 rw[e];unfold sS;have e2:(List.range Xs.length).map (pi l Xs)=Xs.map (ph (aj l)):=by
  refine xY (by simp) fun i h1 h2=>?_
  simp only[acT,List.getElem_range];unfold pi xi;rw[l9,aD (by simpa using h2)]
  rfl
 rw[e2]
end
abbrev NP:=List Nd×List (List Nd)
def ndP(Xs:List PB)(p:Pg):NP:=(Go.Proofs.YtkjhhooecopolaaGreatDoor.fr Xs p.1,p.2.map (Go.Proofs.YtkjhhooecopolaaGreatDoor.fr Xs))
def fin(Xs:List PB):List NP:=(vP Xs (aP Xs Xs.length).ps).map (ndP Xs)
def Ko(c:List Nd):List UInt8:=40::(Pl.aN Pl.jd ((c++c.take 1).map Ge.ay)++[41])
def aa1(F:List NP):List UInt8:=FY (F.map fun p=>Cg (Ko p.1) (p.2.map Ko))
theorem aa2(Xs:List PB):xJ Xs=aa1 (fin Xs):=by
 unfold xJ aa1 fin Kh;rw[kD];congr 1;refine La fun p _=>?_
 show bQ Xs p=Cg (Ko (Go.Proofs.YtkjhhooecopolaaGreatDoor.fr Xs p.1)) ((p.2.map (Go.Proofs.YtkjhhooecopolaaGreatDoor.fr Xs)).map Ko);unfold bQ;rw[kD];rfl
structure Canon(S:List Sg)(nx:Sg->Sg)(l:List Nd)(F:List NP):Prop where
 nd:∀p∈F,(∀n∈p.1,n∈l)/\∀h∈p.2,∀n∈h,n∈l
 c1:∀p∈F,∃R,LR S nx R/\shl R/\p.1.map (PM (aj l))=jq R/\∀h∈p.2,∃H,LR S nx H/\¬shl H/\h.map (PM (aj l))=jq H/\∀a∈R,∀s∈H,Fc S a s
 c2:∀R,LR S nx R->shl R->∃p∈F,p.1.map (PM (aj l))=jq R
 c3:∀H,LR S nx H->¬shl H->∃p∈F,∃h∈p.2,h.map (PM (aj l))=jq H
 s1:F.Pairwise fun p q=>fH p.1 q.1<0
 s2:∀p∈F,p.2.Pairwise fun a b=>fH a b<0
theorem Kq{α:Type}{lt:α->α->Prop}(zF:∀x,¬lt x x)(mO:∀x y,lt x y->¬lt y x):∀{A B:List α},A.Pairwise lt->B.Pairwise lt->(∀x,x∈A↔x∈B)->A=B
 |[],[],_,_,_=>rfl
 |[],b::B,_,_,h=>by have:=(h b).2 (by simp);simp at this
 |a::A,[],_,_,h=>by have:=(h a).1 (by simp);simp at this
 |a::A,b::B,hA,hB,h=>by
  obtain⟨a1,a2⟩:=gv.1 hA;obtain⟨b1,b2⟩:=gv.1 hB;have e:a=b:=by
   rcases aV.1 ((h a).1 (by simp)) with q|q
   ·exact q
   ·rcases aV.1 ((h b).2 (by simp)) with w|w
    ·exact w.symm
    ·exact absurd (a1 b w) (mO _ _ (b1 a q))
  subst e;congr 1;refine Kq zF mO a2 b2 fun x=>?_
  constructor
  ·intro hx;rcases aV.1 ((h x).1 (bz _ hx)) with q|q
   ·exact absurd (a1 x hx) (by rw[q];exact zF _)
   ·exact q
  ·intro hx;rcases aV.1 ((h x).2 (bz _ hx)) with q|q
   ·exact absurd (b1 x hx) (by rw[q];exact zF _)
   ·exact q
theorem QI{α β:Type}{k:α->β}{lt:β->β->Prop}(zF:∀x,¬lt x x):∀{A:List α},A.Pairwise (fun x y=>lt (k x) (k y))->∀{x y},x∈A->y∈A->k x=k y->x=y
 |[],_,_,_,h,_,_=>by simp at h
 |a::A,hA,x,y,hx,hy,e=>by
  obtain⟨a1,a2⟩:=gv.1 hA;rcases aV.1 hx with q|q<;>rcases aV.1 hy with w|w
  ·rw[q,w]
  ·have:=a1 y w;rw[<-q,e] at this;exact absurd this (zF _)
  ·have:=a1 x q;rw[<-w,e] at this;exact absurd this (zF _)
  ·exact QI zF a2 q w e
theorem Kr(r:List Nd):¬fH r r<0:=by rw[Ka];omega
section
variable{es:List (Pt×Pt)}{l:List Nd}{S:List Sg}{nx:Sg->Sg}
theorem Ks(hN:bX es l):∀{a b:List Nd},(∀n∈a,n∈l)->(∀n∈b,n∈l)->a.map (PM (aj l))=b.map (PM (aj l))->a=b
 |[],[],_,_,_=>rfl
 |[],_::_,_,_,h=>by simp at h
 |_::_,[],_,_,h=>by simp at h
 |a::A,b::B,ha,hb,h=>by
  rw[gU,gU] at h;injection h with h1 h2;rw[tU hN (ha a (by simp)) (hb b (by simp)) h1,Ks hN (fun n hn=>ha n (by simp[hn])) (fun n hn=>hb n (by simp[hn])) h2]
theorem aa3(hN:bX es l){a b:List Nd}(ha:∀n∈a,n∈l)(hb:∀n∈b,n∈l)(h:fH a b<0):¬fH b a<0:=fun k=>by
 have:=Kc a b a (fun n hn=>hN.can n (ha n hn)) (fun n hn=>hN.can n (hb n hn)) (fun n hn=>hN.can n (ha n hn)) h k
 rw[Ka] at this;omega
theorem Canon.eq(h:Wd S nx)(hN:bX es l){F F':List NP}(c:Canon S nx l F)(c':Canon S nx l F'):F=F':=by
 have half:∀{F F':List NP},Canon S nx l F->Canon S nx l F'->∀p∈F,∃p'∈F',p'.1=p.1/\∀x∈p.2,x∈p'.2:=by
  intro F F' c c' p hp;obtain⟨R,r1,r2,r3,r4⟩:=c.c1 p hp;obtain⟨p',hp',e'⟩:=c'.c2 R r1 r2;have k1:p'.1=p.1:=Ks hN (c'.nd p' hp').1 (c.nd p hp).1 (e'.trans r3.symm);refine⟨p',hp',k1,fun x hx=>?_⟩
  obtain⟨H,h1,h2,h3,h4⟩:=r4 x hx;obtain⟨p'',Kt,y,hy,ey⟩:=c'.c3 H h1 h2;have exy:y=x:=Ks hN ((c'.nd p'' Kt).2 y hy) ((c.nd p hp).2 x hx) (ey.trans h3.symm);obtain⟨R'',s1,s2,s3,s4⟩:=c'.c1 p'' Kt;obtain⟨H'',t1,t2,t3,t4⟩:=s4 y hy;have eH:H''=H:=t1.L8 h h1 (t3.symm.trans ey);rw[eH] at t4;obtain⟨a,_,ha,_⟩:=mi r1.ring.ne;obtain⟨a'',_,aa4,_⟩:=mi s1.ring.ne;obtain⟨b,_,hb,_⟩:=mi h1.ring.ne;have eR:R=R'':=r1.one h s1 r2 s2 ha aa4 ((h4 a (wm ha) b (wm hb)).trans (t4 a'' (wm aa4) b (wm hb)).symm);have k2:p''.1=p'.1:=Ks hN (c'.nd p'' Kt).1 (c'.nd p' hp').1 (by rw[s3,e',eR])
  have k3:p''=p':=QI (k:=Prod.fst) (lt:=fun a b=>fH a b<0) Kr c'.s1 Kt hp' k2
  rw[<-k3,<-exy];exact hy
 have full:∀{F F':List NP},Canon S nx l F->Canon S nx l F'->∀p∈F,p∈F':=by
  intro F F' c c' p hp;obtain⟨p',hp',e1,e2⟩:=half c c' p hp;obtain⟨q,hq,f1,f2⟩:=half c' c p' hp';have:q=p:=QI (k:=Prod.fst) (lt:=fun a b=>fH a b<0) Kr c.s1 hq hp (f1.trans e1)
  rw[this] at f2;have eh:p.2=p'.2:=by
   have hin:∀x∈p.2,∀n∈x,n∈l:=fun x hx=>(c.nd p hp).2 x hx
   have hin':∀x∈p'.2,∀n∈x,n∈l:=fun x hx=>(c'.nd p' hp').2 x hx
   refine Kq (lt:=fun a b=>(∀n∈a,n∈l)/\(∀n∈b,n∈l)/\fH a b<0) (fun x k=>Kr x k.2.2) (fun x y k k2=>aa3 hN k.1 k.2.1 k.2.2 k2.2.2) ?_ ?_ fun x=>⟨e2 x,f2 x⟩
   ·exact qG (fun ha hb k=>⟨hin _ ha,hin _ hb,k⟩) (c.s2 p hp)
   ·exact qG (fun ha hb k=>⟨hin' _ ha,hin' _ hb,k⟩) (c'.s2 p' hp')
  have:p=p':=eB e1.symm eh;rw[this];exact hp'
 have hin:∀{F:List NP},Canon S nx l F->F.Pairwise (fun p q=>(∀n∈p.1,n∈l)/\(∀n∈q.1,n∈l)/\fH p.1 q.1<0):=fun c=>qG (fun ha hb k=>⟨(c.nd _ ha).1,(c.nd _ hb).1,k⟩) c.s1
 exact Kq (lt:=fun p q:NP=>(∀n∈p.1,n∈l)/\(∀n∈q.1,n∈l)/\fH p.1 q.1<0) (fun x k=>Kr x.1 k.2.2) (fun x y k k2=>aa3 hN k.1 k.2.1 k.2.2 k2.2.2) (hin c) (hin c') fun x=>⟨full c c' x,full c' c x⟩
variable{S':List Sg}{nx':Sg->Sg}
theorem ami{a x y:Pt}(ha:a≠(0,0))(hx:x≠(0,0))(hy:y≠(0,0))(h1:az x a=false)(h2:az y a=false)(h3:az x y=false):cw a x y=true\/cw a y x=true:=by
 have t1:=iJ hx ha;have t2:=iJ hy ha;have t3:=iJ hx hy;rw[h1] at t1;rw[h2] at t2;rw[h3] at t3;rw[mf,mf];cases a1:au x a<;>cases a2:au a x<;>rw[a1,a2] at t1<;>simp[bb] at t1<;>cases b1:au y a<;>cases b2:au a y<;>rw[b1,b2] at t2<;>simp[bb] at t2<;>cases c1:au x y<;>cases c2:au y x<;>rw[c1,c2] at t3<;>simp[bb] at t3<;>simp
theorem amj(h:Wd S nx)(h':Wd S' nx')(hS:∀s,s∈S↔s∈S'){s:Sg}(hs:s∈S):nx s=nx' s:=by
 obtain⟨a1,a2⟩:=h.Ah s hs;obtain⟨b1,b2⟩:=h'.Ah s ((hS s).1 hs);have Ku:=(hS _).2 b1;have k1:=h.w1 s hs _ Ku b2;have k2:=h'.w1 s ((hS s).1 hs) _ ((hS _).1 a1) a2;cases q:az (dr (nx s)) (dr (nx' s))
 ·rcases ami (jI (h.ia hs)) (h.ia a1) (h.ia Ku) (h.two _ a1 _ hs a2) (h.two _ Ku _ hs b2) q with w|w
  ·rw[k2] at w;cases w
  ·rw[k1] at w;cases w
 ·exact h.one _ a1 _ Ku (a2.trans b2.symm) q
theorem QJ(h:Wd S nx)(h':Wd S' nx')(hS:∀s,s∈S↔s∈S'){s:Sg}(hs:s∈S):∀k,it nx k s=it nx' k s
 |0=>rfl
 |k+1=>by
  show nx (it nx k s)=nx' (it nx' k s);rw[<-QJ h h' hS hs k];exact amj h h' hS (h.nZ hs k)
theorem LR.same(h:Wd S nx)(h':Wd S' nx')(hS:∀s,s∈S↔s∈S'){R:List Sg}(k:LR S nx R):LR S' nx' R:=by
 have qL:∀{s t},t∈S->ym nx s t->ym nx' s t:=by
  rintro s t ht ⟨e,n,e1,e2⟩;refine⟨e,n,by rw[<-QJ h h' hS ht];exact e1,fun j j1 j2=>?_⟩
  rw[<-QJ h h' hS ht];exact e2 j j1 j2
 refine⟨⟨k.ring.ne,fun s hs=>(hS s).1 (k.ring.mem s hs),k.ring.qf,fun i s t hs ht=>qL (k.ring.mem t (bn ht)) (k.ring.qL i s t hs ht),fun s t hs ht=>qL (k.ring.mem t (wm ht)) (k.ring.cls s t hs ht)⟩,k.least⟩
theorem Fc.same(hS:∀s,s∈S↔s∈S'){s u:Sg}(k:Fc S s u):Fc S' s u:=fun es hc hi=>k es hc fun e he=>by
 rcases hi e he with q|q
 ·exact ae ((hS _).2 q)
 ·exact af ((hS _).2 q)
theorem Canon.same(h:Wd S nx)(h':Wd S' nx')(hS:∀s,s∈S↔s∈S'){F:List NP}(c:Canon S nx l F):Canon S' nx' l F:=by
 have aB:∀s,s∈S'↔s∈S:=fun s=>(hS s).symm
 refine⟨c.nd,fun p hp=>?_,fun R hR=>c.c2 R (hR.same h' h aB),fun H hH=>c.c3 H (hH.same h' h aB),c.s1,c.s2⟩
 obtain⟨R,r1,r2,r3,r4⟩:=c.c1 p hp;refine⟨R,r1.same h h' hS,r2,r3,fun x hx=>?_⟩
 obtain⟨H,h1,h2,h3,h4⟩:=r4 x hx;exact⟨H,h1.same h h' hS,h2,h3,fun a ha s hs=>(h4 a ha s hs).same hS⟩
end
theorem aa5{β:Type}(cf:β->β->Int)(L:List β)(hO:Sort.SWO (ltOf fun i j:Fin L.length=>cf L[i] L[j])):(kq cf L).Perm L/\(kq cf L).Pairwise (fun x y=>¬cf y x<0):=by
 unfold kq;by_cases h:0<L.length
 ·rw[wj h];obtain⟨hd,p3,p4⟩:=Qo _ hO h;refine⟨?_,?_⟩
  ·have k:=p3.map (fun i:Fin L.length=>L[i])
   have e3:(Array.ofFn (id:Fin L.length->Fin L.length)).toList.map (fun i:Fin L.length=>L[i])=L:=by
    apply xY
    ·simp
    ·intro i h1 h2;simp
   rw[e3] at k;exact k
  ·rw[nU,mZ];intro i j hi hj hij;exact p4 i j (by simpa using hi) (by simpa using hj) hij
 ·rw[CF h];have:L=[]:=gF.1 (by omega)
  subst this;exact⟨xX _,List.Pairwise.nil⟩
section
variable{rg:List (List Pt)}{l:List Nd}{r:Int}{Xs:List PB}
theorem Rel.nodes(h:SX rg l r Xs){q:List Nat}(hq:∀a∈q,a<Xs.length):∀n∈Go.Proofs.YtkjhhooecopolaaGreatDoor.fr Xs q,n∈l:=fun n hn=>by
 obtain⟨a,ha,rfl⟩:=bh.1 hn;exact(SX.pV h (hq a ha)).1
theorem SX.canon(h:SX rg l r Xs)(hB:BD Xs):Canon (sS (aj l) Xs) (ke (aj l) Xs) l (fin Xs):=by
 have hW:=SX.wd h hB;obtain⟨PL,e1,hok,aa6⟩:=SX.xD h hB;have hpn:=h.pn hB Xs.length (ai _);have aml:(sS (aj l) Xs).Nodup:=by
  unfold sS;rw[List.Nodup,nU,mZ];intro i j hi hj hij e;have gx:∀{i:Nat}(hi:i<Xs.length),xi Xs i=Xs[i]:=fun hi=>vC (aD hi)
  have:=SX.Fa h hi hj (by rw[gx hi,gx hj];exact e)
  omega
 have hnd:(kz PL).Nodup:=aa6.nodup_iff.2 aml;obtain⟨nd1,nd2⟩:=an3.1 hnd;rw[nU] at nd2;have amn:∀p∈PL,(vN p).Nodup:=fun p hp=>nd1 _ (bh.2 ⟨p,hp,rfl⟩)
 have Cj:∀p∈PL,(∀a∈p.1.1,a<Xs.length)/\∀z∈p.2,∀a∈z.1,a<Xs.length:=fun p hp=>by
  have:=hpn (uf p) (by rw[e1];exact bh.2 ⟨p,hp,rfl⟩)
  exact⟨this.1.lt,fun z hz=>(this.2 z.1 (bh.2 ⟨z,hz,rfl⟩)).lt⟩
 have can:∀q:List Nat,(∀a∈q,a<Xs.length)->∀n∈Go.Proofs.YtkjhhooecopolaaGreatDoor.fr Xs q,Ge.Can n:=fun q hq n hn=>h.nl.can n (Rel.nodes h hq n hn)
 have hole:∀p∈PL,(kq (ud Xs) (p.2.map Prod.fst)).Perm (p.2.map Prod.fst)/\((kq (ud Xs) (p.2.map Prod.fst)).map (Go.Proofs.YtkjhhooecopolaaGreatDoor.fr Xs)).Pairwise fun a b=>fH a b<0:=fun p hp=>by
  obtain⟨s1,s2⟩:=aa5 (ud Xs) (p.2.map Prod.fst) (Cb (fun i:Fin (p.2.map Prod.fst).length=>Go.Proofs.YtkjhhooecopolaaGreatDoor.fr Xs (p.2.map Prod.fst)[i]) fun i a ha=>by
   have hm:(p.2.map Prod.fst)[i]∈p.2.map Prod.fst:=iw _;obtain⟨z,hz,e⟩:=bh.1 hm;have ha':a∈Go.Proofs.YtkjhhooecopolaaGreatDoor.fr Xs (p.2.map Prod.fst)[i]:=ha;rw[<-e] at ha';exact can z.1 ((Cj p hp).2 z hz) a ha')
  refine⟨s1,?_⟩;have hk:(p.2.map fun z=>Go.Proofs.YtkjhhooecopolaaGreatDoor.fr Xs z.1).Nodup:=by
   have hd:=(Lh.1 (amn p hp)).2.1;obtain⟨_,d2⟩:=an3.1 hd;rw[nU] at d2;rw[List.Nodup,nU];refine qG (fun{z w} hz hw k e=>?_) d2
   have rz:=((hok p hp).hole z hz).1;have AH:=((hok p hp).hole w hw).1;have ee:=rz.lr.L8 hW AH.lr (by rw[<-rz.jq,<-AH.jq,e])
   obtain⟨a,_,ha,_⟩:=mi rz.lr.ring.ne;have ma:=wm ha;exact k a ma a (by rw[<-ee];exact ma) rfl
  have hk2:((kq (ud Xs) (p.2.map Prod.fst)).map (Go.Proofs.YtkjhhooecopolaaGreatDoor.fr Xs)).Nodup:=by
   refine((s1.map (Go.Proofs.YtkjhhooecopolaaGreatDoor.fr Xs)).nodup_iff).2 ?_;rw[kD];exact hk
  rw[nU];rw[List.Nodup,nU] at hk2;refine qG (fun{x y} hx hy k=>?_) (s2.and hk2)
  have mem:∀x∈kq (ud Xs) (p.2.map Prod.fst),∀n∈Go.Proofs.YtkjhhooecopolaaGreatDoor.fr Xs x,Ge.Can n:=fun x hx=>by
   obtain⟨z,hz,rfl⟩:=bh.1 (s1.mem_iff.1 hx);exact can z.1 ((Cj p hp).2 z hz)
  rcases Kb (Go.Proofs.YtkjhhooecopolaaGreatDoor.fr Xs x) (Go.Proofs.YtkjhhooecopolaaGreatDoor.fr Xs y) (mem x hx) (mem y hy) with q|q|q
  ·exact q
  ·exact absurd q k.1
  ·exact absurd q k.2
 have hsw:Sort.SWO (ltOf fun i j:Fin ((aP Xs Xs.length).ps.map (gS Xs)).length=>ue Xs ((aP Xs Xs.length).ps.map (gS Xs))[i] ((aP Xs Xs.length).ps.map (gS Xs))[j]):=
  Cb (fun i:Fin ((aP Xs Xs.length).ps.map (gS Xs)).length=>Go.Proofs.YtkjhhooecopolaaGreatDoor.fr Xs ((aP Xs Xs.length).ps.map (gS Xs))[i].1) fun i a ha=>by
   have hm:((aP Xs Xs.length).ps.map (gS Xs))[i]∈(aP Xs Xs.length).ps.map (gS Xs):=iw _;obtain⟨g,hg,eg⟩:=bh.1 hm;have hg':g∈PL.map uf:=by rw[<-e1];exact hg
   obtain⟨p,hp,rfl⟩:=bh.1 hg';have ha':a∈Go.Proofs.YtkjhhooecopolaaGreatDoor.fr Xs ((aP Xs Xs.length).ps.map (gS Xs))[i].1:=ha;have e2:((aP Xs Xs.length).ps.map (gS Xs))[i].1=p.1.1:=by rw[<-eg];rfl
   rw[e2] at ha';exact can p.1.1 (Cj p hp).1 a ha'
 obtain⟨t1,t2⟩:=aa5 (ue Xs) ((aP Xs Xs.length).ps.map (gS Xs)) hsw;have hmem:∀x,x∈fin Xs↔∃p∈PL,x=(Go.Proofs.YtkjhhooecopolaaGreatDoor.fr Xs p.1.1,(kq (ud Xs) (p.2.map Prod.fst)).map (Go.Proofs.YtkjhhooecopolaaGreatDoor.fr Xs)):=fun x=>by
  unfold fin vP;rw[bh];constructor
  ·rintro⟨g,hg,rfl⟩;have:=t1.mem_iff.1 hg;rw[e1,kD] at this;obtain⟨p,hp,rfl⟩:=bh.1 this;exact⟨p,hp,rfl⟩
  ·rintro⟨p,hp,rfl⟩;refine⟨gS Xs (uf p),t1.mem_iff.2 ?_,rfl⟩;rw[e1,kD];exact bh.2 ⟨p,hp,rfl⟩
 have find:∀R,LR (sS (aj l) Xs) (ke (aj l) Xs) R->∃p∈PL,p.1.2=R\/∃z∈p.2,z.2=R:=fun R hR=>by
  obtain⟨a,_,ha,_⟩:=mi hR.ring.ne;have ma:=wm ha;obtain⟨L,hL,PG⟩:=zS.1 (aa6.mem_iff.2 (hR.ring.mem a ma));obtain⟨p,hp,rfl⟩:=bh.1 hL;rcases cu.1 PG with q|q
  ·exact⟨p,hp,ae ((hok p hp).shell.lr.eq hW hR q ma)⟩
  ·obtain⟨H,hH,haH⟩:=zS.1 q;obtain⟨z,hz,rfl⟩:=bh.1 hH;exact⟨p,hp,af ⟨z,hz,((hok p hp).hole z hz).1.lr.eq hW hR haH ma⟩⟩
 refine⟨fun x hx=>?_,fun x hx=>?_,fun R hR hs=>?_,fun H hH hs=>?_,?_,fun x hx=>?_⟩
 ·obtain⟨p,hp,rfl⟩:=(hmem x).1 hx;refine⟨Rel.nodes h (Cj p hp).1,fun y hy=>?_⟩
  obtain⟨q,hq,rfl⟩:=bh.1 hy;obtain⟨z,hz,rfl⟩:=bh.1 ((hole p hp).1.mem_iff.1 hq);exact Rel.nodes h ((Cj p hp).2 z hz)
 ·obtain⟨p,hp,rfl⟩:=(hmem x).1 hx;have ok:=hok p hp;refine⟨p.1.2,ok.shell.lr,ok.QF,ok.shell.jq,fun y hy=>?_⟩
  obtain⟨q,hq,rfl⟩:=bh.1 hy;obtain⟨z,hz,rfl⟩:=bh.1 ((hole p hp).1.mem_iff.1 hq);exact⟨z.2,(ok.hole z hz).1.lr,(ok.hole z hz).2,(ok.hole z hz).1.jq,ok.part z hz⟩
 ·obtain⟨p,hp,q|⟨z,hz,q⟩⟩:=find R hR
  ·exact⟨_,(hmem _).2 ⟨p,hp,rfl⟩,by rw[<-q];exact(hok p hp).shell.jq⟩
  ·rw[<-q] at hs;exact absurd hs ((hok p hp).hole z hz).2
 ·obtain⟨p,hp,q|⟨z,hz,q⟩⟩:=find H hH
  ·rw[<-q] at hs;exact absurd (hok p hp).QF hs
  ·exact⟨_,(hmem _).2 ⟨p,hp,rfl⟩,Go.Proofs.YtkjhhooecopolaaGreatDoor.fr Xs z.1,bh.2 ⟨z.1,(hole p hp).1.mem_iff.2 (bh.2 ⟨z,hz,rfl⟩),rfl⟩,by rw[<-q];exact((hok p hp).hole z hz).1.jq⟩
 ·unfold fin vP;rw[nU];have hk:((aP Xs Xs.length).ps.map (gS Xs)).Pairwise fun a b=>Go.Proofs.YtkjhhooecopolaaGreatDoor.fr Xs a.1≠Go.Proofs.YtkjhhooecopolaaGreatDoor.fr Xs b.1:=by
   rw[e1,kD,nU];refine qG (fun{p q} hp hq k e=>?_) nd2
   have rz:=(hok p hp).shell;have AH:=(hok q hq).shell;have e':Go.Proofs.YtkjhhooecopolaaGreatDoor.fr Xs p.1.1=Go.Proofs.YtkjhhooecopolaaGreatDoor.fr Xs q.1.1:=e;have ee:=rz.lr.L8 hW AH.lr (by rw[<-rz.jq,<-AH.jq,e'])
   obtain⟨a,_,ha,_⟩:=mi rz.lr.ring.ne;have ma:=wm ha;exact k a (vU _ ma) a (vU _ (by rw[<-ee];exact ma)) rfl
  have hk2:(kq (ue Xs) ((aP Xs Xs.length).ps.map (gS Xs))).Pairwise fun a b=>Go.Proofs.YtkjhhooecopolaaGreatDoor.fr Xs a.1≠Go.Proofs.YtkjhhooecopolaaGreatDoor.fr Xs b.1:=t1.symm.pairwise hk (fun k e=>k e.symm)
  refine qG (fun{x y} hx hy k=>?_) (t2.and hk2)
  have mem:∀x∈kq (ue Xs) ((aP Xs Xs.length).ps.map (gS Xs)),∀n∈Go.Proofs.YtkjhhooecopolaaGreatDoor.fr Xs x.1,Ge.Can n:=fun x hx=>by
   have:=t1.mem_iff.1 hx;rw[e1,kD] at this;obtain⟨p,hp,rfl⟩:=bh.1 this;exact can p.1.1 (Cj p hp).1
  rcases Kb (Go.Proofs.YtkjhhooecopolaaGreatDoor.fr Xs x.1) (Go.Proofs.YtkjhhooecopolaaGreatDoor.fr Xs y.1) (mem x hx) (mem y hy) with q|q|q
  ·exact q
  ·exact absurd q k.1
  ·exact absurd q k.2
 ·obtain⟨p,hp,rfl⟩:=(hmem x).1 hx;exact(hole p hp).2
theorem amq{ov:List (List Pt)}{r':Int}{Kv:List PB}(h:SX rg l r Xs)(hB:BD Xs)(h':SX ov l r' Kv)(hB':BD Kv)(hs:∀a b,Sd (ag rg) l (takes r) a b↔Sd (ag ov) l (takes r') a b):xJ Xs=xJ Kv:=by
 have hW:=SX.wd h hB;have hW':=SX.wd h' hB';have hS:∀s,s∈sS (aj l) Xs↔s∈sS (aj l) Kv:=fun s=>by
  unfold sS;rw[bh,bh];constructor
  ·rintro⟨x,hx,rfl⟩;obtain⟨y,hy,e1,e2⟩:=h'.all _ _ ((hs _ _).1 (h.mem x hx));exact⟨y,hy,by unfold ph;rw[e1,e2]⟩
  ·rintro⟨x,hx,rfl⟩;obtain⟨y,hy,e1,e2⟩:=h.all _ _ ((hs _ _).2 (h'.mem x hx));exact⟨y,hy,by unfold ph;rw[e1,e2]⟩
 rw[aa2,aa2,((SX.canon h hB).same hW hW' hS).eq hW' h'.nl (SX.canon h' hB')]
end
end Go.Proofs.YtkjhhooecopolaaGreatDoor.Gb
namespace Go.Proofs.YtkjhhooecopolaaGreatDoor
open Go.RowKit
theorem amr(s:ByteArray)(r:Int)(w:World)(hm:s.size<=maxLen)(oH:Gl w)(h0:(Pl.err s.data.toList).1≠0):
  Calls Tryz.prog 39 #[.string s,.int .u8 r] w fun e w'=>e=.returned (.tuple #[.string ⟨#[]⟩,.int .i64 (Pl.err s.data.toList).1,.int .i64 (Pl.err s.data.toList).2])/\Below w.heap.size w w':=by
 have hne:(((Pl.err s.data.toList).1:Int) != 0)=true:=by rw[vX];omega
 have HR:Hid (∀w1,Gl w1->Calls Tryz.prog 33 #[.string s] w1 fun e w'=>Below w1.heap.size w1 w'/\∃pv,e=.returned (.tuple #[.pointer pv,.int .i64 (Pl.err s.data.toList).1,.int .i64 (Pl.err s.data.toList).2])):=fun w1 g1=>by
  refine(Io s w1 hm g1).mono ?_;rintro e w' ⟨hb,pv,rfl,_⟩;exact⟨hb,pv,rfl⟩
 generalize(Pl.err s.data.toList).1=E at*;generalize(Pl.err s.data.toList).2=Pp at*;clear h0
 go_enter Tryz.func39,Tryz.ntmps39
 go_wp2_with fail
 refine(HR.out _ oH).mono ?_;rintro e w1 ⟨hb1,pv,rfl⟩
 go_wp2_with fail
 refine bodyPost_ret (v:=.tuple #[.string ⟨#[]⟩,.int .i64 E,.int .i64 Pp]) (by simp[results,Tryz.results39,go_sem]) rfl ⟨rfl,hb1⟩
theorem aa8(s:ByteArray)(hm:s.size<=maxLen)(h0:(Pl.err s.data.toList).1=0):∀w1,Gl w1->Calls Tryz.prog 33 #[.string s] w1 fun e w'=>Below w1.heap.size w1 w'/\∃rb rv,e=.returned (.tuple #[.pointer (some ⟨rb,0,none⟩),.int .i64 0,.int .i64 0])/\
  w'.cell? ⟨rb,6,none⟩=some rv/\rb<w'.heap.size/\vg w' rv (Pl.rings s.data.toList):=fun w1 g1=>by
 have hp2:=(yK h0).2.1;refine(Io s w1 hm g1).mono ?_;rintro e w' ⟨hb,pv,rfl,fT⟩;obtain⟨rb,rfl,_,hR⟩:=fT h0;obtain⟨c,t,r,tv,rv,hc,hl',hbk,hown,Nw⟩:=hR;exact⟨hb,rb,rv,by rw[h0,hp2];rfl,cell_of hbk 6,lt_of_heap hbk,Vj Nw⟩
theorem ams(s:ByteArray)(r:Int)(w:World)(hm:s.size<=maxLen)(oH:Gl w)(h0:(Pl.err s.data.toList).1=0)(hr:Ge.rule r=false):
  Calls Tryz.prog 39 #[.string s,.int .u8 r] w fun e w'=>e=.returned (.tuple #[.string ⟨#[]⟩,.int .i64 4,.int .i64 0])/\Below w.heap.size w w':=by
 have HR:Hid (∀w1,Gl w1->Calls Tryz.prog 33 #[.string s] w1 fun e w'=>Below w1.heap.size w1 w'/\∃rb rv,e=.returned (.tuple #[.pointer (some ⟨rb,0,none⟩),.int .i64 0,.int .i64 0])/\
  w'.cell? ⟨rb,6,none⟩=some rv/\rb<w'.heap.size/\vg w' rv (Pl.rings s.data.toList)):=aa8 s hm h0
 have HI:Hid (∀w,Calls Tryz.prog 66 #[.int .u8 r] w fun e w'=>e=.returned (.bool false)/\w'=w):=fun w=>by
  have:=VM r w;rw[hr] at this;exact this
 clear hr h0
 go_enter Tryz.func39,Tryz.ntmps39
 go_wp2_with fail
 refine(HR.out _ oH).mono ?_;rintro e w1 ⟨hb1,rb,rv,rfl,_⟩;have qy:Hid (Below w.heap.size w w1):=hb1;clear hb1 HR
 go_wp2_with fail
 refine(HI.out _).mono ?_;rintro e w2 ⟨rfl,rfl⟩;clear HI
 go_wp2_with fail
 refine bodyPost_ret (v:=.tuple #[.string ⟨#[]⟩,.int .i64 4,.int .i64 0]) (by simp[results,Tryz.results39,go_sem]) rfl ⟨rfl,qy.out⟩
def pW(rg:List (List Ge.Pt))(r:Int)(TX:List UInt8):Prop:=∃Ps l,l.map Ge.ay=Ge.gq (Ge.ag rg)/\(∀n∈l,Ge.Can n)/\oI (Ge.ag rg) l Ps/\(oM r (Ge.ag rg) Ps).length<=85000000/\TX=xJ (oM r (Ge.ag rg) Ps)
theorem amt(s:ByteArray)(r:Int)(w:World)(hm:s.size<=maxLen)(oH:Gl w)(h0:(Pl.err s.data.toList).1=0)(hr:Ge.rule r=true):
  Calls Tryz.prog 39 #[.string s,.int .u8 r] w fun e w'=>(∃TX,e=.returned (.tuple #[.string (ba TX),.int .i64 0,.int .i64 0])/\pW (Pl.rings s.data.toList) r TX)/\Below w.heap.size w w':=by
 have HR:Hid (∀w1,Gl w1->Calls Tryz.prog 33 #[.string s] w1 fun e w'=>Below w1.heap.size w1 w'/\∃rb rv,e=.returned (.tuple #[.pointer (some ⟨rb,0,none⟩),.int .i64 0,.int .i64 0])/\
  w'.cell? ⟨rb,6,none⟩=some rv/\rb<w'.heap.size/\vg w' rv (Pl.rings s.data.toList)):=aa8 s hm h0
 have HI:Hid (∀w,Calls Tryz.prog 66 #[.int .u8 r] w fun e w'=>e=.returned (.bool true)/\w'=w):=fun w=>by
  have:=VM r w;rw[hr] at this;exact this
 obtain⟨hro,hrl,jx,hel⟩:=IH h0;have aa9:=Pl.agf h0;have kV:Hid (∀v w1,vg w1 v (Pl.rings s.data.toList)->Calls Tryz.prog 36 #[v] w1 fun e w'=>∃v,e=.returned v/\gG w' v (Ge.ag (Pl.rings s.data.toList))/\Below w1.heap.size w1 w'):=fun v w1 hv=>Vl _ v w1 hv hro hrl
 have QK:Hid (∀v w1,gG w1 v (Ge.ag (Pl.rings s.data.toList))->Gl w1->Calls Tryz.prog 68 #[v,.int .u8 r] w1 fun e w'=>∃lv,e=.returned lv/\Calls Tryz.prog 69 #[lv] w' fun e w2=>∃lp,e=.returned lp/\Below w1.heap.size w1 w2/\Calls Tryz.prog 67 #[lp] w2 fun e w3=>(∃TX,e=.returned (.string (ba TX))/\pW (Pl.rings s.data.toList) r TX)/\Below w1.heap.size w1 w3):=fun v w1 hv cH=>by
  refine(aiE _ r v w1 hv aa9 jx (fun e he=>Ge.Mt he)).mono ?_
  rintro e w' ⟨lv,rfl,Ps,l,wb,bs,mL,jP,kI,hbb,jA,hbl⟩;refine⟨lv,rfl,?_⟩;refine(alJ mL jP jx kI jA hbl (cH.below hbb cH.sz)).mono ?_;rintro e w2 ⟨lp,rfl,hb2,hW⟩;have vS:Below w1.heap.size w1 w2:=hbb.trans (hb2.mono hbb.size);refine⟨lp,rfl,vS,hW.mono ?_⟩;rintro e w3 ⟨rfl,hb3⟩;exact⟨⟨_,rfl,Ps,l,mL,jP,kI,by rw[<-jA.len];exact hbl,rfl⟩,vS.trans (hb3.mono vS.size)⟩
 have HFT:Hid (∃P:List UInt8->Prop,P=pW (Pl.rings s.data.toList) r):=⟨_,rfl⟩;obtain⟨P,hP⟩:=HFT.out;rw[<-hP] at QK;rw[<-hP];clear hr h0 hro hrl jx hel aa9 HFT hP;generalize Pl.rings s.data.toList=RG at*;generalize Ge.ag RG=ES at*
 go_enter Tryz.func39,Tryz.ntmps39
 go_wp2_with fail
 refine(HR.out _ oH).mono ?_;rintro e w1 ⟨hb1,rb,rv,rfl,c6,hlt,rp⟩;have cH:=oH.below hb1 oH.sz
 go_wp2_with fail
 refine(HI.out _).mono ?_;rintro e w2 ⟨rfl,rfl⟩;clear HI HR
 go_wp2_with fail
 refine(kV.out _ _ rp).mono ?_;rintro e w3 ⟨ev,rfl,sA,hb3⟩;have jZ:Below w.heap.size w w3:=hb1.trans (hb3.mono hb1.size);have yD:=cH.below hb3 cH.sz;have oK:Hid (Below w.heap.size w w3):=jZ;have hcall:=QK.out _ _ sA yD;clear QK kV rp sA hb3 jZ hb1 c6
 go_wp2_with fail
 refine hcall.mono ?_;rintro e w4 ⟨lv,rfl,abb⟩;clear hcall
 go_wp2_with fail
 refine abb.mono ?_;rintro e w5 ⟨lp,rfl,ax,abc⟩;clear abb
 go_wp2_with fail
 refine abc.mono ?_;rintro e w6 ⟨⟨TX,rfl,hTX⟩,aC⟩;have HX':Hid (P TX):=hTX;have FW:Hid (Below w.heap.size w w6):=oK.out.trans (aC.mono oK.out.size);clear abc ax aC hTX
 go_wp2_with fail
 refine bodyPost_ret (v:=.tuple #[.string (ba TX),.int .i64 0,.int .i64 0]) (by simp[results,Tryz.results39,go_sem]) rfl ⟨⟨TX,rfl,HX'.out⟩,FW.out⟩
end Go.Proofs.YtkjhhooecopolaaGreatDoor
