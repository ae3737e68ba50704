import Derived.Test.YtkjhhooecopolaaGreatDoorYz34
set_option maxRecDepth 100000
set_option maxHeartbeats 4000000
namespace Go.Proofs.YtkjhhooecopolaaGreatDoor
open Go.RowKit
open Ge
theorem nP{w:World}{base:Nat}{e:TypeId}{v:Value}{n:Nat}{xs:List Value}(h:w.ownsRow base e 1 v n xs)(hn:0<n):
  ∃gT cT,v=.slice (some ⟨gT,0,none⟩) n cT/\base<=gT/\gT<w.heap.size/\xs.length=n/\∀(i:Nat) u,xs[i]?=some u->w.cell? ⟨gT,i,none⟩=some u:=by
 obtain⟨h1,h2⟩:=h;rcases h2 with⟨_,h0⟩|⟨g,cap,cur,hv,hg,hb,hc,hm,hs,ht⟩
 ·omega
 ·refine⟨g,cap,hv,hg,lt_of_heap hb,by omega,fun i u hi=>?_⟩
  rw[<-ht,kC] at hi;split at hi
  ·unfold World.cell?;rw[hb];simpa using hi
  ·cases hi
theorem FL{w:World}{base:Nat}{e:TypeId}{v:Value}{n:Nat}{xs:List Value}(h:w.ownsRow base e 1 v n xs):∃so m c,v=.slice so m c:=by
 rcases h.2 with⟨h,_⟩|⟨_,_,_,h,_⟩
 ·exact⟨_,_,_,h⟩
 ·exact⟨_,_,_,h⟩
theorem Qc(Xs:List PB)(A:List Nat):(cV Xs A).length=(dh Xs A).length:=by
 unfold cV;rw[aX,rP,iy];omega
theorem akM(Xs:List PB)(A:List Nat):∀a∈cV Xs A,a∈A:=fun a ha=>by
 unfold cV at ha;rcases cu.1 ha with h|h
 ·exact O7 Xs A a (Sc h)
 ·exact O7 Xs A a (nW h)
section
variable{rg:List (List Pt)}{l:List Nd}{r:Int}{Xs:List PB}
theorem SX.Qd(h:SX rg l r Xs){L:List Nat}{n0:Nd}(hL:jR Xs L)(hl:∀a∈L,a<Xs.length)(h0:∀s,L[0]?=some s->(xi Xs s).f=n0):∀k,k<=L.length->∀ring∈(bI Xs (L.take k)).2,ring≠[]/\(∀a∈ring,a∈L)/\ring.length<=L.length
 |0,_,ring,hr=>by simp[bI] at hr
 |k+1,hk,ring,hr=>by
  obtain⟨s,hs⟩:∃s,L[k]?=some s:=⟨_,aD (by omega)⟩
  have htk:L.take (k+1)=L.take k++[s]:=by rw[jH,hs];rfl
  rw[htk,xB] at hr;unfold jl at hr;split at hr
  ·rename_i hst
   rcases cu.1 hr with hr|hr
   ·exact h.Qd hL hl h0 k (by omega) ring hr
   ·have e:=bU.1 hr;have hne:=h.parts hL hl h0 k s hs hst;have hlen:=Fm Xs L k;have hm:∀a∈(bI Xs (L.take k)).1++[s],a∈L:=fun a ha=>by
     rcases cu.1 ha with ha|ha
     ·exact JW Xs L k a ha
     ·rw[bU.1 ha];exact bn hs
    refine⟨fun h'=>?_,fun a ha=>?_,?_⟩
    ·have:=aw List.length h';rw[e,Qc] at this;exact hne (gF.1 this)
    ·rw[e] at ha;exact hm a (Sc (akM Xs _ a ha))
    ·rw[e,Qc];have:=O8 Xs (((bI Xs (L.take k)).1++[s]).drop (il Xs ((bI Xs (L.take k)).1++[s]) s).toNat);rw[rP,aX] at this;simp only[bW,fJ] at this;omega
  ·exact h.Qd hL hl h0 k (by omega) ring hr
theorem SX.J5(h:SX rg l r Xs){L:List Nat}{k:Nat}(hW:Wk Xs k L):∀ring∈bp Xs L,ring≠[]/\(∀a∈ring,a∈L)/\ring.length<=L.length:=by
 have h0:∀s,L[0]?=some s->(xi Xs s).f=(xi Xs k).f:=fun s hs=>by
  rw[hW.head] at hs;injection hs with hs;rw[hs]
 have:=h.Qd hW.conn hW.lt h0 L.length (ai _);rw[dN] at this;exact this
end
structure HI(bs:List Nat)(Xs:List PB)(g:Nat)(w0:World)(k:Nat)(lv:Value)(PH:List jE)(T:Nat->Tg)(ow:Nat->Option Nat)(wr:World):Prop where
 sw:SW g bs Xs (aP Xs k).aK ow wr
 pi:PI bs w0.heap.size lv (aP Xs k).ps PH T wr
 own:∀j,j<Xs.length->(aP Xs k).aK j=true->∃ph,PH[(aP Xs k).ow j]?=some ph/\ow j=some ph.pb
 mo:Mo bs w0 wr
structure lX(bs:List Nat)(Xs:List PB)(g:Nat)(w0:World)(k:Nat)(lv:Value)(gW cW:Nat)(L:List Nat)(gR cR n:Nat)(PH:List jE)(T:Nat->Tg)(ow:Nat->Option Nat)(wr w1 w2:World)(lo:Value)(O:List Nat)(rv:List Value):Prop where
 hi:HI bs Xs g w0 k lv PH T ow wr
 kl:k<Xs.length
 un:(aP Xs k).aK k=false
 eL:L=cJ Xs (aP Xs k).aK k
 ws:WS wr g bs Xs (aP Xs k).aK ow (.slice (some ⟨gW,0,none⟩) L.length cW) L w1
 ri:RI bs w1 lo (.slice (some ⟨gR,0,none⟩) n cR) O (bp Xs L) rv w2
 en:n=rv.length
section
variable{bs:List Nat}{Xs:List PB}{g:Nat}{w0:World}{k:Nat}{lv:Value}{gW cW:Nat}{L:List Nat}{gR cR n:Nat}{PH:List jE}{T:Nat->Tg}{ow:Nat->Option Nat}{wr w1 w2:World}{lo:Value}{O:List Nat}{rv:List Value}
theorem lX.sz(h:lX bs Xs g w0 k lv gW cW L gR cR n PH T ow wr w1 w2 lo O rv):w0.heap.size<=wr.heap.size/\wr.heap.size<=w1.heap.size/\w1.heap.size<=w2.heap.size:=⟨h.hi.mo.size,h.ws.mo.size,h.ri.below.size⟩
theorem lX.same(h:lX bs Xs g w0 k lv gW cW L gR cR n PH T ow wr w1 w2 lo O rv)(hbb:∀b∈bs,b<w0.heap.size){b:Nat}(hb:w0.heap.size<=b)(hz:b<wr.heap.size):w2.heap[b]?=wr.heap[b]?:=by
 have hs:=h.sz;exact(h.ri.below.block b (by omega)).trans (h.ws.mo.block b hz (fun hk=>by have:=hbb b hk;omega))
theorem lX.J6(h:lX bs Xs g w0 k lv gW cW L gR cR n PH T ow wr w1 w2 lo O rv):SW g bs Xs (fun j=>(aP Xs k).aK j||L.contains j) ow w2:=h.ws.sw.below h.ri.below
theorem lX.Qe(h:lX bs Xs g w0 k lv gW cW L gR cR n PH T ow wr w1 w2 lo O rv):RV bs w1.heap.size w2.heap.size (rv.zip (bp Xs L)) w2:=by
 refine⟨fun p hp=>?_⟩
 obtain⟨i,hi,e⟩:=kB.1 hp;obtain⟨h1,h2⟩:=FC (by rw[aD hi,e]:(rv.zip (bp Xs L))[i]?=some p)
 have k1:=(h.ri.ring i p.1 p.2 h1 h2).1;exact⟨k1,fun k e=>(aA k1 k e).2⟩
theorem lX.shell(h:lX bs Xs g w0 k lv gW cW L gR cR n PH T ow wr w1 w2 lo O rv)(hB:BD Xs)(zA:∀ring∈bp Xs L,ring≠[]/\(∀a∈ring,a∈L)/\ring.length<=L.length)(jO:∀a∈L,a<Xs.length)(hLn:L.length<=85000000)(p:VR)(hp:p∈rv.zip (bp Xs L))(w':World)(hg:w'.heap[g]?=w2.heap[g]?)(hbs:∀b∈bs,w'.heap[b]?=w2.heap[b]?)(hr:∀b,w1.heap.size<=b->b<w2.heap.size->w'.heap[b]?=w2.heap[b]?):
  Calls Tryz.prog 113 #[p.1] w' fun e w''=>e=.returned (.bool (cd Xs p.2))/\Below w'.heap.size w' w'':=by
 have hsw:=h.J6;have akN:SW g bs Xs (fun j=>(aP Xs k).aK j||L.contains j) ow w':=
  ⟨hsw.len,hsw.nd,hsw.ng,fun i hi=>(World.cell?_of_block (w:=w2) hg).trans (hsw.row i hi),fun i hi=>(hbs _ (qz hi)).trans (hsw.side i hi)⟩
 have hz:=(h.Qe).keep (w':=w') hr;have hpr:p.2∈bp Xs L:=by
  obtain⟨i,hi,e⟩:=kB.1 hp;exact bn (FC (by rw[aD hi,e]:(rv.zip (bp Xs L))[i]?=some p)).2
 obtain⟨f1,f2,f3⟩:=zA p.2 hpr;exact ajZ bs Xs hB g _ ow w' akN p.2 f1 (by omega) (fun a ha=>by rw[hsw.len];exact jO a (f2 a ha)) _ p.1 (hz.own p hp).1
end
def oV:Obj:=.cells #[.slice none 0 0,.slice none 0 0] 187
section
variable(bs:List Nat)(Xs:List PB)(g cap:Nat)(w0:World)
def J7(k:Nat)(lv:Value)(wr:World):Prop:=k<=Xs.length/\∃PH T ow,HI bs Xs g w0 k lv PH T ow wr
def BQ(k:Nat)(lv:Value)(wr:World):Prop:=k<Xs.length/\(aP Xs k).aK k=false/\∃PH T ow,HI bs Xs g w0 k lv PH T ow wr
def Qf(k:Nat)(lv:Value)(gW cW:Nat)(L:List Nat)(w1:World):Prop:=k<Xs.length/\(aP Xs k).aK k=false/\L=cJ Xs (aP Xs k).aK k/\∃PH T ow wr,HI bs Xs g w0 k lv PH T ow wr/\WS wr g bs Xs (aP Xs k).aK ow (.slice (some ⟨gW,0,none⟩) L.length cW) L w1
def Qg(k:Nat)(lv:Value)(gW cW:Nat)(L:List Nat)(gR cR n:Nat)(w2:World):Prop:=∃PH T ow wr w1 lo O rv,lX bs Xs g w0 k lv gW cW L gR cR n PH T ow wr w1 w2 lo O rv
def DQ(v:Bool)(k:Nat)(lv:Value)(gW cW:Nat)(L:List Nat)(gR cR n N:Nat)(w4:World):Prop:=∃PH T ow wr w1 w2 lo O rv,lX bs Xs g w0 k lv gW cW L gR cR n PH T ow wr w1 w2 lo O rv/\N=w2.heap.size/\Below (w2.heap.size+1) (w2.alloc oV) w4/\(bp Xs L).any (cd Xs)=v
def Z5(k:Nat)(wu:Value)(gW cW:Nat)(L:List Nat)(gR cR n ob:Nat)(w5:World):Prop:=∃lv PH T ow wr w1 w2 lo O rv,lX bs Xs g w0 k lv gW cW L gR cR n PH T ow wr w1 w2 lo O rv/\ob=w2.heap.size/\(bp Xs L).any (cd Xs)=true/\
 w5.ownsRow w0.heap.size 165 1 wu (PH.length+1) (PH.map jm++[.pointer (some ⟨w2.heap.size,0,none⟩)])/\(∀k,wu.ownBlock=some k->lv.ownBlock=some k\/(w2.heap.size<k/\k<w5.heap.size))/\(∀b,b<w2.heap.size+1->lv.ownBlock≠some b->w5.heap[b]?=(w2.alloc oV).heap[b]?)/\w2.heap.size+1<=w5.heap.size/\Mo bs w0 w5
def Z6(k:Nat)(lv:Value)(gW cW:Nat)(L:List Nat)(gR cR n ob:Nat)(w5:World):Prop:=∃PH T ow wr w1 w2 lo O rv ph,lX bs Xs g w0 k lv gW cW L gR cR n PH T ow wr w1 w2 lo O rv/\(bp Xs L).any (cd Xs)=false/\PH[(aP Xs k).ow (ir Xs (xi Xs k).f)]?=some ph/\ob=ph.pb/\(∀b,b<w2.heap.size+1->w5.heap[b]?=(w2.alloc oV).heap[b]?)/\w2.heap.size+1<=w5.heap.size/\Mo bs w0 w5
def EQ(k:Nat)(lv:Value)(gW cW:Nat)(L:List Nat)(gR cR n ob:Nat)(w5:World):Prop:=Z5 bs Xs g w0 k lv gW cW L gR cR n ob w5\/Z6 bs Xs g w0 k lv gW cW L gR cR n ob w5
def BZ(ow:Nat->Option Nat)(A:List Nat)(o:Nat):Nat->Option Nat:=fun j=>if A.contains j then some o else ow j
def FQ(k:Nat)(lv:Value)(gW _cW:Nat)(L:List Nat)(ob t:Nat)(wr:World):Prop:=k<Xs.length/\(∀a∈L,a<Xs.length)/\(∀j,(aP Xs (k+1)).aK j=((aP Xs k).aK j||L.contains j))/\(∀j,L.contains j=false->(aP Xs (k+1)).ow j=(aP Xs k).ow j)/\
 ∃PH T ow q ph,PI bs w0.heap.size lv (aP Xs (k+1)).ps PH T wr/\(∀j,L.contains j=true->(aP Xs (k+1)).ow j=q)/\PH[q]?=some ph/\ph.pb=ob/\(∀j,j<Xs.length->(aP Xs k).aK j=true->∃ph,PH[(aP Xs k).ow j]?=some ph/\ow j=some ph.pb)/\
 SW g bs Xs (fun j=>(aP Xs k).aK j||L.contains j) (BZ ow (L.take t) ob) wr/\(∀(t s:Nat),L[t]?=some s->wr.cell? ⟨gW,t,none⟩=some (.pointer (some ⟨bx bs s,0,none⟩)))/\w0.heap.size<=gW/\Mo bs w0 wr
end
section
variable{rg:List (List Pt)}{l:List Nd}{r:Int}{Xs:List PB}{bs:List Nat}{g cap:Nat}{w0:World}
theorem akP(k:Nat)(lv:Value)(wr:World)(h:J7 bs Xs g w0 k lv wr)(hk:k<bs.length):wr.cell? ⟨g,k,none⟩=some (.pointer (some ⟨bx bs k,0,none⟩))/\∃m,wr.cell? ⟨bx bs k,6,none⟩=some (.bool m)/\(m=true->J7 bs Xs g w0 (k+1) lv wr)/\(m=false->BQ bs Xs g w0 k lv wr):=by
 obtain⟨_,PH,T,ow,hI⟩:=h;have hkX:k<Xs.length:=by rw[<-hI.sw.len];exact hk
 refine⟨hI.sw.row k hk,(aP Xs k).aK k,cell_of (hI.sw.side k hk) 6,fun hm=>⟨by omega,PH,T,ow,?_⟩,fun hm=>⟨hkX,hm,PH,T,ow,hI⟩⟩
 have e:aP Xs (k+1)=aP Xs k:=by
  rw[zz];unfold oU;rw[ah hm]
 exact⟨by rw[e];exact hI.sw,by rw[e];exact hI.pi,by rw[e];exact hI.own,hI.mo⟩
theorem akQ(h:SX rg l r Xs)(hB:BD Xs)(hg0:g<w0.heap.size)(hbc:bs.length<=cap)(k:Nat)(lv:Value)(wr:World)(hb:BQ bs Xs g w0 k lv wr):
  Calls Tryz.prog 110 #[.slice (some ⟨g,0,none⟩) bs.length cap,.pointer (some ⟨bx bs k,0,none⟩)] wr fun e w1=>∃gW cW L,e=.returned (.slice (some ⟨gW,0,none⟩) L.length cW)/\L.length<=85000000/\Qf bs Xs g w0 k lv gW cW L w1:=by
 obtain⟨hk,hm,PH,T,ow,hI⟩:=hb;have hP:=h.pv hB k (by omega)
 obtain⟨hc,hW⟩:=h.walk hB hP hk hm;have hlen:=hI.sw.len;have jO:(cJ Xs (aP Xs k).aK k).length<=85000000:=by
  have:=xG (mk:=(aP Xs k).aK) (fun j hj=>(h.next hB hj).1) Xs.length [] k hk
  have h2:=vG Xs.length (aP Xs k).aK [];have h3:=hB.len;have e:jk (cE Xs) (aP Xs k).aK Xs.length [] k=cJ Xs (aP Xs k).aK k:=rfl;rw[e] at this;simp only[fJ] at this;omega
 refine(ajn bs Xs hB g cap k _ ow wr hI.sw (aQ hg0 hI.mo.size) (by rw[hlen];exact hk) hbc (fun i hi=>h.go i hi)).mono ?_
 rintro e w1 ⟨lv1,rfl,rH⟩;rw[hlen] at rH;have Z7:WS wr g bs Xs (aP Xs k).aK ow lv1 (cJ Xs (aP Xs k).aK k) w1:=rH;have hne:cJ Xs (aP Xs k).aK k≠[]:=fun e=>by have:=hW.head;rw[e] at this;simp at this
 obtain⟨gW,cW,hv,_⟩:=nN Z7.own (by intro e;exact hne (rN.1 e))
 subst hv;exact⟨gW,cW,_,rfl,jO,hk,hm,rfl,PH,T,ow,wr,hI,Z7⟩
theorem akS(h:SX rg l r Xs)(hB:BD Xs)(k:Nat)(lv:Value)(gW cW:Nat)(L:List Nat)(w1:World)(hc1:Qf bs Xs g w0 k lv gW cW L w1):
  Calls Tryz.prog 111 #[.slice (some ⟨gW,0,none⟩) L.length cW] w1 fun e w2=>∃gR cR n,e=.returned (.slice (some ⟨gR,0,none⟩) n cR)/\Qg bs Xs g w0 k lv gW cW L gR cR n w2:=by
 obtain⟨hk,hm,eL,PH,T,ow,wr,hI,rH⟩:=hc1;have hP:=h.pv hB k (by omega)
 obtain⟨hc,hW⟩:=h.walk hB hP hk hm;rw[<-eL] at hc hW;have hlen:=hI.sw.len;have hne:L≠[]:=fun e=>by have:=hW.head;rw[e] at this;simp at this
 have jO:L.length<=85000000:=by
  have:=xG (mk:=(aP Xs k).aK) (fun j hj=>(h.next hB hj).1) Xs.length [] k hk
  have h2:=vG Xs.length (aP Xs k).aK [];have h3:=hB.len;have e:jk (cE Xs) (aP Xs k).aK Xs.length [] k=L:=eL.symm;rw[e] at this;simp only[fJ] at this;omega
 have h0:∀s,L[0]?=some s->(xi Xs s).f=(xi Xs k).f:=fun s hs=>by
  rw[hW.head] at hs;injection hs with hs;rw[hs]
 obtain⟨gX,cX,hv,_,_,_,_,_,hcell⟩:=nN rH.own (by intro e;exact hne (rN.1 e))
 have zB:gX=gW:=by
  injection hv with h1;injection h1 with h1;injection h1 with h1;exact h1.symm
 subst zB;refine(ajV bs Xs hB g _ ow w1 rH.sw L jO (fun a ha=>by rw[hlen];exact hW.lt a ha) gX cW (fun i a hi=>hcell i (bx bs a) (by rw[gD,hi];rfl)) (fun k' s hs hst=>h.parts hW.conn hW.lt h0 k' s hs hst)).mono ?_
 rintro e w2 ⟨lvR,lo,O,rv,rfl,kj⟩;have rA:0<rv.length:=by
  rw[kj.len];exact gV.2 (Qa hW)
 obtain⟨gR,cR,hv2,_⟩:=nP kj.ro rA;subst hv2;exact⟨gR,cR,rv.length,rfl,PH,T,ow,wr,w1,lo,O,rv,hI,hk,hm,eL,rH,kj,rfl⟩
theorem akT(h:SX rg l r Xs)(hB:BD Xs)(hbb:∀b∈bs,b<w0.heap.size)(hg0:g<w0.heap.size)(k:Nat)(lv:Value)(gW cW:Nat)(L:List Nat)(gR cR n:Nat)(w2:World)(hc2:Qg bs Xs g w0 k lv gW cW L gR cR n w2):
  Calls Tryz.prog 112 #[.slice (some ⟨gR,0,none⟩) n cR,.func (.func 113) #[] #[]] (w2.alloc (.cells #[.slice none 0 0,.slice none 0 0] 187)) fun e w4=>∃b,e=.returned (.bool b)/\(b=true->DQ bs Xs g w0 true k lv gW cW L gR cR n w2.heap.size w4)/\(b=false->DQ bs Xs g w0 false k lv gW cW L gR cR n w2.heap.size w4):=by
 obtain⟨PH,T,ow,wr,w1,lo,O,rv,hM⟩:=hc2;have hP:=h.pv hB k (by have:=hM.kl;omega)
 obtain⟨hc,hW⟩:=h.walk hB hP hM.kl hM.un;rw[<-hM.eL] at hc hW;have zA:=h.J5 hW;have jO:L.length<=85000000:=by
  have:=xG (mk:=(aP Xs k).aK) (fun j hj=>(h.next hB hj).1) Xs.length [] k hM.kl
  have h2:=vG Xs.length (aP Xs k).aK [];have h3:=hB.len;have e:jk (cE Xs) (aP Xs k).aK Xs.length [] k=L:=hM.eL.symm;rw[e] at this;simp only[fJ] at this;omega
 have hrl:rv.length<=85000000:=by
  rw[hM.ri.len];have:=(Fm Xs L L.length).2;rw[dN] at this;unfold bp;omega
 have rA:0<rv.length:=by
  rw[hM.ri.len];exact gV.2 (Qa hW)
 have hen:=hM.en;subst hen;obtain⟨gX,cX,hv,_,dE,_,hcell⟩:=nP hM.ri.ro rA;have zB:gX=gR:=by
  injection hv with h1;injection h1 with h1;injection h1 with h1;exact h1.symm
 subst zB;have hal:∀b,b<w2.heap.size->(w2.alloc oV).heap[b]?=w2.heap[b]?:=fun b hb=>Below.heap_alloc _ _ _ hb
 have hs:=hM.sz;have hsz:(w2.alloc oV).heap.size=w2.heap.size+1:=by unfold oV;simp
 have rq:=aj0 (cd Xs) (bp Xs L) rv hM.ri.len gX cR (w2.alloc oV) hrl (fun i v hi=>⟨(World.cell?_of_block (w:=w2) (hal gX dE)).trans (hcell i v hi),by
   obtain⟨q,hq⟩:∃q,(bp Xs L)[i]?=some q:=⟨_,aD (by rw[<-hM.ri.len];exact(bY.1 hi).1)⟩
   exact FL (hM.ri.ring i v q hi hq).1⟩) (fun i v q hi hq w' hb=>by
   have hp:(v,q)∈rv.zip (bp Xs L):=bn (acr.2 ⟨hi,hq⟩);have oC:∀b,b<w2.heap.size->w'.heap[b]?=w2.heap[b]?:=fun b hb'=>(hb.block b (by rw[hsz];omega)).trans (hal b hb')
   exact hM.shell hB zA hW.lt jO (v,q) hp w' (oC g (by omega)) (fun b hb'=>oC b (by have:=hbb b hb';omega)) (fun b _ hb'=>oC b hb'))
 refine(aj1 _ gX rv.length cR (w2.alloc oV) rq).mono ?_;rintro e w4 ⟨rfl,hb4⟩;rw[Zx];have Ic:Below (w2.heap.size+1) (w2.alloc oV) w4:=by rw[<-hsz];exact hb4
 exact⟨_,rfl,fun hv=>⟨PH,T,ow,wr,w1,w2,lo,O,rv,hM,rfl,Ic,hv⟩,fun hv=>⟨PH,T,ow,wr,w1,w2,lo,O,rv,hM,rfl,Ic,hv⟩⟩
end
theorem Z8(P:List Nat->Bool):∀(rv:List Value)(Rs:List (List Nat))(a:VR),rv.length=Rs.length->(fV P a (rv.zip Rs)).2=Rs.foldl (fun acc r=>if P r then r else acc) a.2
 |[],[],a,_=>rfl
 |v::rv,q::Rs,a,h=>by
  show(fV P (if P q then(v,q) else a) (rv.zip Rs)).2=Rs.foldl _ (if P q then q else a.2)
  rw[Z8 P rv Rs _ (by simpa using h)]
  congr 1;split<;>rfl
 |[],_::_,_,h=>by simp at h
 |_::_,[],_,h=>by simp at h
theorem Z9(P:List Nat->Bool):∀(rv:List Value)(Rs:List (List Nat)),rv.length=Rs.length->(fW P (rv.zip Rs)).map (·.2)=Rs.filter fun r=> !P r
 |[],[],_=>rfl
 |v::rv,q::Rs,h=>by
  have ih:=Z9 P rv Rs (by simpa using h)
  unfold fW at*;rw[Gk,acd,acd];cases hq:P q
  ·simp only[Bool.not_false,fZ,gU];rw[ih]
  ·simp only[Bool.not_true,iZ,jG];exact ih
 |[],_::_,h=>by simp at h
 |_::_,[],h=>by simp at h
theorem akU(P:List Nat->Bool)(a:VR)(Z:List VR)(h:∀p∈Z,P p.2=false):fV P a Z=a/\fW P Z=Z:=by
 refine⟨?_,?_⟩
 ·rcases PD P a Z with e|⟨e1,e2⟩
  ·exact e
  ·rw[h _ e1] at e2;cases e2
 ·unfold fW;exact KY.2 fun p hp=>by rw[h p hp];rfl
section
variable{bs:List Nat}{Xs:List PB}{g:Nat}{w0:World}{k:Nat}{lv:Value}{gW cW:Nat}{L:List Nat}{gR cR n:Nat}{PH:List jE}{T:Nat->Tg}{ow:Nat->Option Nat}{wr w1 w2:World}{lo:Value}{O:List Nat}{rv:List Value}
theorem lX.mo2(h:lX bs Xs g w0 k lv gW cW L gR cR n PH T ow wr w1 w2 lo O rv):Mo bs wr w2:=h.ws.mo.trans (Mo.of bs h.ri.below)
theorem aab{w2 w4:World}(hb:Below (w2.heap.size+1) (w2.alloc oV) w4):Below w2.heap.size w2 w4:=((Below.refl _ _).alloc (ai _) _).trans (hb.mono (by omega))
end
section
variable{rg:List (List Pt)}{l:List Nd}{r:Int}{Xs:List PB}{bs:List Nat}{g cap:Nat}{w0:World}
theorem akV(h:SX rg l r Xs)(hB:BD Xs)(hbb:∀b∈bs,b<w0.heap.size)(k:Nat)(lv:Value)(gW cW:Nat)(L:List Nat)(gR cR n N:Nat)(w4:World)(hd:DQ bs Xs g w0 true k lv gW cW L gR cR n N w4):
  ∃np pp,w4.ownsRow w0.heap.size 165 1 lv np pp/\np<=85000000/\w0.heap.size<=w4.heap.size/\∀g' cap' w8,w8.ownsRow w0.heap.size 165 1 (.slice (some ⟨g',0,none⟩) (np+1) cap') (np+1) (pp++[.pointer (some ⟨N,0,none⟩)])->(w4.alloc (.cells #[.pointer (some ⟨N,0,none⟩)] 165)).grownBy w8 lv.ownBlock->(lv.ownBlock=some g'\/g'=w4.heap.size+1)->EQ bs Xs g w0 k (.slice (some ⟨g',0,none⟩) (np+1) cap') gW cW L gR cR n N w8:=by
 obtain⟨PH,T,ow,wr,w1,w2,lo,O,rv,hM,rfl,hb4,jS⟩:=hd;have hs:=hM.sz;have hsz:(w2.alloc oV).heap.size=w2.heap.size+1:=by unfold oV;simp
 have zC:=hb4.size;rw[hsz] at zC;have FM:=aab hb4;have hP:=h.pv hB k (by have:=hM.kl;omega)
 have JY:=hB.len;have hpl:=hP.len;have hlen:=hM.hi.pi.len;have hkl:=hM.kl;have hrow:=hM.hi.pi.row;have hlv:∀b,lv.ownBlock=some b->w0.heap.size<=b/\b<wr.heap.size:=fun b e=>aA hrow b e
 refine⟨PH.length,PH.map jm,aO hrow fun b e=>(FM.block b (by have:=hlv b e;omega)).trans (hM.same hbb (hlv b e).1 (hlv b e).2),by omega,by omega,fun g' cap' w8 cM bo hat=>ae ⟨lv,PH,T,ow,wr,w1,w2,lo,O,rv,hM,rfl,jS,cM,fun b e=>?_,fun b hb hne=>?_,?_,?_⟩⟩
 ·have e':g'=b:=by simpa[Value.ownBlock] using e
  subst e';rcases hat with hat|hat
  ·exact ae hat
  ·have:=(aA cM g' rfl).2;exact af ⟨by omega,this⟩
 ·exact(bo.block b (by simp;omega) (fun e=>hne e.symm)).trans ((Below.heap_alloc _ _ _ (by omega)).trans (hb4.block b hb))
 ·have:=bo.size;simp at this;omega
 ·have m1:Mo bs w0 w4:=hM.hi.mo.trans (hM.mo2.trans (Mo.of bs FM));exact m1.below ((Mo.alloc lv.ownBlock.toList w4 _).trans (Mo.grown bo (fun b e=>by rw[e];simp))) fun b hb hb'=>by
   have e:lv.ownBlock=some b:=by simpa using hb'
   have:=hlv b e;omega
theorem akW(h:SX rg l r Xs)(hB:BD Xs)(_hbb:∀b∈bs,b<w0.heap.size)(k:Nat)(lv:Value)(gW cW:Nat)(L:List Nat)(gR cR n N:Nat)(w4:World)(hd:DQ bs Xs g w0 false k lv gW cW L gR cR n N w4):
  ∃N1 N2 N3,w4.cell? ⟨bx bs k,2,none⟩=some (.complex .f64 N1 N2)/\w4.cell? ⟨bx bs k,3,none⟩=some (.int .i64 N3)/\Calls Tryz.prog 114 #[.slice (some ⟨g,0,none⟩) bs.length cap,.agg #[.complex .f64 N1 N2,.int .i64 N3]] w4 fun e w5=>∃bL ob,e=.returned (.pointer (some ⟨bL,0,none⟩))/\w5.cell? ⟨bL,7,none⟩=some (.pointer (some ⟨ob,0,none⟩))/\EQ bs Xs g w0 k lv gW cW L gR cR n ob w5:=by
 obtain⟨PH,T,ow,wr,w1,w2,lo,O,rv,hM,rfl,hb4,jS⟩:=hd;have hs:=hM.sz;have hsz:(w2.alloc oV).heap.size=w2.heap.size+1:=by unfold oV;simp
 have zC:=hb4.size;rw[hsz] at zC;have FM:=aab hb4;have hP:=h.pv hB k (by have:=hM.kl;omega)
 have FN:=hM.J6.below FM;have hlen:=FN.len;have hkb:k<bs.length:=by rw[hlen];exact hM.kl
 have hS:=FN.rb.at hM.kl;have hno:∀ring∈bp Xs (cJ Xs (aP Xs k).aK k),cd Xs ring=false:=fun ring hr=>by
  rw[<-hM.eL] at hr;cases hsh:cd Xs ring
  ·rfl
  ·rw[xS.2 ⟨ring,hr,hsh⟩] at jS;cases jS
 obtain⟨BX,hll,hlm⟩:=h.low hB hP hM.kl hM.un hno;obtain⟨ph,fX,how⟩:=hM.hi.own _ hll hlm;refine⟨_,_,_,hS.c2,hS.c3,(aki bs Xs hB FN.nd (xi Xs k).f (hB.v _ (gA hM.kl)).f g cap w4 FN.rb BX).mono ?_⟩;rintro e w5 ⟨rfl,ax⟩;have akX:=FN.below ax;have FO:=akX.side (ir Xs (xi Xs k).f) (by rw[hlen];exact hll)
 rw[how] at FO;refine⟨_,ph.pb,rfl,cell_of FO 7,af ⟨PH,T,ow,wr,w1,w2,lo,O,rv,ph,hM,jS,fX,rfl,fun b hb=>(ax.block b (by omega)).trans (hb4.block b hb),by have:=ax.size;omega,?_⟩⟩
 exact hM.hi.mo.trans (hM.mo2.trans ((Mo.of bs FM).trans (Mo.of bs ax)))
theorem aac(h:SX rg l r Xs)(hB:BD Xs){k:Nat}{lv:Value}{gW cW:Nat}{L:List Nat}{gR cR n:Nat}{PH:List jE}{T:Nat->Tg}{ow:Nat->Option Nat}{wr w1 w2:World}{lo:Value}{O:List Nat}{rv:List Value}(hM:lX bs Xs g w0 k lv gW cW L gR cR n PH T ow wr w1 w2 lo O rv):
  Wk Xs k L/\L.length<=85000000/\rv.length<=85000000/\0<rv.length/\rv.length=(bp Xs L).length:=by
 have hP:=h.pv hB k (by have:=hM.kl;omega)
 obtain⟨hc,hW⟩:=h.walk hB hP hM.kl hM.un;rw[<-hM.eL] at hc hW;have jO:L.length<=85000000:=by
  have:=xG (mk:=(aP Xs k).aK) (fun j hj=>(h.next hB hj).1) Xs.length [] k hM.kl
  have h2:=vG Xs.length (aP Xs k).aK [];have h3:=hB.len;have e:jk (cE Xs) (aP Xs k).aK Xs.length [] k=L:=hM.eL.symm;rw[e] at this;simp only[fJ] at this;omega
 refine⟨hW,jO,?_,?_,hM.ri.len⟩
 ·rw[hM.ri.len];have:=(Fm Xs L L.length).2;rw[dN] at this;unfold bp;omega
 ·rw[hM.ri.len];exact gV.2 (Qa hW)
theorem akY(h:SX rg l r Xs)(hB:BD Xs)(hbb:∀b∈bs,b<w0.heap.size)(hg0:g<w0.heap.size)(k:Nat)(lv:Value)(gW cW:Nat)(L:List Nat)(gR cR n ob:Nat)(w5:World)(he:Z5 bs Xs g w0 k lv gW cW L gR cR n ob w5):
  Calls Tryz.prog 115 #[.pointer (some ⟨ob,0,none⟩),.slice (some ⟨gR,0,none⟩) n cR] w5 fun e w6=>e=.returned (.tuple #[])/\FQ bs Xs g w0 k lv gW cW L ob 0 w6:=by
 obtain⟨lv0,PH,T,ow,wr,w1,w2,lo,O,rv,hM,rfl,jS,hrow,hQ,oC,akZ,Qh⟩:=he;obtain⟨hW,jO,hrl,rA,Qi⟩:=aac h hB hM;have zA:=h.J5 hW;have hs:=hM.sz;have hen:=hM.en;subst hen;have ak0:=hM.hi.pi.row;have hlv:∀b,lv0.ownBlock=some b->w0.heap.size<=b/\b<wr.heap.size:=fun b e=>aA ak0 b e
 have k5:∀b,b<w2.heap.size->lv0.ownBlock≠some b->w5.heap[b]?=w2.heap[b]?:=fun b hb hne=>(oC b (by omega) hne).trans (Below.heap_alloc _ _ _ hb)
 have J8:∀b,b<w0.heap.size->w5.heap[b]?=w2.heap[b]?:=fun b hb=>k5 b (by omega) (fun e=>by have:=hlv b e;omega)
 have Qj:∀b,w1.heap.size<=b->b<w2.heap.size->w5.heap[b]?=w2.heap[b]?:=fun b h1 h2=>k5 b h2 (fun e=>by have:=hlv b e;omega)
 have Bq:w5.heap[w2.heap.size]?=some (.cells #[.slice none 0 0,.slice none 0 0] 187 (0,0)):=(oC _ (by omega) (fun e=>by have:=hlv _ e;omega)).trans (heap_alloc_new w2 _)
 obtain⟨gX,cX,hv,hgl,dE,_,hcell⟩:=nP hM.ri.ro rA;have zB:gX=gR:=by
  injection hv with h1;injection h1 with h1;injection h1 with h1;exact h1.symm
 subst zB;have hzl:(rv.zip (bp Xs L)).length=rv.length:=by rw[List.length_zip];omega
 have Qk:TK w5 w0.heap.size w2.heap.size (.slice none 0 0) (.slice none 0 0) (.slice none 0 0) [] w5:=⟨Bq,World.ownsRow_nil _ _ _ _,Mo.refl _ _,fun b e=>by simp[Value.ownBlock] at e,by simp[Value.ownBlock]⟩
 have hcall:=ZE (cd Xs) (rv.zip (bp Xs L)) (.slice none 0 0,[]) w2.heap.size gX cR w0.heap.size (.slice none 0 0) [] w5 (by rw[hzl];exact hrl) (by simp) (by omega) Qk ⟨by omega,by simp[Value.ownBlock]⟩
  (fun i p hp=>by
   obtain⟨h1,h2⟩:=FC hp;exact⟨(World.cell?_of_block (w:=w2) (Qj gX hgl dE)).trans (hcell i p.1 h1),FL (hM.ri.ring i p.1 p.2 h1 h2).1⟩)
  (fun p hp w' hm=>by
   have km:∀b,b<w2.heap.size->w'.heap[b]?=w5.heap[b]?:=fun b hb=>hm.block b (by omega) (by
    intro hk;rcases aV.1 hk with e|e
    ·omega
    ·simp[Value.ownBlock] at e)
   exact hM.shell hB zA hW.lt jO p hp w' ((km g (by omega)).trans (J8 g hg0)) (fun b hb=>(km b (by have:=hbb b hb;omega)).trans (J8 b (hbb b hb))) (fun b h1 h2=>(km b h2).trans (Qj b h1 h2)))
 rw[hzl] at hcall;refine hcall.mono ?_;rintro e w6 ⟨rfl,hv',jD⟩;rw[vT] at jD;have k6:∀b,b<w5.heap.size->b≠w2.heap.size->w6.heap[b]?=w5.heap[b]?:=fun b hb hne=>jD.mo.block b hb (by
  intro hk;rcases aV.1 hk with e|e
  ·exact hne e
  ·simp[Value.ownBlock] at e)
 have ak1:=hM.hi.pi.push (w5:=w5) (w6:=w6) (lvQ:=lv) (cd Xs) (rv.zip (bp Xs L)) w2.heap.size w1.heap.size hv' (by omega) (by omega) (by omega) (by omega)
  (hM.Qe.keep (w':=w6) fun b h1 h2=>(k6 b (by omega) (by omega)).trans (Qj b h1 h2))
  (fun b h1 h2 ht=>(k6 b (by omega) (by omega)).trans ((k5 b (by omega) (fun e=>ht (hM.hi.pi.tl b e))).trans (hM.same hbb h1 h2)))
  (aO hrow fun b e=>k6 b (aA hrow b e).2 (by
   rcases hQ b e with e|e
   ·have:=hlv b e;omega
   ·omega)) hQ jD.ko jD.own (fun b e=>by
   rcases jD.fresh b e with e|e
   ·simp[Value.ownBlock] at e
   ·exact e)
 obtain⟨T',lC⟩:=ak1;have hst:aP Xs (k+1)=⟨fun j=>(aP Xs k).aK j||L.contains j,fun j=>if L.contains j then(aP Xs k).ps.length else(aP Xs k).ow j,(aP Xs k).ps++[(ub (cd Xs) (bp Xs L),(bp Xs L).filter fun r=> !cd Xs r)]⟩:=by
  rw[zz];unfold oU;rw[<-hM.eL,aa (by rw[hM.un];simp),ah jS]
 rw[Z8 (cd Xs) rv (bp Xs L) _ Qi,Z9 (cd Xs) rv (bp Xs L) Qi] at lC;have ak2:=hM.hi.pi.len;refine⟨rfl,hM.kl,hW.lt,by rw[hst];exact fun _=>rfl,by rw[hst];exact fun j hj=>by simp only[hj,iZ,jG],PH++[⟨w2.heap.size,(fV (cd Xs) (.slice none 0 0,[]) (rv.zip (bp Xs L))).1,hv',(fW (cd Xs) (rv.zip (bp Xs L))).map (·.1)⟩],T',ow,PH.length,⟨w2.heap.size,(fV (cd Xs) (.slice none 0 0,[]) (rv.zip (bp Xs L))).1,hv',(fW (cd Xs) (rv.zip (bp Xs L))).map (·.1)⟩,?_,by rw[hst];exact fun j hj=>by simp only[hj,fZ];exact ak2.symm,by rw[nT (ai _),Nat.sub_self];rfl,rfl,fun j hj lW=>?_,?_,fun t s hts=>?_,?_,?_⟩
 ·rw[hst];exact lC
 ·obtain⟨ph,fX,how⟩:=hM.hi.own j hj lW;exact⟨ph,by rw[eD (bY.1 fX).1];exact fX,how⟩
 ·have hsw:=hM.J6;refine SW.congr (mk:=fun j=>(aP Xs k).aK j||L.contains j) (ow:=ow) ⟨hsw.len,hsw.nd,hsw.ng,fun i hi=>?_,fun i hi=>?_⟩ (fun _ _=>rfl) (fun i _=>by unfold BZ;simp)
  ·exact(World.cell?_of_block (w:=w2) ((k6 g (by omega) (by omega)).trans (J8 g hg0))).trans (hsw.row i hi)
  ·have:=hbb _ (qz hi);exact((k6 _ (by omega) (by omega)).trans (J8 _ this)).trans (hsw.side i hi)
 ·obtain⟨gY,cY,zD,J9,gL,_,_,_,hcl⟩:=nN hM.ws.own (by
   intro e;have:=rN.1 e;rw[this] at hts;simp at hts)
  have FP:gY=gW:=by
   injection zD with h1;injection h1 with h1;injection h1 with h1;exact h1.symm
  subst FP;have hc:=hcl t (bx bs s) (by rw[gD,hts];rfl)
  rw[jn] at hc;refine(World.cell?_of_block (w:=w1) (?_:w6.heap[gY]?=w1.heap[gY]?)).trans hc;have:w5.heap[gY]?=w2.heap[gY]?:=k5 gY (by omega) (fun e=>by have:=hlv gY e;omega)
  exact(k6 gY (by omega) (by omega)).trans (this.trans (hM.ri.below.block gY gL))
 ·have hne:L≠[]:=fun e=>by have:=hW.head;rw[e] at this;simp at this
  obtain⟨gY,cY,zD,J9,_⟩:=nN hM.ws.own (by intro e;exact hne (rN.1 e))
  have FP:gY=gW:=by
   injection zD with h1;injection h1 with h1;injection h1 with h1;exact h1.symm
  omega
 ·exact Qh.below (jD.mo) fun b hb hb'=>by
   rcases aV.1 hb' with e|e
   ·omega
   ·simp[Value.ownBlock] at e
end
section
variable{rg:List (List Pt)}{l:List Nd}{r:Int}{Xs:List PB}{bs:List Nat}{g cap:Nat}{w0:World}
theorem ak3(h:SX rg l r Xs)(hB:BD Xs)(hbb:∀b∈bs,b<w0.heap.size)(hg0:g<w0.heap.size)(k:Nat)(lv:Value)(gW cW:Nat)(L:List Nat)(gR cR n ob:Nat)(w5:World)(he:Z6 bs Xs g w0 k lv gW cW L gR cR n ob w5):
  Calls Tryz.prog 115 #[.pointer (some ⟨ob,0,none⟩),.slice (some ⟨gR,0,none⟩) n cR] w5 fun e w6=>e=.returned (.tuple #[])/\FQ bs Xs g w0 k lv gW cW L ob 0 w6:=by
 obtain⟨PH,T,ow,wr,w1,w2,lo,O,rv,ph,hM,jS,fX,rfl,oC,akZ,Qh⟩:=he;obtain⟨hW,jO,hrl,rA,Qi⟩:=aac h hB hM;have zA:=h.J5 hW;have hs:=hM.sz;have hen:=hM.en;subst hen;have hP:=h.pv hB k (by have:=hM.kl;omega)
 generalize hq:(aP Xs k).ow (ir Xs (xi Xs k).f)=q at*;have mR:q<PH.length:=(bY.1 fX).1;have FD:q<(aP Xs k).ps.length:=by rw[<-hM.hi.pi.len];exact mR
 have hps:(aP Xs k).ps[q]?=some ((aP Xs k).ps.getD q ([],[])):=by
  rw[l9,aD FD];rfl
 generalize ak4:(aP Xs k).ps.getD q ([],[])=ps at*;have hA:=hM.hi.pi.pg q ph ps fX hps;have lS:=lt_of_heap hA.blk;have k5:∀b,b<w2.heap.size->w5.heap[b]?=w2.heap[b]?:=fun b hb=>(oC b (by omega)).trans (Below.heap_alloc _ _ _ hb)
 have Ql:∀b,w0.heap.size<=b->b<wr.heap.size->w5.heap[b]?=wr.heap[b]?:=fun b h1 h2=>(k5 b (by omega)).trans (hM.same hbb h1 h2)
 obtain⟨gX,cX,hv,hgl,dE,_,hcell⟩:=nP hM.ri.ro rA;have zB:gX=gR:=by
  injection hv with h1;injection h1 with h1;injection h1 with h1;exact h1.symm
 subst zB;have hzl:(rv.zip (bp Xs L)).length=rv.length:=by rw[List.length_zip];omega
 have FT:∀b,ph.hv.ownBlock=some b->w0.heap.size<=b/\b<wr.heap.size:=fun b e=>aA hA.ho b e
 have ak5:ph.hv.ownBlock≠some ph.pb:=fun e=>by
  have h1:=hA.th _ e;rw[hA.tp] at h1;cases h1
 have Qk:TK w5 w0.heap.size ph.pb ph.hv ph.sv ph.hv ph.hvs w5:=⟨(Ql _ hA.ge lS).trans hA.blk,aO hA.ho fun b e=>Ql b (FT b e).1 (FT b e).2,Mo.refl _ _,fun b e=>ae e,ak5⟩
 have ak6:∀p∈rv.zip (bp Xs L),cd Xs p.2=false:=fun p hp=>by
  obtain⟨i,hi,e⟩:=kB.1 hp;have hm:=bn (FC (by rw[aD hi,e]:(rv.zip (bp Xs L))[i]?=some p)).2
  cases hsh:cd Xs p.2
  ·rfl
  ·rw[xS.2 ⟨p.2,hm,hsh⟩] at jS;cases jS
 obtain⟨ak7,ak8⟩:=akU (cd Xs) (ph.sv,ps.1) (rv.zip (bp Xs L)) ak6;have aae:∀b,b<w2.heap.size->wr.heap.size<=b\/b<w0.heap.size->b∉ph.pb::ph.hv.ownBlock.toList:=fun b _ hb hk=>by
  have hge:=hA.ge;rcases aV.1 hk with e|e
  ·omega
  ·have e':ph.hv.ownBlock=some b:=by simpa using e
   have:=FT b e';omega
 have zy:ph.hvs.length<=85000000:=by
  have h1:=hP.hol q ps hps;have h2:=hA.hl;have h3:=hB.len;omega
 have hcall:=ZE (cd Xs) (rv.zip (bp Xs L)) (ph.sv,ps.1) ph.pb gX cR w0.heap.size ph.hv ph.hvs w5 (by rw[hzl];exact hrl) zy (by omega) Qk ⟨by omega,fun e=>by have:=FT gX e;omega⟩
  (fun i p hp=>by
   obtain⟨h1,h2⟩:=FC hp;exact⟨(World.cell?_of_block (w:=w2) (k5 gX dE)).trans (hcell i p.1 h1),FL (hM.ri.ring i p.1 p.2 h1 h2).1⟩)
  (fun p hp w' hm=>by
   have km:∀b,b<w2.heap.size->wr.heap.size<=b\/b<w0.heap.size->w'.heap[b]?=w2.heap[b]?:=fun b hb hb'=>(hm.block b (by omega) (aae b hb hb')).trans (k5 b hb)
   exact hM.shell hB zA hW.lt jO p hp w' (km g (by omega) (af hg0)) (fun b hb=>km b (by have:=hbb b hb;omega) (af (hbb b hb))) (fun b h1 h2=>km b h2 (ae (by omega))))
 rw[hzl,ak7,ak8] at hcall;refine hcall.mono ?_;rintro e w6 ⟨rfl,hv',jD⟩;have k6:∀b,b<w2.heap.size->wr.heap.size<=b\/b<w0.heap.size->w6.heap[b]?=w2.heap[b]?:=fun b hb hb'=>(jD.mo.block b (by omega) (aae b hb hb')).trans (k5 b hb)
 have pH:=hM.hi.pi.more (w5:=w5) (w6:=w6) (rv.zip (bp Xs L)) w1.heap.size w2.heap.size q ph ps fX hps hv' (by omega) (by omega) (by omega) (by omega)
  (hM.Qe.keep (w':=w6) fun b h1 h2=>k6 b h2 (ae (by omega)))
  (fun b h1 h2 ht1 ht2=>(jD.mo.block b (by omega) (fun hk=>by
   rcases aV.1 hk with e|e
   ·rw[e] at ht1;exact ht1 hA.tp
   ·have e':ph.hv.ownBlock=some b:=by simpa using e
    exact ht2 (hA.th b e'))).trans (Ql b h1 h2))
  jD.ko jD.own jD.fresh
 obtain⟨T',lC⟩:=pH;have hst:aP Xs (k+1)=⟨fun j=>(aP Xs k).aK j||L.contains j,fun j=>if L.contains j then q else(aP Xs k).ow j,(aP Xs k).ps.set q (ps.1,ps.2++bp Xs L)⟩:=by
  rw[zz];unfold oU;rw[<-hM.eL,aa (by rw[hM.un];simp),aa (by rw[jS];simp),hq,ak4]
 have hz2:(rv.zip (bp Xs L)).map (·.2)=bp Xs L:=List.map_snd_zip (by omega)
 rw[hz2] at lC;refine⟨rfl,hM.kl,hW.lt,by rw[hst];exact fun _=>rfl,by rw[hst];exact fun j hj=>by simp only[hj,iZ,jG],_,T',ow,q,⟨ph.pb,ph.sv,hv',ph.hvs++(rv.zip (bp Xs L)).map (·.1)⟩,by rw[hst];exact lC,by rw[hst];exact fun j hj=>by simp only[hj,fZ],rR mR,rfl,fun j hj lW=>?_,?_,fun t s hts=>?_,?_,?_⟩
 ·obtain⟨ua,FU,how⟩:=hM.hi.own j hj lW;by_cases Ca:q=(aP Xs k).ow j
  ·refine⟨⟨ph.pb,ph.sv,hv',ph.hvs++(rv.zip (bp Xs L)).map (·.1)⟩,by rw[<-Ca];exact rR mR,?_⟩
   rw[how];rw[<-Ca,fX] at FU;injection FU with FU;rw[FU]
  ·exact⟨ua,by rw[xQ Ca];exact FU,how⟩
 ·have hsw:=hM.J6;refine SW.congr (mk:=fun j=>(aP Xs k).aK j||L.contains j) (ow:=ow) ⟨hsw.len,hsw.nd,hsw.ng,fun i hi=>?_,fun i hi=>?_⟩ (fun _ _=>rfl) (fun i _=>by unfold BZ;simp)
  ·exact(World.cell?_of_block (w:=w2) (k6 g (by omega) (af hg0))).trans (hsw.row i hi)
  ·have:=hbb _ (qz hi);exact(k6 _ (by omega) (af this)).trans (hsw.side i hi)
 ·obtain⟨gY,cY,zD,J9,gL,_,_,_,hcl⟩:=nN hM.ws.own (by
   intro e;have:=rN.1 e;rw[this] at hts;simp at hts)
  have FP:gY=gW:=by
   injection zD with h1;injection h1 with h1;injection h1 with h1;exact h1.symm
  subst FP;have hc:=hcl t (bx bs s) (by rw[gD,hts];rfl)
  rw[jn] at hc;refine(World.cell?_of_block (w:=w1) (?_:w6.heap[gY]?=w1.heap[gY]?)).trans hc;exact(k6 gY (by omega) (ae J9)).trans (hM.ri.below.block gY gL)
 ·have hne:L≠[]:=fun e=>by have:=hW.head;rw[e] at this;simp at this
  obtain⟨gY,cY,zD,J9,_⟩:=nN hM.ws.own (by intro e;exact hne (rN.1 e))
  have FP:gY=gW:=by
   injection zD with h1;injection h1 with h1;injection h1 with h1;exact h1.symm
  omega
 ·exact Qh.below (jD.mo) fun b hb hb'=>by
   have hge:=hA.ge;rcases aV.1 hb' with e|e
   ·omega
   ·have e':ph.hv.ownBlock=some b:=by simpa using e
    have:=FT b e';omega
theorem ak9(hbb:∀b∈bs,b<w0.heap.size)(k:Nat)(lv:Value)(gW cW:Nat)(L:List Nat)(ob t:Nat)(wr:World)(hF:FQ bs Xs g w0 k lv gW cW L ob t wr)(ht:t<L.length):∃b o,wr.cell? ⟨gW,t,none⟩=some (.pointer (some ⟨b,0,none⟩))/\wr.cell? ⟨b,7,none⟩=some o/\wr.frozen? ⟨b,7,none⟩=false/\FQ bs Xs g w0 k lv gW cW L ob (t+1) (wr.setCell ⟨b,7,none⟩ (.pointer (some ⟨ob,0,none⟩))):=by
 obtain⟨hk,hlt,hmk,Qm,PH,T,ow,q,ph,lC,hq,fX,hpb,hown,hsw,hcell,Qn,hmo⟩:=hF;obtain⟨s,hs⟩:∃s,L[t]?=some s:=⟨_,aD ht⟩;have hsl:s<bs.length:=by rw[hsw.len];exact hlt s (bn hs)
 have FO:=hsw.side s hsl;have hbs:=hbb _ (qz hsl);have kk:∀b,w0.heap.size<=b->(wr.setCell ⟨bx bs s,7,none⟩ (.pointer (some ⟨ob,0,none⟩))).heap[b]?=wr.heap[b]?:=fun b hb=>Below.heap_setCell _ _ _ _ (by show b≠bx bs s;omega)
 refine⟨bx bs s,_,hcell t s hs,cell_of FO 7,aH FO 7,hk,hlt,hmk,Qm,PH,T,ow,q,ph,lC.keep (fun b hb _=>kk b hb),hq,fX,hpb,hown,?_,fun t' s' hs'=>(World.cell?_of_block (w:=wr) (kk gW Qn)).trans (hcell t' s' hs'),Qn,hmo.trans (Mo.setCell bs wr (p:=⟨bx bs s,7,none⟩) (qz hsl) _)⟩
 refine(hsw.own hsl ob).congr (fun _ _=>rfl) (fun i _=>?_)
 have htk:L.take (t+1)=L.take t++[s]:=by rw[jH,hs];rfl
 unfold BZ;rw[htk];by_cases hi:i=s
 ·rw[ah hi,ah (by rw[hi];simp)]
 ·rw[aa hi];have:(L.take t++[s]).contains i=(L.take t).contains i:=by
   simp only[List.contains_eq_mem,cu,bU];simp[hi]
  rw[this]
theorem ala(k:Nat)(lv:Value)(gW cW:Nat)(L:List Nat)(ob:Nat)(wr:World)(hF:FQ bs Xs g w0 k lv gW cW L ob L.length wr):J7 bs Xs g w0 (k+1) lv wr:=by
 obtain⟨hk,hlt,hmk,Qm,PH,T,ow,q,ph,lC,hq,fX,hpb,hown,hsw,hcell,Qn,hmo⟩:=hF;rw[dN] at hsw;refine⟨by omega,PH,T,BZ ow L ob,hsw.congr (fun i _=>hmk i) (fun _ _=>rfl),lC,fun j hj lW=>?_,hmo⟩
 rw[hmk] at lW;unfold BZ;cases hc:L.contains j
 ·rw[hc,GI] at lW;obtain⟨ua,h1,h2⟩:=hown j hj lW;exact⟨ua,by rw[Qm j hc];exact h1,by simp only[iZ,jG];exact h2⟩
 ·exact⟨ph,by rw[hq j hc];exact fX,by simp only[fZ];rw[hpb]⟩
theorem alb(h:SX rg l r Xs)(hB:BD Xs)(hbb:∀b∈bs,b<w0.heap.size)(hg0:g<w0.heap.size)(hbc:bs.length<=cap)(hsw:SW g bs Xs (fun _=>false) (fun _=>none) w0)(Q:Value->World->Prop)
  (HS:∀lv PH T wr,PI bs w0.heap.size lv (aP Xs Xs.length).ps PH T wr->RB wr g bs Xs->bs.Nodup->Mo bs w0 wr->PH.length<=85000000->Calls Tryz.prog 116 #[lv] wr fun e w'=>e=.returned (.tuple #[])/\Q lv w'):
  Calls Tryz.prog 69 #[.slice (some ⟨g,0,none⟩) bs.length cap] w0 fun e w'=>∃lv,e=.returned lv/\Q lv w':=by
 have hlen:=hsw.len;have hC:ZU bs g cap (J7 bs Xs g w0) (BQ bs Xs g w0) (Qf bs Xs g w0) (Qg bs Xs g w0) (DQ bs Xs g w0 true) (DQ bs Xs g w0 false) (EQ bs Xs g w0) (FQ bs Xs g w0) Q w0.heap.size:=
  ⟨fun k lv wr hI hk=>akP k lv wr hI hk,fun k lv wr hb=>akQ h hB hg0 hbc k lv wr hb,fun k lv gW cW L w1 hc=>akS h hB k lv gW cW L w1 hc,fun k lv gW cW L gR cR n w2 hc=>akT h hB hbb hg0 k lv gW cW L gR cR n w2 hc,fun k lv gW cW L gR cR n N w4 hd=>akV h hB hbb k lv gW cW L gR cR n N w4 hd,fun k lv gW cW L gR cR n N w4 hd=>akW h hB hbb k lv gW cW L gR cR n N w4 hd,
   fun k lv gW cW L gR cR n ob w5 he=>by
    rcases he with he|he
    ·exact akY h hB hbb hg0 k lv gW cW L gR cR n ob w5 he
    ·exact ak3 h hB hbb hg0 k lv gW cW L gR cR n ob w5 he,
   fun k lv gW cW L ob t wr hF ht=>ak9 hbb k lv gW cW L ob t wr hF ht,fun k lv gW cW L ob wr hF _=>ala k lv gW cW L ob wr hF,fun lv wr hI=>by
    obtain⟨_,PH,T,ow,hH⟩:=hI;rw[hlen] at hH;refine HS lv PH T wr hH.pi hH.sw.rb hH.sw.nd hH.mo ?_;rw[hH.pi.len];have h1:=(h.pv hB Xs.length (ai _)).len;have h2:=hB.len;omega⟩
 refine akJ bs g cap _ _ _ _ _ _ _ _ Q w0.heap.size hC w0 (by rw[hlen];exact hB.len) ⟨iI _,[],fun _=>.ring,fun _=>none,?_⟩
 exact⟨hsw,⟨World.ownsRow_nil _ _ _ _,fun k e=>by simp[Value.ownBlock] at e,rfl,fun q ph ps hq=>by simp at hq⟩,fun j _ hm=>by simp[aP] at hm,Mo.refl _ _⟩
end
end Go.Proofs.YtkjhhooecopolaaGreatDoor
