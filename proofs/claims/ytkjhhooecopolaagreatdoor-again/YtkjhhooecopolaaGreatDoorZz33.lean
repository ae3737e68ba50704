import Derived.Test.YtkjhhooecopolaaGreatDoorZz32
set_option maxRecDepth 100000
set_option maxHeartbeats 4000000
namespace Go.Proofs.YtkjhhooecopolaaGreatDoor
open Go.RowKit
open Ge
theorem lW{w:World}{base:Nat}{e:TypeId}{v:Value}{n:Nat}{xs:List Value}(h:w.ownsRow base e 1 v n xs)(hn:0<n):
  ∃gT cT,v=.slice (some ⟨gT,0,none⟩) n cT/\base<=gT/\gT<w.heap.size/\xs.length=n/\∀(i:Nat) u,xs[i]?=some u->w.cell? ⟨gT,i,none⟩=some u:=by
 obtain⟨h1,h2⟩:=h;rcases h2 with⟨_,h0⟩|⟨g,cap,cur,hv,hg,hb,hc,hm,hs,ht⟩
 ·omega
 ·refine⟨g,cap,hv,hg,lt_of_heap hb,by omega,fun i u hi=>?_⟩
  rw[<-ht,jt] at hi;split at hi
  ·unfold World.cell?;rw[hb];simpa using hi
  ·cases hi
theorem DA{w:World}{base:Nat}{e:TypeId}{v:Value}{n:Nat}{xs:List Value}(h:w.ownsRow base e 1 v n xs):∃so m c,v=.slice so m c:=by
 rcases h.2 with⟨h,_⟩|⟨_,_,_,h,_⟩
 ·exact⟨_,_,_,h⟩
 ·exact⟨_,_,_,h⟩
theorem Nn(Xs:List PB)(A:List Nat):(cL Xs A).length=(cN Xs A).length:=by
 unfold cL;rw[aT,qi,ir];omega
theorem ahq(Xs:List PB)(A:List Nat):∀a∈cL Xs A,a∈A:=fun a ha=>by
 unfold cL at ha;rcases bT.1 ha with h|h
 ·exact MH Xs A a (O6 h)
 ·exact MH Xs A a (rU h)
section
variable{rg:List (List Pt)}{l:List Nd}{r:Int}{Xs:List PB}
theorem SX.Np(h:SX rg l r Xs){L:List Nat}{n0:Nd}(hL:jr Xs L)(hl:∀a∈L,a<Xs.length)(h0:∀s,L[0]?=some s->(xi Xs s).f=n0):∀k,k<=L.length->∀ring∈(bB Xs (L.take k)).2,ring≠[]/\(∀a∈ring,a∈L)/\ring.length<=L.length
 |0,_,ring,hr=>by simp[bB] at hr
 |k+1,hk,ring,hr=>by
  obtain⟨s,hs⟩:∃s,L[k]?=some s:=⟨_,aD (by omega)⟩
  have htk:L.take (k+1)=L.take k++[s]:=by rw[jh,hs];rfl
  rw[htk,vg] at hr;unfold iQ at hr;split at hr
  ·rename_i hst
   rcases bT.1 hr with hr|hr
   ·exact h.Np hL hl h0 k (by omega) ring hr
   ·have e:=bI.1 hr;have hne:=h.parts hL hl h0 k s hs hst;have hlen:=Dg Xs L k;have hm:∀a∈(bB Xs (L.take k)).1++[s],a∈L:=fun a ha=>by
     rcases bT.1 ha with ha|ha
     ·exact H9 Xs L k a ha
     ·rw[bI.1 ha];exact bh hs
    refine⟨fun h'=>?_,fun a ha=>?_,?_⟩
    ·have:=aw List.length h';rw[e,Nn] at this;exact hne (fK.1 this)
    ·rw[e] at ha;exact hm a (O6 (ahq Xs _ a ha))
    ·rw[e,Nn];have:=MI Xs (((bB Xs (L.take k)).1++[s]).drop (gw Xs ((bB Xs (L.take k)).1++[s]) s).toNat);rw[qi,aT] at this;simp only[cG,gU] at this;omega
  ·exact h.Np hL hl h0 k (by omega) ring hr
theorem SX.Ik(h:SX rg l r Xs){L:List Nat}{k:Nat}(hW:Wk Xs k L):∀ring∈bg Xs L,ring≠[]/\(∀a∈ring,a∈L)/\ring.length<=L.length:=by
 have h0:∀s,L[0]?=some s->(xi Xs s).f=(xi Xs k).f:=fun s hs=>by
  rw[hW.head] at hs;injection hs with hs;rw[hs]
 have:=h.Np hW.conn hW.lt h0 L.length (ax _);rw[fg] at this;exact this
end
structure HI(bs:List Nat)(Xs:List PB)(g:Nat)(w0:World)(k:Nat)(lv:Value)(PH:List jf)(T:Nat->Tg)(ow:Nat->Option Nat)(wr:World):Prop where
 sw:SW g bs Xs (aL Xs k).aJ ow wr
 pi:PI bs w0.heap.size lv (aL Xs k).ps PH T wr
 own:∀j,j<Xs.length->(aL Xs k).aJ j=true->∃ph,PH[(aL Xs k).ow j]?=some ph/\ow j=some ph.pb
 mo:Mo bs w0 wr
structure kF(bs:List Nat)(Xs:List PB)(g:Nat)(w0:World)(k:Nat)(lv:Value)(gW cW:Nat)(L:List Nat)(gR cR n:Nat)(PH:List jf)(T:Nat->Tg)(ow:Nat->Option Nat)(wr w1 w2:World)(lo:Value)(O:List Nat)(rv:List Value):Prop where
 hi:HI bs Xs g w0 k lv PH T ow wr
 kl:k<Xs.length
 un:(aL Xs k).aJ k=false
 eL:L=cz Xs (aL Xs k).aJ k
 ws:WS wr g bs Xs (aL Xs k).aJ ow (.slice (some ⟨gW,0,none⟩) L.length cW) L w1
 ri:RI bs w1 lo (.slice (some ⟨gR,0,none⟩) n cR) O (bg Xs L) rv w2
 en:n=rv.length
section
variable{bs:List Nat}{Xs:List PB}{g:Nat}{w0:World}{k:Nat}{lv:Value}{gW cW:Nat}{L:List Nat}{gR cR n:Nat}{PH:List jf}{T:Nat->Tg}{ow:Nat->Option Nat}{wr w1 w2:World}{lo:Value}{O:List Nat}{rv:List Value}
theorem kF.sz(h:kF bs Xs g w0 k lv gW cW L gR cR n PH T ow wr w1 w2 lo O rv):w0.heap.size<=wr.heap.size/\wr.heap.size<=w1.heap.size/\w1.heap.size<=w2.heap.size:=⟨h.hi.mo.size,h.ws.mo.size,h.ri.below.size⟩
theorem kF.same(h:kF bs Xs g w0 k lv gW cW L gR cR n PH T ow wr w1 w2 lo O rv)(hbb:∀b∈bs,b<w0.heap.size){b:Nat}(hb:w0.heap.size<=b)(hz:b<wr.heap.size):w2.heap[b]?=wr.heap[b]?:=by
 have hs:=h.sz;exact(h.ri.below.block b (by omega)).trans (h.ws.mo.block b hz (fun hk=>by have:=hbb b hk;omega))
theorem kF.Il(h:kF bs Xs g w0 k lv gW cW L gR cR n PH T ow wr w1 w2 lo O rv):SW g bs Xs (fun j=>(aL Xs k).aJ j||L.contains j) ow w2:=h.ws.sw.below h.ri.below
theorem kF.Nq(h:kF bs Xs g w0 k lv gW cW L gR cR n PH T ow wr w1 w2 lo O rv):RV bs w1.heap.size w2.heap.size (rv.zip (bg Xs L)) w2:=by
 refine⟨fun p hp=>?_⟩
 obtain⟨i,hi,e⟩:=jL.1 hp;obtain⟨h1,h2⟩:=Dt (by rw[aD hi,e]:(rv.zip (bg Xs L))[i]?=some p)
 have k1:=(h.ri.ring i p.1 p.2 h1 h2).1;exact⟨k1,fun k e=>(aB k1 k e).2⟩
theorem kF.shell(h:kF bs Xs g w0 k lv gW cW L gR cR n PH T ow wr w1 w2 lo O rv)(hB:BD Xs)(xA:∀ring∈bg Xs L,ring≠[]/\(∀a∈ring,a∈L)/\ring.length<=L.length)(jn:∀a∈L,a<Xs.length)(hLn:L.length<=85000000)(p:VR)(hp:p∈rv.zip (bg Xs L))(w':World)(hg:w'.heap[g]?=w2.heap[g]?)(hbs:∀b∈bs,w'.heap[b]?=w2.heap[b]?)(hr:∀b,w1.heap.size<=b->b<w2.heap.size->w'.heap[b]?=w2.heap[b]?):
  Calls Tryz.prog 113 #[p.1] w' fun e w''=>e=.returned (.bool (bQ Xs p.2))/\Below w'.heap.size w' w'':=by
 have hsw:=h.Il;have ahr:SW g bs Xs (fun j=>(aL Xs k).aJ j||L.contains j) ow w':=
  ⟨hsw.len,hsw.nd,hsw.ng,fun i hi=>(World.cell?_of_block (w:=w2) hg).trans (hsw.row i hi),fun i hi=>(hbs _ (oL hi)).trans (hsw.side i hi)⟩
 have hz:=(h.Nq).keep (w':=w') hr;have hpr:p.2∈bg Xs L:=by
  obtain⟨i,hi,e⟩:=jL.1 hp;exact bh (Dt (by rw[aD hi,e]:(rv.zip (bg Xs L))[i]?=some p)).2
 obtain⟨f1,f2,f3⟩:=xA p.2 hpr;exact agC bs Xs hB g _ ow w' ahr p.2 f1 (by omega) (fun a ha=>by rw[hsw.len];exact jn a (f2 a ha)) _ p.1 (hz.own p hp).1
end
def mR:Obj:=.cells #[.slice none 0 0,.slice none 0 0] 187
section
variable(bs:List Nat)(Xs:List PB)(g cap:Nat)(w0:World)
def Im(k:Nat)(lv:Value)(wr:World):Prop:=k<=Xs.length/\∃PH T ow,HI bs Xs g w0 k lv PH T ow wr
def BQ(k:Nat)(lv:Value)(wr:World):Prop:=k<Xs.length/\(aL Xs k).aJ k=false/\∃PH T ow,HI bs Xs g w0 k lv PH T ow wr
def Nr(k:Nat)(lv:Value)(gW cW:Nat)(L:List Nat)(w1:World):Prop:=k<Xs.length/\(aL Xs k).aJ k=false/\L=cz Xs (aL Xs k).aJ k/\∃PH T ow wr,HI bs Xs g w0 k lv PH T ow wr/\WS wr g bs Xs (aL Xs k).aJ ow (.slice (some ⟨gW,0,none⟩) L.length cW) L w1
def Ns(k:Nat)(lv:Value)(gW cW:Nat)(L:List Nat)(gR cR n:Nat)(w2:World):Prop:=∃PH T ow wr w1 lo O rv,kF bs Xs g w0 k lv gW cW L gR cR n PH T ow wr w1 w2 lo O rv
def DQ(v:Bool)(k:Nat)(lv:Value)(gW cW:Nat)(L:List Nat)(gR cR n N:Nat)(w4:World):Prop:=∃PH T ow wr w1 w2 lo O rv,kF bs Xs g w0 k lv gW cW L gR cR n PH T ow wr w1 w2 lo O rv/\N=w2.heap.size/\Below (w2.heap.size+1) (w2.alloc mR) w4/\(bg Xs L).any (bQ Xs)=v
def Xe(k:Nat)(Au:Value)(gW cW:Nat)(L:List Nat)(gR cR n ob:Nat)(w5:World):Prop:=∃lv PH T ow wr w1 w2 lo O rv,kF bs Xs g w0 k lv gW cW L gR cR n PH T ow wr w1 w2 lo O rv/\ob=w2.heap.size/\(bg Xs L).any (bQ Xs)=true/\
 w5.ownsRow w0.heap.size 165 1 Au (PH.length+1) (PH.map iR++[.pointer (some ⟨w2.heap.size,0,none⟩)])/\(∀k,Au.ownBlock=some k->lv.ownBlock=some k\/(w2.heap.size<k/\k<w5.heap.size))/\(∀b,b<w2.heap.size+1->lv.ownBlock≠some b->w5.heap[b]?=(w2.alloc mR).heap[b]?)/\w2.heap.size+1<=w5.heap.size/\Mo bs w0 w5
def Xf(k:Nat)(lv:Value)(gW cW:Nat)(L:List Nat)(gR cR n ob:Nat)(w5:World):Prop:=∃PH T ow wr w1 w2 lo O rv ph,kF bs Xs g w0 k lv gW cW L gR cR n PH T ow wr w1 w2 lo O rv/\(bg Xs L).any (bQ Xs)=false/\PH[(aL Xs k).ow (gA Xs (xi Xs k).f)]?=some ph/\ob=ph.pb/\(∀b,b<w2.heap.size+1->w5.heap[b]?=(w2.alloc mR).heap[b]?)/\w2.heap.size+1<=w5.heap.size/\Mo bs w0 w5
def EQ(k:Nat)(lv:Value)(gW cW:Nat)(L:List Nat)(gR cR n ob:Nat)(w5:World):Prop:=Xe bs Xs g w0 k lv gW cW L gR cR n ob w5\/Xf bs Xs g w0 k lv gW cW L gR cR n ob w5
def zJ(ow:Nat->Option Nat)(A:List Nat)(o:Nat):Nat->Option Nat:=fun j=>if A.contains j then some o else ow j
def FQ(k:Nat)(lv:Value)(gW _cW:Nat)(L:List Nat)(ob t:Nat)(wr:World):Prop:=k<Xs.length/\(∀a∈L,a<Xs.length)/\(∀j,(aL Xs (k+1)).aJ j=((aL Xs k).aJ j||L.contains j))/\(∀j,L.contains j=false->(aL Xs (k+1)).ow j=(aL Xs k).ow j)/\
 ∃PH T ow q ph,PI bs w0.heap.size lv (aL Xs (k+1)).ps PH T wr/\(∀j,L.contains j=true->(aL Xs (k+1)).ow j=q)/\PH[q]?=some ph/\ph.pb=ob/\(∀j,j<Xs.length->(aL Xs k).aJ j=true->∃ph,PH[(aL Xs k).ow j]?=some ph/\ow j=some ph.pb)/\
 SW g bs Xs (fun j=>(aL Xs k).aJ j||L.contains j) (zJ ow (L.take t) ob) wr/\(∀(t s:Nat),L[t]?=some s->wr.cell? ⟨gW,t,none⟩=some (.pointer (some ⟨bx bs s,0,none⟩)))/\w0.heap.size<=gW/\Mo bs w0 wr
end
section
variable{rg:List (List Pt)}{l:List Nd}{r:Int}{Xs:List PB}{bs:List Nat}{g cap:Nat}{w0:World}
theorem aht(k:Nat)(lv:Value)(wr:World)(h:Im bs Xs g w0 k lv wr)(hk:k<bs.length):wr.cell? ⟨g,k,none⟩=some (.pointer (some ⟨bx bs k,0,none⟩))/\∃m,wr.cell? ⟨bx bs k,6,none⟩=some (.bool m)/\(m=true->Im bs Xs g w0 (k+1) lv wr)/\(m=false->BQ bs Xs g w0 k lv wr):=by
 obtain⟨_,PH,T,ow,hI⟩:=h;have hkX:k<Xs.length:=by rw[<-hI.sw.len];exact hk
 refine⟨hI.sw.row k hk,(aL Xs k).aJ k,cell_of (hI.sw.side k hk) 6,fun hm=>⟨by omega,PH,T,ow,?_⟩,fun hm=>⟨hkX,hm,PH,T,ow,hI⟩⟩
 have e:aL Xs (k+1)=aL Xs k:=by
  rw[xz];unfold mQ;rw[ah hm]
 exact⟨by rw[e];exact hI.sw,by rw[e];exact hI.pi,by rw[e];exact hI.own,hI.mo⟩
theorem ahu(h:SX rg l r Xs)(hB:BD Xs)(hg0:g<w0.heap.size)(hbc:bs.length<=cap)(k:Nat)(lv:Value)(wr:World)(hb:BQ bs Xs g w0 k lv wr):
  Calls Tryz.prog 110 #[.slice (some ⟨g,0,none⟩) bs.length cap,.pointer (some ⟨bx bs k,0,none⟩)] wr fun e w1=>∃gW cW L,e=.returned (.slice (some ⟨gW,0,none⟩) L.length cW)/\L.length<=85000000/\Nr bs Xs g w0 k lv gW cW L w1:=by
 obtain⟨hk,hm,PH,T,ow,hI⟩:=hb;have hP:=h.pv hB k (by omega)
 obtain⟨hc,hW⟩:=h.walk hB hP hk hm;have hlen:=hI.sw.len;have jn:(cz Xs (aL Xs k).aJ k).length<=85000000:=by
  have:=vp (mk:=(aL Xs k).aJ) (fun j hj=>(h.next hB hj).1) Xs.length [] k hk
  have h2:=tM Xs.length (aL Xs k).aJ [];have h3:=hB.len;have e:iP (bZ Xs) (aL Xs k).aJ Xs.length [] k=cz Xs (aL Xs k).aJ k:=rfl;rw[e] at this;simp only[gU] at this;omega
 refine(afZ bs Xs hB g cap k _ ow wr hI.sw (aZ hg0 hI.mo.size) (by rw[hlen];exact hk) hbc (fun i hi=>h.go i hi)).mono ?_
 rintro e w1 ⟨lv1,rfl,pV⟩;rw[hlen] at pV;have Xg:WS wr g bs Xs (aL Xs k).aJ ow lv1 (cz Xs (aL Xs k).aJ k) w1:=pV;have hne:cz Xs (aL Xs k).aJ k≠[]:=fun e=>by have:=hW.head;rw[e] at this;simp at this
 obtain⟨gW,cW,hv,_⟩:=lU Xg.own (by intro e;exact hne (qh.1 e))
 subst hv;exact⟨gW,cW,_,rfl,jn,hk,hm,rfl,PH,T,ow,wr,hI,Xg⟩
theorem ahw(h:SX rg l r Xs)(hB:BD Xs)(k:Nat)(lv:Value)(gW cW:Nat)(L:List Nat)(w1:World)(hc1:Nr bs Xs g w0 k lv gW cW L w1):
  Calls Tryz.prog 111 #[.slice (some ⟨gW,0,none⟩) L.length cW] w1 fun e w2=>∃gR cR n,e=.returned (.slice (some ⟨gR,0,none⟩) n cR)/\Ns bs Xs g w0 k lv gW cW L gR cR n w2:=by
 obtain⟨hk,hm,eL,PH,T,ow,wr,hI,pV⟩:=hc1;have hP:=h.pv hB k (by omega)
 obtain⟨hc,hW⟩:=h.walk hB hP hk hm;rw[<-eL] at hc hW;have hlen:=hI.sw.len;have hne:L≠[]:=fun e=>by have:=hW.head;rw[e] at this;simp at this
 have jn:L.length<=85000000:=by
  have:=vp (mk:=(aL Xs k).aJ) (fun j hj=>(h.next hB hj).1) Xs.length [] k hk
  have h2:=tM Xs.length (aL Xs k).aJ [];have h3:=hB.len;have e:iP (bZ Xs) (aL Xs k).aJ Xs.length [] k=L:=eL.symm;rw[e] at this;simp only[gU] at this;omega
 have h0:∀s,L[0]?=some s->(xi Xs s).f=(xi Xs k).f:=fun s hs=>by
  rw[hW.head] at hs;injection hs with hs;rw[hs]
 obtain⟨gX,cX,hv,_,_,_,_,_,hcell⟩:=lU pV.own (by intro e;exact hne (qh.1 e))
 have xB:gX=gW:=by
  injection hv with h1;injection h1 with h1;injection h1 with h1;exact h1.symm
 subst xB;refine(agy bs Xs hB g _ ow w1 pV.sw L jn (fun a ha=>by rw[hlen];exact hW.lt a ha) gX cW (fun i a hi=>hcell i (bx bs a) (by rw[fR,hi];rfl)) (fun k' s hs hst=>h.parts hW.conn hW.lt h0 k' s hs hst)).mono ?_
 rintro e w2 ⟨lvR,lo,O,rv,rfl,mN⟩;have mG:0<rv.length:=by
  rw[mN.len];exact il.2 (Nk hW)
 obtain⟨gR,cR,hv2,_⟩:=lW mN.ro mG;subst hv2;exact⟨gR,cR,rv.length,rfl,PH,T,ow,wr,w1,lo,O,rv,hI,hk,hm,eL,pV,mN,rfl⟩
theorem ahx(h:SX rg l r Xs)(hB:BD Xs)(hbb:∀b∈bs,b<w0.heap.size)(hg0:g<w0.heap.size)(k:Nat)(lv:Value)(gW cW:Nat)(L:List Nat)(gR cR n:Nat)(w2:World)(hc2:Ns bs Xs g w0 k lv gW cW L gR cR n w2):
  Calls Tryz.prog 112 #[.slice (some ⟨gR,0,none⟩) n cR,.func (.func 113) #[] #[]] (w2.alloc (.cells #[.slice none 0 0,.slice none 0 0] 187)) fun e w4=>∃b,e=.returned (.bool b)/\(b=true->DQ bs Xs g w0 true k lv gW cW L gR cR n w2.heap.size w4)/\(b=false->DQ bs Xs g w0 false k lv gW cW L gR cR n w2.heap.size w4):=by
 obtain⟨PH,T,ow,wr,w1,lo,O,rv,hM⟩:=hc2;have hP:=h.pv hB k (by have:=hM.kl;omega)
 obtain⟨hc,hW⟩:=h.walk hB hP hM.kl hM.un;rw[<-hM.eL] at hc hW;have xA:=h.Ik hW;have jn:L.length<=85000000:=by
  have:=vp (mk:=(aL Xs k).aJ) (fun j hj=>(h.next hB hj).1) Xs.length [] k hM.kl
  have h2:=tM Xs.length (aL Xs k).aJ [];have h3:=hB.len;have e:iP (bZ Xs) (aL Xs k).aJ Xs.length [] k=L:=hM.eL.symm;rw[e] at this;simp only[gU] at this;omega
 have hrl:rv.length<=85000000:=by
  rw[hM.ri.len];have:=(Dg Xs L L.length).2;rw[fg] at this;unfold bg;omega
 have mG:0<rv.length:=by
  rw[hM.ri.len];exact il.2 (Nk hW)
 have hen:=hM.en;subst hen;obtain⟨gX,cX,hv,_,dh,_,hcell⟩:=lW hM.ri.ro mG;have xB:gX=gR:=by
  injection hv with h1;injection h1 with h1;injection h1 with h1;exact h1.symm
 subst xB;have hal:∀b,b<w2.heap.size->(w2.alloc mR).heap[b]?=w2.heap[b]?:=fun b hb=>Below.heap_alloc _ _ _ hb
 have hs:=hM.sz;have hsz:(w2.alloc mR).heap.size=w2.heap.size+1:=by unfold mR;simp
 have pL:=agD (bQ Xs) (bg Xs L) rv hM.ri.len gX cR (w2.alloc mR) hrl (fun i v hi=>⟨(World.cell?_of_block (w:=w2) (hal gX dh)).trans (hcell i v hi),by
   obtain⟨q,hq⟩:∃q,(bg Xs L)[i]?=some q:=⟨_,aD (by rw[<-hM.ri.len];exact(bU.1 hi).1)⟩
   exact DA (hM.ri.ring i v q hi hq).1⟩) (fun i v q hi hq w' hb=>by
   have hp:(v,q)∈rv.zip (bg Xs L):=bh (Zn.2 ⟨hi,hq⟩);have mB:∀b,b<w2.heap.size->w'.heap[b]?=w2.heap[b]?:=fun b hb'=>(hb.block b (by rw[hsz];omega)).trans (hal b hb')
   exact hM.shell hB xA hW.lt jn (v,q) hp w' (mB g (by omega)) (fun b hb'=>mB b (by have:=hbb b hb';omega)) (fun b _ hb'=>mB b hb'))
 refine(agE _ gX rv.length cR (w2.alloc mR) pL).mono ?_;rintro e w4 ⟨rfl,hb4⟩;rw[Wz];have FB:Below (w2.heap.size+1) (w2.alloc mR) w4:=by rw[<-hsz];exact hb4
 exact⟨_,rfl,fun hv=>⟨PH,T,ow,wr,w1,w2,lo,O,rv,hM,rfl,FB,hv⟩,fun hv=>⟨PH,T,ow,wr,w1,w2,lo,O,rv,hM,rfl,FB,hv⟩⟩
end
theorem Xh(P:List Nat->Bool):∀(rv:List Value)(Rs:List (List Nat))(a:VR),rv.length=Rs.length->(fB P a (rv.zip Rs)).2=Rs.foldl (fun acc r=>if P r then r else acc) a.2
 |[],[],a,_=>rfl
 |v::rv,q::Rs,a,h=>by
  show(fB P (if P q then(v,q) else a) (rv.zip Rs)).2=Rs.foldl _ (if P q then q else a.2)
  rw[Xh P rv Rs _ (by simpa using h)]
  congr 1;split<;>rfl
 |[],_::_,_,h=>by simp at h
 |_::_,[],_,h=>by simp at h
theorem Xi(P:List Nat->Bool):∀(rv:List Value)(Rs:List (List Nat)),rv.length=Rs.length->(fC P (rv.zip Rs)).map (·.2)=Rs.filter fun r=> !P r
 |[],[],_=>rfl
 |v::rv,q::Rs,h=>by
  have ih:=Xi P rv Rs (by simpa using h)
  unfold fC at*;rw[I8,Y8,Y8];cases hq:P q
  ·simp only[Bool.not_false,fJ,iE];rw[ih]
  ·simp only[Bool.not_true,iC,jg];exact ih
 |[],_::_,h=>by simp at h
 |_::_,[],h=>by simp at h
theorem ahy(P:List Nat->Bool)(a:VR)(Z:List VR)(h:∀p∈Z,P p.2=false):fB P a Z=a/\fC P Z=Z:=by
 refine⟨?_,?_⟩
 ·rcases M5 P a Z with e|⟨e1,e2⟩
  ·exact e
  ·rw[h _ e1] at e2;cases e2
 ·unfold fC;exact Jb.2 fun p hp=>by rw[h p hp];rfl
section
variable{bs:List Nat}{Xs:List PB}{g:Nat}{w0:World}{k:Nat}{lv:Value}{gW cW:Nat}{L:List Nat}{gR cR n:Nat}{PH:List jf}{T:Nat->Tg}{ow:Nat->Option Nat}{wr w1 w2:World}{lo:Value}{O:List Nat}{rv:List Value}
theorem kF.Xj(h:kF bs Xs g w0 k lv gW cW L gR cR n PH T ow wr w1 w2 lo O rv):Mo bs wr w2:=h.ws.mo.trans (Mo.of bs h.ri.below)
theorem Xk{w2 w4:World}(hb:Below (w2.heap.size+1) (w2.alloc mR) w4):Below w2.heap.size w2 w4:=((Below.refl _ _).alloc (ax _) _).trans (hb.mono (by omega))
end
section
variable{rg:List (List Pt)}{l:List Nd}{r:Int}{Xs:List PB}{bs:List Nat}{g cap:Nat}{w0:World}
theorem ahz(h:SX rg l r Xs)(hB:BD Xs)(hbb:∀b∈bs,b<w0.heap.size)(k:Nat)(lv:Value)(gW cW:Nat)(L:List Nat)(gR cR n N:Nat)(w4:World)(hd:DQ bs Xs g w0 true k lv gW cW L gR cR n N w4):
  ∃np pp,w4.ownsRow w0.heap.size 165 1 lv np pp/\np<=85000000/\w0.heap.size<=w4.heap.size/\∀g' cap' w8,w8.ownsRow w0.heap.size 165 1 (.slice (some ⟨g',0,none⟩) (np+1) cap') (np+1) (pp++[.pointer (some ⟨N,0,none⟩)])->(w4.alloc (.cells #[.pointer (some ⟨N,0,none⟩)] 165)).grownBy w8 lv.ownBlock->(lv.ownBlock=some g'\/g'=w4.heap.size+1)->EQ bs Xs g w0 k (.slice (some ⟨g',0,none⟩) (np+1) cap') gW cW L gR cR n N w8:=by
 obtain⟨PH,T,ow,wr,w1,w2,lo,O,rv,hM,rfl,hb4,jQ⟩:=hd;have hs:=hM.sz;have hsz:(w2.alloc mR).heap.size=w2.heap.size+1:=by unfold mR;simp
 have Nt:=hb4.size;rw[hsz] at Nt;have DB:=Xk hb4;have hP:=h.pv hB k (by have:=hM.kl;omega)
 have Ib:=hB.len;have hpl:=hP.len;have hlen:=hM.hi.pi.len;have hkl:=hM.kl;have hrow:=hM.hi.pi.row;have hlv:∀b,lv.ownBlock=some b->w0.heap.size<=b/\b<wr.heap.size:=fun b e=>aB hrow b e
 refine⟨PH.length,PH.map iR,aO hrow fun b e=>(DB.block b (by have:=hlv b e;omega)).trans (hM.same hbb (hlv b e).1 (hlv b e).2),by omega,by omega,fun g' cap' w8 cD bf hat=>ae ⟨lv,PH,T,ow,wr,w1,w2,lo,O,rv,hM,rfl,jQ,cD,fun b e=>?_,fun b hb hne=>?_,?_,?_⟩⟩
 ·have e':g'=b:=by simpa[Value.ownBlock] using e
  subst e';rcases hat with hat|hat
  ·exact ae hat
  ·have:=(aB cD g' rfl).2;exact af ⟨by omega,this⟩
 ·exact(bf.block b (by simp;omega) (fun e=>hne e.symm)).trans ((Below.heap_alloc _ _ _ (by omega)).trans (hb4.block b hb))
 ·have:=bf.size;simp at this;omega
 ·have m1:Mo bs w0 w4:=hM.hi.mo.trans (hM.Xj.trans (Mo.of bs DB));exact m1.below ((Mo.alloc lv.ownBlock.toList w4 _).trans (Mo.grown bf (fun b e=>by rw[e];simp))) fun b hb hb'=>by
   have e:lv.ownBlock=some b:=by simpa using hb'
   have:=hlv b e;omega
theorem ahA(h:SX rg l r Xs)(hB:BD Xs)(_hbb:∀b∈bs,b<w0.heap.size)(k:Nat)(lv:Value)(gW cW:Nat)(L:List Nat)(gR cR n N:Nat)(w4:World)(hd:DQ bs Xs g w0 false k lv gW cW L gR cR n N w4):
  ∃N1 N2 N3,w4.cell? ⟨bx bs k,2,none⟩=some (.complex .f64 N1 N2)/\w4.cell? ⟨bx bs k,3,none⟩=some (.int .i64 N3)/\Calls Tryz.prog 114 #[.slice (some ⟨g,0,none⟩) bs.length cap,.agg #[.complex .f64 N1 N2,.int .i64 N3]] w4 fun e w5=>∃bL ob,e=.returned (.pointer (some ⟨bL,0,none⟩))/\w5.cell? ⟨bL,7,none⟩=some (.pointer (some ⟨ob,0,none⟩))/\EQ bs Xs g w0 k lv gW cW L gR cR n ob w5:=by
 obtain⟨PH,T,ow,wr,w1,w2,lo,O,rv,hM,rfl,hb4,jQ⟩:=hd;have hs:=hM.sz;have hsz:(w2.alloc mR).heap.size=w2.heap.size+1:=by unfold mR;simp
 have Nt:=hb4.size;rw[hsz] at Nt;have DB:=Xk hb4;have hP:=h.pv hB k (by have:=hM.kl;omega)
 have DC:=hM.Il.below DB;have hlen:=DC.len;have hkb:k<bs.length:=by rw[hlen];exact hM.kl
 have hS:=DC.rb.at hM.kl;have hno:∀ring∈bg Xs (cz Xs (aL Xs k).aJ k),bQ Xs ring=false:=fun ring hr=>by
  rw[<-hM.eL] at hr;cases hsh:bQ Xs ring
  ·rfl
  ·rw[Ag.2 ⟨ring,hr,hsh⟩] at jQ;cases jQ
 obtain⟨zI,hll,hlm⟩:=h.low hB hP hM.kl hM.un hno;obtain⟨ph,fD,how⟩:=hM.hi.own _ hll hlm;refine⟨_,_,_,hS.c2,hS.c3,(agW bs Xs hB DC.nd (xi Xs k).f (hB.v _ (fN hM.kl)).f g cap w4 DC.rb zI).mono ?_⟩;rintro e w5 ⟨rfl,az⟩;have ahB:=DC.below az;have DF:=ahB.side (gA Xs (xi Xs k).f) (by rw[hlen];exact hll)
 rw[how] at DF;refine⟨_,ph.pb,rfl,cell_of DF 7,af ⟨PH,T,ow,wr,w1,w2,lo,O,rv,ph,hM,jQ,fD,rfl,fun b hb=>(az.block b (by omega)).trans (hb4.block b hb),by have:=az.size;omega,?_⟩⟩
 exact hM.hi.mo.trans (hM.Xj.trans ((Mo.of bs DB).trans (Mo.of bs az)))
theorem Xl(h:SX rg l r Xs)(hB:BD Xs){k:Nat}{lv:Value}{gW cW:Nat}{L:List Nat}{gR cR n:Nat}{PH:List jf}{T:Nat->Tg}{ow:Nat->Option Nat}{wr w1 w2:World}{lo:Value}{O:List Nat}{rv:List Value}(hM:kF bs Xs g w0 k lv gW cW L gR cR n PH T ow wr w1 w2 lo O rv):
  Wk Xs k L/\L.length<=85000000/\rv.length<=85000000/\0<rv.length/\rv.length=(bg Xs L).length:=by
 have hP:=h.pv hB k (by have:=hM.kl;omega)
 obtain⟨hc,hW⟩:=h.walk hB hP hM.kl hM.un;rw[<-hM.eL] at hc hW;have jn:L.length<=85000000:=by
  have:=vp (mk:=(aL Xs k).aJ) (fun j hj=>(h.next hB hj).1) Xs.length [] k hM.kl
  have h2:=tM Xs.length (aL Xs k).aJ [];have h3:=hB.len;have e:iP (bZ Xs) (aL Xs k).aJ Xs.length [] k=L:=hM.eL.symm;rw[e] at this;simp only[gU] at this;omega
 refine⟨hW,jn,?_,?_,hM.ri.len⟩
 ·rw[hM.ri.len];have:=(Dg Xs L L.length).2;rw[fg] at this;unfold bg;omega
 ·rw[hM.ri.len];exact il.2 (Nk hW)
theorem ahC(h:SX rg l r Xs)(hB:BD Xs)(hbb:∀b∈bs,b<w0.heap.size)(hg0:g<w0.heap.size)(k:Nat)(lv:Value)(gW cW:Nat)(L:List Nat)(gR cR n ob:Nat)(w5:World)(he:Xe bs Xs g w0 k lv gW cW L gR cR n ob w5):
  Calls Tryz.prog 115 #[.pointer (some ⟨ob,0,none⟩),.slice (some ⟨gR,0,none⟩) n cR] w5 fun e w6=>e=.returned (.tuple #[])/\FQ bs Xs g w0 k lv gW cW L ob 0 w6:=by
 obtain⟨Xm,PH,T,ow,wr,w1,w2,lo,O,rv,hM,rfl,jQ,hrow,hQ,mB,ahD,Nu⟩:=he;obtain⟨hW,jn,hrl,mG,Nv⟩:=Xl h hB hM;have xA:=h.Ik hW;have hs:=hM.sz;have hen:=hM.en;subst hen;have ahE:=hM.hi.pi.row;have hlv:∀b,Xm.ownBlock=some b->w0.heap.size<=b/\b<wr.heap.size:=fun b e=>aB ahE b e
 have k5:∀b,b<w2.heap.size->Xm.ownBlock≠some b->w5.heap[b]?=w2.heap[b]?:=fun b hb hne=>(mB b (by omega) hne).trans (Below.heap_alloc _ _ _ hb)
 have Io:∀b,b<w0.heap.size->w5.heap[b]?=w2.heap[b]?:=fun b hb=>k5 b (by omega) (fun e=>by have:=hlv b e;omega)
 have Nw:∀b,w1.heap.size<=b->b<w2.heap.size->w5.heap[b]?=w2.heap[b]?:=fun b h1 h2=>k5 b h2 (fun e=>by have:=hlv b e;omega)
 have zb:w5.heap[w2.heap.size]?=some (.cells #[.slice none 0 0,.slice none 0 0] 187 (0,0)):=(mB _ (by omega) (fun e=>by have:=hlv _ e;omega)).trans (heap_alloc_new w2 _)
 obtain⟨gX,cX,hv,hgl,dh,_,hcell⟩:=lW hM.ri.ro mG;have xB:gX=gR:=by
  injection hv with h1;injection h1 with h1;injection h1 with h1;exact h1.symm
 subst xB;have hzl:(rv.zip (bg Xs L)).length=rv.length:=by rw[List.length_zip];omega
 have Ny:TK w5 w0.heap.size w2.heap.size (.slice none 0 0) (.slice none 0 0) (.slice none 0 0) [] w5:=⟨zb,World.ownsRow_nil _ _ _ _,Mo.refl _ _,fun b e=>by simp[Value.ownBlock] at e,by simp[Value.ownBlock]⟩
 have hcall:=WH (bQ Xs) (rv.zip (bg Xs L)) (.slice none 0 0,[]) w2.heap.size gX cR w0.heap.size (.slice none 0 0) [] w5 (by rw[hzl];exact hrl) (by simp) (by omega) Ny ⟨by omega,by simp[Value.ownBlock]⟩
  (fun i p hp=>by
   obtain⟨h1,h2⟩:=Dt hp;exact⟨(World.cell?_of_block (w:=w2) (Nw gX hgl dh)).trans (hcell i p.1 h1),DA (hM.ri.ring i p.1 p.2 h1 h2).1⟩)
  (fun p hp w' hm=>by
   have km:∀b,b<w2.heap.size->w'.heap[b]?=w5.heap[b]?:=fun b hb=>hm.block b (by omega) (by
    intro hk;rcases aP.1 hk with e|e
    ·omega
    ·simp[Value.ownBlock] at e)
   exact hM.shell hB xA hW.lt jn p hp w' ((km g (by omega)).trans (Io g hg0)) (fun b hb=>(km b (by have:=hbb b hb;omega)).trans (Io b (hbb b hb))) (fun b h1 h2=>(km b h2).trans (Nw b h1 h2)))
 rw[hzl] at hcall;refine hcall.mono ?_;rintro e w6 ⟨rfl,hv',je⟩;rw[oP] at je;have k6:∀b,b<w5.heap.size->b≠w2.heap.size->w6.heap[b]?=w5.heap[b]?:=fun b hb hne=>je.mo.block b hb (by
  intro hk;rcases aP.1 hk with e|e
  ·exact hne e
  ·simp[Value.ownBlock] at e)
 have ahF:=hM.hi.pi.push (w5:=w5) (w6:=w6) (lvQ:=lv) (bQ Xs) (rv.zip (bg Xs L)) w2.heap.size w1.heap.size hv' (by omega) (by omega) (by omega) (by omega)
  (hM.Nq.keep (w':=w6) fun b h1 h2=>(k6 b (by omega) (by omega)).trans (Nw b h1 h2))
  (fun b h1 h2 ht=>(k6 b (by omega) (by omega)).trans ((k5 b (by omega) (fun e=>ht (hM.hi.pi.tl b e))).trans (hM.same hbb h1 h2)))
  (aO hrow fun b e=>k6 b (aB hrow b e).2 (by
   rcases hQ b e with e|e
   ·have:=hlv b e;omega
   ·omega)) hQ je.jH je.own (fun b e=>by
   rcases je.fresh b e with e|e
   ·simp[Value.ownBlock] at e
   ·exact e)
 obtain⟨T',j4⟩:=ahF;have hst:aL Xs (k+1)=⟨fun j=>(aL Xs k).aJ j||L.contains j,fun j=>if L.contains j then(aL Xs k).ps.length else(aL Xs k).ow j,(aL Xs k).ps++[(rJ (bQ Xs) (bg Xs L),(bg Xs L).filter fun r=> !bQ Xs r)]⟩:=by
  rw[xz];unfold mQ;rw[<-hM.eL,aa (by rw[hM.un];simp),ah jQ]
 rw[Xh (bQ Xs) rv (bg Xs L) _ Nv,Xi (bQ Xs) rv (bg Xs L) Nv] at j4;have ahG:=hM.hi.pi.len;refine⟨rfl,hM.kl,hW.lt,by rw[hst];exact fun _=>rfl,by rw[hst];exact fun j hj=>by simp only[hj,iC,jg],PH++[⟨w2.heap.size,(fB (bQ Xs) (.slice none 0 0,[]) (rv.zip (bg Xs L))).1,hv',(fC (bQ Xs) (rv.zip (bg Xs L))).map (·.1)⟩],T',ow,PH.length,⟨w2.heap.size,(fB (bQ Xs) (.slice none 0 0,[]) (rv.zip (bg Xs L))).1,hv',(fC (bQ Xs) (rv.zip (bg Xs L))).map (·.1)⟩,?_,by rw[hst];exact fun j hj=>by simp only[hj,fJ];exact ahG.symm,by rw[mW (ax _),Nat.sub_self];rfl,rfl,fun j hj kE=>?_,?_,fun t s hts=>?_,?_,?_⟩
 ·rw[hst];exact j4
 ·obtain⟨ph,fD,how⟩:=hM.hi.own j hj kE;exact⟨ph,by rw[eG (bU.1 fD).1];exact fD,how⟩
 ·have hsw:=hM.Il;refine SW.congr (mk:=fun j=>(aL Xs k).aJ j||L.contains j) (ow:=ow) ⟨hsw.len,hsw.nd,hsw.ng,fun i hi=>?_,fun i hi=>?_⟩ (fun _ _=>rfl) (fun i _=>by unfold zJ;simp)
  ·exact(World.cell?_of_block (w:=w2) ((k6 g (by omega) (by omega)).trans (Io g hg0))).trans (hsw.row i hi)
  ·have:=hbb _ (oL hi);exact((k6 _ (by omega) (by omega)).trans (Io _ this)).trans (hsw.side i hi)
 ·obtain⟨gY,cY,xC,Ip,fV,_,_,_,hcl⟩:=lU hM.ws.own (by
   intro e;have:=qh.1 e;rw[this] at hts;simp at hts)
  have DG:gY=gW:=by
   injection xC with h1;injection h1 with h1;injection h1 with h1;exact h1.symm
  subst DG;have hc:=hcl t (bx bs s) (by rw[fR,hts];rfl)
  rw[js] at hc;refine(World.cell?_of_block (w:=w1) (?_:w6.heap[gY]?=w1.heap[gY]?)).trans hc;have:w5.heap[gY]?=w2.heap[gY]?:=k5 gY (by omega) (fun e=>by have:=hlv gY e;omega)
  exact(k6 gY (by omega) (by omega)).trans (this.trans (hM.ri.below.block gY fV))
 ·have hne:L≠[]:=fun e=>by have:=hW.head;rw[e] at this;simp at this
  obtain⟨gY,cY,xC,Ip,_⟩:=lU hM.ws.own (by intro e;exact hne (qh.1 e))
  have DG:gY=gW:=by
   injection xC with h1;injection h1 with h1;injection h1 with h1;exact h1.symm
  omega
 ·exact Nu.below (je.mo) fun b hb hb'=>by
   rcases aP.1 hb' with e|e
   ·omega
   ·simp[Value.ownBlock] at e
end
section
variable{rg:List (List Pt)}{l:List Nd}{r:Int}{Xs:List PB}{bs:List Nat}{g cap:Nat}{w0:World}
theorem ahH(h:SX rg l r Xs)(hB:BD Xs)(hbb:∀b∈bs,b<w0.heap.size)(hg0:g<w0.heap.size)(k:Nat)(lv:Value)(gW cW:Nat)(L:List Nat)(gR cR n ob:Nat)(w5:World)(he:Xf bs Xs g w0 k lv gW cW L gR cR n ob w5):
  Calls Tryz.prog 115 #[.pointer (some ⟨ob,0,none⟩),.slice (some ⟨gR,0,none⟩) n cR] w5 fun e w6=>e=.returned (.tuple #[])/\FQ bs Xs g w0 k lv gW cW L ob 0 w6:=by
 obtain⟨PH,T,ow,wr,w1,w2,lo,O,rv,ph,hM,jQ,fD,rfl,mB,ahD,Nu⟩:=he;obtain⟨hW,jn,hrl,mG,Nv⟩:=Xl h hB hM;have xA:=h.Ik hW;have hs:=hM.sz;have hen:=hM.en;subst hen;have hP:=h.pv hB k (by have:=hM.kl;omega)
 generalize hq:(aL Xs k).ow (gA Xs (xi Xs k).f)=q at*;have ll:q<PH.length:=(bU.1 fD).1;have Du:q<(aL Xs k).ps.length:=by rw[<-hM.hi.pi.len];exact ll
 have hps:(aL Xs k).ps[q]?=some ((aL Xs k).ps.getD q ([],[])):=by
  rw[kI,aD Du];rfl
 generalize ahI:(aL Xs k).ps.getD q ([],[])=ps at*;have hA:=hM.hi.pi.pg q ph ps fD hps;have kz:=lt_of_heap hA.blk;have k5:∀b,b<w2.heap.size->w5.heap[b]?=w2.heap[b]?:=fun b hb=>(mB b (by omega)).trans (Below.heap_alloc _ _ _ hb)
 have Nz:∀b,w0.heap.size<=b->b<wr.heap.size->w5.heap[b]?=wr.heap[b]?:=fun b h1 h2=>(k5 b (by omega)).trans (hM.same hbb h1 h2)
 obtain⟨gX,cX,hv,hgl,dh,_,hcell⟩:=lW hM.ri.ro mG;have xB:gX=gR:=by
  injection hv with h1;injection h1 with h1;injection h1 with h1;exact h1.symm
 subst xB;have hzl:(rv.zip (bg Xs L)).length=rv.length:=by rw[List.length_zip];omega
 have DI:∀b,ph.hv.ownBlock=some b->w0.heap.size<=b/\b<wr.heap.size:=fun b e=>aB hA.ho b e
 have ahJ:ph.hv.ownBlock≠some ph.pb:=fun e=>by
  have h1:=hA.th _ e;rw[hA.tp] at h1;cases h1
 have Ny:TK w5 w0.heap.size ph.pb ph.hv ph.sv ph.hv ph.hvs w5:=⟨(Nz _ hA.ge kz).trans hA.blk,aO hA.ho fun b e=>Nz b (DI b e).1 (DI b e).2,Mo.refl _ _,fun b e=>ae e,ahJ⟩
 have ahK:∀p∈rv.zip (bg Xs L),bQ Xs p.2=false:=fun p hp=>by
  obtain⟨i,hi,e⟩:=jL.1 hp;have hm:=bh (Dt (by rw[aD hi,e]:(rv.zip (bg Xs L))[i]?=some p)).2
  cases hsh:bQ Xs p.2
  ·rfl
  ·rw[Ag.2 ⟨p.2,hm,hsh⟩] at jQ;cases jQ
 obtain⟨ahL,ahM⟩:=ahy (bQ Xs) (ph.sv,ps.1) (rv.zip (bg Xs L)) ahK;have Xn:∀b,b<w2.heap.size->wr.heap.size<=b\/b<w0.heap.size->b∉ph.pb::ph.hv.ownBlock.toList:=fun b _ hb hk=>by
  have hge:=hA.ge;rcases aP.1 hk with e|e
  ·omega
  ·have e':ph.hv.ownBlock=some b:=by simpa using e
   have:=DI b e';omega
 have xy:ph.hvs.length<=85000000:=by
  have h1:=hP.hol q ps hps;have h2:=hA.hl;have h3:=hB.len;omega
 have hcall:=WH (bQ Xs) (rv.zip (bg Xs L)) (ph.sv,ps.1) ph.pb gX cR w0.heap.size ph.hv ph.hvs w5 (by rw[hzl];exact hrl) xy (by omega) Ny ⟨by omega,fun e=>by have:=DI gX e;omega⟩
  (fun i p hp=>by
   obtain⟨h1,h2⟩:=Dt hp;exact⟨(World.cell?_of_block (w:=w2) (k5 gX dh)).trans (hcell i p.1 h1),DA (hM.ri.ring i p.1 p.2 h1 h2).1⟩)
  (fun p hp w' hm=>by
   have km:∀b,b<w2.heap.size->wr.heap.size<=b\/b<w0.heap.size->w'.heap[b]?=w2.heap[b]?:=fun b hb hb'=>(hm.block b (by omega) (Xn b hb hb')).trans (k5 b hb)
   exact hM.shell hB xA hW.lt jn p hp w' (km g (by omega) (af hg0)) (fun b hb=>km b (by have:=hbb b hb;omega) (af (hbb b hb))) (fun b h1 h2=>km b h2 (ae (by omega))))
 rw[hzl,ahL,ahM] at hcall;refine hcall.mono ?_;rintro e w6 ⟨rfl,hv',je⟩;have k6:∀b,b<w2.heap.size->wr.heap.size<=b\/b<w0.heap.size->w6.heap[b]?=w2.heap[b]?:=fun b hb hb'=>(je.mo.block b (by omega) (Xn b hb hb')).trans (k5 b hb)
 have ahN:=hM.hi.pi.more (w5:=w5) (w6:=w6) (rv.zip (bg Xs L)) w1.heap.size w2.heap.size q ph ps fD hps hv' (by omega) (by omega) (by omega) (by omega)
  (hM.Nq.keep (w':=w6) fun b h1 h2=>k6 b h2 (ae (by omega)))
  (fun b h1 h2 ht1 ht2=>(je.mo.block b (by omega) (fun hk=>by
   rcases aP.1 hk with e|e
   ·rw[e] at ht1;exact ht1 hA.tp
   ·have e':ph.hv.ownBlock=some b:=by simpa using e
    exact ht2 (hA.th b e'))).trans (Nz b h1 h2))
  je.jH je.own je.fresh
 obtain⟨T',j4⟩:=ahN;have hst:aL Xs (k+1)=⟨fun j=>(aL Xs k).aJ j||L.contains j,fun j=>if L.contains j then q else(aL Xs k).ow j,(aL Xs k).ps.set q (ps.1,ps.2++bg Xs L)⟩:=by
  rw[xz];unfold mQ;rw[<-hM.eL,aa (by rw[hM.un];simp),aa (by rw[jQ];simp),hq,ahI]
 have hz2:(rv.zip (bg Xs L)).map (·.2)=bg Xs L:=List.map_snd_zip (by omega)
 rw[hz2] at j4;refine⟨rfl,hM.kl,hW.lt,by rw[hst];exact fun _=>rfl,by rw[hst];exact fun j hj=>by simp only[hj,iC,jg],_,T',ow,q,⟨ph.pb,ph.sv,hv',ph.hvs++(rv.zip (bg Xs L)).map (·.1)⟩,by rw[hst];exact j4,by rw[hst];exact fun j hj=>by simp only[hj,fJ],ql ll,rfl,fun j hj kE=>?_,?_,fun t s hts=>?_,?_,?_⟩
 ·obtain⟨rH,DJ,how⟩:=hM.hi.own j hj kE;by_cases zK:q=(aL Xs k).ow j
  ·refine⟨⟨ph.pb,ph.sv,hv',ph.hvs++(rv.zip (bg Xs L)).map (·.1)⟩,by rw[<-zK];exact ql ll,?_⟩
   rw[how];rw[<-zK,fD] at DJ;injection DJ with DJ;rw[DJ]
  ·exact⟨rH,by rw[vE zK];exact DJ,how⟩
 ·have hsw:=hM.Il;refine SW.congr (mk:=fun j=>(aL Xs k).aJ j||L.contains j) (ow:=ow) ⟨hsw.len,hsw.nd,hsw.ng,fun i hi=>?_,fun i hi=>?_⟩ (fun _ _=>rfl) (fun i _=>by unfold zJ;simp)
  ·exact(World.cell?_of_block (w:=w2) (k6 g (by omega) (af hg0))).trans (hsw.row i hi)
  ·have:=hbb _ (oL hi);exact(k6 _ (by omega) (af this)).trans (hsw.side i hi)
 ·obtain⟨gY,cY,xC,Ip,fV,_,_,_,hcl⟩:=lU hM.ws.own (by
   intro e;have:=qh.1 e;rw[this] at hts;simp at hts)
  have DG:gY=gW:=by
   injection xC with h1;injection h1 with h1;injection h1 with h1;exact h1.symm
  subst DG;have hc:=hcl t (bx bs s) (by rw[fR,hts];rfl)
  rw[js] at hc;refine(World.cell?_of_block (w:=w1) (?_:w6.heap[gY]?=w1.heap[gY]?)).trans hc;exact(k6 gY (by omega) (ae Ip)).trans (hM.ri.below.block gY fV)
 ·have hne:L≠[]:=fun e=>by have:=hW.head;rw[e] at this;simp at this
  obtain⟨gY,cY,xC,Ip,_⟩:=lU hM.ws.own (by intro e;exact hne (qh.1 e))
  have DG:gY=gW:=by
   injection xC with h1;injection h1 with h1;injection h1 with h1;exact h1.symm
  omega
 ·exact Nu.below (je.mo) fun b hb hb'=>by
   have hge:=hA.ge;rcases aP.1 hb' with e|e
   ·omega
   ·have e':ph.hv.ownBlock=some b:=by simpa using e
    have:=DI b e';omega
theorem ahO(hbb:∀b∈bs,b<w0.heap.size)(k:Nat)(lv:Value)(gW cW:Nat)(L:List Nat)(ob t:Nat)(wr:World)(hF:FQ bs Xs g w0 k lv gW cW L ob t wr)(ht:t<L.length):∃b o,wr.cell? ⟨gW,t,none⟩=some (.pointer (some ⟨b,0,none⟩))/\wr.cell? ⟨b,7,none⟩=some o/\wr.frozen? ⟨b,7,none⟩=false/\FQ bs Xs g w0 k lv gW cW L ob (t+1) (wr.setCell ⟨b,7,none⟩ (.pointer (some ⟨ob,0,none⟩))):=by
 obtain⟨hk,hlt,hmk,NA,PH,T,ow,q,ph,j4,hq,fD,hpb,hown,hsw,hcell,NB,hmo⟩:=hF;obtain⟨s,hs⟩:∃s,L[t]?=some s:=⟨_,aD ht⟩;have hsl:s<bs.length:=by rw[hsw.len];exact hlt s (bh hs)
 have DF:=hsw.side s hsl;have hbs:=hbb _ (oL hsl);have kk:∀b,w0.heap.size<=b->(wr.setCell ⟨bx bs s,7,none⟩ (.pointer (some ⟨ob,0,none⟩))).heap[b]?=wr.heap[b]?:=fun b hb=>Below.heap_setCell _ _ _ _ (by show b≠bx bs s;omega)
 refine⟨bx bs s,_,hcell t s hs,cell_of DF 7,aX DF 7,hk,hlt,hmk,NA,PH,T,ow,q,ph,j4.keep (fun b hb _=>kk b hb),hq,fD,hpb,hown,?_,fun t' s' hs'=>(World.cell?_of_block (w:=wr) (kk gW NB)).trans (hcell t' s' hs'),NB,hmo.trans (Mo.setCell bs wr (p:=⟨bx bs s,7,none⟩) (oL hsl) _)⟩
 refine(hsw.own hsl ob).congr (fun _ _=>rfl) (fun i _=>?_)
 have htk:L.take (t+1)=L.take t++[s]:=by rw[jh,hs];rfl
 unfold zJ;rw[htk];by_cases hi:i=s
 ·rw[ah hi,ah (by rw[hi];simp)]
 ·rw[aa hi];have:(L.take t++[s]).contains i=(L.take t).contains i:=by
   simp only[List.contains_eq_mem,bT,bI];simp[hi]
  rw[this]
theorem ahP(k:Nat)(lv:Value)(gW cW:Nat)(L:List Nat)(ob:Nat)(wr:World)(hF:FQ bs Xs g w0 k lv gW cW L ob L.length wr):Im bs Xs g w0 (k+1) lv wr:=by
 obtain⟨hk,hlt,hmk,NA,PH,T,ow,q,ph,j4,hq,fD,hpb,hown,hsw,hcell,NB,hmo⟩:=hF;rw[fg] at hsw;refine⟨by omega,PH,T,zJ ow L ob,hsw.congr (fun i _=>hmk i) (fun _ _=>rfl),j4,fun j hj kE=>?_,hmo⟩
 rw[hmk] at kE;unfold zJ;cases hc:L.contains j
 ·rw[hc,Ew] at kE;obtain⟨rH,h1,h2⟩:=hown j hj kE;exact⟨rH,by rw[NA j hc];exact h1,by simp only[iC,jg];exact h2⟩
 ·exact⟨ph,by rw[hq j hc];exact fD,by simp only[fJ];rw[hpb]⟩
theorem ahQ(h:SX rg l r Xs)(hB:BD Xs)(hbb:∀b∈bs,b<w0.heap.size)(hg0:g<w0.heap.size)(hbc:bs.length<=cap)(hsw:SW g bs Xs (fun _=>false) (fun _=>none) w0)(Q:Value->World->Prop)
  (HS:∀lv PH T wr,PI bs w0.heap.size lv (aL Xs Xs.length).ps PH T wr->RB wr g bs Xs->bs.Nodup->Mo bs w0 wr->PH.length<=85000000->Calls Tryz.prog 116 #[lv] wr fun e w'=>e=.returned (.tuple #[])/\Q lv w'):
  Calls Tryz.prog 69 #[.slice (some ⟨g,0,none⟩) bs.length cap] w0 fun e w'=>∃lv,e=.returned lv/\Q lv w':=by
 have hlen:=hsw.len;have hC:WZ bs g cap (Im bs Xs g w0) (BQ bs Xs g w0) (Nr bs Xs g w0) (Ns bs Xs g w0) (DQ bs Xs g w0 true) (DQ bs Xs g w0 false) (EQ bs Xs g w0) (FQ bs Xs g w0) Q w0.heap.size:=
  ⟨fun k lv wr hI hk=>aht k lv wr hI hk,fun k lv wr hb=>ahu h hB hg0 hbc k lv wr hb,fun k lv gW cW L w1 hc=>ahw h hB k lv gW cW L w1 hc,fun k lv gW cW L gR cR n w2 hc=>ahx h hB hbb hg0 k lv gW cW L gR cR n w2 hc,fun k lv gW cW L gR cR n N w4 hd=>ahz h hB hbb k lv gW cW L gR cR n N w4 hd,fun k lv gW cW L gR cR n N w4 hd=>ahA h hB hbb k lv gW cW L gR cR n N w4 hd,
   fun k lv gW cW L gR cR n ob w5 he=>by
    rcases he with he|he
    ·exact ahC h hB hbb hg0 k lv gW cW L gR cR n ob w5 he
    ·exact ahH h hB hbb hg0 k lv gW cW L gR cR n ob w5 he,
   fun k lv gW cW L ob t wr hF ht=>ahO hbb k lv gW cW L ob t wr hF ht,fun k lv gW cW L ob wr hF _=>ahP k lv gW cW L ob wr hF,fun lv wr hI=>by
    obtain⟨_,PH,T,ow,hH⟩:=hI;rw[hlen] at hH;refine HS lv PH T wr hH.pi hH.sw.rb hH.sw.nd hH.mo ?_;rw[hH.pi.len];have h1:=(h.pv hB Xs.length (ax _)).len;have h2:=hB.len;omega⟩
 refine ahn bs g cap _ _ _ _ _ _ _ _ Q w0.heap.size hC w0 (by rw[hlen];exact hB.len) ⟨iq _,[],fun _=>.ring,fun _=>none,?_⟩
 exact⟨hsw,⟨World.ownsRow_nil _ _ _ _,fun k e=>by simp[Value.ownBlock] at e,rfl,fun q ph ps hq=>by simp at hq⟩,fun j _ hm=>by simp[aL] at hm,Mo.refl _ _⟩
end
end Go.Proofs.YtkjhhooecopolaaGreatDoor
