import Derived.Test.YtkjhhooecopolaaGreatDoorWz30
set_option maxRecDepth 100000
set_option maxHeartbeats 4000000
namespace Go.Proofs.YtkjhhooecopolaaGreatDoor
open Go.RowKit
open Ge
theorem mZ{w:World}{base:Nat}{e:TypeId}{v:Value}{n:Nat}{xs:List Value}(h:w.ownsRow base e 1 v n xs)(hn:0<n):
  ∃gT cT,v=.slice (some ⟨gT,0,none⟩) n cT/\base<=gT/\gT<w.heap.size/\xs.length=n/\∀(i:Nat) u,xs[i]?=some u->w.cell? ⟨gT,i,none⟩=some u:=by
 obtain⟨h1,h2⟩:=h;rcases h2 with⟨_,h0⟩|⟨g,cap,cur,hv,hg,hb,hc,hm,hs,ht⟩
 ·omega
 ·refine⟨g,cap,hv,hg,lt_of_heap hb,by omega,fun i u hi=>?_⟩
  rw[<-ht,kj] at hi;split at hi
  ·unfold World.cell?;rw[hb];simpa using hi
  ·cases hi
theorem ER{w:World}{base:Nat}{e:TypeId}{v:Value}{n:Nat}{xs:List Value}(h:w.ownsRow base e 1 v n xs):∃so m c,v=.slice so m c:=by
 rcases h.2 with⟨h,_⟩|⟨_,_,_,h,_⟩
 ·exact⟨_,_,_,h⟩
 ·exact⟨_,_,_,h⟩
theorem OA(Xs:List PB)(A:List Nat):(di Xs A).length=(dw Xs A).length:=by
 unfold di;rw[aX,rp,iE];omega
theorem aiL(Xs:List PB)(A:List Nat):∀a∈di Xs A,a∈A:=fun a ha=>by
 unfold di at ha;rcases bQ.1 ha with h|h
 ·exact NR Xs A a (QD h)
 ·exact NR Xs A a (qh h)
section
variable{rg:List (List Pt)}{l:List Nd}{r:Int}{Xs:List PB}
theorem SX.OB(h:SX rg l r Xs){L:List Nat}{n0:Nd}(hL:jP Xs L)(hl:∀a∈L,a<Xs.length)(h0:∀s,L[0]?=some s->(xi Xs s).f=n0):∀k,k<=L.length->∀ring∈(bJ Xs (L.take k)).2,ring≠[]/\(∀a∈ring,a∈L)/\ring.length<=L.length
 |0,_,ring,hr=>by simp[bJ] at hr
 |k+1,hk,ring,hr=>by
  obtain⟨s,hs⟩:∃s,L[k]?=some s:=⟨_,aC (by omega)⟩
  have htk:L.take (k+1)=L.take k++[s]:=by rw[jF,hs];rfl
  rw[htk,wJ] at hr;unfold jo at hr;split at hr
  ·rename_i hst
   rcases bQ.1 hr with hr|hr
   ·exact h.OB hL hl h0 k (by omega) ring hr
   ·have e:=bY.1 hr;have hne:=h.parts hL hl h0 k s hs hst;have hlen:=Ey Xs L k;have hm:∀a∈(bJ Xs (L.take k)).1++[s],a∈L:=fun a ha=>by
     rcases bQ.1 ha with ha|ha
     ·exact Jt Xs L k a ha
     ·rw[bY.1 ha];exact aZ hs
    refine⟨fun h'=>?_,fun a ha=>?_,?_⟩
    ·have:=au List.length h';rw[e,OA] at this;exact hne (gF.1 this)
    ·rw[e] at ha;exact hm a (QD (aiL Xs _ a ha))
    ·rw[e,OA];have:=NU Xs (((bJ Xs (L.take k)).1++[s]).drop (ie Xs ((bJ Xs (L.take k)).1++[s]) s).toNat);rw[rp,aX] at this;simp only[cN,gP] at this;omega
  ·exact h.OB hL hl h0 k (by omega) ring hr
theorem SX.JC(h:SX rg l r Xs){L:List Nat}{k:Nat}(hW:Wk Xs k L):∀ring∈bp Xs L,ring≠[]/\(∀a∈ring,a∈L)/\ring.length<=L.length:=by
 have h0:∀s,L[0]?=some s->(xi Xs s).f=(xi Xs k).f:=fun s hs=>by
  rw[hW.head] at hs;injection hs with hs;rw[hs]
 have:=h.OB hW.conn hW.lt h0 L.length (ay _);rw[gm] at this;exact this
end
structure HI(bs:List Nat)(Xs:List PB)(g:Nat)(w0:World)(k:Nat)(lv:Value)(PH:List jC)(T:Nat->Tg)(ow:Nat->Option Nat)(wr:World):Prop where
 sw:SW g bs Xs (aM Xs k).aK ow wr
 pi:PI bs w0.heap.size lv (aM Xs k).ps PH T wr
 own:∀j,j<Xs.length->(aM Xs k).aK j=true->∃ph,PH[(aM Xs k).ow j]?=some ph/\ow j=some ph.pb
 mo:Mo bs w0 wr
structure lO(bs:List Nat)(Xs:List PB)(g:Nat)(w0:World)(k:Nat)(lv:Value)(gW cW:Nat)(L:List Nat)(gR cR n:Nat)(PH:List jC)(T:Nat->Tg)(ow:Nat->Option Nat)(wr w1 w2:World)(lo:Value)(O:List Nat)(rv:List Value):Prop where
 hi:HI bs Xs g w0 k lv PH T ow wr
 kl:k<Xs.length
 un:(aM Xs k).aK k=false
 eL:L=cM Xs (aM Xs k).aK k
 ws:WS wr g bs Xs (aM Xs k).aK ow (.slice (some ⟨gW,0,none⟩) L.length cW) L w1
 ri:RI bs w1 lo (.slice (some ⟨gR,0,none⟩) n cR) O (bp Xs L) rv w2
 en:n=rv.length
section
variable{bs:List Nat}{Xs:List PB}{g:Nat}{w0:World}{k:Nat}{lv:Value}{gW cW:Nat}{L:List Nat}{gR cR n:Nat}{PH:List jC}{T:Nat->Tg}{ow:Nat->Option Nat}{wr w1 w2:World}{lo:Value}{O:List Nat}{rv:List Value}
theorem lO.sz(h:lO bs Xs g w0 k lv gW cW L gR cR n PH T ow wr w1 w2 lo O rv):w0.heap.size<=wr.heap.size/\wr.heap.size<=w1.heap.size/\w1.heap.size<=w2.heap.size:=⟨h.hi.mo.size,h.ws.mo.size,h.ri.below.size⟩
theorem lO.same(h:lO bs Xs g w0 k lv gW cW L gR cR n PH T ow wr w1 w2 lo O rv)(hbb:∀b∈bs,b<w0.heap.size){b:Nat}(hb:w0.heap.size<=b)(hz:b<wr.heap.size):w2.heap[b]?=wr.heap[b]?:=by
 have hs:=h.sz;exact(h.ri.below.block b (by omega)).trans (h.ws.mo.block b hz (fun hk=>by have:=hbb b hk;omega))
theorem lO.JD(h:lO bs Xs g w0 k lv gW cW L gR cR n PH T ow wr w1 w2 lo O rv):SW g bs Xs (fun j=>(aM Xs k).aK j||L.contains j) ow w2:=h.ws.sw.below h.ri.below
theorem lO.OD(h:lO bs Xs g w0 k lv gW cW L gR cR n PH T ow wr w1 w2 lo O rv):RV bs w1.heap.size w2.heap.size (rv.zip (bp Xs L)) w2:=by
 refine⟨fun p hp=>?_⟩
 obtain⟨i,hi,e⟩:=iO.1 hp;obtain⟨h1,h2⟩:=EJ (by rw[aC hi,e]:(rv.zip (bp Xs L))[i]?=some p)
 have k1:=(h.ri.ring i p.1 p.2 h1 h2).1;exact⟨k1,fun k e=>(aB k1 k e).2⟩
theorem lO.shell(h:lO bs Xs g w0 k lv gW cW L gR cR n PH T ow wr w1 w2 lo O rv)(hB:BD Xs)(yE:∀ring∈bp Xs L,ring≠[]/\(∀a∈ring,a∈L)/\ring.length<=L.length)(jN:∀a∈L,a<Xs.length)(hLn:L.length<=85000000)(p:VR)(hp:p∈rv.zip (bp Xs L))(w':World)(hg:w'.heap[g]?=w2.heap[g]?)(hbs:∀b∈bs,w'.heap[b]?=w2.heap[b]?)(hr:∀b,w1.heap.size<=b->b<w2.heap.size->w'.heap[b]?=w2.heap[b]?):
  Calls Tryz.prog 113 #[p.1] w' fun e w''=>e=.returned (.bool (cC Xs p.2))/\Below w'.heap.size w' w'':=by
 have hsw:=h.JD;have aiM:SW g bs Xs (fun j=>(aM Xs k).aK j||L.contains j) ow w':=
  ⟨hsw.len,hsw.nd,hsw.ng,fun i hi=>(World.cell?_of_block (w:=w2) hg).trans (hsw.row i hi),fun i hi=>(hbs _ (pT hi)).trans (hsw.side i hi)⟩
 have hz:=(h.OD).keep (w':=w') hr;have hpr:p.2∈bp Xs L:=by
  obtain⟨i,hi,e⟩:=iO.1 hp;exact aZ (EJ (by rw[aC hi,e]:(rv.zip (bp Xs L))[i]?=some p)).2
 obtain⟨f1,f2,f3⟩:=yE p.2 hpr;exact ahW bs Xs hB g _ ow w' aiM p.2 f1 (by omega) (fun a ha=>by rw[hsw.len];exact jN a (f2 a ha)) _ p.1 (hz.own p hp).1
end
def nY:Obj:=.cells #[.slice none 0 0,.slice none 0 0] 187
section
variable(bs:List Nat)(Xs:List PB)(g cap:Nat)(w0:World)
def JE(k:Nat)(lv:Value)(wr:World):Prop:=k<=Xs.length/\∃PH T ow,HI bs Xs g w0 k lv PH T ow wr
def BQ(k:Nat)(lv:Value)(wr:World):Prop:=k<Xs.length/\(aM Xs k).aK k=false/\∃PH T ow,HI bs Xs g w0 k lv PH T ow wr
def OE(k:Nat)(lv:Value)(gW cW:Nat)(L:List Nat)(w1:World):Prop:=k<Xs.length/\(aM Xs k).aK k=false/\L=cM Xs (aM Xs k).aK k/\∃PH T ow wr,HI bs Xs g w0 k lv PH T ow wr/\WS wr g bs Xs (aM Xs k).aK ow (.slice (some ⟨gW,0,none⟩) L.length cW) L w1
def OG(k:Nat)(lv:Value)(gW cW:Nat)(L:List Nat)(gR cR n:Nat)(w2:World):Prop:=∃PH T ow wr w1 lo O rv,lO bs Xs g w0 k lv gW cW L gR cR n PH T ow wr w1 w2 lo O rv
def DQ(v:Bool)(k:Nat)(lv:Value)(gW cW:Nat)(L:List Nat)(gR cR n N:Nat)(w4:World):Prop:=∃PH T ow wr w1 w2 lo O rv,lO bs Xs g w0 k lv gW cW L gR cR n PH T ow wr w1 w2 lo O rv/\N=w2.heap.size/\Below (w2.heap.size+1) (w2.alloc nY) w4/\(bp Xs L).any (cC Xs)=v
def Ye(k:Nat)(BW:Value)(gW cW:Nat)(L:List Nat)(gR cR n ob:Nat)(w5:World):Prop:=∃lv PH T ow wr w1 w2 lo O rv,lO bs Xs g w0 k lv gW cW L gR cR n PH T ow wr w1 w2 lo O rv/\ob=w2.heap.size/\(bp Xs L).any (cC Xs)=true/\
 w5.ownsRow w0.heap.size 165 1 BW (PH.length+1) (PH.map jq++[.pointer (some ⟨w2.heap.size,0,none⟩)])/\(∀k,BW.ownBlock=some k->lv.ownBlock=some k\/(w2.heap.size<k/\k<w5.heap.size))/\(∀b,b<w2.heap.size+1->lv.ownBlock≠some b->w5.heap[b]?=(w2.alloc nY).heap[b]?)/\w2.heap.size+1<=w5.heap.size/\Mo bs w0 w5
def Yf(k:Nat)(lv:Value)(gW cW:Nat)(L:List Nat)(gR cR n ob:Nat)(w5:World):Prop:=∃PH T ow wr w1 w2 lo O rv ph,lO bs Xs g w0 k lv gW cW L gR cR n PH T ow wr w1 w2 lo O rv/\(bp Xs L).any (cC Xs)=false/\PH[(aM Xs k).ow (ij Xs (xi Xs k).f)]?=some ph/\ob=ph.pb/\(∀b,b<w2.heap.size+1->w5.heap[b]?=(w2.alloc nY).heap[b]?)/\w2.heap.size+1<=w5.heap.size/\Mo bs w0 w5
def EQ(k:Nat)(lv:Value)(gW cW:Nat)(L:List Nat)(gR cR n ob:Nat)(w5:World):Prop:=Ye bs Xs g w0 k lv gW cW L gR cR n ob w5\/Yf bs Xs g w0 k lv gW cW L gR cR n ob w5
def AY(ow:Nat->Option Nat)(A:List Nat)(o:Nat):Nat->Option Nat:=fun j=>if A.contains j then some o else ow j
def FQ(k:Nat)(lv:Value)(gW _cW:Nat)(L:List Nat)(ob t:Nat)(wr:World):Prop:=k<Xs.length/\(∀a∈L,a<Xs.length)/\(∀j,(aM Xs (k+1)).aK j=((aM Xs k).aK j||L.contains j))/\(∀j,L.contains j=false->(aM Xs (k+1)).ow j=(aM Xs k).ow j)/\
 ∃PH T ow q ph,PI bs w0.heap.size lv (aM Xs (k+1)).ps PH T wr/\(∀j,L.contains j=true->(aM Xs (k+1)).ow j=q)/\PH[q]?=some ph/\ph.pb=ob/\(∀j,j<Xs.length->(aM Xs k).aK j=true->∃ph,PH[(aM Xs k).ow j]?=some ph/\ow j=some ph.pb)/\
 SW g bs Xs (fun j=>(aM Xs k).aK j||L.contains j) (AY ow (L.take t) ob) wr/\(∀(t s:Nat),L[t]?=some s->wr.cell? ⟨gW,t,none⟩=some (.pointer (some ⟨bx bs s,0,none⟩)))/\w0.heap.size<=gW/\Mo bs w0 wr
end
section
variable{rg:List (List Pt)}{l:List Nd}{r:Int}{Xs:List PB}{bs:List Nat}{g cap:Nat}{w0:World}
theorem aiO(k:Nat)(lv:Value)(wr:World)(h:JE bs Xs g w0 k lv wr)(hk:k<bs.length):wr.cell? ⟨g,k,none⟩=some (.pointer (some ⟨bx bs k,0,none⟩))/\∃m,wr.cell? ⟨bx bs k,6,none⟩=some (.bool m)/\(m=true->JE bs Xs g w0 (k+1) lv wr)/\(m=false->BQ bs Xs g w0 k lv wr):=by
 obtain⟨_,PH,T,ow,hI⟩:=h;have hkX:k<Xs.length:=by rw[<-hI.sw.len];exact hk
 refine⟨hI.sw.row k hk,(aM Xs k).aK k,cell_of (hI.sw.side k hk) 6,fun hm=>⟨by omega,PH,T,ow,?_⟩,fun hm=>⟨hkX,hm,PH,T,ow,hI⟩⟩
 have e:aM Xs (k+1)=aM Xs k:=by
  rw[yD];unfold nX;rw[aj hm]
 exact⟨by rw[e];exact hI.sw,by rw[e];exact hI.pi,by rw[e];exact hI.own,hI.mo⟩
theorem aiP(h:SX rg l r Xs)(hB:BD Xs)(hg0:g<w0.heap.size)(hbc:bs.length<=cap)(k:Nat)(lv:Value)(wr:World)(hb:BQ bs Xs g w0 k lv wr):
  Calls Tryz.prog 110 #[.slice (some ⟨g,0,none⟩) bs.length cap,.pointer (some ⟨bx bs k,0,none⟩)] wr fun e w1=>∃gW cW L,e=.returned (.slice (some ⟨gW,0,none⟩) L.length cW)/\L.length<=85000000/\OE bs Xs g w0 k lv gW cW L w1:=by
 obtain⟨hk,hm,PH,T,ow,hI⟩:=hb;have hP:=h.pv hB k (by omega)
 obtain⟨hc,hW⟩:=h.walk hB hP hk hm;have hlen:=hI.sw.len;have jN:(cM Xs (aM Xs k).aK k).length<=85000000:=by
  have:=wO (mk:=(aM Xs k).aK) (fun j hj=>(h.next hB hj).1) Xs.length [] k hk
  have h2:=uE Xs.length (aM Xs k).aK [];have h3:=hB.len;have e:jn (cJ Xs) (aM Xs k).aK Xs.length [] k=cM Xs (aM Xs k).aK k:=rfl;rw[e] at this;simp only[gP] at this;omega
 refine(ahk bs Xs hB g cap k _ ow wr hI.sw (bu hg0 hI.mo.size) (by rw[hlen];exact hk) hbc (fun i hi=>h.go i hi)).mono ?_
 rintro e w1 ⟨lv1,rfl,qQ⟩;rw[hlen] at qQ;have Yg:WS wr g bs Xs (aM Xs k).aK ow lv1 (cM Xs (aM Xs k).aK k) w1:=qQ;have hne:cM Xs (aM Xs k).aK k≠[]:=fun e=>by have:=hW.head;rw[e] at this;simp at this
 obtain⟨gW,cW,hv,_⟩:=mV Yg.own (by intro e;exact hne (qg.1 e))
 subst hv;exact⟨gW,cW,_,rfl,jN,hk,hm,rfl,PH,T,ow,wr,hI,Yg⟩
theorem aiR(h:SX rg l r Xs)(hB:BD Xs)(k:Nat)(lv:Value)(gW cW:Nat)(L:List Nat)(w1:World)(hc1:OE bs Xs g w0 k lv gW cW L w1):
  Calls Tryz.prog 111 #[.slice (some ⟨gW,0,none⟩) L.length cW] w1 fun e w2=>∃gR cR n,e=.returned (.slice (some ⟨gR,0,none⟩) n cR)/\OG bs Xs g w0 k lv gW cW L gR cR n w2:=by
 obtain⟨hk,hm,eL,PH,T,ow,wr,hI,qQ⟩:=hc1;have hP:=h.pv hB k (by omega)
 obtain⟨hc,hW⟩:=h.walk hB hP hk hm;rw[<-eL] at hc hW;have hlen:=hI.sw.len;have hne:L≠[]:=fun e=>by have:=hW.head;rw[e] at this;simp at this
 have jN:L.length<=85000000:=by
  have:=wO (mk:=(aM Xs k).aK) (fun j hj=>(h.next hB hj).1) Xs.length [] k hk
  have h2:=uE Xs.length (aM Xs k).aK [];have h3:=hB.len;have e:jn (cJ Xs) (aM Xs k).aK Xs.length [] k=L:=eL.symm;rw[e] at this;simp only[gP] at this;omega
 have h0:∀s,L[0]?=some s->(xi Xs s).f=(xi Xs k).f:=fun s hs=>by
  rw[hW.head] at hs;injection hs with hs;rw[hs]
 obtain⟨gX,cX,hv,_,_,_,_,_,hcell⟩:=mV qQ.own (by intro e;exact hne (qg.1 e))
 have yF:gX=gW:=by
  injection hv with h1;injection h1 with h1;injection h1 with h1;exact h1.symm
 subst yF;refine(ahS bs Xs hB g _ ow w1 qQ.sw L jN (fun a ha=>by rw[hlen];exact hW.lt a ha) gX cW (fun i a hi=>hcell i (bx bs a) (by rw[gz,hi];rfl)) (fun k' s hs hst=>h.parts hW.conn hW.lt h0 k' s hs hst)).mono ?_
 rintro e w2 ⟨lvR,lo,O,rv,rfl,nU⟩;have qH:0<rv.length:=by
  rw[nU.len];exact iP.2 (Oy hW)
 obtain⟨gR,cR,hv2,_⟩:=mZ nU.ro qH;subst hv2;exact⟨gR,cR,rv.length,rfl,PH,T,ow,wr,w1,lo,O,rv,hI,hk,hm,eL,qQ,nU,rfl⟩
theorem aiS(h:SX rg l r Xs)(hB:BD Xs)(hbb:∀b∈bs,b<w0.heap.size)(hg0:g<w0.heap.size)(k:Nat)(lv:Value)(gW cW:Nat)(L:List Nat)(gR cR n:Nat)(w2:World)(hc2:OG bs Xs g w0 k lv gW cW L gR cR n w2):
  Calls Tryz.prog 112 #[.slice (some ⟨gR,0,none⟩) n cR,.func (.func 113) #[] #[]] (w2.alloc (.cells #[.slice none 0 0,.slice none 0 0] 187)) fun e w4=>∃b,e=.returned (.bool b)/\(b=true->DQ bs Xs g w0 true k lv gW cW L gR cR n w2.heap.size w4)/\(b=false->DQ bs Xs g w0 false k lv gW cW L gR cR n w2.heap.size w4):=by
 obtain⟨PH,T,ow,wr,w1,lo,O,rv,hM⟩:=hc2;have hP:=h.pv hB k (by have:=hM.kl;omega)
 obtain⟨hc,hW⟩:=h.walk hB hP hM.kl hM.un;rw[<-hM.eL] at hc hW;have yE:=h.JC hW;have jN:L.length<=85000000:=by
  have:=wO (mk:=(aM Xs k).aK) (fun j hj=>(h.next hB hj).1) Xs.length [] k hM.kl
  have h2:=uE Xs.length (aM Xs k).aK [];have h3:=hB.len;have e:jn (cJ Xs) (aM Xs k).aK Xs.length [] k=L:=hM.eL.symm;rw[e] at this;simp only[gP] at this;omega
 have hrl:rv.length<=85000000:=by
  rw[hM.ri.len];have:=(Ey Xs L L.length).2;rw[gm] at this;unfold bp;omega
 have qH:0<rv.length:=by
  rw[hM.ri.len];exact iP.2 (Oy hW)
 have hen:=hM.en;subst hen;obtain⟨gX,cX,hv,_,dH,_,hcell⟩:=mZ hM.ri.ro qH;have yF:gX=gR:=by
  injection hv with h1;injection h1 with h1;injection h1 with h1;exact h1.symm
 subst yF;have hal:∀b,b<w2.heap.size->(w2.alloc nY).heap[b]?=w2.heap[b]?:=fun b hb=>Below.heap_alloc _ _ _ hb
 have hs:=hM.sz;have hsz:(w2.alloc nY).heap.size=w2.heap.size+1:=by unfold nY;simp
 have hix:=ahX (cC Xs) (bp Xs L) rv hM.ri.len gX cR (w2.alloc nY) hrl (fun i v hi=>⟨(World.cell?_of_block (w:=w2) (hal gX dH)).trans (hcell i v hi),by
   obtain⟨q,hq⟩:∃q,(bp Xs L)[i]?=some q:=⟨_,aC (by rw[<-hM.ri.len];exact(bZ.1 hi).1)⟩
   exact ER (hM.ri.ring i v q hi hq).1⟩) (fun i v q hi hq w' hb=>by
   have hp:(v,q)∈rv.zip (bp Xs L):=aZ (aaZ.2 ⟨hi,hq⟩);have nJ:∀b,b<w2.heap.size->w'.heap[b]?=w2.heap[b]?:=fun b hb'=>(hb.block b (by rw[hsz];omega)).trans (hal b hb')
   exact hM.shell hB yE hW.lt jN (v,q) hp w' (nJ g (by omega)) (fun b hb'=>nJ b (by have:=hbb b hb';omega)) (fun b _ hb'=>nJ b hb'))
 refine(ahY _ gX rv.length cR (w2.alloc nY) hix).mono ?_;rintro e w4 ⟨rfl,hb4⟩;rw[XB];have Hj:Below (w2.heap.size+1) (w2.alloc nY) w4:=by rw[<-hsz];exact hb4
 exact⟨_,rfl,fun hv=>⟨PH,T,ow,wr,w1,w2,lo,O,rv,hM,rfl,Hj,hv⟩,fun hv=>⟨PH,T,ow,wr,w1,w2,lo,O,rv,hM,rfl,Hj,hv⟩⟩
end
theorem Yh(P:List Nat->Bool):∀(rv:List Value)(Rs:List (List Nat))(a:VR),rv.length=Rs.length->(fS P a (rv.zip Rs)).2=Rs.foldl (fun acc r=>if P r then r else acc) a.2
 |[],[],a,_=>rfl
 |v::rv,q::Rs,a,h=>by
  show(fS P (if P q then(v,q) else a) (rv.zip Rs)).2=Rs.foldl _ (if P q then q else a.2)
  rw[Yh P rv Rs _ (by simpa using h)]
  congr 1;split<;>rfl
 |[],_::_,_,h=>by simp at h
 |_::_,[],_,h=>by simp at h
theorem Yi(P:List Nat->Bool):∀(rv:List Value)(Rs:List (List Nat)),rv.length=Rs.length->(fT P (rv.zip Rs)).map (·.2)=Rs.filter fun r=> !P r
 |[],[],_=>rfl
 |v::rv,q::Rs,h=>by
  have ih:=Yi P rv Rs (by simpa using h)
  unfold fT at*;rw[Km,aaK,aaK];cases hq:P q
  ·simp only[Bool.not_false,gD,eI];rw[ih]
  ·simp only[Bool.not_true,js,jR];exact ih
 |[],_::_,h=>by simp at h
 |_::_,[],h=>by simp at h
theorem aiU(P:List Nat->Bool)(a:VR)(Z:List VR)(h:∀p∈Z,P p.2=false):fS P a Z=a/\fT P Z=Z:=by
 refine⟨?_,?_⟩
 ·rcases Oh P a Z with e|⟨e1,e2⟩
  ·exact e
  ·rw[h _ e1] at e2;cases e2
 ·unfold fT;exact Kn.2 fun p hp=>by rw[h p hp];rfl
section
variable{bs:List Nat}{Xs:List PB}{g:Nat}{w0:World}{k:Nat}{lv:Value}{gW cW:Nat}{L:List Nat}{gR cR n:Nat}{PH:List jC}{T:Nat->Tg}{ow:Nat->Option Nat}{wr w1 w2:World}{lo:Value}{O:List Nat}{rv:List Value}
theorem lO.Yj(h:lO bs Xs g w0 k lv gW cW L gR cR n PH T ow wr w1 w2 lo O rv):Mo bs wr w2:=h.ws.mo.trans (Mo.of bs h.ri.below)
theorem Yk{w2 w4:World}(hb:Below (w2.heap.size+1) (w2.alloc nY) w4):Below w2.heap.size w2 w4:=((Below.refl _ _).alloc (ay _) _).trans (hb.mono (by omega))
end
section
variable{rg:List (List Pt)}{l:List Nd}{r:Int}{Xs:List PB}{bs:List Nat}{g cap:Nat}{w0:World}
theorem aiV(h:SX rg l r Xs)(hB:BD Xs)(hbb:∀b∈bs,b<w0.heap.size)(k:Nat)(lv:Value)(gW cW:Nat)(L:List Nat)(gR cR n N:Nat)(w4:World)(hd:DQ bs Xs g w0 true k lv gW cW L gR cR n N w4):
  ∃np pp,w4.ownsRow w0.heap.size 165 1 lv np pp/\np<=85000000/\w0.heap.size<=w4.heap.size/\∀g' cap' w8,w8.ownsRow w0.heap.size 165 1 (.slice (some ⟨g',0,none⟩) (np+1) cap') (np+1) (pp++[.pointer (some ⟨N,0,none⟩)])->(w4.alloc (.cells #[.pointer (some ⟨N,0,none⟩)] 165)).grownBy w8 lv.ownBlock->(lv.ownBlock=some g'\/g'=w4.heap.size+1)->EQ bs Xs g w0 k (.slice (some ⟨g',0,none⟩) (np+1) cap') gW cW L gR cR n N w8:=by
 obtain⟨PH,T,ow,wr,w1,w2,lo,O,rv,hM,rfl,hb4,kz⟩:=hd;have hs:=hM.sz;have hsz:(w2.alloc nY).heap.size=w2.heap.size+1:=by unfold nY;simp
 have OH:=hb4.size;rw[hsz] at OH;have ET:=Yk hb4;have hP:=h.pv hB k (by have:=hM.kl;omega)
 have Jv:=hB.len;have hpl:=hP.len;have hlen:=hM.hi.pi.len;have hkl:=hM.kl;have hrow:=hM.hi.pi.row;have hlv:∀b,lv.ownBlock=some b->w0.heap.size<=b/\b<wr.heap.size:=fun b e=>aB hrow b e
 refine⟨PH.length,PH.map jq,aU hrow fun b e=>(ET.block b (by have:=hlv b e;omega)).trans (hM.same hbb (hlv b e).1 (hlv b e).2),by omega,by omega,fun g' cap' w8 cU bo hat=>ag ⟨lv,PH,T,ow,wr,w1,w2,lo,O,rv,hM,rfl,kz,cU,fun b e=>?_,fun b hb hne=>?_,?_,?_⟩⟩
 ·have e':g'=b:=by simpa[Value.ownBlock] using e
  subst e';rcases hat with hat|hat
  ·exact ag hat
  ·have:=(aB cU g' rfl).2;exact ah ⟨by omega,this⟩
 ·exact(bo.block b (by simp;omega) (fun e=>hne e.symm)).trans ((Below.heap_alloc _ _ _ (by omega)).trans (hb4.block b hb))
 ·have:=bo.size;simp at this;omega
 ·have m1:Mo bs w0 w4:=hM.hi.mo.trans (hM.Yj.trans (Mo.of bs ET));exact m1.below ((Mo.alloc lv.ownBlock.toList w4 _).trans (Mo.grown bo (fun b e=>by rw[e];simp))) fun b hb hb'=>by
   have e:lv.ownBlock=some b:=by simpa using hb'
   have:=hlv b e;omega
theorem aiW(h:SX rg l r Xs)(hB:BD Xs)(_hbb:∀b∈bs,b<w0.heap.size)(k:Nat)(lv:Value)(gW cW:Nat)(L:List Nat)(gR cR n N:Nat)(w4:World)(hd:DQ bs Xs g w0 false k lv gW cW L gR cR n N w4):
  ∃N1 N2 N3,w4.cell? ⟨bx bs k,2,none⟩=some (.complex .f64 N1 N2)/\w4.cell? ⟨bx bs k,3,none⟩=some (.int .i64 N3)/\Calls Tryz.prog 114 #[.slice (some ⟨g,0,none⟩) bs.length cap,.agg #[.complex .f64 N1 N2,.int .i64 N3]] w4 fun e w5=>∃bL ob,e=.returned (.pointer (some ⟨bL,0,none⟩))/\w5.cell? ⟨bL,7,none⟩=some (.pointer (some ⟨ob,0,none⟩))/\EQ bs Xs g w0 k lv gW cW L gR cR n ob w5:=by
 obtain⟨PH,T,ow,wr,w1,w2,lo,O,rv,hM,rfl,hb4,kz⟩:=hd;have hs:=hM.sz;have hsz:(w2.alloc nY).heap.size=w2.heap.size+1:=by unfold nY;simp
 have OH:=hb4.size;rw[hsz] at OH;have ET:=Yk hb4;have hP:=h.pv hB k (by have:=hM.kl;omega)
 have EU:=hM.JD.below ET;have hlen:=EU.len;have hkb:k<bs.length:=by rw[hlen];exact hM.kl
 have hS:=EU.rb.at hM.kl;have hno:∀ring∈bp Xs (cM Xs (aM Xs k).aK k),cC Xs ring=false:=fun ring hr=>by
  rw[<-hM.eL] at hr;cases hsh:cC Xs ring
  ·rfl
  ·rw[QF.2 ⟨ring,hr,hsh⟩] at kz;cases kz
 obtain⟨AX,hll,hlm⟩:=h.low hB hP hM.kl hM.un hno;obtain⟨ph,fU,how⟩:=hM.hi.own _ hll hlm;refine⟨_,_,_,hS.c2,hS.c3,(aih bs Xs hB EU.nd (xi Xs k).f (hB.v _ (gu hM.kl)).f g cap w4 EU.rb AX).mono ?_⟩;rintro e w5 ⟨rfl,az⟩;have aiX:=EU.below az;have EW:=aiX.side (ij Xs (xi Xs k).f) (by rw[hlen];exact hll)
 rw[how] at EW;refine⟨_,ph.pb,rfl,cell_of EW 7,ah ⟨PH,T,ow,wr,w1,w2,lo,O,rv,ph,hM,kz,fU,rfl,fun b hb=>(az.block b (by omega)).trans (hb4.block b hb),by have:=az.size;omega,?_⟩⟩
 exact hM.hi.mo.trans (hM.Yj.trans ((Mo.of bs ET).trans (Mo.of bs az)))
theorem Yl(h:SX rg l r Xs)(hB:BD Xs){k:Nat}{lv:Value}{gW cW:Nat}{L:List Nat}{gR cR n:Nat}{PH:List jC}{T:Nat->Tg}{ow:Nat->Option Nat}{wr w1 w2:World}{lo:Value}{O:List Nat}{rv:List Value}(hM:lO bs Xs g w0 k lv gW cW L gR cR n PH T ow wr w1 w2 lo O rv):
  Wk Xs k L/\L.length<=85000000/\rv.length<=85000000/\0<rv.length/\rv.length=(bp Xs L).length:=by
 have hP:=h.pv hB k (by have:=hM.kl;omega)
 obtain⟨hc,hW⟩:=h.walk hB hP hM.kl hM.un;rw[<-hM.eL] at hc hW;have jN:L.length<=85000000:=by
  have:=wO (mk:=(aM Xs k).aK) (fun j hj=>(h.next hB hj).1) Xs.length [] k hM.kl
  have h2:=uE Xs.length (aM Xs k).aK [];have h3:=hB.len;have e:jn (cJ Xs) (aM Xs k).aK Xs.length [] k=L:=hM.eL.symm;rw[e] at this;simp only[gP] at this;omega
 refine⟨hW,jN,?_,?_,hM.ri.len⟩
 ·rw[hM.ri.len];have:=(Ey Xs L L.length).2;rw[gm] at this;unfold bp;omega
 ·rw[hM.ri.len];exact iP.2 (Oy hW)
theorem aiY(h:SX rg l r Xs)(hB:BD Xs)(hbb:∀b∈bs,b<w0.heap.size)(hg0:g<w0.heap.size)(k:Nat)(lv:Value)(gW cW:Nat)(L:List Nat)(gR cR n ob:Nat)(w5:World)(he:Ye bs Xs g w0 k lv gW cW L gR cR n ob w5):
  Calls Tryz.prog 115 #[.pointer (some ⟨ob,0,none⟩),.slice (some ⟨gR,0,none⟩) n cR] w5 fun e w6=>e=.returned (.tuple #[])/\FQ bs Xs g w0 k lv gW cW L ob 0 w6:=by
 obtain⟨Ym,PH,T,ow,wr,w1,w2,lo,O,rv,hM,rfl,kz,hrow,hQ,nJ,aiZ,OI⟩:=he;obtain⟨hW,jN,hrl,qH,OJ⟩:=Yl h hB hM;have yE:=h.JC hW;have hs:=hM.sz;have hen:=hM.en;subst hen;have ai0:=hM.hi.pi.row;have hlv:∀b,Ym.ownBlock=some b->w0.heap.size<=b/\b<wr.heap.size:=fun b e=>aB ai0 b e
 have k5:∀b,b<w2.heap.size->Ym.ownBlock≠some b->w5.heap[b]?=w2.heap[b]?:=fun b hb hne=>(nJ b (by omega) hne).trans (Below.heap_alloc _ _ _ hb)
 have JF:∀b,b<w0.heap.size->w5.heap[b]?=w2.heap[b]?:=fun b hb=>k5 b (by omega) (fun e=>by have:=hlv b e;omega)
 have OL:∀b,w1.heap.size<=b->b<w2.heap.size->w5.heap[b]?=w2.heap[b]?:=fun b h1 h2=>k5 b h2 (fun e=>by have:=hlv b e;omega)
 have Ag:w5.heap[w2.heap.size]?=some (.cells #[.slice none 0 0,.slice none 0 0] 187 (0,0)):=(nJ _ (by omega) (fun e=>by have:=hlv _ e;omega)).trans (heap_alloc_new w2 _)
 obtain⟨gX,cX,hv,hgl,dH,_,hcell⟩:=mZ hM.ri.ro qH;have yF:gX=gR:=by
  injection hv with h1;injection h1 with h1;injection h1 with h1;exact h1.symm
 subst yF;have hzl:(rv.zip (bp Xs L)).length=rv.length:=by rw[List.length_zip];omega
 have OM:TK w5 w0.heap.size w2.heap.size (.slice none 0 0) (.slice none 0 0) (.slice none 0 0) [] w5:=⟨Ag,World.ownsRow_nil _ _ _ _,Mo.refl _ _,fun b e=>by simp[Value.ownBlock] at e,by simp[Value.ownBlock]⟩
 have hcall:=XI (cC Xs) (rv.zip (bp Xs L)) (.slice none 0 0,[]) w2.heap.size gX cR w0.heap.size (.slice none 0 0) [] w5 (by rw[hzl];exact hrl) (by simp) (by omega) OM ⟨by omega,by simp[Value.ownBlock]⟩
  (fun i p hp=>by
   obtain⟨h1,h2⟩:=EJ hp;exact⟨(World.cell?_of_block (w:=w2) (OL gX hgl dH)).trans (hcell i p.1 h1),ER (hM.ri.ring i p.1 p.2 h1 h2).1⟩)
  (fun p hp w' hm=>by
   have km:∀b,b<w2.heap.size->w'.heap[b]?=w5.heap[b]?:=fun b hb=>hm.block b (by omega) (by
    intro hk;rcases aP.1 hk with e|e
    ·omega
    ·simp[Value.ownBlock] at e)
   exact hM.shell hB yE hW.lt jN p hp w' ((km g (by omega)).trans (JF g hg0)) (fun b hb=>(km b (by have:=hbb b hb;omega)).trans (JF b (hbb b hb))) (fun b h1 h2=>(km b h2).trans (OL b h1 h2)))
 rw[hzl] at hcall;refine hcall.mono ?_;rintro e w6 ⟨rfl,hv',jB⟩;rw[qd] at jB;have k6:∀b,b<w5.heap.size->b≠w2.heap.size->w6.heap[b]?=w5.heap[b]?:=fun b hb hne=>jB.mo.block b hb (by
  intro hk;rcases aP.1 hk with e|e
  ·exact hne e
  ·simp[Value.ownBlock] at e)
 have ai1:=hM.hi.pi.push (w5:=w5) (w6:=w6) (lvQ:=lv) (cC Xs) (rv.zip (bp Xs L)) w2.heap.size w1.heap.size hv' (by omega) (by omega) (by omega) (by omega)
  (hM.OD.keep (w':=w6) fun b h1 h2=>(k6 b (by omega) (by omega)).trans (OL b h1 h2))
  (fun b h1 h2 ht=>(k6 b (by omega) (by omega)).trans ((k5 b (by omega) (fun e=>ht (hM.hi.pi.tl b e))).trans (hM.same hbb h1 h2)))
  (aU hrow fun b e=>k6 b (aB hrow b e).2 (by
   rcases hQ b e with e|e
   ·have:=hlv b e;omega
   ·omega)) hQ jB.j5 jB.own (fun b e=>by
   rcases jB.fresh b e with e|e
   ·simp[Value.ownBlock] at e
   ·exact e)
 obtain⟨T',kX⟩:=ai1;have hst:aM Xs (k+1)=⟨fun j=>(aM Xs k).aK j||L.contains j,fun j=>if L.contains j then(aM Xs k).ps.length else(aM Xs k).ow j,(aM Xs k).ps++[(tz (cC Xs) (bp Xs L),(bp Xs L).filter fun r=> !cC Xs r)]⟩:=by
  rw[yD];unfold nX;rw[<-hM.eL,af (by rw[hM.un];simp),aj kz]
 rw[Yh (cC Xs) rv (bp Xs L) _ OJ,Yi (cC Xs) rv (bp Xs L) OJ] at kX;have ai2:=hM.hi.pi.len;refine⟨rfl,hM.kl,hW.lt,by rw[hst];exact fun _=>rfl,by rw[hst];exact fun j hj=>by simp only[hj,js,jR],PH++[⟨w2.heap.size,(fS (cC Xs) (.slice none 0 0,[]) (rv.zip (bp Xs L))).1,hv',(fT (cC Xs) (rv.zip (bp Xs L))).map (·.1)⟩],T',ow,PH.length,⟨w2.heap.size,(fS (cC Xs) (.slice none 0 0,[]) (rv.zip (bp Xs L))).1,hv',(fT (cC Xs) (rv.zip (bp Xs L))).map (·.1)⟩,?_,by rw[hst];exact fun j hj=>by simp only[hj,gD];exact ai2.symm,by rw[n9 (ay _),Nat.sub_self];rfl,rfl,fun j hj lN=>?_,?_,fun t s hts=>?_,?_,?_⟩
 ·rw[hst];exact kX
 ·obtain⟨ph,fU,how⟩:=hM.hi.own j hj lN;exact⟨ph,by rw[fC (bZ.1 fU).1];exact fU,how⟩
 ·have hsw:=hM.JD;refine SW.congr (mk:=fun j=>(aM Xs k).aK j||L.contains j) (ow:=ow) ⟨hsw.len,hsw.nd,hsw.ng,fun i hi=>?_,fun i hi=>?_⟩ (fun _ _=>rfl) (fun i _=>by unfold AY;simp)
  ·exact(World.cell?_of_block (w:=w2) ((k6 g (by omega) (by omega)).trans (JF g hg0))).trans (hsw.row i hi)
  ·have:=hbb _ (pT hi);exact((k6 _ (by omega) (by omega)).trans (JF _ this)).trans (hsw.side i hi)
 ·obtain⟨gY,cY,yG,JG,gK,_,_,_,hcl⟩:=mV hM.ws.own (by
   intro e;have:=qg.1 e;rw[this] at hts;simp at hts)
  have EX:gY=gW:=by
   injection yG with h1;injection h1 with h1;injection h1 with h1;exact h1.symm
  subst EX;have hc:=hcl t (bx bs s) (by rw[gz,hts];rfl)
  rw[ki] at hc;refine(World.cell?_of_block (w:=w1) (?_:w6.heap[gY]?=w1.heap[gY]?)).trans hc;have:w5.heap[gY]?=w2.heap[gY]?:=k5 gY (by omega) (fun e=>by have:=hlv gY e;omega)
  exact(k6 gY (by omega) (by omega)).trans (this.trans (hM.ri.below.block gY gK))
 ·have hne:L≠[]:=fun e=>by have:=hW.head;rw[e] at this;simp at this
  obtain⟨gY,cY,yG,JG,_⟩:=mV hM.ws.own (by intro e;exact hne (qg.1 e))
  have EX:gY=gW:=by
   injection yG with h1;injection h1 with h1;injection h1 with h1;exact h1.symm
  omega
 ·exact OI.below (jB.mo) fun b hb hb'=>by
   rcases aP.1 hb' with e|e
   ·omega
   ·simp[Value.ownBlock] at e
end
section
variable{rg:List (List Pt)}{l:List Nd}{r:Int}{Xs:List PB}{bs:List Nat}{g cap:Nat}{w0:World}
theorem ai3(h:SX rg l r Xs)(hB:BD Xs)(hbb:∀b∈bs,b<w0.heap.size)(hg0:g<w0.heap.size)(k:Nat)(lv:Value)(gW cW:Nat)(L:List Nat)(gR cR n ob:Nat)(w5:World)(he:Yf bs Xs g w0 k lv gW cW L gR cR n ob w5):
  Calls Tryz.prog 115 #[.pointer (some ⟨ob,0,none⟩),.slice (some ⟨gR,0,none⟩) n cR] w5 fun e w6=>e=.returned (.tuple #[])/\FQ bs Xs g w0 k lv gW cW L ob 0 w6:=by
 obtain⟨PH,T,ow,wr,w1,w2,lo,O,rv,ph,hM,kz,fU,rfl,nJ,aiZ,OI⟩:=he;obtain⟨hW,jN,hrl,qH,OJ⟩:=Yl h hB hM;have yE:=h.JC hW;have hs:=hM.sz;have hen:=hM.en;subst hen;have hP:=h.pv hB k (by have:=hM.kl;omega)
 generalize hq:(aM Xs k).ow (ij Xs (xi Xs k).f)=q at*;have mr:q<PH.length:=(bZ.1 fU).1;have EK:q<(aM Xs k).ps.length:=by rw[<-hM.hi.pi.len];exact mr
 have hps:(aM Xs k).ps[q]?=some ((aM Xs k).ps.getD q ([],[])):=by
  rw[lS,aC EK];rfl
 generalize ai4:(aM Xs k).ps.getD q ([],[])=ps at*;have hA:=hM.hi.pi.pg q ph ps fU hps;have lH:=lt_of_heap hA.blk;have k5:∀b,b<w2.heap.size->w5.heap[b]?=w2.heap[b]?:=fun b hb=>(nJ b (by omega)).trans (Below.heap_alloc _ _ _ hb)
 have OO:∀b,w0.heap.size<=b->b<wr.heap.size->w5.heap[b]?=wr.heap[b]?:=fun b h1 h2=>(k5 b (by omega)).trans (hM.same hbb h1 h2)
 obtain⟨gX,cX,hv,hgl,dH,_,hcell⟩:=mZ hM.ri.ro qH;have yF:gX=gR:=by
  injection hv with h1;injection h1 with h1;injection h1 with h1;exact h1.symm
 subst yF;have hzl:(rv.zip (bp Xs L)).length=rv.length:=by rw[List.length_zip];omega
 have EY:∀b,ph.hv.ownBlock=some b->w0.heap.size<=b/\b<wr.heap.size:=fun b e=>aB hA.ho b e
 have ai5:ph.hv.ownBlock≠some ph.pb:=fun e=>by
  have h1:=hA.th _ e;rw[hA.tp] at h1;cases h1
 have OM:TK w5 w0.heap.size ph.pb ph.hv ph.sv ph.hv ph.hvs w5:=⟨(OO _ hA.ge lH).trans hA.blk,aU hA.ho fun b e=>OO b (EY b e).1 (EY b e).2,Mo.refl _ _,fun b e=>ag e,ai5⟩
 have ai6:∀p∈rv.zip (bp Xs L),cC Xs p.2=false:=fun p hp=>by
  obtain⟨i,hi,e⟩:=iO.1 hp;have hm:=aZ (EJ (by rw[aC hi,e]:(rv.zip (bp Xs L))[i]?=some p)).2
  cases hsh:cC Xs p.2
  ·rfl
  ·rw[QF.2 ⟨p.2,hm,hsh⟩] at kz;cases kz
 obtain⟨ai7,ai8⟩:=aiU (cC Xs) (ph.sv,ps.1) (rv.zip (bp Xs L)) ai6;have Yn:∀b,b<w2.heap.size->wr.heap.size<=b\/b<w0.heap.size->b∉ph.pb::ph.hv.ownBlock.toList:=fun b _ hb hk=>by
  have hge:=hA.ge;rcases aP.1 hk with e|e
  ·omega
  ·have e':ph.hv.ownBlock=some b:=by simpa using e
   have:=EY b e';omega
 have yC:ph.hvs.length<=85000000:=by
  have h1:=hP.hol q ps hps;have h2:=hA.hl;have h3:=hB.len;omega
 have hcall:=XI (cC Xs) (rv.zip (bp Xs L)) (ph.sv,ps.1) ph.pb gX cR w0.heap.size ph.hv ph.hvs w5 (by rw[hzl];exact hrl) yC (by omega) OM ⟨by omega,fun e=>by have:=EY gX e;omega⟩
  (fun i p hp=>by
   obtain⟨h1,h2⟩:=EJ hp;exact⟨(World.cell?_of_block (w:=w2) (k5 gX dH)).trans (hcell i p.1 h1),ER (hM.ri.ring i p.1 p.2 h1 h2).1⟩)
  (fun p hp w' hm=>by
   have km:∀b,b<w2.heap.size->wr.heap.size<=b\/b<w0.heap.size->w'.heap[b]?=w2.heap[b]?:=fun b hb hb'=>(hm.block b (by omega) (Yn b hb hb')).trans (k5 b hb)
   exact hM.shell hB yE hW.lt jN p hp w' (km g (by omega) (ah hg0)) (fun b hb=>km b (by have:=hbb b hb;omega) (ah (hbb b hb))) (fun b h1 h2=>km b h2 (ag (by omega))))
 rw[hzl,ai7,ai8] at hcall;refine hcall.mono ?_;rintro e w6 ⟨rfl,hv',jB⟩;have k6:∀b,b<w2.heap.size->wr.heap.size<=b\/b<w0.heap.size->w6.heap[b]?=w2.heap[b]?:=fun b hb hb'=>(jB.mo.block b (by omega) (Yn b hb hb')).trans (k5 b hb)
 have ai9:=hM.hi.pi.more (w5:=w5) (w6:=w6) (rv.zip (bp Xs L)) w1.heap.size w2.heap.size q ph ps fU hps hv' (by omega) (by omega) (by omega) (by omega)
  (hM.OD.keep (w':=w6) fun b h1 h2=>k6 b h2 (ag (by omega)))
  (fun b h1 h2 ht1 ht2=>(jB.mo.block b (by omega) (fun hk=>by
   rcases aP.1 hk with e|e
   ·rw[e] at ht1;exact ht1 hA.tp
   ·have e':ph.hv.ownBlock=some b:=by simpa using e
    exact ht2 (hA.th b e'))).trans (OO b h1 h2))
  jB.j5 jB.own jB.fresh
 obtain⟨T',kX⟩:=ai9;have hst:aM Xs (k+1)=⟨fun j=>(aM Xs k).aK j||L.contains j,fun j=>if L.contains j then q else(aM Xs k).ow j,(aM Xs k).ps.set q (ps.1,ps.2++bp Xs L)⟩:=by
  rw[yD];unfold nX;rw[<-hM.eL,af (by rw[hM.un];simp),af (by rw[kz];simp),hq,ai4]
 have hz2:(rv.zip (bp Xs L)).map (·.2)=bp Xs L:=List.map_snd_zip (by omega)
 rw[hz2] at kX;refine⟨rfl,hM.kl,hW.lt,by rw[hst];exact fun _=>rfl,by rw[hst];exact fun j hj=>by simp only[hj,js,jR],_,T',ow,q,⟨ph.pb,ph.sv,hv',ph.hvs++(rv.zip (bp Xs L)).map (·.1)⟩,by rw[hst];exact kX,by rw[hst];exact fun j hj=>by simp only[hj,gD],ru mr,rfl,fun j hj lN=>?_,?_,fun t s hts=>?_,?_,?_⟩
 ·obtain⟨sZ,EZ,how⟩:=hM.hi.own j hj lN;by_cases AZ:q=(aM Xs k).ow j
  ·refine⟨⟨ph.pb,ph.sv,hv',ph.hvs++(rv.zip (bp Xs L)).map (·.1)⟩,by rw[<-AZ];exact ru mr,?_⟩
   rw[how];rw[<-AZ,fU] at EZ;injection EZ with EZ;rw[EZ]
  ·exact⟨sZ,by rw[wZ AZ];exact EZ,how⟩
 ·have hsw:=hM.JD;refine SW.congr (mk:=fun j=>(aM Xs k).aK j||L.contains j) (ow:=ow) ⟨hsw.len,hsw.nd,hsw.ng,fun i hi=>?_,fun i hi=>?_⟩ (fun _ _=>rfl) (fun i _=>by unfold AY;simp)
  ·exact(World.cell?_of_block (w:=w2) (k6 g (by omega) (ah hg0))).trans (hsw.row i hi)
  ·have:=hbb _ (pT hi);exact(k6 _ (by omega) (ah this)).trans (hsw.side i hi)
 ·obtain⟨gY,cY,yG,JG,gK,_,_,_,hcl⟩:=mV hM.ws.own (by
   intro e;have:=qg.1 e;rw[this] at hts;simp at hts)
  have EX:gY=gW:=by
   injection yG with h1;injection h1 with h1;injection h1 with h1;exact h1.symm
  subst EX;have hc:=hcl t (bx bs s) (by rw[gz,hts];rfl)
  rw[ki] at hc;refine(World.cell?_of_block (w:=w1) (?_:w6.heap[gY]?=w1.heap[gY]?)).trans hc;exact(k6 gY (by omega) (ag JG)).trans (hM.ri.below.block gY gK)
 ·have hne:L≠[]:=fun e=>by have:=hW.head;rw[e] at this;simp at this
  obtain⟨gY,cY,yG,JG,_⟩:=mV hM.ws.own (by intro e;exact hne (qg.1 e))
  have EX:gY=gW:=by
   injection yG with h1;injection h1 with h1;injection h1 with h1;exact h1.symm
  omega
 ·exact OI.below (jB.mo) fun b hb hb'=>by
   have hge:=hA.ge;rcases aP.1 hb' with e|e
   ·omega
   ·have e':ph.hv.ownBlock=some b:=by simpa using e
    have:=EY b e';omega
theorem aja(hbb:∀b∈bs,b<w0.heap.size)(k:Nat)(lv:Value)(gW cW:Nat)(L:List Nat)(ob t:Nat)(wr:World)(hF:FQ bs Xs g w0 k lv gW cW L ob t wr)(ht:t<L.length):∃b o,wr.cell? ⟨gW,t,none⟩=some (.pointer (some ⟨b,0,none⟩))/\wr.cell? ⟨b,7,none⟩=some o/\wr.frozen? ⟨b,7,none⟩=false/\FQ bs Xs g w0 k lv gW cW L ob (t+1) (wr.setCell ⟨b,7,none⟩ (.pointer (some ⟨ob,0,none⟩))):=by
 obtain⟨hk,hlt,hmk,OP,PH,T,ow,q,ph,kX,hq,fU,hpb,hown,hsw,hcell,OQ,hmo⟩:=hF;obtain⟨s,hs⟩:∃s,L[t]?=some s:=⟨_,aC ht⟩;have hsl:s<bs.length:=by rw[hsw.len];exact hlt s (aZ hs)
 have EW:=hsw.side s hsl;have hbs:=hbb _ (pT hsl);have kk:∀b,w0.heap.size<=b->(wr.setCell ⟨bx bs s,7,none⟩ (.pointer (some ⟨ob,0,none⟩))).heap[b]?=wr.heap[b]?:=fun b hb=>Below.heap_setCell _ _ _ _ (by show b≠bx bs s;omega)
 refine⟨bx bs s,_,hcell t s hs,cell_of EW 7,bw EW 7,hk,hlt,hmk,OP,PH,T,ow,q,ph,kX.keep (fun b hb _=>kk b hb),hq,fU,hpb,hown,?_,fun t' s' hs'=>(World.cell?_of_block (w:=wr) (kk gW OQ)).trans (hcell t' s' hs'),OQ,hmo.trans (Mo.setCell bs wr (p:=⟨bx bs s,7,none⟩) (pT hsl) _)⟩
 refine(hsw.own hsl ob).congr (fun _ _=>rfl) (fun i _=>?_)
 have htk:L.take (t+1)=L.take t++[s]:=by rw[jF,hs];rfl
 unfold AY;rw[htk];by_cases hi:i=s
 ·rw[aj hi,aj (by rw[hi];simp)]
 ·rw[af hi];have:(L.take t++[s]).contains i=(L.take t).contains i:=by
   simp only[List.contains_eq_mem,bQ,bY];simp[hi]
  rw[this]
theorem ajb(k:Nat)(lv:Value)(gW cW:Nat)(L:List Nat)(ob:Nat)(wr:World)(hF:FQ bs Xs g w0 k lv gW cW L ob L.length wr):JE bs Xs g w0 (k+1) lv wr:=by
 obtain⟨hk,hlt,hmk,OP,PH,T,ow,q,ph,kX,hq,fU,hpb,hown,hsw,hcell,OQ,hmo⟩:=hF;rw[gm] at hsw;refine⟨by omega,PH,T,AY ow L ob,hsw.congr (fun i _=>hmk i) (fun _ _=>rfl),kX,fun j hj lN=>?_,hmo⟩
 rw[hmk] at lN;unfold AY;cases hc:L.contains j
 ·rw[hc,FV] at lN;obtain⟨sZ,h1,h2⟩:=hown j hj lN;exact⟨sZ,by rw[OP j hc];exact h1,by simp only[js,jR];exact h2⟩
 ·exact⟨ph,by rw[hq j hc];exact fU,by simp only[gD];rw[hpb]⟩
theorem ajc(h:SX rg l r Xs)(hB:BD Xs)(hbb:∀b∈bs,b<w0.heap.size)(hg0:g<w0.heap.size)(hbc:bs.length<=cap)(hsw:SW g bs Xs (fun _=>false) (fun _=>none) w0)(Q:Value->World->Prop)
  (HS:∀lv PH T wr,PI bs w0.heap.size lv (aM Xs Xs.length).ps PH T wr->RB wr g bs Xs->bs.Nodup->Mo bs w0 wr->PH.length<=85000000->Calls Tryz.prog 116 #[lv] wr fun e w'=>e=.returned (.tuple #[])/\Q lv w'):
  Calls Tryz.prog 69 #[.slice (some ⟨g,0,none⟩) bs.length cap] w0 fun e w'=>∃lv,e=.returned lv/\Q lv w':=by
 have hlen:=hsw.len;have hC:XX bs g cap (JE bs Xs g w0) (BQ bs Xs g w0) (OE bs Xs g w0) (OG bs Xs g w0) (DQ bs Xs g w0 true) (DQ bs Xs g w0 false) (EQ bs Xs g w0) (FQ bs Xs g w0) Q w0.heap.size:=
  ⟨fun k lv wr hI hk=>aiO k lv wr hI hk,fun k lv wr hb=>aiP h hB hg0 hbc k lv wr hb,fun k lv gW cW L w1 hc=>aiR h hB k lv gW cW L w1 hc,fun k lv gW cW L gR cR n w2 hc=>aiS h hB hbb hg0 k lv gW cW L gR cR n w2 hc,fun k lv gW cW L gR cR n N w4 hd=>aiV h hB hbb k lv gW cW L gR cR n N w4 hd,fun k lv gW cW L gR cR n N w4 hd=>aiW h hB hbb k lv gW cW L gR cR n N w4 hd,
   fun k lv gW cW L gR cR n ob w5 he=>by
    rcases he with he|he
    ·exact aiY h hB hbb hg0 k lv gW cW L gR cR n ob w5 he
    ·exact ai3 h hB hbb hg0 k lv gW cW L gR cR n ob w5 he,
   fun k lv gW cW L ob t wr hF ht=>aja hbb k lv gW cW L ob t wr hF ht,fun k lv gW cW L ob wr hF _=>ajb k lv gW cW L ob wr hF,fun lv wr hI=>by
    obtain⟨_,PH,T,ow,hH⟩:=hI;rw[hlen] at hH;refine HS lv PH T wr hH.pi hH.sw.rb hH.sw.nd hH.mo ?_;rw[hH.pi.len];have h1:=(h.pv hB Xs.length (ay _)).len;have h2:=hB.len;omega⟩
 refine aiI bs g cap _ _ _ _ _ _ _ _ Q w0.heap.size hC w0 (by rw[hlen];exact hB.len) ⟨iD _,[],fun _=>.ring,fun _=>none,?_⟩
 exact⟨hsw,⟨World.ownsRow_nil _ _ _ _,fun k e=>by simp[Value.ownBlock] at e,rfl,fun q ph ps hq=>by simp at hq⟩,fun j _ hm=>by simp[aM] at hm,Mo.refl _ _⟩
end
end Go.Proofs.YtkjhhooecopolaaGreatDoor
