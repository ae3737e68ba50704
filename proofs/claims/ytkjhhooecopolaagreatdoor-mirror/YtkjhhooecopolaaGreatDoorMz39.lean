import Derived.Test.YtkjhhooecopolaaGreatDoorMz38
set_option maxRecDepth 100000
set_option maxHeartbeats 4000000
namespace Go.Proofs.YtkjhhooecopolaaGreatDoor
open Go.RowKit
open Ge
theorem nD{w:World}{base:Nat}{e:TypeId}{v:Value}{n:Nat}{xs:List Value}(h:w.ownsRow base e 1 v n xs)(hn:0<n):
  ∃gT cT,v=.slice (some ⟨gT,0,none⟩) n cT/\base<=gT/\gT<w.heap.size/\xs.length=n/\∀(i:Nat) u,xs[i]?=some u->w.cell? ⟨gT,i,none⟩=some u:=by
 obtain⟨h1,h2⟩:=h;rcases h2 with⟨_,h0⟩|⟨g,cap,cur,hv,hg,hb,hc,hm,hs,ht⟩
 ·omega
 ·refine⟨g,cap,hv,hg,lt_of_heap hb,by omega,fun i u hi=>?_⟩
  rw[<-ht,j6] at hi;split at hi
  ·unfold World.cell?;rw[hb];simpa using hi
  ·cases hi
theorem Fa{w:World}{base:Nat}{e:TypeId}{v:Value}{n:Nat}{xs:List Value}(h:w.ownsRow base e 1 v n xs):∃so m c,v=.slice so m c:=by
 rcases h.2 with⟨h,_⟩|⟨_,_,_,h,_⟩
 ·exact⟨_,_,_,h⟩
 ·exact⟨_,_,_,h⟩
theorem Pj(Xs:List PB)(A:List Nat):(cN Xs A).length=(cS Xs A).length:=by
 unfold cN;rw[aS,rD,ig];omega
theorem akk(Xs:List PB)(A:List Nat):∀a∈cN Xs A,a∈A:=fun a ha=>by
 unfold cN at ha;rcases bW.1 ha with h|h
 ·exact Oz Xs A a (Rk h)
 ·exact Oz Xs A a (nL h)
section
variable{rg:List (List Pt)}{l:List Nd}{r:Int}{Xs:List PB}
theorem SX.Pk(h:SX rg l r Xs){L:List Nat}{n0:Nd}(hL:jH Xs L)(hl:∀a∈L,a<Xs.length)(h0:∀s,L[0]?=some s->(xi Xs s).f=n0):∀k,k<=L.length->∀ring∈(bA Xs (L.take k)).2,ring≠[]/\(∀a∈ring,a∈L)/\ring.length<=L.length
 |0,_,ring,hr=>by simp[bA] at hr
 |k+1,hk,ring,hr=>by
  obtain⟨s,hs⟩:∃s,L[k]?=some s:=⟨_,ay (by omega)⟩
  have htk:L.take (k+1)=L.take k++[s]:=by rw[jx,hs];rfl
  rw[htk,wV] at hr;unfold jb at hr;split at hr
  ·rename_i hst
   rcases bW.1 hr with hr|hr
   ·exact h.Pk hL hl h0 k (by omega) ring hr
   ·have e:=bJ.1 hr;have hne:=h.parts hL hl h0 k s hs hst;have hlen:=EH Xs L k;have hm:∀a∈(bA Xs (L.take k)).1++[s],a∈L:=fun a ha=>by
     rcases bW.1 ha with ha|ha
     ·exact Jv Xs L k a ha
     ·rw[bJ.1 ha];exact aY hs
    refine⟨fun h'=>?_,fun a ha=>?_,?_⟩
    ·have:=congrArg List.length h';rw[e,Pj] at this;exact hne (gq.1 this)
    ·rw[e] at ha;exact hm a (Rk (akk Xs _ a ha))
    ·rw[e,Pj];have:=OA Xs (((bA Xs (L.take k)).1++[s]).drop (ia Xs ((bA Xs (L.take k)).1++[s]) s).toNat);rw[rD,aS] at this;simp only[bO,fE] at this;omega
  ·exact h.Pk hL hl h0 k (by omega) ring hr
theorem SX.JE(h:SX rg l r Xs){L:List Nat}{k:Nat}(hW:Wk Xs k L):∀ring∈bf Xs L,ring≠[]/\(∀a∈ring,a∈L)/\ring.length<=L.length:=by
 have h0:∀s,L[0]?=some s->(xi Xs s).f=(xi Xs k).f:=fun s hs=>by
  rw[hW.head] at hs;injection hs with hs;rw[hs]
 have:=h.Pk hW.conn hW.lt h0 L.length (ae _);rw[dI] at this;exact this
end
structure HI(bs:List Nat)(Xs:List PB)(g:Nat)(w0:World)(k:Nat)(lv:Value)(PH:List ju)(T:Nat->Tg)(ow:Nat->Option Nat)(wr:World):Prop where
 sw:SW g bs Xs (aK Xs k).aF ow wr
 pi:PI bs w0.heap.size lv (aK Xs k).ps PH T wr
 own:∀j,j<Xs.length->(aK Xs k).aF j=true->∃ph,PH[(aK Xs k).ow j]?=some ph/\ow j=some ph.pb
 mo:Mo bs w0 wr
structure lM(bs:List Nat)(Xs:List PB)(g:Nat)(w0:World)(k:Nat)(lv:Value)(gW cW:Nat)(L:List Nat)(gR cR n:Nat)(PH:List ju)(T:Nat->Tg)(ow:Nat->Option Nat)(wr w1 w2:World)(lo:Value)(O:List Nat)(rv:List Value):Prop where
 hi:HI bs Xs g w0 k lv PH T ow wr
 kl:k<Xs.length
 un:(aK Xs k).aF k=false
 eL:L=cD Xs (aK Xs k).aF k
 ws:WS wr g bs Xs (aK Xs k).aF ow (.slice (some ⟨gW,0,none⟩) L.length cW) L w1
 ri:RI bs w1 lo (.slice (some ⟨gR,0,none⟩) n cR) O (bf Xs L) rv w2
 en:n=rv.length
section
variable{bs:List Nat}{Xs:List PB}{g:Nat}{w0:World}{k:Nat}{lv:Value}{gW cW:Nat}{L:List Nat}{gR cR n:Nat}{PH:List ju}{T:Nat->Tg}{ow:Nat->Option Nat}{wr w1 w2:World}{lo:Value}{O:List Nat}{rv:List Value}
theorem lM.sz(h:lM bs Xs g w0 k lv gW cW L gR cR n PH T ow wr w1 w2 lo O rv):w0.heap.size<=wr.heap.size/\wr.heap.size<=w1.heap.size/\w1.heap.size<=w2.heap.size:=⟨h.hi.mo.size,h.ws.mo.size,h.ri.below.size⟩
theorem lM.same(h:lM bs Xs g w0 k lv gW cW L gR cR n PH T ow wr w1 w2 lo O rv)(hbb:∀b∈bs,b<w0.heap.size){b:Nat}(hb:w0.heap.size<=b)(hz:b<wr.heap.size):w2.heap[b]?=wr.heap[b]?:=by
 have hs:=h.sz;exact(h.ri.below.block b (by omega)).trans (h.ws.mo.block b hz (fun hk=>by have:=hbb b hk;omega))
theorem lM.JF(h:lM bs Xs g w0 k lv gW cW L gR cR n PH T ow wr w1 w2 lo O rv):SW g bs Xs (fun j=>(aK Xs k).aF j||L.contains j) ow w2:=h.ws.sw.below h.ri.below
theorem lM.Pn(h:lM bs Xs g w0 k lv gW cW L gR cR n PH T ow wr w1 w2 lo O rv):RV bs w1.heap.size w2.heap.size (rv.zip (bf Xs L)) w2:=by
 refine⟨fun p hp=>?_⟩
 obtain⟨i,hi,e⟩:=j5.1 hp;obtain⟨h1,h2⟩:=EX (by rw[ay hi,e]:(rv.zip (bf Xs L))[i]?=some p)
 have k1:=(h.ri.ring i p.1 p.2 h1 h2).1;exact⟨k1,fun k e=>(au k1 k e).2⟩
theorem lM.shell(h:lM bs Xs g w0 k lv gW cW L gR cR n PH T ow wr w1 w2 lo O rv)(hB:BD Xs)(yV:∀ring∈bf Xs L,ring≠[]/\(∀a∈ring,a∈L)/\ring.length<=L.length)(jE:∀a∈L,a<Xs.length)(hLn:L.length<=85000000)(p:VR)(hp:p∈rv.zip (bf Xs L))(w':World)(hg:w'.heap[g]?=w2.heap[g]?)(hbs:∀b∈bs,w'.heap[b]?=w2.heap[b]?)(hr:∀b,w1.heap.size<=b->b<w2.heap.size->w'.heap[b]?=w2.heap[b]?):
  Calls Tryz.prog 113 #[p.1] w' fun e w''=>e=.returned (.bool (bV Xs p.2))/\Below w'.heap.size w' w'':=by
 have hsw:=h.JF;have akl:SW g bs Xs (fun j=>(aK Xs k).aF j||L.contains j) ow w':=
  ⟨hsw.len,hsw.nd,hsw.ng,fun i hi=>(World.cell?_of_block (w:=w2) hg).trans (hsw.row i hi),fun i hi=>(hbs _ (qj hi)).trans (hsw.side i hi)⟩
 have hz:=(h.Pn).keep (w':=w') hr;have hpr:p.2∈bf Xs L:=by
  obtain⟨i,hi,e⟩:=j5.1 hp;exact aY (EX (by rw[ay hi,e]:(rv.zip (bf Xs L))[i]?=some p)).2
 obtain⟨f1,f2,f3⟩:=yV p.2 hpr;exact ajx bs Xs hB g _ ow w' akl p.2 f1 (by omega) (fun a ha=>by rw[hsw.len];exact jE a (f2 a ha)) _ p.1 (hz.own p hp).1
end
def oH:Obj:=.cells #[.slice none 0 0,.slice none 0 0] 187
section
variable(bs:List Nat)(Xs:List PB)(g cap:Nat)(w0:World)
def JG(k:Nat)(lv:Value)(wr:World):Prop:=k<=Xs.length/\∃PH T ow,HI bs Xs g w0 k lv PH T ow wr
def BQ(k:Nat)(lv:Value)(wr:World):Prop:=k<Xs.length/\(aK Xs k).aF k=false/\∃PH T ow,HI bs Xs g w0 k lv PH T ow wr
def Po(k:Nat)(lv:Value)(gW cW:Nat)(L:List Nat)(w1:World):Prop:=k<Xs.length/\(aK Xs k).aF k=false/\L=cD Xs (aK Xs k).aF k/\∃PH T ow wr,HI bs Xs g w0 k lv PH T ow wr/\WS wr g bs Xs (aK Xs k).aF ow (.slice (some ⟨gW,0,none⟩) L.length cW) L w1
def Pq(k:Nat)(lv:Value)(gW cW:Nat)(L:List Nat)(gR cR n:Nat)(w2:World):Prop:=∃PH T ow wr w1 lo O rv,lM bs Xs g w0 k lv gW cW L gR cR n PH T ow wr w1 w2 lo O rv
def DQ(v:Bool)(k:Nat)(lv:Value)(gW cW:Nat)(L:List Nat)(gR cR n N:Nat)(w4:World):Prop:=∃PH T ow wr w1 w2 lo O rv,lM bs Xs g w0 k lv gW cW L gR cR n PH T ow wr w1 w2 lo O rv/\N=w2.heap.size/\Below (w2.heap.size+1) (w2.alloc oH) w4/\(bf Xs L).any (bV Xs)=v
def Zx(k:Nat)(vH:Value)(gW cW:Nat)(L:List Nat)(gR cR n ob:Nat)(w5:World):Prop:=∃lv PH T ow wr w1 w2 lo O rv,lM bs Xs g w0 k lv gW cW L gR cR n PH T ow wr w1 w2 lo O rv/\ob=w2.heap.size/\(bf Xs L).any (bV Xs)=true/\
 w5.ownsRow w0.heap.size 165 1 vH (PH.length+1) (PH.map jc++[.pointer (some ⟨w2.heap.size,0,none⟩)])/\(∀k,vH.ownBlock=some k->lv.ownBlock=some k\/(w2.heap.size<k/\k<w5.heap.size))/\(∀b,b<w2.heap.size+1->lv.ownBlock≠some b->w5.heap[b]?=(w2.alloc oH).heap[b]?)/\w2.heap.size+1<=w5.heap.size/\Mo bs w0 w5
def Zy(k:Nat)(lv:Value)(gW cW:Nat)(L:List Nat)(gR cR n ob:Nat)(w5:World):Prop:=∃PH T ow wr w1 w2 lo O rv ph,lM bs Xs g w0 k lv gW cW L gR cR n PH T ow wr w1 w2 lo O rv/\(bf Xs L).any (bV Xs)=false/\PH[(aK Xs k).ow (ic Xs (xi Xs k).f)]?=some ph/\ob=ph.pb/\(∀b,b<w2.heap.size+1->w5.heap[b]?=(w2.alloc oH).heap[b]?)/\w2.heap.size+1<=w5.heap.size/\Mo bs w0 w5
def EQ(k:Nat)(lv:Value)(gW cW:Nat)(L:List Nat)(gR cR n ob:Nat)(w5:World):Prop:=Zx bs Xs g w0 k lv gW cW L gR cR n ob w5\/Zy bs Xs g w0 k lv gW cW L gR cR n ob w5
def Bq(ow:Nat->Option Nat)(A:List Nat)(o:Nat):Nat->Option Nat:=fun j=>if A.contains j then some o else ow j
def FQ(k:Nat)(lv:Value)(gW _cW:Nat)(L:List Nat)(ob t:Nat)(wr:World):Prop:=k<Xs.length/\(∀a∈L,a<Xs.length)/\(∀j,(aK Xs (k+1)).aF j=((aK Xs k).aF j||L.contains j))/\(∀j,L.contains j=false->(aK Xs (k+1)).ow j=(aK Xs k).ow j)/\
 ∃PH T ow q ph,PI bs w0.heap.size lv (aK Xs (k+1)).ps PH T wr/\(∀j,L.contains j=true->(aK Xs (k+1)).ow j=q)/\PH[q]?=some ph/\ph.pb=ob/\(∀j,j<Xs.length->(aK Xs k).aF j=true->∃ph,PH[(aK Xs k).ow j]?=some ph/\ow j=some ph.pb)/\
 SW g bs Xs (fun j=>(aK Xs k).aF j||L.contains j) (Bq ow (L.take t) ob) wr/\(∀(t s:Nat),L[t]?=some s->wr.cell? ⟨gW,t,none⟩=some (.pointer (some ⟨bx bs s,0,none⟩)))/\w0.heap.size<=gW/\Mo bs w0 wr
end
section
variable{rg:List (List Pt)}{l:List Nd}{r:Int}{Xs:List PB}{bs:List Nat}{g cap:Nat}{w0:World}
theorem akn(k:Nat)(lv:Value)(wr:World)(h:JG bs Xs g w0 k lv wr)(hk:k<bs.length):wr.cell? ⟨g,k,none⟩=some (.pointer (some ⟨bx bs k,0,none⟩))/\∃m,wr.cell? ⟨bx bs k,6,none⟩=some (.bool m)/\(m=true->JG bs Xs g w0 (k+1) lv wr)/\(m=false->BQ bs Xs g w0 k lv wr):=by
 obtain⟨_,PH,T,ow,hI⟩:=h;have hkX:k<Xs.length:=by rw[<-hI.sw.len];exact hk
 refine⟨hI.sw.row k hk,(aK Xs k).aF k,cell_of (hI.sw.side k hk) 6,fun hm=>⟨by omega,PH,T,ow,?_⟩,fun hm=>⟨hkX,hm,PH,T,ow,hI⟩⟩
 have e:aK Xs (k+1)=aK Xs k:=by
  rw[yU];unfold oG;rw[if_pos hm]
 exact⟨by rw[e];exact hI.sw,by rw[e];exact hI.pi,by rw[e];exact hI.own,hI.mo⟩
theorem ako(h:SX rg l r Xs)(hB:BD Xs)(hg0:g<w0.heap.size)(hbc:bs.length<=cap)(k:Nat)(lv:Value)(wr:World)(hb:BQ bs Xs g w0 k lv wr):
  Calls Tryz.prog 110 #[.slice (some ⟨g,0,none⟩) bs.length cap,.pointer (some ⟨bx bs k,0,none⟩)] wr fun e w1=>∃gW cW L,e=.returned (.slice (some ⟨gW,0,none⟩) L.length cW)/\L.length<=85000000/\Po bs Xs g w0 k lv gW cW L w1:=by
 obtain⟨hk,hm,PH,T,ow,hI⟩:=hb;have hP:=h.pv hB k (by omega)
 obtain⟨hc,hW⟩:=h.walk hB hP hk hm;have hlen:=hI.sw.len;have jE:(cD Xs (aK Xs k).aF k).length<=85000000:=by
  have:=wZ (mk:=(aK Xs k).aF) (fun j hj=>(h.next hB hj).1) Xs.length [] k hk
  have h2:=vd Xs.length (aK Xs k).aF [];have h3:=hB.len;have e:ja (cd Xs) (aK Xs k).aF Xs.length [] k=cD Xs (aK Xs k).aF k:=rfl;rw[e] at this;simp only[fE] at this;omega
 refine(aiV bs Xs hB g cap k _ ow wr hI.sw (aL hg0 hI.mo.size) (by rw[hlen];exact hk) hbc (fun i hi=>h.go i hi)).mono ?_
 rintro e w1 ⟨lv1,rfl,rf⟩;rw[hlen] at rf;have Zz:WS wr g bs Xs (aK Xs k).aF ow lv1 (cD Xs (aK Xs k).aF k) w1:=rf;have hne:cD Xs (aK Xs k).aF k≠[]:=fun e=>by have:=hW.head;rw[e] at this;simp at this
 obtain⟨gW,cW,hv,_⟩:=ny Zz.own (by intro e;exact hne (rB.1 e))
 subst hv;exact⟨gW,cW,_,rfl,jE,hk,hm,rfl,PH,T,ow,wr,hI,Zz⟩
theorem akq(h:SX rg l r Xs)(hB:BD Xs)(k:Nat)(lv:Value)(gW cW:Nat)(L:List Nat)(w1:World)(hc1:Po bs Xs g w0 k lv gW cW L w1):
  Calls Tryz.prog 111 #[.slice (some ⟨gW,0,none⟩) L.length cW] w1 fun e w2=>∃gR cR n,e=.returned (.slice (some ⟨gR,0,none⟩) n cR)/\Pq bs Xs g w0 k lv gW cW L gR cR n w2:=by
 obtain⟨hk,hm,eL,PH,T,ow,wr,hI,rf⟩:=hc1;have hP:=h.pv hB k (by omega)
 obtain⟨hc,hW⟩:=h.walk hB hP hk hm;rw[<-eL] at hc hW;have hlen:=hI.sw.len;have hne:L≠[]:=fun e=>by have:=hW.head;rw[e] at this;simp at this
 have jE:L.length<=85000000:=by
  have:=wZ (mk:=(aK Xs k).aF) (fun j hj=>(h.next hB hj).1) Xs.length [] k hk
  have h2:=vd Xs.length (aK Xs k).aF [];have h3:=hB.len;have e:ja (cd Xs) (aK Xs k).aF Xs.length [] k=L:=eL.symm;rw[e] at this;simp only[fE] at this;omega
 have h0:∀s,L[0]?=some s->(xi Xs s).f=(xi Xs k).f:=fun s hs=>by
  rw[hW.head] at hs;injection hs with hs;rw[hs]
 obtain⟨gX,cX,hv,_,_,_,_,_,hcell⟩:=ny rf.own (by intro e;exact hne (rB.1 e))
 have yX:gX=gW:=by
  injection hv with h1;injection h1 with h1;injection h1 with h1;exact h1.symm
 subst yX;refine(ajt bs Xs hB g _ ow w1 rf.sw L jE (fun a ha=>by rw[hlen];exact hW.lt a ha) gX cW (fun i a hi=>hcell i (bx bs a) (by rw[gm,hi];rfl)) (fun k' s hs hst=>h.parts hW.conn hW.lt h0 k' s hs hst)).mono ?_
 rintro e w2 ⟨lvR,lo,O,rv,rfl,jW⟩;have qV:0<rv.length:=by
  rw[jW.len];exact gL.2 (Pe hW)
 obtain⟨gR,cR,hv2,_⟩:=nD jW.ro qV;subst hv2;exact⟨gR,cR,rv.length,rfl,PH,T,ow,wr,w1,lo,O,rv,hI,hk,hm,eL,rf,jW,rfl⟩
theorem akr(h:SX rg l r Xs)(hB:BD Xs)(hbb:∀b∈bs,b<w0.heap.size)(hg0:g<w0.heap.size)(k:Nat)(lv:Value)(gW cW:Nat)(L:List Nat)(gR cR n:Nat)(w2:World)(hc2:Pq bs Xs g w0 k lv gW cW L gR cR n w2):
  Calls Tryz.prog 112 #[.slice (some ⟨gR,0,none⟩) n cR,.func (.func 113) #[] #[]] (w2.alloc (.cells #[.slice none 0 0,.slice none 0 0] 187)) fun e w4=>∃b,e=.returned (.bool b)/\(b=true->DQ bs Xs g w0 true k lv gW cW L gR cR n w2.heap.size w4)/\(b=false->DQ bs Xs g w0 false k lv gW cW L gR cR n w2.heap.size w4):=by
 obtain⟨PH,T,ow,wr,w1,lo,O,rv,hM⟩:=hc2;have hP:=h.pv hB k (by have:=hM.kl;omega)
 obtain⟨hc,hW⟩:=h.walk hB hP hM.kl hM.un;rw[<-hM.eL] at hc hW;have yV:=h.JE hW;have jE:L.length<=85000000:=by
  have:=wZ (mk:=(aK Xs k).aF) (fun j hj=>(h.next hB hj).1) Xs.length [] k hM.kl
  have h2:=vd Xs.length (aK Xs k).aF [];have h3:=hB.len;have e:ja (cd Xs) (aK Xs k).aF Xs.length [] k=L:=hM.eL.symm;rw[e] at this;simp only[fE] at this;omega
 have hrl:rv.length<=85000000:=by
  rw[hM.ri.len];have:=(EH Xs L L.length).2;rw[dI] at this;unfold bf;omega
 have qV:0<rv.length:=by
  rw[hM.ri.len];exact gL.2 (Pe hW)
 have hen:=hM.en;subst hen;obtain⟨gX,cX,hv,_,dw,_,hcell⟩:=nD hM.ri.ro qV;have yX:gX=gR:=by
  injection hv with h1;injection h1 with h1;injection h1 with h1;exact h1.symm
 subst yX;have hal:∀b,b<w2.heap.size->(w2.alloc oH).heap[b]?=w2.heap[b]?:=fun b hb=>Below.heap_alloc _ _ _ hb
 have hs:=hM.sz;have hsz:(w2.alloc oH).heap.size=w2.heap.size+1:=by unfold oH;simp
 have qT:=ajy (bV Xs) (bf Xs L) rv hM.ri.len gX cR (w2.alloc oH) hrl (fun i v hi=>⟨(World.cell?_of_block (w:=w2) (hal gX dw)).trans (hcell i v hi),by
   obtain⟨q,hq⟩:∃q,(bf Xs L)[i]?=some q:=⟨_,ay (by rw[<-hM.ri.len];exact(bT.1 hi).1)⟩
   exact Fa (hM.ri.ring i v q hi hq).1⟩) (fun i v q hi hq w' hb=>by
   have hp:(v,q)∈rv.zip (bf Xs L):=aY (abW.2 ⟨hi,hq⟩);have nY:∀b,b<w2.heap.size->w'.heap[b]?=w2.heap[b]?:=fun b hb'=>(hb.block b (by rw[hsz];omega)).trans (hal b hb')
   exact hM.shell hB yV hW.lt jE (v,q) hp w' (nY g (by omega)) (fun b hb'=>nY b (by have:=hbb b hb';omega)) (fun b _ hb'=>nY b hb'))
 refine(ajz _ gX rv.length cR (w2.alloc oH) qT).mono ?_;rintro e w4 ⟨rfl,hb4⟩;rw[Y0];have Hg:Below (w2.heap.size+1) (w2.alloc oH) w4:=by rw[<-hsz];exact hb4
 exact⟨_,rfl,fun hv=>⟨PH,T,ow,wr,w1,w2,lo,O,rv,hM,rfl,Hg,hv⟩,fun hv=>⟨PH,T,ow,wr,w1,w2,lo,O,rv,hM,rfl,Hg,hv⟩⟩
end
theorem ZA(P:List Nat->Bool):∀(rv:List Value)(Rs:List (List Nat))(a:VR),rv.length=Rs.length->(fN P a (rv.zip Rs)).2=Rs.foldl (fun acc r=>if P r then r else acc) a.2
 |[],[],a,_=>rfl
 |v::rv,q::Rs,a,h=>by
  show(fN P (if P q then(v,q) else a) (rv.zip Rs)).2=Rs.foldl _ (if P q then q else a.2)
  rw[ZA P rv Rs _ (by simpa using h)]
  congr 1;split<;>rfl
 |[],_::_,_,h=>by simp at h
 |_::_,[],_,h=>by simp at h
theorem ZB(P:List Nat->Bool):∀(rv:List Value)(Rs:List (List Nat)),rv.length=Rs.length->(fO P (rv.zip Rs)).map (·.2)=Rs.filter fun r=> !P r
 |[],[],_=>rfl
 |v::rv,q::Rs,h=>by
  have ih:=ZB P rv Rs (by simpa using h)
  unfold fO at*;rw[FK,abJ,abJ];cases hq:P q
  ·simp only[Bool.not_false,if_true,gK];rw[ih]
  ·simp only[Bool.not_true,iP,if_false];exact ih
 |[],_::_,h=>by simp at h
 |_::_,[],h=>by simp at h
theorem aks(P:List Nat->Bool)(a:VR)(Z:List VR)(h:∀p∈Z,P p.2=false):fN P a Z=a/\fO P Z=Z:=by
 refine⟨?_,?_⟩
 ·rcases OZ P a Z with e|⟨e1,e2⟩
  ·exact e
  ·rw[h _ e1] at e2;cases e2
 ·unfold fO;exact Kt.2 fun p hp=>by rw[h p hp];rfl
section
variable{bs:List Nat}{Xs:List PB}{g:Nat}{w0:World}{k:Nat}{lv:Value}{gW cW:Nat}{L:List Nat}{gR cR n:Nat}{PH:List ju}{T:Nat->Tg}{ow:Nat->Option Nat}{wr w1 w2:World}{lo:Value}{O:List Nat}{rv:List Value}
theorem lM.ZC(h:lM bs Xs g w0 k lv gW cW L gR cR n PH T ow wr w1 w2 lo O rv):Mo bs wr w2:=h.ws.mo.trans (Mo.of bs h.ri.below)
theorem ZE{w2 w4:World}(hb:Below (w2.heap.size+1) (w2.alloc oH) w4):Below w2.heap.size w2 w4:=((Below.refl _ _).alloc (ae _) _).trans (hb.mono (by omega))
end
section
variable{rg:List (List Pt)}{l:List Nd}{r:Int}{Xs:List PB}{bs:List Nat}{g cap:Nat}{w0:World}
theorem akt(h:SX rg l r Xs)(hB:BD Xs)(hbb:∀b∈bs,b<w0.heap.size)(k:Nat)(lv:Value)(gW cW:Nat)(L:List Nat)(gR cR n N:Nat)(w4:World)(hd:DQ bs Xs g w0 true k lv gW cW L gR cR n N w4):
  ∃np pp,w4.ownsRow w0.heap.size 165 1 lv np pp/\np<=85000000/\w0.heap.size<=w4.heap.size/\∀g' cap' w8,w8.ownsRow w0.heap.size 165 1 (.slice (some ⟨g',0,none⟩) (np+1) cap') (np+1) (pp++[.pointer (some ⟨N,0,none⟩)])->(w4.alloc (.cells #[.pointer (some ⟨N,0,none⟩)] 165)).grownBy w8 lv.ownBlock->(lv.ownBlock=some g'\/g'=w4.heap.size+1)->EQ bs Xs g w0 k (.slice (some ⟨g',0,none⟩) (np+1) cap') gW cW L gR cR n N w8:=by
 obtain⟨PH,T,ow,wr,w1,w2,lo,O,rv,hM,rfl,hb4,jI⟩:=hd;have hs:=hM.sz;have hsz:(w2.alloc oH).heap.size=w2.heap.size+1:=by unfold oH;simp
 have yY:=hb4.size;rw[hsz] at yY;have Fb:=ZE hb4;have hP:=h.pv hB k (by have:=hM.kl;omega)
 have Jx:=hB.len;have hpl:=hP.len;have hlen:=hM.hi.pi.len;have hkl:=hM.kl;have hrow:=hM.hi.pi.row;have hlv:∀b,lv.ownBlock=some b->w0.heap.size<=b/\b<wr.heap.size:=fun b e=>au hrow b e
 refine⟨PH.length,PH.map jc,aJ hrow fun b e=>(Fb.block b (by have:=hlv b e;omega)).trans (hM.same hbb (hlv b e).1 (hlv b e).2),by omega,by omega,fun g' cap' w8 cH aZ hat=>Or.inl ⟨lv,PH,T,ow,wr,w1,w2,lo,O,rv,hM,rfl,jI,cH,fun b e=>?_,fun b hb hne=>?_,?_,?_⟩⟩
 ·have e':g'=b:=by simpa[Value.ownBlock] using e
  subst e';rcases hat with hat|hat
  ·exact Or.inl hat
  ·have:=(au cH g' rfl).2;exact Or.inr ⟨by omega,this⟩
 ·exact(aZ.block b (by simp;omega) (fun e=>hne e.symm)).trans ((Below.heap_alloc _ _ _ (by omega)).trans (hb4.block b hb))
 ·have:=aZ.size;simp at this;omega
 ·have m1:Mo bs w0 w4:=hM.hi.mo.trans (hM.ZC.trans (Mo.of bs Fb));exact m1.below ((Mo.alloc lv.ownBlock.toList w4 _).trans (Mo.grown aZ (fun b e=>by rw[e];simp))) fun b hb hb'=>by
   have e:lv.ownBlock=some b:=by simpa using hb'
   have:=hlv b e;omega
theorem aku(h:SX rg l r Xs)(hB:BD Xs)(_hbb:∀b∈bs,b<w0.heap.size)(k:Nat)(lv:Value)(gW cW:Nat)(L:List Nat)(gR cR n N:Nat)(w4:World)(hd:DQ bs Xs g w0 false k lv gW cW L gR cR n N w4):
  ∃N1 N2 N3,w4.cell? ⟨bx bs k,2,none⟩=some (.complex .f64 N1 N2)/\w4.cell? ⟨bx bs k,3,none⟩=some (.int .i64 N3)/\Calls Tryz.prog 114 #[.slice (some ⟨g,0,none⟩) bs.length cap,.agg #[.complex .f64 N1 N2,.int .i64 N3]] w4 fun e w5=>∃bL ob,e=.returned (.pointer (some ⟨bL,0,none⟩))/\w5.cell? ⟨bL,7,none⟩=some (.pointer (some ⟨ob,0,none⟩))/\EQ bs Xs g w0 k lv gW cW L gR cR n ob w5:=by
 obtain⟨PH,T,ow,wr,w1,w2,lo,O,rv,hM,rfl,hb4,jI⟩:=hd;have hs:=hM.sz;have hsz:(w2.alloc oH).heap.size=w2.heap.size+1:=by unfold oH;simp
 have yY:=hb4.size;rw[hsz] at yY;have Fb:=ZE hb4;have hP:=h.pv hB k (by have:=hM.kl;omega)
 have Fe:=hM.JF.below Fb;have hlen:=Fe.len;have hkb:k<bs.length:=by rw[hlen];exact hM.kl
 have hS:=Fe.rb.at hM.kl;have hno:∀ring∈bf Xs (cD Xs (aK Xs k).aF k),bV Xs ring=false:=fun ring hr=>by
  rw[<-hM.eL] at hr;cases hsh:bV Xs ring
  ·rfl
  ·rw[xn.2 ⟨ring,hr,hsh⟩] at jI;cases jI
 obtain⟨Bp,hll,hlm⟩:=h.low hB hP hM.kl hM.un hno;obtain⟨ph,fR,how⟩:=hM.hi.own _ hll hlm;refine⟨_,_,_,hS.c2,hS.c3,(ajQ bs Xs hB Fe.nd (xi Xs k).f (hB.v _ (gh hM.kl)).f g cap w4 Fe.rb Bp).mono ?_⟩;rintro e w5 ⟨rfl,ai⟩;have akv:=Fe.below ai;have Ff:=akv.side (ic Xs (xi Xs k).f) (by rw[hlen];exact hll)
 rw[how] at Ff;refine⟨_,ph.pb,rfl,cell_of Ff 7,Or.inr ⟨PH,T,ow,wr,w1,w2,lo,O,rv,ph,hM,jI,fR,rfl,fun b hb=>(ai.block b (by omega)).trans (hb4.block b hb),by have:=ai.size;omega,?_⟩⟩
 exact hM.hi.mo.trans (hM.ZC.trans ((Mo.of bs Fb).trans (Mo.of bs ai)))
theorem ZF(h:SX rg l r Xs)(hB:BD Xs){k:Nat}{lv:Value}{gW cW:Nat}{L:List Nat}{gR cR n:Nat}{PH:List ju}{T:Nat->Tg}{ow:Nat->Option Nat}{wr w1 w2:World}{lo:Value}{O:List Nat}{rv:List Value}(hM:lM bs Xs g w0 k lv gW cW L gR cR n PH T ow wr w1 w2 lo O rv):
  Wk Xs k L/\L.length<=85000000/\rv.length<=85000000/\0<rv.length/\rv.length=(bf Xs L).length:=by
 have hP:=h.pv hB k (by have:=hM.kl;omega)
 obtain⟨hc,hW⟩:=h.walk hB hP hM.kl hM.un;rw[<-hM.eL] at hc hW;have jE:L.length<=85000000:=by
  have:=wZ (mk:=(aK Xs k).aF) (fun j hj=>(h.next hB hj).1) Xs.length [] k hM.kl
  have h2:=vd Xs.length (aK Xs k).aF [];have h3:=hB.len;have e:ja (cd Xs) (aK Xs k).aF Xs.length [] k=L:=hM.eL.symm;rw[e] at this;simp only[fE] at this;omega
 refine⟨hW,jE,?_,?_,hM.ri.len⟩
 ·rw[hM.ri.len];have:=(EH Xs L L.length).2;rw[dI] at this;unfold bf;omega
 ·rw[hM.ri.len];exact gL.2 (Pe hW)
theorem akw(h:SX rg l r Xs)(hB:BD Xs)(hbb:∀b∈bs,b<w0.heap.size)(hg0:g<w0.heap.size)(k:Nat)(lv:Value)(gW cW:Nat)(L:List Nat)(gR cR n ob:Nat)(w5:World)(he:Zx bs Xs g w0 k lv gW cW L gR cR n ob w5):
  Calls Tryz.prog 115 #[.pointer (some ⟨ob,0,none⟩),.slice (some ⟨gR,0,none⟩) n cR] w5 fun e w6=>e=.returned (.tuple #[])/\FQ bs Xs g w0 k lv gW cW L ob 0 w6:=by
 obtain⟨ZG,PH,T,ow,wr,w1,w2,lo,O,rv,hM,rfl,jI,hrow,hQ,nY,akx,Pr⟩:=he;obtain⟨hW,jE,hrl,qV,Pv⟩:=ZF h hB hM;have yV:=h.JE hW;have hs:=hM.sz;have hen:=hM.en;subst hen;have aky:=hM.hi.pi.row;have hlv:∀b,ZG.ownBlock=some b->w0.heap.size<=b/\b<wr.heap.size:=fun b e=>au aky b e
 have k5:∀b,b<w2.heap.size->ZG.ownBlock≠some b->w5.heap[b]?=w2.heap[b]?:=fun b hb hne=>(nY b (by omega) hne).trans (Below.heap_alloc _ _ _ hb)
 have JH:∀b,b<w0.heap.size->w5.heap[b]?=w2.heap[b]?:=fun b hb=>k5 b (by omega) (fun e=>by have:=hlv b e;omega)
 have Pw:∀b,w1.heap.size<=b->b<w2.heap.size->w5.heap[b]?=w2.heap[b]?:=fun b h1 h2=>k5 b h2 (fun e=>by have:=hlv b e;omega)
 have AK:w5.heap[w2.heap.size]?=some (.cells #[.slice none 0 0,.slice none 0 0] 187 (0,0)):=(nY _ (by omega) (fun e=>by have:=hlv _ e;omega)).trans (heap_alloc_new w2 _)
 obtain⟨gX,cX,hv,hgl,dw,_,hcell⟩:=nD hM.ri.ro qV;have yX:gX=gR:=by
  injection hv with h1;injection h1 with h1;injection h1 with h1;exact h1.symm
 subst yX;have hzl:(rv.zip (bf Xs L)).length=rv.length:=by rw[List.length_zip];omega
 have Px:TK w5 w0.heap.size w2.heap.size (.slice none 0 0) (.slice none 0 0) (.slice none 0 0) [] w5:=⟨AK,World.ownsRow_nil _ _ _ _,Mo.refl _ _,fun b e=>by simp[Value.ownBlock] at e,by simp[Value.ownBlock]⟩
 have hcall:=Y9 (bV Xs) (rv.zip (bf Xs L)) (.slice none 0 0,[]) w2.heap.size gX cR w0.heap.size (.slice none 0 0) [] w5 (by rw[hzl];exact hrl) (by simp) (by omega) Px ⟨by omega,by simp[Value.ownBlock]⟩
  (fun i p hp=>by
   obtain⟨h1,h2⟩:=EX hp;exact⟨(World.cell?_of_block (w:=w2) (Pw gX hgl dw)).trans (hcell i p.1 h1),Fa (hM.ri.ring i p.1 p.2 h1 h2).1⟩)
  (fun p hp w' hm=>by
   have km:∀b,b<w2.heap.size->w'.heap[b]?=w5.heap[b]?:=fun b hb=>hm.block b (by omega) (by
    intro hk;rcases aQ.1 hk with e|e
    ·omega
    ·simp[Value.ownBlock] at e)
   exact hM.shell hB yV hW.lt jE p hp w' ((km g (by omega)).trans (JH g hg0)) (fun b hb=>(km b (by have:=hbb b hb;omega)).trans (JH b (hbb b hb))) (fun b h1 h2=>(km b h2).trans (Pw b h1 h2)))
 rw[hzl] at hcall;refine hcall.mono ?_;rintro e w6 ⟨rfl,hv',jt⟩;rw[vA] at jt;have k6:∀b,b<w5.heap.size->b≠w2.heap.size->w6.heap[b]?=w5.heap[b]?:=fun b hb hne=>jt.mo.block b hb (by
  intro hk;rcases aQ.1 hk with e|e
  ·exact hne e
  ·simp[Value.ownBlock] at e)
 have akz:=hM.hi.pi.push (w5:=w5) (w6:=w6) (lvQ:=lv) (bV Xs) (rv.zip (bf Xs L)) w2.heap.size w1.heap.size hv' (by omega) (by omega) (by omega) (by omega)
  (hM.Pn.keep (w':=w6) fun b h1 h2=>(k6 b (by omega) (by omega)).trans (Pw b h1 h2))
  (fun b h1 h2 ht=>(k6 b (by omega) (by omega)).trans ((k5 b (by omega) (fun e=>ht (hM.hi.pi.tl b e))).trans (hM.same hbb h1 h2)))
  (aJ hrow fun b e=>k6 b (au hrow b e).2 (by
   rcases hQ b e with e|e
   ·have:=hlv b e;omega
   ·omega)) hQ jt.jX jt.own (fun b e=>by
   rcases jt.fresh b e with e|e
   ·simp[Value.ownBlock] at e
   ·exact e)
 obtain⟨T',kR⟩:=akz;have hst:aK Xs (k+1)=⟨fun j=>(aK Xs k).aF j||L.contains j,fun j=>if L.contains j then(aK Xs k).ps.length else(aK Xs k).ow j,(aK Xs k).ps++[(tO (bV Xs) (bf Xs L),(bf Xs L).filter fun r=> !bV Xs r)]⟩:=by
  rw[yU];unfold oG;rw[<-hM.eL,if_neg (by rw[hM.un];simp),if_pos jI]
 rw[ZA (bV Xs) rv (bf Xs L) _ Pv,ZB (bV Xs) rv (bf Xs L) Pv] at kR;have akA:=hM.hi.pi.len;refine⟨rfl,hM.kl,hW.lt,by rw[hst];exact fun _=>rfl,by rw[hst];exact fun j hj=>by simp only[hj,iP,if_false],PH++[⟨w2.heap.size,(fN (bV Xs) (.slice none 0 0,[]) (rv.zip (bf Xs L))).1,hv',(fO (bV Xs) (rv.zip (bf Xs L))).map (·.1)⟩],T',ow,PH.length,⟨w2.heap.size,(fN (bV Xs) (.slice none 0 0,[]) (rv.zip (bf Xs L))).1,hv',(fO (bV Xs) (rv.zip (bf Xs L))).map (·.1)⟩,?_,by rw[hst];exact fun j hj=>by simp only[hj,if_true];exact akA.symm,by rw[nI (ae _),Nat.sub_self];rfl,rfl,fun j hj lL=>?_,?_,fun t s hts=>?_,?_,?_⟩
 ·rw[hst];exact kR
 ·obtain⟨ph,fR,how⟩:=hM.hi.own j hj lL;exact⟨ph,by rw[dZ (bT.1 fR).1];exact fR,how⟩
 ·have hsw:=hM.JF;refine SW.congr (mk:=fun j=>(aK Xs k).aF j||L.contains j) (ow:=ow) ⟨hsw.len,hsw.nd,hsw.ng,fun i hi=>?_,fun i hi=>?_⟩ (fun _ _=>rfl) (fun i _=>by unfold Bq;simp)
  ·exact(World.cell?_of_block (w:=w2) ((k6 g (by omega) (by omega)).trans (JH g hg0))).trans (hsw.row i hi)
  ·have:=hbb _ (qj hi);exact((k6 _ (by omega) (by omega)).trans (JH _ this)).trans (hsw.side i hi)
 ·obtain⟨gY,cY,yZ,JI,gD,_,_,_,hcl⟩:=ny hM.ws.own (by
   intro e;have:=rB.1 e;rw[this] at hts;simp at hts)
  have Fg:gY=gW:=by
   injection yZ with h1;injection h1 with h1;injection h1 with h1;exact h1.symm
  subst Fg;have hc:=hcl t (bx bs s) (by rw[gm,hts];rfl)
  rw[jd] at hc;refine(World.cell?_of_block (w:=w1) (?_:w6.heap[gY]?=w1.heap[gY]?)).trans hc;have:w5.heap[gY]?=w2.heap[gY]?:=k5 gY (by omega) (fun e=>by have:=hlv gY e;omega)
  exact(k6 gY (by omega) (by omega)).trans (this.trans (hM.ri.below.block gY gD))
 ·have hne:L≠[]:=fun e=>by have:=hW.head;rw[e] at this;simp at this
  obtain⟨gY,cY,yZ,JI,_⟩:=ny hM.ws.own (by intro e;exact hne (rB.1 e))
  have Fg:gY=gW:=by
   injection yZ with h1;injection h1 with h1;injection h1 with h1;exact h1.symm
  omega
 ·exact Pr.below (jt.mo) fun b hb hb'=>by
   rcases aQ.1 hb' with e|e
   ·omega
   ·simp[Value.ownBlock] at e
end
end Go.Proofs.YtkjhhooecopolaaGreatDoor
