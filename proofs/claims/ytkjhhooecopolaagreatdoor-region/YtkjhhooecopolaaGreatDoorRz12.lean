import Derived.Test.YtkjhhooecopolaaGreatDoorRz11
import Derived.Test.YtkjhhooecopolaaGreatDoorProg
set_option maxRecDepth 100000
set_option maxHeartbeats 4000000
namespace Go.Proofs.YtkjhhooecopolaaGreatDoor
open Tryz
open Value renaming int->az,complex->aA,float->aB,agg->aC,bool->aD,string->aF,slice->aG,pointer->aH,tuple->aI
open IntKind renaming i64->aJ
open FloatKind renaming f64->aK
open Ending renaming returned->aL
open Go renaming World->aM,Value->aN,floatOfInt->aO
section
open Go.RowKit
open Ge
def qj:Obj:=.cells #[aG none 0 0,aG none 0 0] 187
section
variable(bs:List Nat)(Xs:List PB)(g cap:Nat)(w0:aM)
def Ng(k:Nat)(lv:aN)(wr:aM):Prop:=k<=Xs.length/\∃PH T ow,HI bs Xs g w0 k lv PH T ow wr
def BQ(k:Nat)(lv:aN)(wr:aM):Prop:=k<Xs.length/\(bG Xs k).bz k=false/\∃PH T ow,HI bs Xs g w0 k lv PH T ow wr
def Ub(k:Nat)(lv:aN)(gW cW:Nat)(L:List Nat)(w1:aM):Prop:=k<Xs.length/\(bG Xs k).bz k=false/\L=dI Xs (bG Xs k).bz k/\∃PH T ow wr,HI bs Xs g w0 k lv PH T ow wr/\WS wr g bs Xs (bG Xs k).bz ow (aG (some ⟨gW,0,none⟩) L.length cW) L w1
def Uc(k:Nat)(lv:aN)(gW cW:Nat)(L:List Nat)(gR cR n:Nat)(w2:aM):Prop:=∃PH T ow wr w1 lo O rv,nD bs Xs g w0 k lv gW cW L gR cR n PH T ow wr w1 w2 lo O rv
def DQ(v:Bool)(k:Nat)(lv:aN)(gW cW:Nat)(L:List Nat)(gR cR n N:Nat)(w4:aM):Prop:=∃PH T ow wr w1 w2 lo O rv,nD bs Xs g w0 k lv gW cW L gR cR n PH T ow wr w1 w2 lo O rv/\N=w2.heap.size/\Below (w2.heap.size+1) (w2.alloc qj) w4/\(cJ Xs L).any (dm Xs)=v
def ac6(k:Nat)(FJ:aN)(gW cW:Nat)(L:List Nat)(gR cR n ob:Nat)(w5:aM):Prop:=∃lv PH T ow wr w1 w2 lo O rv,nD bs Xs g w0 k lv gW cW L gR cR n PH T ow wr w1 w2 lo O rv/\ob=w2.heap.size/\(cJ Xs L).any (dm Xs)=true/\
 w5.ownsRow w0.heap.size 165 1 FJ (PH.length+1) (PH.map j6++[aH (some ⟨w2.heap.size,0,none⟩)])/\(∀k,FJ.ownBlock=some k->lv.ownBlock=some k\/(w2.heap.size<k/\k<w5.heap.size))/\(∀b,b<w2.heap.size+1->lv.ownBlock≠some b->w5.heap[b]?=(w2.alloc qj).heap[b]?)/\w2.heap.size+1<=w5.heap.size/\Mo bs w0 w5
def ac7(k:Nat)(lv:aN)(gW cW:Nat)(L:List Nat)(gR cR n ob:Nat)(w5:aM):Prop:=∃PH T ow wr w1 w2 lo O rv ph,nD bs Xs g w0 k lv gW cW L gR cR n PH T ow wr w1 w2 lo O rv/\(cJ Xs L).any (dm Xs)=false/\PH[(bG Xs k).ow (jf Xs (xi Xs k).f)]?=some ph/\ob=ph.pb/\(∀b,b<w2.heap.size+1->w5.heap[b]?=(w2.alloc qj).heap[b]?)/\w2.heap.size+1<=w5.heap.size/\Mo bs w0 w5
def EQ(k:Nat)(lv:aN)(gW cW:Nat)(L:List Nat)(gR cR n ob:Nat)(w5:aM):Prop:=ac6 bs Xs g w0 k lv gW cW L gR cR n ob w5\/ac7 bs Xs g w0 k lv gW cW L gR cR n ob w5
def EM(ow:Nat->Option Nat)(A:List Nat)(o:Nat):Nat->Option Nat:=λj=>if A.contains j then some o else ow j
def FQ(k:Nat)(lv:aN)(gW _cW:Nat)(L:List Nat)(ob t:Nat)(wr:aM):Prop:=k<Xs.length/\(∀a∈L,a<Xs.length)/\(∀j,(bG Xs (k+1)).bz j=((bG Xs k).bz j||L.contains j))/\(∀j,L.contains j=false->(bG Xs (k+1)).ow j=(bG Xs k).ow j)/\
 ∃PH T ow q ph,PI bs w0.heap.size lv (bG Xs (k+1)).ps PH T wr/\(∀j,L.contains j=true->(bG Xs (k+1)).ow j=q)/\PH[q]?=some ph/\ph.pb=ob/\(∀j,j<Xs.length->(bG Xs k).bz j=true->∃ph,PH[(bG Xs k).ow j]?=some ph/\ow j=some ph.pb)/\
 SW g bs Xs (λj=>(bG Xs k).bz j||L.contains j) (EM ow (L.take t) ob) wr/\(∀(t s:Nat),L[t]?=some s->wr.cell? ⟨gW,t,none⟩=some (aH (some ⟨bx bs s,0,none⟩)))/\w0.heap.size<=gW/\Mo bs w0 wr
end
section
variable{rg:List (List Pt)}{l:List Nd}{r:Int}{Xs:List PB}{bs:List Nat}{g cap:Nat}{w0:aM}
theorem aob(k:Nat)(lv:aN)(wr:aM)(h:Ng bs Xs g w0 k lv wr)(hk:k<bs.length):wr.cell? ⟨g,k,none⟩=some (aH (some ⟨bx bs k,0,none⟩))/\∃m,wr.cell? ⟨bx bs k,6,none⟩=some (aD m)/\(m=true->Ng bs Xs g w0 (k+1) lv wr)/\(m=false->BQ bs Xs g w0 k lv wr):=by
 obtain⟨_,PH,T,ow,hI⟩:=h;have hkX:k<Xs.length:=by rw[<-hI.sw.len];exact hk
 refine⟨hI.sw.row k hk,(bG Xs k).bz k,cell_of (hI.sw.side k hk) 6,λhm=>⟨aa,PH,T,ow,?_⟩,λhm=>⟨hkX,hm,PH,T,ow,hI⟩⟩
 have e:bG Xs (k+1)=bG Xs k:=by
  rw[Ck];unfold qi;rw[aV hm]
 exact⟨by rw[e];exact hI.sw,by rw[e];exact hI.pi,by rw[e];exact hI.own,hI.mo⟩
theorem aoc(h:SX rg l r Xs)(hB:BD Xs)(hg0:g<w0.heap.size)(hbc:bs.length<=cap)(k:Nat)(lv:aN)(wr:aM)(hb:BQ bs Xs g w0 k lv wr):
  ak 110 #[aG (some ⟨g,0,none⟩) bs.length cap,aH (some ⟨bx bs k,0,none⟩)] wr λe w1=>∃gW cW L,e=aL (aG (some ⟨gW,0,none⟩) L.length cW)/\L.length<=85000000/\Ub bs Xs g w0 k lv gW cW L w1:=by
 obtain⟨hk,hm,PH,T,ow,hI⟩:=hb;have hP:=h.pv hB k aa
 obtain⟨hc,hW⟩:=h.walk hB hP hk hm;have hlen:=hI.sw.len;have kZ:(dI Xs (bG Xs k).bz k).length<=85000000:=by
  have:=zU (mk:=(bG Xs k).bz) (λj hj=>(h.next hB hj).1) Xs.length [] k hk
  have h2:=xE Xs.length (bG Xs k).bz [];have h3:=hB.len;have e:j4 (dC Xs) (bG Xs k).bz Xs.length [] k=dI Xs (bG Xs k).bz k:=rfl;rw[e] at this;simp only[iJ] at this;omega
 refine(amG bs Xs hB g cap k _ ow wr hI.sw (bW hg0 hI.mo.size) (by rw[hlen];exact hk) hbc (λi hi=>h.go i hi)).mono ?_
 rintro e w1 ⟨lv1,rfl,uh⟩;rw[hlen] at uh;have ac8:WS wr g bs Xs (bG Xs k).bz ow lv1 (dI Xs (bG Xs k).bz k) w1:=uh;have hne:dI Xs (bG Xs k).bz k≠[]:=λe=>by have:=hW.head;rw[e] at this;simp at this
 obtain⟨gW,cW,hv,_⟩:=o6 ac8.own (by intro e;exact hne (uA.1 e))
 subst hv;exact⟨gW,cW,_,rfl,kZ,hk,hm,rfl,PH,T,ow,wr,hI,ac8⟩
theorem aoe(h:SX rg l r Xs)(hB:BD Xs)(k:Nat)(lv:aN)(gW cW:Nat)(L:List Nat)(w1:aM)(hc1:Ub bs Xs g w0 k lv gW cW L w1):
  ak 111 #[aG (some ⟨gW,0,none⟩) L.length cW] w1 λe w2=>∃gR cR n,e=aL (aG (some ⟨gR,0,none⟩) n cR)/\Uc bs Xs g w0 k lv gW cW L gR cR n w2:=by
 obtain⟨hk,hm,eL,PH,T,ow,wr,hI,uh⟩:=hc1;have hP:=h.pv hB k aa
 obtain⟨hc,hW⟩:=h.walk hB hP hk hm;rw[<-eL] at hc hW;have hlen:=hI.sw.len;have hne:L≠[]:=λe=>by have:=hW.head;rw[e] at this;simp at this
 have kZ:L.length<=85000000:=by
  have:=zU (mk:=(bG Xs k).bz) (λj hj=>(h.next hB hj).1) Xs.length [] k hk
  have h2:=xE Xs.length (bG Xs k).bz [];have h3:=hB.len;have e:j4 (dC Xs) (bG Xs k).bz Xs.length [] k=L:=eL.symm;rw[e] at this;simp only[iJ] at this;omega
 have h0:∀s,L[0]?=some s->(xi Xs s).f=(xi Xs k).f:=λs hs=>by
  rw[hW.head] at hs;injection hs with hs;rw[hs]
 obtain⟨gX,cX,hv,_,_,_,_,_,hcell⟩:=o6 uh.own (by intro e;exact hne (uA.1 e))
 have Co:gX=gW:=by
  injection hv with h1;injection h1 with h1;injection h1 with h1;exact h1.symm
 subst Co;refine(ane bs Xs hB g _ ow w1 uh.sw L kZ (λa ha=>by rw[hlen];exact hW.lt a ha) gX cW (λi a hi=>hcell i (bx bs a) (by rw[iI,hi];rfl)) (λk' s hs hst=>h.parts hW.conn hW.lt h0 k' s hs hst)).mono ?_
 rintro e w2 ⟨lvR,lo,O,rv,rfl,qg⟩;have tX:0<rv.length:=by
  rw[qg.len];exact jE.2 (TY hW)
 obtain⟨gR,cR,hv2,_⟩:=po qg.ro tX;subst hv2;exact⟨gR,cR,rv.length,rfl,PH,T,ow,wr,w1,lo,O,rv,hI,hk,hm,eL,uh,qg,rfl⟩
theorem aof(h:SX rg l r Xs)(hB:BD Xs)(hbb:∀b∈bs,b<w0.heap.size)(hg0:g<w0.heap.size)(k:Nat)(lv:aN)(gW cW:Nat)(L:List Nat)(gR cR n:Nat)(w2:aM)(hc2:Uc bs Xs g w0 k lv gW cW L gR cR n w2):
  ak 112 #[aG (some ⟨gR,0,none⟩) n cR,.func (.func 113) #[] #[]] (w2.alloc (.cells #[aG none 0 0,aG none 0 0] 187)) λe w4=>∃b,e=aL (aD b)/\(b=true->DQ bs Xs g w0 true k lv gW cW L gR cR n w2.heap.size w4)/\(b=false->DQ bs Xs g w0 false k lv gW cW L gR cR n w2.heap.size w4):=by
 obtain⟨PH,T,ow,wr,w1,lo,O,rv,hM⟩:=hc2;have hP:=h.pv hB k (by have:=hM.kl;omega)
 obtain⟨hc,hW⟩:=h.walk hB hP hM.kl hM.un;rw[<-hM.eL] at hc hW;have Cm:=h.Nc hW;have kZ:L.length<=85000000:=by
  have:=zU (mk:=(bG Xs k).bz) (λj hj=>(h.next hB hj).1) Xs.length [] k hM.kl
  have h2:=xE Xs.length (bG Xs k).bz [];have h3:=hB.len;have e:j4 (dC Xs) (bG Xs k).bz Xs.length [] k=L:=hM.eL.symm;rw[e] at this;simp only[iJ] at this;omega
 have hrl:rv.length<=85000000:=by
  rw[hM.ri.len];have:=(IA Xs L L.length).2;rw[fO] at this;unfold cJ;omega
 have tX:0<rv.length:=by
  rw[hM.ri.len];exact jE.2 (TY hW)
 have hen:=hM.en;subst hen;obtain⟨gX,cX,hv,_,eK,_,hcell⟩:=po hM.ri.ro tX;have Co:gX=gR:=by
  injection hv with h1;injection h1 with h1;injection h1 with h1;exact h1.symm
 subst Co;have hal:∀b,b<w2.heap.size->(w2.alloc qj).heap[b]?=w2.heap[b]?:=λb hb=>Below.heap_alloc _ _ _ hb
 have hs:=hM.sz;have hsz:(w2.alloc qj).heap.size=w2.heap.size+1:=by unfold qj;simp
 have tU:=ank (dm Xs) (cJ Xs L) rv hM.ri.len gX cR (w2.alloc qj) hrl (λi v hi=>⟨(World.cell?_of_block (w:=w2) (hal gX eK)).trans (hcell i v hi),by
   obtain⟨q,hq⟩:∃q,(cJ Xs L)[i]?=some q:=⟨_,bo (by rw[<-hM.ri.len];exact(cG.1 hi).1)⟩
   exact IQ (hM.ri.ring i v q hi hq).1⟩) (λi v q hi hq w' hb=>by
   have hp:(v,q)∈rv.zip (cJ Xs L):=bT (VJ.2 ⟨hi,hq⟩);have pR:∀b,b<w2.heap.size->w'.heap[b]?=w2.heap[b]?:=λb hb'=>(hb.block b (by rw[hsz];omega)).trans (hal b hb')
   exact hM.shell hB Cm hW.lt kZ (v,q) hp w' (pR g aa) (λb hb'=>pR b (by have:=hbb b hb';omega)) (λb _ hb'=>pR b hb'))
 refine(anl _ gX rv.length cR (w2.alloc qj) tU).mono ?_;rintro e w4 ⟨rfl,hb4⟩;rw[acE];have K1:Below (w2.heap.size+1) (w2.alloc qj) w4:=by rw[<-hsz];exact hb4
 exact⟨_,rfl,λhv=>⟨PH,T,ow,wr,w1,w2,lo,O,rv,hM,rfl,K1,hv⟩,λhv=>⟨PH,T,ow,wr,w1,w2,lo,O,rv,hM,rfl,K1,hv⟩⟩
end
theorem ac9(P:List Nat->Bool):∀(rv:List aN)(Rs:List (List Nat))(a:VR),rv.length=Rs.length->(ic P a (rv.zip Rs)).2=Rs.foldl (λacc r=>if P r then r else acc) a.2
 |[],[],a,_=>rfl
 |v::rv,q::Rs,a,h=>by
  show(ic P (if P q then(v,q) else a) (rv.zip Rs)).2=Rs.foldl _ (if P q then q else a.2)
  rw[ac9 P rv Rs _ (by simpa using h)]
  congr 1;split<;>rfl
 |[],_::_,_,h=>by simp at h
 |_::_,[],_,h=>by simp at h
theorem ada(P:List Nat->Bool):∀(rv:List aN)(Rs:List (List Nat)),rv.length=Rs.length->(ie P (rv.zip Rs)).map (·.2)=Rs.filter λr=> !P r
 |[],[],_=>rfl
 |v::rv,q::Rs,h=>by
  have ih:=ada P rv Rs (by simpa using h)
  unfold ie at*;rw[Oz,agd,agd];cases hq:P q
  .simp only[Bool.not_false,kP,ij];rw[ih]
  .simp only[Bool.not_true,mi,nL];exact ih
 |[],_::_,h=>by simp at h
 |_::_,[],h=>by simp at h
theorem aog(P:List Nat->Bool)(a:VR)(Z:List VR)(h:∀p∈Z,P p.2=false):ic P a Z=a/\ie P Z=Z:=by
 refine⟨?_,?_⟩
 .rcases TF P a Z with e|⟨e1,e2⟩
  .exact e
  .rw[h _ e1] at e2;cases e2
 .unfold ie;exact OD.2 λp hp=>by rw[h p hp];rfl
section
variable{bs:List Nat}{Xs:List PB}{g:Nat}{w0:aM}{k:Nat}{lv:aN}{gW cW:Nat}{L:List Nat}{gR cR n:Nat}{PH:List kN}{T:Nat->Tg}{ow:Nat->Option Nat}{wr w1 w2:aM}{lo:aN}{O:List Nat}{rv:List aN}
theorem nD.mo2(h:nD bs Xs g w0 k lv gW cW L gR cR n PH T ow wr w1 w2 lo O rv):Mo bs wr w2:=h.ws.mo.trans (Mo.of bs h.ri.below)
theorem ade{w2 w4:aM}(hb:Below (w2.heap.size+1) (w2.alloc qj) w4):aj w2 w4:=(aw _ _).trans (hb.mono aa)
end
section
variable{rg:List (List Pt)}{l:List Nd}{r:Int}{Xs:List PB}{bs:List Nat}{g cap:Nat}{w0:aM}
theorem aoh(h:SX rg l r Xs)(hB:BD Xs)(hbb:∀b∈bs,b<w0.heap.size)(k:Nat)(lv:aN)(gW cW:Nat)(L:List Nat)(gR cR n N:Nat)(w4:aM)(hd:DQ bs Xs g w0 true k lv gW cW L gR cR n N w4):
  ∃np pp,w4.ownsRow w0.heap.size 165 1 lv np pp/\np<=85000000/\w0.heap.size<=w4.heap.size/\∀g' cap' w8,w8.ownsRow w0.heap.size 165 1 (aG (some ⟨g',0,none⟩) (np+1) cap') (np+1) (pp++[aH (some ⟨N,0,none⟩)])->(w4.alloc (.cells #[aH (some ⟨N,0,none⟩)] 165)).grownBy w8 lv.ownBlock->(lv.ownBlock=some g'\/g'=w4.heap.size+1)->EQ bs Xs g w0 k (aG (some ⟨g',0,none⟩) (np+1) cap') gW cW L gR cR n N w8:=by
 obtain⟨PH,T,ow,wr,w1,w2,lo,O,rv,hM,rfl,hb4,mf⟩:=hd;have hs:=hM.sz;have hsz:(w2.alloc qj).heap.size=w2.heap.size+1:=by unfold qj;simp
 have Ud:=hb4.size;rw[hsz] at Ud;have IU:=ade hb4;have hP:=h.pv hB k (by have:=hM.kl;omega)
 have M0:=hB.len;have hpl:=hP.len;have hlen:=hM.hi.pi.len;have hkl:=hM.kl;have hrow:=hM.hi.pi.row;have hlv:∀b,lv.ownBlock=some b->w0.heap.size<=b/\b<wr.heap.size:=λb e=>bn hrow b e
 refine⟨PH.length,PH.map j6,bB hrow λb e=>(IU.block b (by have:=hlv b e;omega)).trans (hM.same hbb (hlv b e).1 (hlv b e).2),aa,aa,λg' cap' w8 dM cI hat=>aU ⟨lv,PH,T,ow,wr,w1,w2,lo,O,rv,hM,rfl,mf,dM,λb e=>?_,λb hb hne=>?_,?_,?_⟩⟩
 .have e':g'=b:=by simpa[Value.ownBlock] using e
  subst e';rcases hat with hat|hat
  .exact aU hat
  .have:=(bn dM g' rfl).2;exact aT ⟨aa,this⟩
 .exact(cI.block b (by simp;omega) (λe=>hne e.symm)).trans ((Below.heap_alloc _ _ _ aa).trans (hb4.block b hb))
 .have:=cI.size;simp at this;omega
 .have m1:Mo bs w0 w4:=hM.hi.mo.trans (hM.mo2.trans (Mo.of bs IU));exact m1.below ((Mo.alloc lv.ownBlock.toList w4 _).trans (Mo.grown cI (λb e=>by rw[e];simp))) λb hb hb'=>by
   have e:lv.ownBlock=some b:=by simpa using hb'
   have:=hlv b e;omega
theorem aoi(h:SX rg l r Xs)(hB:BD Xs)(_hbb:∀b∈bs,b<w0.heap.size)(k:Nat)(lv:aN)(gW cW:Nat)(L:List Nat)(gR cR n N:Nat)(w4:aM)(hd:DQ bs Xs g w0 false k lv gW cW L gR cR n N w4):
  ∃N1 N2 N3,w4.cell? ⟨bx bs k,2,none⟩=some (aA aK N1 N2)/\w4.cell? ⟨bx bs k,3,none⟩=some (az aJ N3)/\ak 114 #[aG (some ⟨g,0,none⟩) bs.length cap,aC #[aA aK N1 N2,az aJ N3]] w4 λe w5=>∃bL ob,e=aL (aH (some ⟨bL,0,none⟩))/\w5.cell? ⟨bL,7,none⟩=some (aH (some ⟨ob,0,none⟩))/\EQ bs Xs g w0 k lv gW cW L gR cR n ob w5:=by
 obtain⟨PH,T,ow,wr,w1,w2,lo,O,rv,hM,rfl,hb4,mf⟩:=hd;have hs:=hM.sz;have hsz:(w2.alloc qj).heap.size=w2.heap.size+1:=by unfold qj;simp
 have Ud:=hb4.size;rw[hsz] at Ud;have IU:=ade hb4;have hP:=h.pv hB k (by have:=hM.kl;omega)
 have IW:=hM.Nf.below IU;have hlen:=IW.len;have hkb:k<bs.length:=by rw[hlen];exact hM.kl
 have hS:=IW.rb.at hM.kl;have hno:∀ring∈cJ Xs (dI Xs (bG Xs k).bz k),dm Xs ring=false:=λring hr=>by
  rw[<-hM.eL] at hr;cases hsh:dm Xs ring
  .rfl
  .rw[Fv.2 ⟨ring,hr,hsh⟩] at mf;cases mf
 obtain⟨EL,hll,hlm⟩:=h.low hB hP hM.kl hM.un hno;obtain⟨ph,ig,how⟩:=hM.hi.own _ hll hlm;refine⟨_,_,_,hS.c2,hS.c3,(anE bs Xs hB IW.nd (xi Xs k).f (hB.v _ (iH hM.kl)).f g cap w4 IW.rb EL).mono ?_⟩;rintro e w5 ⟨rfl,bg⟩;have aoj:=IW.below bg;have IX:=aoj.side (jf Xs (xi Xs k).f) (by rw[hlen];exact hll)
 rw[how] at IX;refine⟨_,ph.pb,rfl,cell_of IX 7,aT ⟨PH,T,ow,wr,w1,w2,lo,O,rv,ph,hM,mf,ig,rfl,λb hb=>(bg.block b aa).trans (hb4.block b hb),by have:=bg.size;omega,?_⟩⟩
 exact hM.hi.mo.trans (hM.mo2.trans ((Mo.of bs IU).trans (Mo.of bs bg)))
theorem adf(h:SX rg l r Xs)(hB:BD Xs){k:Nat}{lv:aN}{gW cW:Nat}{L:List Nat}{gR cR n:Nat}{PH:List kN}{T:Nat->Tg}{ow:Nat->Option Nat}{wr w1 w2:aM}{lo:aN}{O:List Nat}{rv:List aN}(hM:nD bs Xs g w0 k lv gW cW L gR cR n PH T ow wr w1 w2 lo O rv):
  Wk Xs k L/\L.length<=85000000/\rv.length<=85000000/\0<rv.length/\rv.length=(cJ Xs L).length:=by
 have hP:=h.pv hB k (by have:=hM.kl;omega)
 obtain⟨hc,hW⟩:=h.walk hB hP hM.kl hM.un;rw[<-hM.eL] at hc hW;have kZ:L.length<=85000000:=by
  have:=zU (mk:=(bG Xs k).bz) (λj hj=>(h.next hB hj).1) Xs.length [] k hM.kl
  have h2:=xE Xs.length (bG Xs k).bz [];have h3:=hB.len;have e:j4 (dC Xs) (bG Xs k).bz Xs.length [] k=L:=hM.eL.symm;rw[e] at this;simp only[iJ] at this;omega
 refine⟨hW,kZ,?_,?_,hM.ri.len⟩
 .rw[hM.ri.len];have:=(IA Xs L L.length).2;rw[fO] at this;unfold cJ;omega
 .rw[hM.ri.len];exact jE.2 (TY hW)
theorem aok(h:SX rg l r Xs)(hB:BD Xs)(hbb:∀b∈bs,b<w0.heap.size)(hg0:g<w0.heap.size)(k:Nat)(lv:aN)(gW cW:Nat)(L:List Nat)(gR cR n ob:Nat)(w5:aM)(he:ac6 bs Xs g w0 k lv gW cW L gR cR n ob w5):
  ak 115 #[aH (some ⟨ob,0,none⟩),aG (some ⟨gR,0,none⟩) n cR] w5 λe w6=>e=aL (aI #[])/\FQ bs Xs g w0 k lv gW cW L ob 0 w6:=by
 obtain⟨lv0,PH,T,ow,wr,w1,w2,lo,O,rv,hM,rfl,mf,hrow,hQ,pR,adh,Ue⟩:=he;obtain⟨hW,kZ,hrl,tX,Uf⟩:=adf h hB hM;have Cm:=h.Nc hW;have hs:=hM.sz;have hen:=hM.en;subst hen;have aol:=hM.hi.pi.row;have hlv:∀b,lv0.ownBlock=some b->w0.heap.size<=b/\b<wr.heap.size:=λb e=>bn aol b e
 have k5:∀b,b<w2.heap.size->lv0.ownBlock≠some b->w5.heap[b]?=w2.heap[b]?:=λb hb hne=>(pR b aa hne).trans (Below.heap_alloc _ _ _ hb)
 have Nh:∀b,b<w0.heap.size->w5.heap[b]?=w2.heap[b]?:=λb hb=>k5 b aa (λe=>by have:=hlv b e;omega)
 have Ug:∀b,w1.heap.size<=b->b<w2.heap.size->w5.heap[b]?=w2.heap[b]?:=λb h1 h2=>k5 b h2 (λe=>by have:=hlv b e;omega)
 have El:w5.heap[w2.heap.size]?=some (.cells #[aG none 0 0,aG none 0 0] 187 (0,0)):=(pR _ aa (λe=>by have:=hlv _ e;omega)).trans (heap_alloc_new w2 _)
 obtain⟨gX,cX,hv,hgl,eK,_,hcell⟩:=po hM.ri.ro tX;have Co:gX=gR:=by
  injection hv with h1;injection h1 with h1;injection h1 with h1;exact h1.symm
 subst Co;have hzl:(rv.zip (cJ Xs L)).length=rv.length:=by rw[List.length_zip];omega
 have Uh:TK w5 w0.heap.size w2.heap.size (aG none 0 0) (aG none 0 0) (aG none 0 0) [] w5:=⟨El,World.ownsRow_nil _ _ _ _,Mo.refl _ _,λb e=>by simp[Value.ownBlock] at e,by simp[Value.ownBlock]⟩
 have hcall:=acJ (dm Xs) (rv.zip (cJ Xs L)) (aG none 0 0,[]) w2.heap.size gX cR w0.heap.size (aG none 0 0) [] w5 (by rw[hzl];exact hrl) af aa Uh ⟨aa,by simp[Value.ownBlock]⟩
  (λi p hp=>by
   obtain⟨h1,h2⟩:=II hp;exact⟨(World.cell?_of_block (w:=w2) (Ug gX hgl eK)).trans (hcell i p.1 h1),IQ (hM.ri.ring i p.1 p.2 h1 h2).1⟩)
  (λp hp w' hm=>by
   have km:∀b,b<w2.heap.size->w'.heap[b]?=w5.heap[b]?:=λb hb=>hm.block b aa (by
    intro hk;rcases bU.1 hk with e|e
    .omega
    .simp[Value.ownBlock] at e)
   exact hM.shell hB Cm hW.lt kZ p hp w' ((km g aa).trans (Nh g hg0)) (λb hb=>(km b (by have:=hbb b hb;omega)).trans (Nh b (hbb b hb))) (λb h1 h2=>(km b h2).trans (Ug b h1 h2)))
 rw[hzl] at hcall;refine hcall.mono ?_;rintro e w6 ⟨rfl,hv',kM⟩;rw[sI] at kM;have k6:∀b,b<w5.heap.size->b≠w2.heap.size->w6.heap[b]?=w5.heap[b]?:=λb hb hne=>kM.mo.block b hb (by
  intro hk;rcases bU.1 hk with e|e
  .exact hne e
  .simp[Value.ownBlock] at e)
 have aom:=hM.hi.pi.push (w5:=w5) (w6:=w6) (lvQ:=lv) (dm Xs) (rv.zip (cJ Xs L)) w2.heap.size w1.heap.size hv' aa aa aa aa
  (hM.Ua.keep (w':=w6) λb h1 h2=>(k6 b aa aa).trans (Ug b h1 h2))
  (λb h1 h2 ht=>(k6 b aa aa).trans ((k5 b aa (λe=>ht (hM.hi.pi.tl b e))).trans (hM.same hbb h1 h2)))
  (bB hrow λb e=>k6 b (bn hrow b e).2 (by
   rcases hQ b e with e|e
   .have:=hlv b e;omega
   .omega)) hQ kM.lT kM.own (λb e=>by
   rcases kM.fresh b e with e|e
   .simp[Value.ownBlock] at e
   .exact e)
 obtain⟨T',mM⟩:=aom;have hst:bG Xs (k+1)=⟨λj=>(bG Xs k).bz j||L.contains j,λj=>if L.contains j then(bG Xs k).ps.length else(bG Xs k).ow j,(bG Xs k).ps++[(vO (dm Xs) (cJ Xs L),(cJ Xs L).filter λr=> !dm Xs r)]⟩:=by
  rw[Ck];unfold qi;rw[<-hM.eL,aQ (by rw[hM.un];simp),aV mf]
 rw[ac9 (dm Xs) rv (cJ Xs L) _ Uf,ada (dm Xs) rv (cJ Xs L) Uf] at mM;have aon:=hM.hi.pi.len;refine⟨rfl,hM.kl,hW.lt,by rw[hst];exact λ_=>rfl,by rw[hst];exact λj hj=>by simp only[hj,mi,nL],PH++[⟨w2.heap.size,(ic (dm Xs) (aG none 0 0,[]) (rv.zip (cJ Xs L))).1,hv',(ie (dm Xs) (rv.zip (cJ Xs L))).map (·.1)⟩],T',ow,PH.length,⟨w2.heap.size,(ic (dm Xs) (aG none 0 0,[]) (rv.zip (cJ Xs L))).1,hv',(ie (dm Xs) (rv.zip (cJ Xs L))).map (·.1)⟩,?_,by rw[hst];exact λj hj=>by simp only[hj,kP];exact aon.symm,by rw[nJ (aY _),Nat.sub_self];rfl,rfl,λj hj nB=>?_,?_,λt s hts=>?_,?_,?_⟩
 .rw[hst];exact mM
 .obtain⟨ph,ig,how⟩:=hM.hi.own j hj nB;exact⟨ph,by rw[fI (cG.1 ig).1];exact ig,how⟩
 .have hsw:=hM.Nf;refine SW.congr (mk:=λj=>(bG Xs k).bz j||L.contains j) (ow:=ow) ⟨hsw.len,hsw.nd,hsw.ng,λi hi=>?_,λi hi=>?_⟩ (λ_ _=>rfl) (λi _=>by unfold EM;simp)
  .exact(World.cell?_of_block (w:=w2) ((k6 g aa aa).trans (Nh g hg0))).trans (hsw.row i hi)
  .have:=hbb _ (rZ hi);exact((k6 _ aa aa).trans (Nh _ this)).trans (hsw.side i hi)
 .obtain⟨gY,cY,Cq,Ni,iO,_,_,_,hcl⟩:=o6 hM.ws.own (by
   intro e;have:=uA.1 e;rw[this] at hts;simp at hts)
  have IY:gY=gW:=by
   injection Cq with h1;injection h1 with h1;injection h1 with h1;exact h1.symm
  subst IY;have hc:=hcl t (bx bs s) (by rw[iI,hts];rfl)
  rw[jD] at hc;refine(World.cell?_of_block (w:=w1) (?_:w6.heap[gY]?=w1.heap[gY]?)).trans hc;have:w5.heap[gY]?=w2.heap[gY]?:=k5 gY aa (λe=>by have:=hlv gY e;omega)
  exact(k6 gY aa aa).trans (this.trans (hM.ri.below.block gY iO))
 .have hne:L≠[]:=λe=>by have:=hW.head;rw[e] at this;simp at this
  obtain⟨gY,cY,Cq,Ni,_⟩:=o6 hM.ws.own (by intro e;exact hne (uA.1 e))
  have IY:gY=gW:=by
   injection Cq with h1;injection h1 with h1;injection h1 with h1;exact h1.symm
  omega
 .exact Ue.below (kM.mo) λb hb hb'=>by
   rcases bU.1 hb' with e|e
   .omega
   .simp[Value.ownBlock] at e
end
section
variable{rg:List (List Pt)}{l:List Nd}{r:Int}{Xs:List PB}{bs:List Nat}{g cap:Nat}{w0:aM}
theorem aoo(h:SX rg l r Xs)(hB:BD Xs)(hbb:∀b∈bs,b<w0.heap.size)(hg0:g<w0.heap.size)(k:Nat)(lv:aN)(gW cW:Nat)(L:List Nat)(gR cR n ob:Nat)(w5:aM)(he:ac7 bs Xs g w0 k lv gW cW L gR cR n ob w5):
  ak 115 #[aH (some ⟨ob,0,none⟩),aG (some ⟨gR,0,none⟩) n cR] w5 λe w6=>e=aL (aI #[])/\FQ bs Xs g w0 k lv gW cW L ob 0 w6:=by
 obtain⟨PH,T,ow,wr,w1,w2,lo,O,rv,ph,hM,mf,ig,rfl,pR,adh,Ue⟩:=he;obtain⟨hW,kZ,hrl,tX,Uf⟩:=adf h hB hM;have Cm:=h.Nc hW;have hs:=hM.sz;have hen:=hM.en;subst hen;have hP:=h.pv hB k (by have:=hM.kl;omega)
 generalize hq:(bG Xs k).ow (jf Xs (xi Xs k).f)=q at*;have oF:q<PH.length:=(cG.1 ig).1;have IJ:q<(bG Xs k).ps.length:=by rw[<-hM.hi.pi.len];exact oF
 have hps:(bG Xs k).ps[q]?=some ((bG Xs k).ps.getD q ([],[])):=by
  rw[nN,bo IJ];rfl
 generalize aop:(bG Xs k).ps.getD q ([],[])=ps at*;have hA:=hM.hi.pi.pg q ph ps ig hps;have nj:=lt_of_heap hA.blk;have k5:∀b,b<w2.heap.size->w5.heap[b]?=w2.heap[b]?:=λb hb=>(pR b aa).trans (Below.heap_alloc _ _ _ hb)
 have Ui:∀b,w0.heap.size<=b->b<wr.heap.size->w5.heap[b]?=wr.heap[b]?:=λb h1 h2=>(k5 b aa).trans (hM.same hbb h1 h2)
 obtain⟨gX,cX,hv,hgl,eK,_,hcell⟩:=po hM.ri.ro tX;have Co:gX=gR:=by
  injection hv with h1;injection h1 with h1;injection h1 with h1;exact h1.symm
 subst Co;have hzl:(rv.zip (cJ Xs L)).length=rv.length:=by rw[List.length_zip];omega
 have IZ:∀b,ph.hv.ownBlock=some b->w0.heap.size<=b/\b<wr.heap.size:=λb e=>bn hA.ho b e
 have aoq:ph.hv.ownBlock≠some ph.pb:=λe=>by
  have h1:=hA.th _ e;rw[hA.tp] at h1;cases h1
 have Uh:TK w5 w0.heap.size ph.pb ph.hv ph.sv ph.hv ph.hvs w5:=⟨(Ui _ hA.ge nj).trans hA.blk,bB hA.ho λb e=>Ui b (IZ b e).1 (IZ b e).2,Mo.refl _ _,λb e=>aU e,aoq⟩
 have aor:∀p∈rv.zip (cJ Xs L),dm Xs p.2=false:=λp hp=>by
  obtain⟨i,hi,e⟩:=kO.1 hp;have hm:=bT (II (by rw[bo hi,e]:(rv.zip (cJ Xs L))[i]?=some p)).2
  cases hsh:dm Xs p.2
  .rfl
  .rw[Fv.2 ⟨p.2,hm,hsh⟩] at mf;cases mf
 obtain⟨aos,aot⟩:=aog (dm Xs) (ph.sv,ps.1) (rv.zip (cJ Xs L)) aor;have adi:∀b,b<w2.heap.size->wr.heap.size<=b\/b<w0.heap.size->b∉ph.pb::ph.hv.ownBlock.toList:=λb _ hb hk=>by
  have hge:=hA.ge;rcases bU.1 hk with e|e
  .omega
  .have e':ph.hv.ownBlock=some b:=by simpa using e
   have:=IZ b e';omega
 have Cj:ph.hvs.length<=85000000:=by
  have h1:=hP.hol q ps hps;have h2:=hA.hl;have h3:=hB.len;omega
 have hcall:=acJ (dm Xs) (rv.zip (cJ Xs L)) (ph.sv,ps.1) ph.pb gX cR w0.heap.size ph.hv ph.hvs w5 (by rw[hzl];exact hrl) Cj aa Uh ⟨aa,λe=>by have:=IZ gX e;omega⟩
  (λi p hp=>by
   obtain⟨h1,h2⟩:=II hp;exact⟨(World.cell?_of_block (w:=w2) (k5 gX eK)).trans (hcell i p.1 h1),IQ (hM.ri.ring i p.1 p.2 h1 h2).1⟩)
  (λp hp w' hm=>by
   have km:∀b,b<w2.heap.size->wr.heap.size<=b\/b<w0.heap.size->w'.heap[b]?=w2.heap[b]?:=λb hb hb'=>(hm.block b aa (adi b hb hb')).trans (k5 b hb)
   exact hM.shell hB Cm hW.lt kZ p hp w' (km g aa (aT hg0)) (λb hb=>km b (by have:=hbb b hb;omega) (aT (hbb b hb))) (λb h1 h2=>km b h2 (aU aa)))
 rw[hzl,aos,aot] at hcall;refine hcall.mono ?_;rintro e w6 ⟨rfl,hv',kM⟩;have k6:∀b,b<w2.heap.size->wr.heap.size<=b\/b<w0.heap.size->w6.heap[b]?=w2.heap[b]?:=λb hb hb'=>(kM.mo.block b aa (adi b hb hb')).trans (k5 b hb)
 have q8:=hM.hi.pi.more (w5:=w5) (w6:=w6) (rv.zip (cJ Xs L)) w1.heap.size w2.heap.size q ph ps ig hps hv' aa aa aa aa
  (hM.Ua.keep (w':=w6) λb h1 h2=>k6 b h2 (aU aa))
  (λb h1 h2 ht1 ht2=>(kM.mo.block b aa (λhk=>by
   rcases bU.1 hk with e|e
   .rw[e] at ht1;exact ht1 hA.tp
   .have e':ph.hv.ownBlock=some b:=by simpa using e
    exact ht2 (hA.th b e'))).trans (Ui b h1 h2))
  kM.lT kM.own kM.fresh
 obtain⟨T',mM⟩:=q8;have hst:bG Xs (k+1)=⟨λj=>(bG Xs k).bz j||L.contains j,λj=>if L.contains j then q else(bG Xs k).ow j,(bG Xs k).ps.set q (ps.1,ps.2++cJ Xs L)⟩:=by
  rw[Ck];unfold qi;rw[<-hM.eL,aQ (by rw[hM.un];simp),aQ (by rw[mf];simp),hq,aop]
 have hz2:(rv.zip (cJ Xs L)).map (·.2)=cJ Xs L:=List.map_snd_zip aa
 rw[hz2] at mM;refine⟨rfl,hM.kl,hW.lt,by rw[hst];exact λ_=>rfl,by rw[hst];exact λj hj=>by simp only[hj,mi,nL],_,T',ow,q,⟨ph.pb,ph.sv,hv',ph.hvs++(rv.zip (cJ Xs L)).map (·.1)⟩,by rw[hst];exact mM,by rw[hst];exact λj hj=>by simp only[hj,kP],sO oF,rfl,λj hj nB=>?_,?_,λt s hts=>?_,?_,?_⟩
 .obtain⟨vM,I0,how⟩:=hM.hi.own j hj nB;by_cases EN:q=(bG Xs k).ow j
  .refine⟨⟨ph.pb,ph.sv,hv',ph.hvs++(rv.zip (cJ Xs L)).map (·.1)⟩,by rw[<-EN];exact sO oF,?_⟩
   rw[how];rw[<-EN,ig] at I0;injection I0 with I0;rw[I0]
  .exact⟨vM,by rw[wm EN];exact I0,how⟩
 .have hsw:=hM.Nf;refine SW.congr (mk:=λj=>(bG Xs k).bz j||L.contains j) (ow:=ow) ⟨hsw.len,hsw.nd,hsw.ng,λi hi=>?_,λi hi=>?_⟩ (λ_ _=>rfl) (λi _=>by unfold EM;simp)
  .exact(World.cell?_of_block (w:=w2) (k6 g aa (aT hg0))).trans (hsw.row i hi)
  .have:=hbb _ (rZ hi);exact(k6 _ aa (aT this)).trans (hsw.side i hi)
 .obtain⟨gY,cY,Cq,Ni,iO,_,_,_,hcl⟩:=o6 hM.ws.own (by
   intro e;have:=uA.1 e;rw[this] at hts;simp at hts)
  have IY:gY=gW:=by
   injection Cq with h1;injection h1 with h1;injection h1 with h1;exact h1.symm
  subst IY;have hc:=hcl t (bx bs s) (by rw[iI,hts];rfl)
  rw[jD] at hc;refine(World.cell?_of_block (w:=w1) (?_:w6.heap[gY]?=w1.heap[gY]?)).trans hc;exact(k6 gY aa (aU Ni)).trans (hM.ri.below.block gY iO)
 .have hne:L≠[]:=λe=>by have:=hW.head;rw[e] at this;simp at this
  obtain⟨gY,cY,Cq,Ni,_⟩:=o6 hM.ws.own (by intro e;exact hne (uA.1 e))
  have IY:gY=gW:=by
   injection Cq with h1;injection h1 with h1;injection h1 with h1;exact h1.symm
  omega
 .exact Ue.below (kM.mo) λb hb hb'=>by
   have hge:=hA.ge;rcases bU.1 hb' with e|e
   .omega
   .have e':ph.hv.ownBlock=some b:=by simpa using e
    have:=IZ b e';omega
theorem aou(hbb:∀b∈bs,b<w0.heap.size)(k:Nat)(lv:aN)(gW cW:Nat)(L:List Nat)(ob t:Nat)(wr:aM)(hF:FQ bs Xs g w0 k lv gW cW L ob t wr)(ht:t<L.length):∃b o,wr.cell? ⟨gW,t,none⟩=some (aH (some ⟨b,0,none⟩))/\wr.cell? ⟨b,7,none⟩=some o/\wr.frozen? ⟨b,7,none⟩=false/\FQ bs Xs g w0 k lv gW cW L ob (t+1) (wr.setCell ⟨b,7,none⟩ (aH (some ⟨ob,0,none⟩))):=by
 obtain⟨hk,hlt,hmk,Uj,PH,T,ow,q,ph,mM,hq,ig,hpb,hown,hsw,hcell,Uk,hmo⟩:=hF;obtain⟨s,hs⟩:∃s,L[t]?=some s:=⟨_,bo ht⟩;have hsl:s<bs.length:=by rw[hsw.len];exact hlt s (bT hs)
 have IX:=hsw.side s hsl;have hbs:=hbb _ (rZ hsl);have kk:∀b,w0.heap.size<=b->(wr.setCell ⟨bx bs s,7,none⟩ (aH (some ⟨ob,0,none⟩))).heap[b]?=wr.heap[b]?:=λb hb=>Below.heap_setCell _ _ _ _ (by show b≠bx bs s;omega)
 refine⟨bx bs s,_,hcell t s hs,cell_of IX 7,bK IX 7,hk,hlt,hmk,Uj,PH,T,ow,q,ph,mM.keep (λb hb _=>kk b hb),hq,ig,hpb,hown,?_,λt' s' hs'=>(World.cell?_of_block (w:=wr) (kk gW Uk)).trans (hcell t' s' hs'),Uk,hmo.trans (Mo.setCell bs wr (p:=⟨bx bs s,7,none⟩) (rZ hsl) _)⟩
 refine(hsw.own hsl ob).congr (λ_ _=>rfl) (λi _=>?_)
 have htk:L.take (t+1)=L.take t++[s]:=by rw[jF,hs];rfl
 unfold EM;rw[htk];by_cases hi:i=s
 .rw[aV hi,aV (by rw[hi];simp)]
 .rw[aQ hi];have:(L.take t++[s]).contains i=(L.take t).contains i:=by
   simp only[List.contains_eq_mem,dv,dh];simp[hi]
  rw[this]
theorem aov(k:Nat)(lv:aN)(gW cW:Nat)(L:List Nat)(ob:Nat)(wr:aM)(hF:FQ bs Xs g w0 k lv gW cW L ob L.length wr):Ng bs Xs g w0 (k+1) lv wr:=by
 obtain⟨hk,hlt,hmk,Uj,PH,T,ow,q,ph,mM,hq,ig,hpb,hown,hsw,hcell,Uk,hmo⟩:=hF;rw[fO] at hsw;refine⟨aa,PH,T,EM ow L ob,hsw.congr (λi _=>hmk i) (λ_ _=>rfl),mM,λj hj nB=>?_,hmo⟩
 rw[hmk] at nB;unfold EM;cases hc:L.contains j
 .rw[hc,JW] at nB;obtain⟨vM,h1,h2⟩:=hown j hj nB;exact⟨vM,by rw[Uj j hc];exact h1,by simp only[mi,nL];exact h2⟩
 .exact⟨ph,by rw[hq j hc];exact ig,by simp only[kP];rw[hpb]⟩
theorem aow(h:SX rg l r Xs)(hB:BD Xs)(hbb:∀b∈bs,b<w0.heap.size)(hg0:g<w0.heap.size)(hbc:bs.length<=cap)(hsw:SW g bs Xs (λ_=>false) (λ_=>none) w0)(Q:aN->aM->Prop)
  (HS:∀lv PH T wr,PI bs w0.heap.size lv (bG Xs Xs.length).ps PH T wr->RB wr g bs Xs->bs.Nodup->Mo bs w0 wr->PH.length<=85000000->ak 116 #[lv] wr λe w'=>e=aL (aI #[])/\Q lv w'):
  ak 69 #[aG (some ⟨g,0,none⟩) bs.length cap] w0 λe w'=>∃lv,e=aL lv/\Q lv w':=by
 have hlen:=hsw.len;have hC:Ctl bs g cap (Ng bs Xs g w0) (BQ bs Xs g w0) (Ub bs Xs g w0) (Uc bs Xs g w0) (DQ bs Xs g w0 true) (DQ bs Xs g w0 false) (EQ bs Xs g w0) (FQ bs Xs g w0) Q w0.heap.size:=
  ⟨λk lv wr hI hk=>aob k lv wr hI hk,λk lv wr hb=>aoc h hB hg0 hbc k lv wr hb,λk lv gW cW L w1 hc=>aoe h hB k lv gW cW L w1 hc,λk lv gW cW L gR cR n w2 hc=>aof h hB hbb hg0 k lv gW cW L gR cR n w2 hc,λk lv gW cW L gR cR n N w4 hd=>aoh h hB hbb k lv gW cW L gR cR n N w4 hd,λk lv gW cW L gR cR n N w4 hd=>aoi h hB hbb k lv gW cW L gR cR n N w4 hd,
   λk lv gW cW L gR cR n ob w5 he=>by
    rcases he with he|he
    .exact aok h hB hbb hg0 k lv gW cW L gR cR n ob w5 he
    .exact aoo h hB hbb hg0 k lv gW cW L gR cR n ob w5 he,
   λk lv gW cW L ob t wr hF ht=>aou hbb k lv gW cW L ob t wr hF ht,λk lv gW cW L ob wr hF _=>aov k lv gW cW L ob wr hF,λlv wr hI=>by
    obtain⟨_,PH,T,ow,hH⟩:=hI;rw[hlen] at hH;refine HS lv PH T wr hH.pi hH.sw.rb hH.sw.nd hH.mo ?_;rw[hH.pi.len];have h1:=(h.pv hB Xs.length (aY _)).len;have h2:=hB.len;omega⟩
 refine an5 bs g cap _ _ _ _ _ _ _ _ Q w0.heap.size hC w0 (by rw[hlen];exact hB.len) ⟨iA _,[],λ_=>.ring,λ_=>none,?_⟩
 exact⟨hsw,⟨World.ownsRow_nil _ _ _ _,λk e=>by simp[Value.ownBlock] at e,rfl,λq ph ps hq=>by simp at hq⟩,λj _ hm=>by simp[bG] at hm,Mo.refl _ _⟩
end
end
section
open Go.RowKit
def oG(Xs:List PB):List Nat->List Nat->Int
 |[],[]=>0
 |[],_::_=> -1
 |_::_,[]=>1
 |a::r,b::s=>if cE (xi Xs a).f (xi Xs b).f=0 then oG Xs r s else cE (xi Xs a).f (xi Xs b).f
def Gr(w w':aM):Prop:=aj w w'/\w.drawn<=w'.drawn
theorem Gr.refl(w:aM):Gr w w:=⟨Below.refl _ _,aY _⟩
theorem Gr.trans{a b c:aM}(h:Gr a b)(k:Gr b c):Gr a c:=⟨h.1.trans (k.1.mono h.1.size),fN h.2 k.2⟩
theorem aox(Xs:List PB)(bs:List Nat)(r1 r2:List Nat)(g1 c1 g2 c2:Nat)(w:aM)(_h1:r1.length<=85000000)(h2:r2.length<=85000000)
  (zn:Hid (∀(i:Nat) a,r1[i]?=some a->w.cell? ⟨g1,i,none⟩=some (aH (some ⟨bx bs a,0,none⟩))))(zo:Hid (∀(i:Nat) a,r2[i]?=some a->w.cell? ⟨g2,i,none⟩=some (aH (some ⟨bx bs a,0,none⟩))))
  (HC:Hid (∀a∈r1,∀b∈r2,∀w',Gr w w'->ak 109 #[aH (some ⟨bx bs a,0,none⟩),aH (some ⟨bx bs b,0,none⟩)] w' λe w''=>e=aL (az aJ (cE (xi Xs a).f (xi Xs b).f))/\Gr w' w'')):
  ak 216 #[aG (some ⟨g1,0,none⟩) r1.length c1,aG (some ⟨g2,0,none⟩) r2.length c2,.func (.func 109) #[] #[]] w λe w'=>e=aL (az aJ (oG Xs r1 r2))/\Gr w w':=by
 have cK:Hid (oG Xs (r1.drop 0) (r2.drop 0)=oG Xs r1 r2):=rfl
 go_enter func216,ntmps216
 go_wp2_with fail
 go_loopg [13] r1.length (λm iv wr=>∃k:Nat,k+m=r1.length/\iv=az aJ k/\Hid (Gr w wr/\k<=r2.length/\oG Xs (r1.drop k) (r2.drop k)=oG Xs r1 r2))
 case atStart=>exact⟨0,aa,rfl,Gr.refl _,iA _,cK.out⟩
 case round=>
  obtain⟨k,hkn,rfl,HB⟩:=hrel;clear cK;obtain⟨hb0,hk2,hcm⟩:=HB.out;by_cases hlt:k<r1.length
  .obtain⟨a,ha⟩:∃a,r1[k]?=some a:=⟨_,bo hlt⟩;have d1:=(hb0.1.cell (p:=⟨g1,k,none⟩) (lt_of_cell (zn.out k a ha))).trans (zn.out k a ha);have gH:(k:Int)<(r1.length:Int):=aa
   by_cases ki:k<r2.length
   .obtain⟨b,hb⟩:∃b,r2[k]?=some b:=⟨_,bo ki⟩;have d2:=(hb0.1.cell (p:=⟨g2,k,none⟩) (lt_of_cell (zo.out k b hb))).trans (zo.out k b hb);have aaJ:(k:Int)<(r2.length:Int):=aa
    have GK:¬((k:Int)≥(r2.length:Int)):=aa
    have jm:Hid (ak 109 #[aH (some ⟨bx bs a,0,none⟩),aH (some ⟨bx bs b,0,none⟩)] wr λe w''=>e=aL (az aJ (cE (xi Xs a).f (xi Xs b).f))/\Gr wr w''):=HC.out a (bT ha) b (bT hb) wr hb0
    have iQ:Hid ((if cE (xi Xs a).f (xi Xs b).f=0 then oG Xs (r1.drop (k+1)) (r2.drop (k+1)) else cE (xi Xs a).f (xi Xs b).f)=oG Xs r1 r2):=by
     have:=hcm;rw[xG ha,xG hb] at this;exact this
    have oW:Hid (Gr w wr):=hb0;clear ha hb hcm hb0 HB;generalize cE (xi Xs a).f (xi Xs b).f=V at*
    go_wp2_with fail
    refine jm.out.mono ?_;rintro e w5 ⟨rfl,bg⟩;have gJ:Hid (Gr w w5):=oW.out.trans bg;clear jm bg d1 d2 oW;by_cases hV:V=0
    .have HM:Hid (oG Xs (r1.drop (k+1)) (r2.drop (k+1))=oG Xs r1 r2):=by
      have:=iQ.out;rw[aV hV] at this;exact this
     subst hV;clear iQ
     go_wp2_with fail
     go_roundg (gk-1)
     case measure=>omega
     case rel=>exact⟨k+1,aa,ai,gJ.out,aa,HM.out⟩
    .have HM:Hid (V=oG Xs r1 r2):=by
      have:=iQ.out;rw[aQ hV] at this;exact this
     clear iQ
     go_wp2_with fail
     go_ret
     exact⟨by rw[<-HM.out];rfl,gJ.out⟩
   .have GK:(k:Int)≥(r2.length:Int):=aa
    have HM:Hid ((1:Int)=oG Xs r1 r2):=by
     have:=hcm;rw[xG ha,show r2.drop k=[] from FB aa] at this
     exact this
    have oW:Hid (Gr w wr):=hb0;clear ha hcm hb0 HB HC zn zo
    go_wp2_with fail
    go_ret
    exact⟨by rw[<-HM.out];rfl,oW.out⟩
  .have hk:k=r1.length:=aa
   subst hk;rw[Fz] at hcm;have oW:Hid (Gr w wr):=hb0;by_cases ki:r1.length<r2.length
   .have GK:(r1.length:Int)<(r2.length:Int):=aa
    have HM:Hid ((-1:Int)=oG Xs r1 r2):=by
     obtain⟨b,hb⟩:∃b,r2[r1.length]?=some b:=⟨_,bo ki⟩;rw[xG hb] at hcm;exact hcm
    clear hcm hb0 HB HC zn zo
    go_wp2_with fail
    go_ret
    exact⟨by rw[<-HM.out];rfl,oW.out⟩
   .have GK:¬(r1.length:Int)<(r2.length:Int):=aa
    have HM:Hid ((0:Int)=oG Xs r1 r2):=by
     rw[FB aa] at hcm
     exact hcm
    clear hcm hb0 HB HC zn zo
    go_wp2_with fail
    go_ret
    exact⟨by rw[<-HM.out];rfl,oW.out⟩
def gL:List Ge.Nd->List Ge.Nd->Int
 |[],[]=>0
 |[],_::_=> -1
 |_::_,[]=>1
 |a::r,b::s=>if cE a b=0 then gL r s else cE a b
def fr(Xs:List PB)(r:List Nat):List Ge.Nd:=r.map λa=>(xi Xs a).f
theorem adj(Xs:List PB):∀r s,oG Xs r s=gL (fr Xs r) (fr Xs s)
 |[],[]=>rfl
 |[],_::_=>rfl
 |_::_,[]=>rfl
 |a::r,b::s=>by
  show(if cE (xi Xs a).f (xi Xs b).f=0 then oG Xs r s else _)=(if cE (xi Xs a).f (xi Xs b).f=0 then gL (fr Xs r) (fr Xs s) else _)
  rw[adj Xs r s]
theorem Nj:∀r,gL r r=0
 |[]=>rfl
 |a::r=>by
  show(if cE a a=0 then gL r r else _)=0
  rw[aV (zJ a)];exact Nj r
theorem Nk:∀r s,(∀a∈r,Ge.Can a)->(∀a∈s,Ge.Can a)->gL r s<0\/gL s r<0\/r=s
 |[],[],_,_=>aT (aT rfl)
 |[],_::_,_,_=>aU (by show(-1:Int)<0;omega)
 |_::_,[],_,_=>aT (aU (by show(-1:Int)<0;omega))
 |a::r,b::s,h1,h2=>by
  show(if cE a b=0 then gL r s else cE a b)<0\/(if cE b a=0 then gL s r else cE b a)<0\/_
  by_cases h0:cE a b=0
  .have e:=Ge.xe (h1 a af) (h2 b af) h0
   subst e;rw[aV h0,aV h0];rcases Nk r s (λa ha=>h1 a (by simp[ha])) (λa ha=>h2 a (by simp[ha])) with h|h|h
   .exact aU h
   .exact aT (aU h)
   .exact aT (aT (by rw[h]))
  .have hs:=SF a b;rw[aQ h0,aQ aa]
   by_cases hl:cE a b<0
   .exact aU hl
   .exact aT (aU aa)
theorem Nl:∀r s t,(∀a∈r,Ge.Can a)->(∀a∈s,Ge.Can a)->(∀a∈t,Ge.Can a)->gL r s<0->gL s t<0->gL r t<0
 |[],[],_,_,_,_,h,_=>by exact absurd h (by show ¬(0:Int)<0;omega)
 |[],_::_,[],_,_,_,_,h=>by exact absurd h (by show ¬(1:Int)<0;omega)
 |[],_::_,_::_,_,_,_,_,_=>by show(-1:Int)<0;omega
 |_::_,[],_,_,_,_,h,_=>by exact absurd h (by show ¬(1:Int)<0;omega)
 |_::_,_::_,[],_,_,_,_,h=>by exact absurd h (by show ¬(1:Int)<0;omega)
 |a::r,b::s,c::t,h1,h2,h3,k1,k2=>by
  have ca:=h1 a af
  have cb:=h2 b af
  have cc:=h3 c af
  have EO:(if cE a b=0 then gL r s else cE a b)<0:=k1
  have zV:(if cE b c=0 then gL s t else cE b c)<0:=k2
  show(if cE a c=0 then gL r t else cE a c)<0
  by_cases e1:cE a b=0
  .have e:=Ge.xe ca cb e1;subst e;rw[aV e1] at EO;by_cases e2:cE a c=0
   .rw[aV e2] at zV⊢;exact Nl r s t (λa ha=>h1 a (by simp[ha])) (λa ha=>h2 a (by simp[ha])) (λa ha=>h3 a (by simp[ha])) EO zV
   .rw[aQ e2] at zV⊢;exact zV
  .rw[aQ e1] at EO;by_cases e2:cE b c=0
   .have e:=Ge.xe cb cc e2;subst e;rw[aQ e1];exact EO
   .rw[aQ e2] at zV;have:=EC.2 (Ge.lt_trans (Ge.dW ca) (Ge.dW cb) (Ge.dW cc) (EC.1 EO) (EC.1 zV));rw[aQ aa]
    exact this
theorem xQ{ι:Type}(key:ι->List Ge.Nd)(hc:∀i,∀a∈key i,Ge.Can a):Sort.SWO (ltOf λi j=>gL (key i) (key j)):=by
 have e:∀i j,ltOf (λi j=>gL (key i) (key j)) i j=true↔gL (key i) (key j)<0:=λi j=>pK
 have e':∀i j,ltOf (λi j=>gL (key i) (key j)) i j=false↔¬gL (key i) (key j)<0:=λi j=>by rw[<-e];simp
 exact{
  irrefl:=λx=>(e' x x).2 (by rw[Nj];omega)
  trans:=λx y z h1 h2=>(e x z).2 (Nl _ _ _ (hc x) (hc y) (hc z) ((e x y).1 h1) ((e y z).1 h2))
  ntrans:=λx y z h1 h2=>(e' x z).2 λh=>by
   rcases Nk _ _ (hc x) (hc y) with k|k|k
   .exact(e' x y).1 h1 k
   .exact(e' y z).1 h2 (Nl _ _ _ (hc y) (hc x) (hc z) k h)
   .rw[k] at h;exact(e' y z).1 h2 h}
theorem aoy(v1 v2:aN)(w:aM)(c:Int)
  (HC:Hid (ak 216 #[v1,v2,.func (.func 109) #[] #[]] w λe w'=>e=aL (az aJ c)/\Gr w w')):
  ak 174 #[v1,v2] w λe w'=>e=aL (az aJ c)/\Gr w w':=by
 go_enter func174,ntmps174
 go_wp2_with fail
 refine HC.out.mono ?_;rintro e w5 ⟨rfl,bg⟩;have gJ:Hid (Gr w w5):=bg;clear bg HC
 go_wp2_with fail
 go_ret
 exact⟨rfl,gJ.out⟩
theorem aoz(b1 b2 g1 n1 c1 g2 n2 c2:Nat)(w:aM)(c:Int)(a1:w.cell? ⟨b1,0,none⟩=some (aG (some ⟨g1,0,none⟩) n1 c1))(a2:w.cell? ⟨b2,0,none⟩=some (aG (some ⟨g2,0,none⟩) n2 c2))
  (HC:Hid (∀w',Gr w w'->ak 174 #[aG (some ⟨g1,0,none⟩) n1 c1,aG (some ⟨g2,0,none⟩) n2 c2] w' λe w''=>e=aL (az aJ c)/\Gr w' w'')):
  ak 176 #[aH (some ⟨b1,0,none⟩),aH (some ⟨b2,0,none⟩)] w λe w'=>e=aL (az aJ c)/\Gr w w':=by
 go_enter func176,ntmps176
 go_wp2_with fail
 have hz1:b1<w.heap.size:=lt_of_cell a1;have hz2:b2<w.heap.size:=lt_of_cell a2;have HG:Hid (Gr w w.drew):=⟨(Below.refl _ _).drew,pI _⟩
 go_region_held3 (λw'=>w'.cell? ⟨b1,0,none⟩=some (aG (some ⟨g1,0,none⟩) n1 c1)/\w'.cell? ⟨b2,0,none⟩=some (aG (some ⟨g2,0,none⟩) n2 c2)) (go_keep) (first
   |(go_at_call 174;refine(HC.out _ HG.out).mono ?_;rintro e w5 ⟨rfl,bg⟩;have e0:=aS bg.1 a1 hz1;have e1:=(aS bg.1 a2 hz2)))
 all_goals
  have gJ:Hid (Gr w w5):=HG.out.trans bg;clear bg HC HG
  go_wp2_with fail
  go_ret
  exact⟨rfl,gJ.out⟩
theorem adk{g:Nat}{bs:List Nat}{Xs:List PB}{b1 b2:Nat}{v1 v2:aN}{r1 r2:List Nat}{w:aM}(hB:BD Xs)(hR:RB w g bs Xs)
  (o1:w.ownsRow b1 175 1 v1 r1.length (bA (r1.map (bx bs))))(o2:w.ownsRow b2 175 1 v2 r2.length (bA (r2.map (bx bs))))(n1:r1≠[])(n2:r2≠[])(i1:∀a∈r1,a<Xs.length)(i2:∀a∈r2,a<Xs.length)(l1:r1.length<=85000000)(l2:r2.length<=85000000):
  ak 174 #[v1,v2] w λe w'=>e=aL (az aJ (gL (fr Xs r1) (fr Xs r2)))/\Gr w w':=by
 obtain⟨g1,c1,rfl,_,_,_,f1⟩:=po o1 (jE.2 n1);obtain⟨g2,c2,rfl,_,_,_,f2⟩:=po o2 (jE.2 n2);rw[<-adj];refine aoy _ _ _ _ (aox Xs bs r1 r2 g1 c1 g2 c2 w l1 l2 (λi a h=>f1 i _ (by simp[bA,h])) (λi a h=>f2 i _ (by simp[bA,h])) (λa ha b hb w' hG=>?_))
 have hR':=hR.below hG.1;have sd:∀a,a<Xs.length->jy w' (bx bs a) (xi Xs a):=λa ha=>hR'.side a _ _ (zI (by rw[hR.len];exact ha)) (xC ha)
 exact(Sv _ _ (hB.v _ (iH (i1 a ha))) (hB.v _ (iH (i2 b hb))) _ _ w' (sd a (i1 a ha)) (sd b (i2 b hb))).mono λ_ _⟨h1,h2,h3⟩=>⟨h1,h2,h3⟩
end
end Go.Proofs.YtkjhhooecopolaaGreatDoor
namespace Go.Proofs
open Tryz
open Value renaming int->az,complex->aA,float->aB,agg->aC,bool->aD,string->aF,slice->aG,pointer->aH,tuple->aI
open IntKind renaming i64->aJ
open FloatKind renaming f64->aK
open Ending renaming returned->aL
open Go renaming World->aM,Value->aN,floatOfInt->aO
open Go.Shelf
def Tryz.sortRg_ren:Go.Shelf.Ren:=⟨fun |6=>173|15=>164|14=>215|28=>208|29=>209|20=>258|21=>259|22=>260|23=>261|24=>262|25=>263|26=>264|27=>265|46=>291|47=>249|48=>250|49=>292|50=>293|57=>305|n=>n,fun |22=>183|24=>185|25=>246|3=>3|39=>238|0=>0|53=>280|55=>282|4=>4|46=>274|45=>273|50=>70|5=>5|9=>9|66=>313|70=>317|76=>346|77=>172|n=>n,fun |n=>n⟩
theorem Tryz.sortRg:Go.Proofs.SlLaysF.n6 prog Tryz.sortRg_ren:={
 mixed:=ag
 f6:=⟨Tryz.f173.name,ah,func173.trans (aZ some ag)⟩
 f14:=⟨Tryz.f215.name,ah,func215.trans (aZ some ag)⟩
 f15:=func164.trans (aZ some ag)
 f20:=⟨Tryz.f258.name,ah,func258.trans (aZ some ag)⟩
 f21:=⟨Tryz.f259.name,ah,func259.trans (aZ some ag)⟩
 f22:=⟨Tryz.f260.name,ah,func260.trans (aZ some ag)⟩
 f23:=⟨Tryz.f261.name,ah,func261.trans (aZ some ag)⟩
 f24:=⟨Tryz.f262.name,ah,func262.trans (aZ some ag)⟩
 f25:=⟨Tryz.f263.name,ah,func263.trans (aZ some ag)⟩
 f26:=⟨Tryz.f264.name,ah,func264.trans (aZ some ag)⟩
 f27:=⟨Tryz.f265.name,ah,func265.trans (aZ some ag)⟩
 f28:=func208.trans (aZ some ag)
 f29:=func209.trans (aZ some ag)
 f46:=⟨Tryz.f291.name,ah,func291.trans (aZ some ag)⟩
 f47:=func249.trans (aZ some ag)
 f48:=func250.trans (aZ some ag)
 f49:=⟨Tryz.f292.name,ah,func292.trans (aZ some ag)⟩
 f50:=⟨Tryz.f293.name,ah,func293.trans (aZ some ag)⟩
 f57:=⟨Tryz.f305.name,ah,func305.trans (aZ some ag)⟩
 t0:=underlying0
 a0:=isAgg0
 z0:=sizeOf0
 v0:=zeroValue0
 t3:=underlying3
 a3:=isAgg3
 z3:=sizeOf3
 v3:=zeroValue3
 t4:=underlying4
 a4:=isAgg4
 z4:=sizeOf4
 v4:=zeroValue4
 t5:=underlying5
 a5:=isAgg5
 z5:=sizeOf5
 v5:=zeroValue5
 t9:=underlying9
 a9:=isAgg9
 z9:=sizeOf9
 v9:=zeroValue9
 t22:=underlying183
 a22:=isAgg183
 z22:=sizeOf183
 v22:=zeroValue183
 a24:=isAgg185
 z24:=sizeOf185
 t25:=underlying246
 a25:=isAgg246
 z25:=sizeOf246
 v25:=zeroValue246
 t39:=underlying238
 a39:=isAgg238
 z39:=sizeOf238
 v39:=zeroValue238
 t45:=underlying273
 a45:=isAgg273
 z45:=sizeOf273
 v45:=zeroValue273
 t46:=underlying274
 a46:=isAgg274
 z46:=sizeOf274
 v46:=zeroValue274
 t50:=underlying70
 a50:=isAgg70
 z50:=sizeOf70
 v50:=zeroValue70
 t53:=underlying280
 a53:=isAgg280
 z53:=sizeOf280
 v53:=zeroValue280
 t55:=underlying282
 a55:=isAgg282
 z55:=sizeOf282
 v55:=zeroValue282
 t66:=underlying313
 a66:=isAgg313
 z66:=sizeOf313
 v66:=zeroValue313
 t70:=underlying317
 a70:=isAgg317
 z70:=sizeOf317
 v70:=zeroValue317
 t76:=underlying346
 a76:=isAgg346
 z76:=sizeOf346
 v76:=zeroValue346
 t77:=underlying172
 a77:=isAgg172
 z77:=sizeOf172
 v77:=zeroValue172}
end Go.Proofs
namespace Go.Proofs
open Tryz
open Value renaming int->az,complex->aA,float->aB,agg->aC,bool->aD,string->aF,slice->aG,pointer->aH,tuple->aI
open IntKind renaming i64->aJ
open FloatKind renaming f64->aK
open Ending renaming returned->aL
open Go renaming World->aM,Value->aN,floatOfInt->aO
open Go.Shelf
def Tryz.sortPg_ren:Go.Shelf.Ren:=⟨fun |6=>175|15=>164|14=>217|28=>208|29=>209|20=>266|21=>267|22=>268|23=>269|24=>270|25=>271|26=>272|27=>273|46=>294|47=>249|48=>250|49=>295|50=>296|57=>306|n=>n,fun |22=>131|24=>165|25=>249|3=>3|39=>238|0=>0|53=>280|55=>282|4=>4|46=>274|45=>273|50=>70|5=>5|9=>9|66=>313|70=>317|76=>346|77=>172|n=>n,fun |n=>n⟩
theorem Tryz.sortPg:Go.Proofs.SlLaysF.n6 prog Tryz.sortPg_ren:={
 mixed:=ag
 f6:=⟨Tryz.f175.name,ah,func175.trans (aZ some ag)⟩
 f14:=⟨Tryz.f217.name,ah,func217.trans (aZ some ag)⟩
 f15:=func164.trans (aZ some ag)
 f20:=⟨Tryz.f266.name,ah,func266.trans (aZ some ag)⟩
 f21:=⟨Tryz.f267.name,ah,func267.trans (aZ some ag)⟩
 f22:=⟨Tryz.f268.name,ah,func268.trans (aZ some ag)⟩
 f23:=⟨Tryz.f269.name,ah,func269.trans (aZ some ag)⟩
 f24:=⟨Tryz.f270.name,ah,func270.trans (aZ some ag)⟩
 f25:=⟨Tryz.f271.name,ah,func271.trans (aZ some ag)⟩
 f26:=⟨Tryz.f272.name,ah,func272.trans (aZ some ag)⟩
 f27:=⟨Tryz.f273.name,ah,func273.trans (aZ some ag)⟩
 f28:=func208.trans (aZ some ag)
 f29:=func209.trans (aZ some ag)
 f46:=⟨Tryz.f294.name,ah,func294.trans (aZ some ag)⟩
 f47:=func249.trans (aZ some ag)
 f48:=func250.trans (aZ some ag)
 f49:=⟨Tryz.f295.name,ah,func295.trans (aZ some ag)⟩
 f50:=⟨Tryz.f296.name,ah,func296.trans (aZ some ag)⟩
 f57:=⟨Tryz.f306.name,ah,func306.trans (aZ some ag)⟩
 t0:=underlying0
 a0:=isAgg0
 z0:=sizeOf0
 v0:=zeroValue0
 t3:=underlying3
 a3:=isAgg3
 z3:=sizeOf3
 v3:=zeroValue3
 t4:=underlying4
 a4:=isAgg4
 z4:=sizeOf4
 v4:=zeroValue4
 t5:=underlying5
 a5:=isAgg5
 z5:=sizeOf5
 v5:=zeroValue5
 t9:=underlying9
 a9:=isAgg9
 z9:=sizeOf9
 v9:=zeroValue9
 t22:=underlying131
 a22:=isAgg131
 z22:=sizeOf131
 v22:=zeroValue131
 a24:=isAgg165
 z24:=sizeOf165
 t25:=underlying249
 a25:=isAgg249
 z25:=sizeOf249
 v25:=zeroValue249
 t39:=underlying238
 a39:=isAgg238
 z39:=sizeOf238
 v39:=zeroValue238
 t45:=underlying273
 a45:=isAgg273
 z45:=sizeOf273
 v45:=zeroValue273
 t46:=underlying274
 a46:=isAgg274
 z46:=sizeOf274
 v46:=zeroValue274
 t50:=underlying70
 a50:=isAgg70
 z50:=sizeOf70
 v50:=zeroValue70
 t53:=underlying280
 a53:=isAgg280
 z53:=sizeOf280
 v53:=zeroValue280
 t55:=underlying282
 a55:=isAgg282
 z55:=sizeOf282
 v55:=zeroValue282
 t66:=underlying313
 a66:=isAgg313
 z66:=sizeOf313
 v66:=zeroValue313
 t70:=underlying317
 a70:=isAgg317
 z70:=sizeOf317
 v70:=zeroValue317
 t76:=underlying346
 a76:=isAgg346
 z76:=sizeOf346
 v76:=zeroValue346
 t77:=underlying172
 a77:=isAgg172
 z77:=sizeOf172
 v77:=zeroValue172}
end Go.Proofs
namespace Go.Proofs.YtkjhhooecopolaaGreatDoor
open Tryz
open Value renaming int->az,complex->aA,float->aB,agg->aC,bool->aD,string->aF,slice->aG,pointer->aH,tuple->aI
open IntKind renaming i64->aJ
open FloatKind renaming f64->aK
open Ending renaming returned->aL
open Go renaming World->aM,Value->aN,floatOfInt->aO
section
open Go.RowKit Go.Shelf
def ql{n:Nat}(cf:Fin n->Fin n->Int)(h:0<n):Array (Fin n):=
 haveI:Inhabited (Fin n):=⟨⟨0,h⟩⟩
 Sort.pdq (ltOf cf) (Array.ofFn id) 0 n (Lib.bitLen n) true true
def jN{β:Type}(cf:β->β->Int)(l:List β):List β:=if h:0<l.length then(ql (λi j:Fin l.length=>cf l[i] l[j]) h).toList.map (λi=>l[i]) else[]
theorem Ul{n:Nat}(cf:Fin n->Fin n->Int)(hO:Sort.SWO (ltOf cf))(h:0<n):(ql cf h).size=n/\(ql cf h).toList.Perm (Array.ofFn (id:Fin n->Fin n)).toList/\
  ∀i j(hi:i<(ql cf h).size)(hj:j<(ql cf h).size),i<j->¬cf (ql cf h)[j] (ql cf h)[i]<0:=by
 letI:Inhabited (Fin n):=⟨⟨0,h⟩⟩
 have hs:(Array.ofFn (id:Fin n->Fin n)).size=n:=VW;have key:=Sort.pdq_sorts (ltOf cf) hO (Array.ofFn id) 0 n (Lib.bitLen n) true true (iA _) (by rw[hs];exact aY _) (aU rfl)
 have e:ql cf h=Sort.pdq (ltOf cf) (Array.ofFn id) 0 n (Lib.bitLen n) true true:=rfl;rw[<-e] at key;obtain⟨⟨p1,_,p3⟩,p4⟩:=key;have hd:(ql cf h).size=n:=by rw[p1,hs]
 rw[MD _ hd,MD _ hs] at p3;refine⟨hd,p3,λi j hi hj hij=>?_⟩
 have hx:=p4 i j (iA _) hij aa
 rw[jh (ql cf h) i hi,jh (ql cf h) j hj] at hx;exact of_decide_eq_false hx
theorem adl{ρ:Ren}(L:SlLaysF.n6 prog ρ)(fn:Nat)(eg:∀args w,(callFunc fn args).run prog w=.ok (.enter fn args) w){β:Type}(cf:β->β->Int)(l:List β)(vals:List aN)(hone:∀v∈vals,v.oneCell'=true){base:Nat}{t:TypeId}{lv:aN}{wr:aM}(ho:wr.ownsRow base t 1 lv vals.length vals)(hl:vals.length=l.length)(hsz:l.length<=85000000)
  (hO:Sort.SWO (ltOf λi j:Fin l.length=>cf l[i] l[j]))
  (zj:∀w',wr.heap.size<=w'.heap.size->(∀k,k<wr.heap.size->lv.ownBlock≠some k->w'.heap[k]?=wr.heap[k]?)->∀(i j:Nat) u v x y,vals[i]?=some u->vals[j]?=some v->l[i]?=some x->l[j]?=some y->ak fn #[u,v] w' λe w''=>e=aL (az aJ (cf x y))/\Gr w' w''):
  ak (ρ.f 6) #[lv,.func (.func fn) #[] #[]] wr λe w'=>e=aL (aI #[])/\∃d:List Nat,d.Perm (List.range l.length)/\jN cf l=d.filterMap (λi=>l[i]?)/\(jN cf l).length=l.length/\w'.ownsRow base t 1 lv vals.length (d.filterMap (λi=>vals[i]?))/\(∀(i:Nat) u x,(d.filterMap (λi=>vals[i]?))[i]?=some u->(jN cf l)[i]?=some x->∃j,j<l.length/\d[i]?=some j/\vals[j]?=some u/\l[j]?=some x)/\
   Mo lv.ownBlock.toList wr w':=by
 obtain⟨hlen,xt⟩:=id ho;rcases xt with⟨rfl,h0⟩|⟨g,cap,cur,rfl,hg,hblk,hnc,hcm,hcs,htk⟩
 .have hv0:vals=[]:=iU.1 h0;have hl0:l=[]:=iU.1 (by rw[<-hl];exact h0)
  subst hv0;subst hl0;refine(AnyF.slices_SortFunc_none {L with} none 0 _ wr).mono ?_;rintro e w' ⟨rfl,rfl⟩;exact⟨rfl,[],JU _,rfl,rfl,ho,λi u x h=>by simp at h,Mo.refl _ _⟩
 .by_cases hn:0<l.length
  .letI:Inhabited (Fin l.length):=⟨⟨0,hn⟩⟩
   have hgl:g<wr.heap.size:=lt_of_heap hblk;have hs:(Array.ofFn (id:Fin l.length->Fin l.length)).size=l.length:=VW;have uf:∀i:Fin l.length,i.1<vals.length:=λi=>by rw[hl];exact i.2
   obtain⟨enc,I1⟩:∃enc:Fin l.length->aN,enc=λi=>vals[i.1]'(uf i):=⟨_,rfl⟩
   have henc:(Array.ofFn (id:Fin l.length->Fin l.length)).toList.map enc=vals:=by
    apply Aw
    .simp[hl]
    .intro i h1 h2;simp[I1]
   have hH:Sort.Holds enc wr g 0 (Array.ofFn id):=by
    intro j hj;have hj':j<vals.length:=by rw[hl,<-hs];exact hj
    have e1:(cur.toList.take (vals.length*1))[j]?=((Array.ofFn (id:Fin l.length->Fin l.length)).toList.map enc)[j]?:=by rw[htk,henc]
    rw[kQ,aV aa,jP,iI,jP,pJ hj] at e1
    refine⟨?_,bK hblk _⟩;rw[jD];unfold World.cell?;rw[hblk,jh (Array.ofFn (id:Fin l.length->Fin l.length)) j hj];exact e1
   have hC:CmpLays1 prog fn #[] enc (λi j:Fin l.length=>cf l[i] l[j]) g 0 l.length wr:=by
    intro m os dk hdk x y;refine(zj (sortWorld enc wr g 0 m dk os) (Sw enc dk m os wr g) (λk hk hne=>H9 enc dk m os hk (λe=>hne (aZ some e))) x.1 y.1 (enc x) (enc y) l[x] l[y] (by rw[I1];exact bo _) (by rw[I1];exact bo _) (bo x.2) (bo y.2)).mono ?_
    exact λ_ _⟨h1,h2⟩=>⟨h1,L6 h2.1 h2.2⟩
   have hcon:=Any.slices_SortFunc_eq L enc (λx=>hone _ (by rw[I1];exact gZ _)) (λi j:Fin l.length=>cf l[i] l[j]) hO fn #[] g 0 cap (Array.ofFn id) wr eg (by rw[hs];exact hC) hH hgl (by rw[hs];omega)
   rw[hs] at hcon;rw[hl];refine hcon.mono ?_;rintro r w' ⟨rfl,m,os,rfl⟩;refine⟨rfl,?_⟩;have e:Sort.pdq (ltOf λi j:Fin l.length=>cf l[i] l[j]) (Array.ofFn id) 0 l.length (Lib.bitLen l.length) true true=ql (λi j:Fin l.length=>cf l[i] l[j]) hn:=rfl
   rw[e];have hsp:=Ul (λi j:Fin l.length=>cf l[i] l[j]) hO hn
   have hd:=hsp.1;have p3:=hsp.2.1;clear hsp hcon e;have eX:jN cf l=(ql (λi j:Fin l.length=>cf l[i] l[j]) hn).toList.map (λi=>l[i]):=by unfold jN;rw[yG hn]
   rw[eX];clear eX;obtain⟨d',hd'⟩:∃d',d'=ql (λi j:Fin l.length=>cf l[i] l[j]) hn:=⟨_,rfl⟩
   rw[<-hd'] at hd p3⊢;have fm:∀{γ:Type}(q:List γ)(hq:q.length=l.length),(d'.toList.map (·.1)).filterMap (λi=>q[i]?)=d'.toList.map (λi:Fin l.length=>q[i.1]'(by rw[hq];exact i.2)):=λq hq=>by
    rw[List.filterMap_map];rw[<-List.filterMap_eq_map];congr 1;funext i;simp
   refine⟨d'.toList.map (·.1),?_,?_,by simp[hd],?_,?_,?_⟩
   .have k:=p3.map (λi:Fin l.length=>i.1)
    have e3:(Array.ofFn (id:Fin l.length->Fin l.length)).toList.map (λi:Fin l.length=>i.1)=List.range l.length:=by
     apply Aw
     .simp
     .intro i h1 h2;simp
    rw[e3] at k;exact k
   .rw[fm l rfl];rfl
   .rw[fm vals hl];refine⟨by simp[hd],aT ⟨g,cap,_,rfl,hg,aby enc d' m os hblk,by rw[<-hl];exact hnc,hcm,?_,?_⟩⟩
    .unfold Sort.putCells;rw[VU];exact hcs
    .have e1:l.length*1=d'.size:=by rw[hd];omega
     rw[e1,abz _ _ _ (by rw[hcs,hd,<-hl];omega),I1]
   .intro i u x h1 h2;rw[fm vals hl,iI] at h1;rw[iI] at h2;cases hj:d'.toList[i]? with
    |none=>rw[hj] at h1;cases h1
    |some j=>
     rw[hj] at h1 h2;have hb:vals[j.1]'(uf j)=u:=by simpa using h1
     have hx:l[j]=x:=by simpa using h2
     exact⟨j.1,j.2,by rw[iI,hj];rfl,by rw[bo (uf j),hb],by rw[bo j.2];exact aZ some hx⟩
   .exact⟨rfl,rfl,rfl,Sw enc d' m os wr g,λk hk hne=>H9 enc d' m os hk (λe=>hne (by simp[Value.ownBlock,e]))⟩
  .have hl0:l=[]:=iU.1 aa
   have hv0:vals=[]:=iU.1 (by rw[hl];omega)
   subst hv0;subst hl0;refine(AnyF.slices_SortFunc_none {L with} (some ⟨g,0,none⟩) cap _ wr).mono ?_;rintro r w' ⟨rfl,rfl⟩;exact⟨rfl,[],JU _,rfl,rfl,ho,λi u x h=>by simp at h,Mo.refl _ _⟩
theorem aoA(g n cap:Nat)(Inv:Nat->aM->Prop)(Q:aM->Prop)(w:aM)(hn:n<=85000000)
  (HK:Hid (∀k wr,Inv k wr->k<n->∃pb so m c,wr.cell? ⟨g,k,none⟩=some (aH (some ⟨pb,0,none⟩))/\wr.cell? ⟨pb,1,none⟩=some (aG so m c)/\ak 173 #[aG so m c,.func (.func 174) #[] #[]] wr λe w'=>e=aL (aI #[])/\Inv (k+1) w'))
  (HL:Hid (∀wr,Inv n wr->ak 175 #[aG (some ⟨g,0,none⟩) n cap,.func (.func 176) #[] #[]] wr λe w'=>e=aL (aI #[])/\Q w'))
  (zr:Hid (Inv 0 w)):
  ak 116 #[aG (some ⟨g,0,none⟩) n cap] w λe w'=>e=aL (aI #[])/\Q w':=by
 go_enter func116,ntmps116
 go_wp2_with fail
 go_loopg [6] n (λm iv wr=>∃k:Nat,k+m=n/\iv=az aJ k/\Hid (Inv k wr))
 case atStart=>exact⟨0,aa,rfl,zr.out⟩
 case round=>
  obtain⟨k,hkn,rfl,HE⟩:=hrel;clear zr;by_cases hlt:k<n
  .obtain⟨pb,so,m,c,c1,c2,hc⟩:=HK.out k wr HE.out hlt;have HC:Hid (ak 173 #[aG so m c,.func (.func 174) #[] #[]] wr λe w'=>e=aL (aI #[])/\Inv (k+1) w'):=hc
   have gH:(k:Int)<(n:Int):=aa
   clear hc HE
   go_wp2_with fail
   refine HC.out.mono ?_;rintro e w5 ⟨rfl,h5⟩;have H5:Hid (Inv (k+1) w5):=h5;clear h5 HC c1 c2
   go_wp2_with fail
   go_roundg (gk-1)
   case measure=>omega
   case rel=>exact⟨k+1,aa,ai,H5.out⟩
  .have hk:k=n:=aa
   subst hk;have HC:Hid (ak 175 #[aG (some ⟨g,0,none⟩) k cap,.func (.func 176) #[] #[]] wr λe w'=>e=aL (aI #[])/\Q w'):=HL.out wr HE.out
   clear HL HK HE
   go_wp2_with fail
   refine HC.out.mono ?_;rintro e w5 ⟨rfl,h5⟩;have H5:Hid (Q w5):=h5;clear h5 HC
   go_wp2_with fail
   go_end0
   exact⟨rfl,H5.out⟩
theorem adm(w:aM):
  ak 116 #[aG none 0 0] w λe w'=>e=aL (aI #[])/\w'=w:=by
 have HC:Hid (ak 175 #[aG none 0 0,.func (.func 176) #[] #[]] w λe w'=>e=aL (aI #[])/\w'=w):=AnyF.slices_SortFunc_none {Tryz.sortPg with} none 0 _ w
 go_enter func116,ntmps116
 go_wp2_with fail
 go_loopg [6] 0 (λm iv wr=>m=0/\iv=az aJ 0/\wr=w)
 case atStart=>exact⟨rfl,rfl,rfl⟩
 case round=>
  obtain⟨_,rfl,rfl⟩:=hrel
  go_wp2_with fail
  refine HC.out.mono ?_;rintro e w5 ⟨rfl,rfl⟩;clear HC
  go_wp2_with fail
  go_end0
  exact⟨rfl,rfl⟩
end
section
open Go.RowKit
open Ge
structure RG(Xs:List PB)(r:List Nat):Prop where
 ne:r≠[]
 lt:∀a∈r,a<Xs.length
 len:r.length<=Xs.length
def pA(Xs:List PB)(p:Pg):Prop:=RG Xs p.1/\∀r∈p.2,RG Xs r
theorem aoB(P:List Nat->Bool)(Rs:List (List Nat))(h:Rs.any P=true):vO P Rs∈Rs:=by
 have key:∀(Rs:List (List Nat)) acc,(Rs.foldl (λacc r=>if P r then r else acc) acc=acc/\Rs.any P=false)\/Rs.foldl (λacc r=>if P r then r else acc) acc∈Rs:=by
  intro Rs;induction Rs with
  |nil=>intro acc;exact aU ⟨rfl,rfl⟩
  |cons r Rs ih=>
   intro acc;rw[sL];cases hp:P r
   .simp only[mi,nL];rcases ih acc with⟨h1,h2⟩|h1
    .exact aU ⟨h1,by simp[hp,h2]⟩
    .exact aT (bX _ h1)
   .simp only[kP];rcases ih r with⟨h1,_⟩|h1
    .rw[h1];exact aT af
    .exact aT (bX _ h1)
 rcases key Rs [] with⟨_,h2⟩|h1
 .rw[h2] at h;cases h
 .exact h1
section
variable{rg:List (List Pt)}{l:List Ge.Nd}{r:Int}{Xs:List PB}
theorem SX.pn(h:SX rg l r Xs)(hB:BD Xs):∀k,k<=Xs.length->∀p∈(bG Xs k).ps,pA Xs p
 |0,_,p,hp=>by simp[bG] at hp
 |k+1,hk,p,hp=>by
  have ih:=h.pn hB k aa
  have hP:=h.pv hB k aa
  rw[Ck] at hp;generalize bG Xs k=st at*;cases hm:st.bz k
  .obtain⟨hc,hW⟩:=h.walk hB hP aa hm
   have hF:=h.Nc hW;have hleft:jM Xs.length st.bz (dI Xs st.bz k)+(dI Xs st.bz k).length<=jM Xs.length st.bz []+0:=zU (mk:=st.bz) (λj hj=>(h.next hB hj).1) Xs.length [] k aa
   have hl0:=xE Xs.length st.bz [];have hR:∀ring∈cJ Xs (dI Xs st.bz k),RG Xs ring:=λring hr=>by
    obtain⟨h1,h2,h3⟩:=hF ring hr;exact⟨h1,λa ha=>hW.lt a (h2 a ha),aa⟩
   unfold qi at hp;rw[hm] at hp;simp only[mi,nL] at hp;split at hp
   .rename_i mf
    simp only[dv,dh] at hp;rcases hp with hp|rfl
    .exact ih p hp
    .exact⟨hR _ (aoB _ _ mf),λr hr=>hR r (iz.1 hr).1⟩
   .simp only at hp;rcases Wa hp with hp'|rfl
    .exact ih p hp'
    .by_cases hq:st.ow (jf Xs (xi Xs k).f)<st.ps.length
     .have hmem:st.ps.getD (st.ow (jf Xs (xi Xs k).f)) ([],[])∈st.ps:=by
       rw[nN,bo hq];exact gZ hq
      obtain⟨k1,k2⟩:=ih _ hmem;refine⟨k1,λr hr=>?_⟩
      rcases dv.1 hr with hr|hr
      .exact k2 r hr
      .exact hR r hr
     .rw[List.set_eq_of_length_le aa] at hp
      exact ih _ hp
  .unfold qi at hp;rw[hm] at hp;exact ih p hp
end
end
section
open Go.RowKit Go.Shelf
def sy(Xs:List PB)(r s:List Nat):Int:=gL (fr Xs r) (fr Xs s)
def eA(Xs:List PB)(p:Pg):Pg:=(p.1,jN (sy Xs) p.2)
def oH(Xs:List PB)(p q:Pg):Int:=sy Xs p.1 q.1
def vP(Xs:List PB)(ps:List Pg):List Pg:=jN (oH Xs) (ps.map (eA Xs))
theorem Nn{Xs:List PB}(hB:BD Xs){r:List Nat}(h:RG Xs r):∀a∈fr Xs r,Ge.Can a:=λa ha=>by
 unfold fr at ha;obtain⟨i,hi,rfl⟩:=bQ.1 ha;exact(hB.v _ (iH (h.lt i hi))).cf
theorem RB.low{w w':aM}{g base:Nat}{bs:List Nat}{Xs:List PB}(h:RB w g bs Xs)(hg:g<base)(hbb:∀b∈bs,b<base)(hb:∀k,k<base->w'.heap[k]?=w.heap[k]?):RB w' g bs Xs:=
 ⟨h.len,λi b h1=>(World.cell?_of_block (a:=⟨g,i,none⟩) (hb g hg)).trans (h.row i b h1),λi b x h1 h2=>by
  have hk:=hb b (hbb b (bT h1));have hs:=h.side i b x h1 h2;exact⟨(World.cell?_of_block (a:=⟨b,0,none⟩) hk).trans hs.c0,(World.cell?_of_block (a:=⟨b,1,none⟩) hk).trans hs.c1,(World.cell?_of_block (a:=⟨b,2,none⟩) hk).trans hs.c2,(World.cell?_of_block (a:=⟨b,3,none⟩) hk).trans hs.c3,(World.cell?_of_block (a:=⟨b,4,none⟩) hk).trans hs.c4,(World.cell?_of_block (a:=⟨b,5,none⟩) hk).trans hs.c5⟩⟩
theorem Np{v:aN}{b:Nat}(h:v.ownBlock≠some b):b∉v.ownBlock.toList:=λe=>h (by simpa using e)
theorem PI.sorted{bs:List Nat}{base:Nat}{gU:aN}{PS:List Pg}{PH:List kN}{T:Nat->Tg}{wr w':aM}(h:PI bs base gU PS PH T wr){q:Nat}{ph:kN}{ps:Pg}(ig:PH[q]?=some ph)(hps:PS[q]?=some ps)(V:List aN)(rs:List (List Nat))(hlen:rs.length=ps.2.length)
  (xL:w'.ownsRow base 185 1 ph.hv ph.hvs.length V)(aoC:∀(i:Nat) u x,V[i]?=some u->rs[i]?=some x->∃j:Nat,ph.hvs[j]?=some u/\ps.2[j]?=some x)(hmo:Mo ph.hv.ownBlock.toList wr w'):
  PI bs base gU (PS.set q (ps.1,rs)) (PH.set q ⟨ph.pb,ph.sv,ph.hv,V⟩) T w':=by
 have oF:q<PH.length:=(cG.1 ig).1;have IJ:q<PS.length:=by rw[<-h.len];exact oF
 have hP:=h.pg q ph ps ig hps;have nj:=lt_of_heap hP.blk;have hVl:V.length=ph.hvs.length:=by rw[xL.1];omega
 have hold:∀b,b<wr.heap.size->T b≠.holes q->w'.heap[b]?=wr.heap[b]?:=λb hb ht=>hmo.block b hb (Np λe=>ht (hP.th b e))
 have hmap:(PH.set q ⟨ph.pb,ph.sv,ph.hv,V⟩).map j6=PH.map j6:=by
  rw[VZ];have:j6 ⟨ph.pb,ph.sv,ph.hv,V⟩=(PH.map j6)[q]'(by simpa using oF):=by
   rw[agR];have:=(cG.1 ig).2;rw[this];rfl
  rw[this];exact asE _
 refine⟨?_,h.tl,by simp[h.len],λq' vM ps' h1 h2=>?_⟩
 .rw[hmap,Fx];exact bB h.row λk e=>hold k (bn h.row k e).2 (by rw[h.tl k e];simp)
 .by_cases qY:q=q'
  .subst qY;rw[sO oF] at h1;rw[sO IJ] at h2;injection h1 with h1;injection h2 with h2;subst h1 h2;refine⟨(hold _ nj (by rw[hP.tp];simp)).trans hP.blk,hP.ge,hP.tp,bB hP.sh λk e=>hold k (bn hP.sh k e).2 (by rw[hP.ts k e];simp),hP.ts,by rw[<-hVl] at xL;exact xL,hP.th,by simp only;rw[hVl,hP.hl,hlen],λi v r h3 h4=>?_⟩
   obtain⟨j,j1,j2⟩:=aoC i v r h3 h4;obtain⟨k1,k2⟩:=hP.hr j v r j1 j2;exact⟨bB k1 λk e=>hold k (bn k1 k e).2 (by rw[k2 k e];simp),k2⟩
  .rw[wm qY] at h1 h2;refine(h.pg q' vM ps' h1 h2).keep (λb _ hz ht=>hold b hz (λe=>?_)) (λ_ _=>rfl)
   rw[e] at ht;simp at ht;exact qY ht
structure Um(bs:List Nat)(base:Nat)(ph:kN)(ps:Pg)(wr:aM):Prop where
 blk:wr.heap[ph.pb]?=some (.cells #[ph.sv,ph.hv] 187 (0,0))
 sh:wr.ownsRow base 175 1 ph.sv ps.1.length (bA (ps.1.map (bx bs)))
 ho:wr.ownsRow base 185 1 ph.hv ph.hvs.length ph.hvs
 hl:ph.hvs.length=ps.2.length
 hr:∀(i:Nat) v r,ph.hvs[i]?=some v->ps.2[i]?=some r->wr.ownsRow base 175 1 v r.length (bA (r.map (bx bs)))
structure PO(bs:List Nat)(base:Nat)(gU:aN)(PS:List Pg)(PH:List kN)(wr:aM):Prop where
 row:wr.ownsRow base 165 1 gU PH.length (PH.map j6)
 len:PH.length=PS.length
 pg:∀(q:Nat) ph ps,PH[q]?=some ph->PS[q]?=some ps->Um bs base ph ps wr
theorem ado{α β:Type}(f:α->Option β):∀(d:List α),(∀a∈d,∃b,f a=some b)->∀i:Nat,(d.filterMap f)[i]?=d[i]?.bind f
 |[],_,i=>af
 |a::d,h,i=>by
  obtain⟨b,hb⟩:=h a af
  rw[asF hb];cases i with
  |zero=>simp[hb]
  |succ i=>simp only[List.getElem?_cons_succ];exact ado f d (λa ha=>h a (by simp[ha])) i
theorem adp{α β:Type}(f:α->Option β):∀(d:List α),(∀a∈d,∃b,f a=some b)->(d.filterMap f).length=d.length
 |[],_=>rfl
 |a::d,h=>by
  obtain⟨b,hb⟩:=h a af
  rw[asF hb,dw,dw,adp f d (λa ha=>h a (by simp[ha]))]
section
variable{bs:List Nat}{base:Nat}{PS:List Pg}{PH:List kN}{T:Nat->Tg}{g:Nat}{Xs:List PB}
theorem aoD{gU:aN}{wr:aM}(hB:BD Xs)(hg:g<base)(hbb:∀b∈bs,b<base)(h:PI bs base gU PS PH T wr)(hR:RB wr g bs Xs){q:Nat}{ph:kN}{ps:Pg}(ig:PH[q]?=some ph)(hps:PS[q]?=some ps)(hd:pA Xs ps)(hl:ps.2.length<=85000000):
  ak 173 #[ph.hv,.func (.func 174) #[] #[]] wr λe w'=>e=aL (aI #[])/\(∃vM,PI bs base gU (PS.set q (eA Xs ps)) (PH.set q vM) T w')/\Below base wr w':=by
 have hP:=h.pg q ph ps ig hps;have eg:∀args w,(callFunc 174 args).run prog w=.ok (.enter 174 args) w:=enters_of func174 ag rfl
 have M0:=hB.len;have hone:∀v∈ph.hvs,v.oneCell'=true:=λv hv=>by
  obtain⟨i,hi⟩:=agT.1 hv;have hi2:i<ps.2.length:=by rw[<-hP.hl];exact(cG.1 hi).1
  obtain⟨so,m,c,rfl⟩:=IQ (hP.hr i v _ hi (bo hi2)).1;rfl
 have hsw:Sort.SWO (ltOf λi j:Fin ps.2.length=>sy Xs ps.2[i] ps.2[j]):=xQ (λi:Fin ps.2.length=>fr Xs ps.2[i]) (λi=>Nn hB (hd.2 _ (gZ i.2)))
 refine(adl Tryz.sortRg 174 eg (sy Xs) ps.2 ph.hvs hone hP.ho hP.hl hl hsw ?_).mono ?_
 .intro w' hz hk i j u v x y h1 h2 h3 h4;obtain⟨o1,t1⟩:=hP.hr i u x h1 h3;obtain⟨o2,t2⟩:=hP.hr j v y h2 h4;have kr:∀b,b<wr.heap.size->T b=.ring->w'.heap[b]?=wr.heap[b]?:=λb hb ht=>hk b hb (λe=>by rw[hP.th b e] at ht;cases ht)
  have gx:=hd.2 x (bT h3);have gy:=hd.2 y (bT h4);have hzb:base<=wr.heap.size:=fN hP.ge (fh (lt_of_heap hP.blk));have hR':RB w' g bs Xs:=hR.low hg hbb (λk hkb=>hk k aa (uL hP.ho k hkb))
  exact adk hB hR' (bB o1 λk e=>kr k (bn o1 k e).2 (t1 k e)) (bB o2 λk e=>kr k (bn o2 k e).2 (t2 k e)) gx.ne gy.ne gx.lt gy.lt (by have:=gx.len;omega) (by have:=gy.len;omega)
 .rintro e w' ⟨rfl,d,p1,p2,p3,p4,p5,p6⟩;refine⟨rfl,⟨_,h.sorted ig hps _ _ p3 p4 (λi u x h1 h2=>?_) p6⟩,p6.os,p6.tape,p6.output,p6.size,λk hk=>p6.block k (by have:=lt_of_heap hP.blk;have:=hP.ge;omega) (Np (uL hP.ho k hk))⟩
  obtain⟨j,_,_,j1,j2⟩:=p5 i u x h1 h2;exact⟨j,j1,j2⟩
end
section
variable{bs:List Nat}{base:Nat}{PS:List Pg}{PH:List kN}{T:Nat->Tg}{g:Nat}{Xs:List PB}
theorem aoE{gU:aN}{wr:aM}(hB:BD Xs)(hg:g<base)(hbb:∀b∈bs,b<base)(hz0:base<=wr.heap.size)(h:PI bs base gU PS PH T wr)(hR:RB wr g bs Xs)(hd:∀p∈PS,RG Xs p.1)(hl:PS.length<=85000000):
  ak 175 #[gU,.func (.func 176) #[] #[]] wr λe w'=>e=aL (aI #[])/\(∃um,PO bs base gU (jN (oH Xs) PS) um w')/\Below base wr w':=by
 have eg:∀args w,(callFunc 176 args).run prog w=.ok (.enter 176 args) w:=enters_of func176 ag rfl
 have M0:=hB.len;have hlm:(PH.map j6).length=PS.length:=by rw[ia];exact h.len
 have hone:∀v∈PH.map j6,v.oneCell'=true:=λv hv=>by
  obtain⟨p,_,rfl⟩:=bQ.1 hv;rfl
 have hsw:Sort.SWO (ltOf λi j:Fin PS.length=>oH Xs PS[i] PS[j]):=xQ (λi:Fin PS.length=>fr Xs PS[i].1) (λi=>Nn hB (hd _ (gZ i.2)))
 have hrow:wr.ownsRow base 165 1 gU (PH.map j6).length (PH.map j6):=by rw[ia];exact h.row
 refine(adl Tryz.sortPg 176 eg (oH Xs) PS (PH.map j6) hone hrow hlm hl hsw ?_).mono ?_
 .intro w' hz hk i j u v x y h1 h2 h3 h4;rw[iI] at h1 h2;obtain⟨p,hp,rfl⟩:=rp.1 h1;obtain⟨p',hp',rfl⟩:=rp.1 h2;have hP:=h.pg i p x hp h3;have EP:=h.pg j p' y hp' h4;have kr:∀b,b<wr.heap.size->T b≠.vL->w'.heap[b]?=wr.heap[b]?:=λb hb ht=>hk b hb (λe=>ht (h.tl b e))
  have gx:=hd x (bT h3);have gy:=hd y (bT h4);have hR':RB w' g bs Xs:=hR.low hg hbb (λk hkb=>hk k aa (uL h.row k hkb))
  have o1:w'.ownsRow base 175 1 p.sv x.1.length (bA (x.1.map (bx bs))):=bB hP.sh λk e=>kr k (bn hP.sh k e).2 (by rw[hP.ts k e];simp)
  have o2:w'.ownsRow base 175 1 p'.sv y.1.length (bA (y.1.map (bx bs))):=bB EP.sh λk e=>kr k (bn EP.sh k e).2 (by rw[EP.ts k e];simp)
  have b1:w'.heap[p.pb]?=some (.cells #[p.sv,p.hv] 187 (0,0)):=(kr _ (lt_of_heap hP.blk) (by rw[hP.tp];simp)).trans hP.blk
  have b2:w'.heap[p'.pb]?=some (.cells #[p'.sv,p'.hv] 187 (0,0)):=(kr _ (lt_of_heap EP.blk) (by rw[EP.tp];simp)).trans EP.blk
  obtain⟨g1,c1,e1,_⟩:=po o1 (jE.2 gx.ne);obtain⟨g2,c2,e2,_⟩:=po o2 (jE.2 gy.ne);have hc:∀w'',Gr w' w''->ak 174 #[p.sv,p'.sv] w'' λe w3=>e=aL (az aJ (oH Xs x y))/\Gr w'' w3:=λw'' hG=>
   adk hB (hR'.below hG.1) (bB o1 λk e=>hG.1.block k (bn o1 k e).2) (bB o2 λk e=>hG.1.block k (bn o2 k e).2) gx.ne gy.ne gx.lt gy.lt (by have:=gx.len;omega) (by have:=gy.len;omega)
  rw[e1,e2] at hc;refine aoz p.pb p'.pb g1 _ c1 g2 _ c2 w' (oH Xs x y) ?_ ?_ hc
  .rw[cell_of b1 0,<-e1];rfl
  .rw[cell_of b2 0,<-e2];rfl
 .rintro e w' ⟨rfl,d,p1,p2,p3,p4,p5,p6⟩;have hin:∀a∈d,a<PH.length:=λa ha=>by
   have:=p1.mem_iff.1 ha;rw[sU] at this;rw[h.len];exact this
  have f1:∀a∈d,∃b,(λi=>PH[i]?) a=some b:=λa ha=>⟨_,bo (hin a ha)⟩
  have oZ:d.length=PH.length:=by rw[p1.length_eq,agQ,h.len]
  have zD:(d.filterMap (λi=>PH[i]?)).length=PH.length:=by rw[adp _ _ f1,oZ]
  have hvs:d.filterMap (λi=>(PH.map j6)[i]?)=(d.filterMap (λi=>PH[i]?)).map j6:=by
   rw[List.map_filterMap];congr 1;funext i;rw[iI]
  refine⟨rfl,⟨d.filterMap (λi=>PH[i]?),?_,by rw[zD,p3,h.len],λq ph ps h1 h2=>?_⟩,p6.os,p6.tape,p6.output,p6.size,λk hk=>p6.block k aa (Np (uL h.row k hk))⟩
  .rw[<-hvs,zD,<-ia (f:=j6)];exact p4
  .have h1':((d.filterMap (λi=>PH[i]?)).map j6)[q]?=some (j6 ph):=by rw[iI,h1];rfl
   rw[<-hvs] at h1';obtain⟨j,_,j1,_,j2⟩:=p5 q _ ps h1' h2;rw[ado _ _ f1,j1] at h1;have hj:PH[j]?=some ph:=h1;have hP:=h.pg j ph ps hj j2;have kr:∀b,b<wr.heap.size->T b≠.vL->w'.heap[b]?=wr.heap[b]?:=λb hb ht=>p6.block b hb (Np λe=>ht (h.tl b e))
   exact⟨(kr _ (lt_of_heap hP.blk) (by rw[hP.tp];simp)).trans hP.blk,bB hP.sh λk e=>kr k (bn hP.sh k e).2 (by rw[hP.ts k e];simp),bB hP.ho λk e=>kr k (bn hP.ho k e).2 (by rw[hP.th k e];simp),hP.hl,λi v r h3 h4=>by
    obtain⟨k1,k2⟩:=hP.hr i v r h3 h4;exact bB k1 λk e=>kr k (bn k1 k e).2 (by rw[k2 k e];simp)⟩
theorem aoF{gU:aN}{wr:aM}(hB:BD Xs)(hg:g<base)(hbb:∀b∈bs,b<base)(hz0:base<=wr.heap.size)(h:PI bs base gU PS PH T wr)(hR:RB wr g bs Xs)(hd:∀p∈PS,pA Xs p)(hl:PS.length<=85000000)(hh:∀p∈PS,p.2.length<=85000000):
  ak 116 #[gU] wr λe w'=>e=aL (aI #[])/\(∃um,PO bs base gU (vP Xs PS) um w')/\RB w' g bs Xs/\Below base wr w':=by
 obtain⟨hlen,xt⟩:=id h.row;rcases xt with⟨rfl,h0⟩|⟨gp,cap,cur,rfl,Lt,hblk,hnc,hcm,hcs,htk⟩
 .have hPH:PH=[]:=iU.1 h0;have ER:PS=[]:=iU.1 (by rw[<-h.len];exact h0)
  subst hPH;subst ER;refine(adm wr).mono ?_;rintro e w' ⟨rfl,rfl⟩;exact⟨rfl,⟨[],⟨h.row,rfl,λq ph ps hq=>by simp at hq⟩⟩,hR,Below.refl _ _⟩
 .refine aoA gp PH.length cap (λk w'=>k<=PH.length/\∃ET um,PI bs base (aG (some ⟨gp,0,none⟩) PH.length cap) ET um T w'/\um.length=PH.length/\(∀i:Nat,ET[i]?=if i<k then PS[i]?.map (eA Xs) else PS[i]?)/\RB w' g bs Xs/\Below base wr w') _ wr (by rw[h.len];exact hl) (λk w1 hI hk=>?_) (λw1 hI=>?_) ⟨iA _,PS,PH,h,rfl,λi=>af,hR,Below.refl _ _⟩
  .obtain⟨_,ET,um,mM,zD,ER,gI,aW⟩:=hI;have hk':k<um.length:=by rw[zD];exact hk
   obtain⟨ph,ig⟩:∃ph,um[k]?=some ph:=⟨_,bo hk'⟩;have xR:k<PS.length:=by rw[<-h.len];exact hk
   have hps:ET[k]?=some PS[k]:=by rw[ER k,aQ (agE _),bo xR]
   have hP:=mM.pg k ph _ ig hps;have hmem:=gZ xR;obtain⟨so,m,c,hv⟩:=IQ hP.ho;have hcell:w1.cell? ⟨gp,k,none⟩=some (aH (some ⟨ph.pb,0,none⟩)):=by
    obtain⟨gT,cT,e1,_,_,_,f1⟩:=po mM.row aa
    injection e1 with e1;injection e1 with e1;injection e1 with e1;subst e1;exact f1 k _ (by rw[iI,ig];rfl)
   refine⟨ph.pb,so,m,c,hcell,by rw[cell_of hP.blk 1,<-hv];rfl,?_⟩
   rw[<-hv];refine(aoD hB hg hbb mM gI ig hps (hd _ hmem) (hh _ hmem)).mono ?_;rintro e w' ⟨rfl,⟨vM,aoH⟩,hb'⟩;refine⟨rfl,aa,_,_,aoH,by rw[Fx];exact zD,λi=>?_,gI.low hg hbb hb'.block,aW.trans hb'⟩
   rw[List.getElem?_set];by_cases hik:k=i
   .subst hik;rw[aV rfl,aV (by rw[<-mM.len];exact hk'),aV aa,bo xR]
    rfl
   .rw[aQ hik,ER i];by_cases hi:i<k
    .rw[aV hi,aV aa]
    .rw[aQ hi,aQ aa]
  .obtain⟨_,ET,um,mM,zD,ER,gI,aW⟩:=hI;have aoI:ET=PS.map (eA Xs):=by
    apply Fj;intro i;rw[ER i,iI];split
    .rfl
    .rename_i hi
     rw[yw (by rw[<-h.len];omega)]
     rfl
   subst aoI;refine(aoE hB hg hbb (fN hz0 aW.size) mM gI (λp hp=>?_) (by rw[ia];exact hl)).mono ?_
   .obtain⟨p0,hp0,rfl⟩:=bQ.1 hp;exact(hd p0 hp0).1
   .rintro e w' ⟨rfl,Un,hb'⟩;exact⟨rfl,Un,gI.low hg hbb hb'.block,aW.trans hb'⟩
end
end
section
open Go.RowKit
theorem adq{w wr:aM}{lv:aN}{xs:List ByteArray}(sep:ByteArray)(h:SI w lv xs wr)(hl:xs.length<=100000000)(hlen:(Lib.join (xs.map (·.data.toList)) sep.data.toList).length<=140737488355328):
  ak 103 #[lv,aF sep] wr λe w'=>e=aL (aF ⟨(Lib.join (xs.map (·.data.toList)) sep.data.toList).toArray⟩)/\aj wr w':=by
 rcases h.1.2 with⟨hv,h0⟩|⟨g,cap,cur,hv,_,hb,hc,_,_,ht⟩
 .have hx:xs=[]:=iU.1 h0;subst hx;rw[hv];exact(Tryz.strings_Join_none none 0 sep wr).mono λe w'⟨he,hw⟩=>⟨he,hw▸Below.refl _ _⟩
 .rw[hv];have hlt:g<wr.heap.size:=by
   rcases oK g wr.heap.size with h1|h1
   .exact h1
   .rw[JO h1] at hb;cases hb
  refine Tryz.strings_Join g 0 cap xs sep wr (λj x hj=>?_) hlt aa hc hlen
  have hm:(xs.map Value.string)[j]?=some (aF x):=by simp[hj]
  rw[jD,XH hb j,<-jP];rw[<-ht,kQ] at hm;split at hm
  .exact hm
  .cases hm
theorem aoJ(l:List Ge.Nd)(v:aN)(w:aM)(hR:jk w v l)(hG:Gl w)(hn:∀n∈l,eI n.1 n.2.1 n.2.2)(hl:l.length<=90000000):
  ak 71 #[v] w λe w'=>e=aL (aF ⟨(Pl.bI Pl.dH (l.map Ge.aX)).toArray⟩)/\aj w w':=by
 obtain⟨so,cap,rfl⟩:=LQ hR;obtain⟨i0,hi,hz0,hz1,hz2⟩:=info_parts Rc;have HR:Hid (jk w (aG so l.length cap) l):=hR;have HN:Hid (∀n∈l,∀w1,Gl w1->ak 122 #[aC #[aA aK (aO aK n.1) (aO aK n.2.1),az aJ n.2.2]] w1 λe w'=>e=aL (aF ⟨(Pl.dH (Ge.aX n)).toArray⟩)/\aj w1 w'):=λn h w1 g1=>ajZ n (hn n h) w1 g1
 have HJ:Hid (∀lv wr,SI w lv (pT l) wr->ak 103 #[lv,aF ⟨#[44,32]⟩] wr λe w'=>e=aL (aF ⟨(Pl.bI Pl.dH (l.map Ge.aX)).toArray⟩)/\aj wr w'):=λlv wr h=>by
  have e:Lib.join ((pT l).map (·.data.toList)) (⟨#[44,32]⟩:ByteArray).data.toList=Pl.bI Pl.dH (l.map Ge.aX):=by
   rw[aj0];exact ZB Pl.dH _
  have hlen:=Pl.Lh Pl.dH 101 (l.map Ge.aX) (λq hq=>by
   obtain⟨n,hm,rfl⟩:=bQ.1 hq;exact Re (hn n hm))
  rw[ia] at hlen;have:=adq ⟨#[44,32]⟩ h (by simp[pT];omega) (by rw[e];omega)
  rw[e] at this;exact this
 clear hR;generalize Pl.bI Pl.dH (l.map Ge.aX)=RT at*
 go_enter func71,ntmps71
 go_wp2_with fail
 have cK:Hid (SI w (aG none 0 0) [] w):=⟨World.ownsRow_nil _ _ _ _,Below.refl _ _⟩
 go_loopg [3,8] l.length (λm lv iv wr=>∃i:Nat,i+m=l.length/\iv=az aJ i/\Hid (SI w lv (pT (l.take i)) wr))
 case atStart=>exact⟨0,aa,rfl,cK⟩
 case round=>
  obtain⟨i,him,rfl,HE⟩:=hrel;have aW:=HE.out.2;clear cK;by_cases hlt:i<l.length
  .obtain⟨n,hg⟩:∃g,l[i]?=some g:=⟨_,bo hlt⟩;obtain⟨b,rfl,hb,c0,c1⟩:=LS HR.out hg;have r0:=aS aW c0 hb;have r1:=aS aW c1 hb;have HT:Hid (pT (l.take (i+1))=pT (l.take i)++[⟨(Pl.dH (Ge.aX n)).toArray⟩]):=by
    have e:=List.take_append_getElem hlt;have hn':l[i]=n:=by
     have:=bo hlt;rw[hg] at this;injection this with this;exact this.symm
    rw[<-e,hn'];show pT (l.take i++[n])=_;simp[pT]
   have HW:=HN.out n (bT hg);have hxl:(pT (l.take i)).length<=90000000:=by simp[pT];omega
   have gH:(i:Int)<(l.length:Int):=aa
   have hbr:b<wr.heap.size:=bW hb aW.size;have uU:Gl wr:=hG.below aW hG.sz;have vq:Hid (∀w1,Gl w1->ak 122 #[aC #[aA aK (aO aK n.1) (aO aK n.2.1),az aJ n.2.2]] w1 λe w'=>e=aL (aF ⟨(Pl.dH (Ge.aX n)).toArray⟩)/\aj w1 w'):=HW
   generalize Pl.dH (Ge.aX n)=X at*;generalize aO aK n.1=N1 at*;generalize aO aK n.2.1=N2 at*;generalize pT (l.take i)=A1 at*;clear hg c0 c1 HN HR HW
   go_wp2_with (simp only[gN];go_simp)
   refine(vq.out _ (uU.alloc _)).mono ?_;rintro e w5 ⟨rfl,bg⟩;obtain⟨hx2,_⟩:=HE.out;have GV:=aW.alloc aW.size (.cells #[aA aK N1 N2,az aJ n.2.2] 83);have l9:=GV.trans (bg.mono GV.size);have eT:w5.ownsRow w.heap.size 9 1 u3 A1.length (A1.map Value.string):=bB hx2 λk hk=>(bg.block k (by have:=(bn hx2 k hk).2;simp;omega)).trans (Below.heap_alloc _ _ _ (bn hx2 k hk).2)
   have hs5:=l9.size;clear hx2 HE
   go_wp2_with (at_builtin;refine wpList_append_lies _ rfl (.tmp 12) (.tmp 15) 164 rfl w.heap.size 9 i0 _ 1 16 underlying164 hi hz0 hz1 hz2 rfl ah u3 A1.length (A1.map Value.string) rfl (bB eT (λk hk=>Below.heap_alloc _ _ _ (bn eT k hk).2)) ⟨w5.heap.size,0,none⟩ 1 1 [aF ⟨X.toArray⟩] rfl rfl (World.news_of_block (cs:= #[aF ⟨X.toArray⟩]) (t:=9) (fr:=(0,0)) (heap_alloc_new w5 _)) (by simp[Value.oneCell']) ah (by unfold maxLen;omega) aa (by simp;omega) (w5.heap.size+1) af ?_;intro g' cap' w6 iw mW GP D3)
   have HN:Hid (SI w (aG (some ⟨g',0,none⟩) (A1.length+1) cap') (pT (l.take (i+1))) w6):=by
    rw[HT.out];refine⟨?_,(l9.alloc l9.size _).grown mW (by simp;omega) (λk hk=>(bn eT k hk).1)⟩
    rw[bY,jC];exact iw
   clear iw mW eT vq HT
   go_roundg (gk-1)
   case measure=>omega
   case rel=>exact⟨i+1,aa,ai,HN⟩
  .have hk:i=l.length:=aa
   subst hk;have HF:=HE.out;rw[fO] at HF;clear HE HR HN
   go_wp2_with fail
   refine(HJ.out _ _ HF).mono ?_;rintro e w5 ⟨rfl,bg⟩
   go_wp2_with fail
   go_ret
   exact⟨rfl,HF.2.trans (bg.mono HF.2.size)⟩
def kj(Xs:List PB)(r:List Nat):List UInt8:=40::(Pl.bI Pl.dH ((fr Xs r++(fr Xs r).take 1).map Ge.aX)++[41])
def NJ(w:aM)(lv:aN)(l:List Ge.Nd)(wr:aM):Prop:=wr.ownsRow w.heap.size 83 2 lv l.length (eF l)/\aj w wr
theorem aoK(bs:List Nat)(Xs:List PB)(r:List Nat)(g1 c1:Nat)(w:aM)(hl:r.length<=85000000)(hne:0<r.length)(hG:Gl w)
  (HV:Hid (∀(i:Nat) a,r[i]?=some a->w.cell? ⟨g1,i,none⟩=some (aH (some ⟨bx bs a,0,none⟩))/\w.cell? ⟨bx bs a,2,none⟩=some (aA aK (aO aK (xi Xs a).f.1) (aO aK (xi Xs a).f.2.1))/\w.cell? ⟨bx bs a,3,none⟩=some (az aJ (xi Xs a).f.2.2)))
  (HN:Hid (∀n∈fr Xs r,eI n.1 n.2.1 n.2.2)):
  ak 153 #[aG (some ⟨g1,0,none⟩) r.length c1] w λe w'=>e=aL (aF ⟨(kj Xs r).toArray⟩)/\aj w w':=by
 obtain⟨i0,hi,hz0,hz1,hz2⟩:=info_parts ZE;have cK:Hid (NJ w (aG none 0 0) (fr Xs (r.take 0)) w):=⟨World.ownsRow_nil _ _ _ _,Below.refl _ _⟩
 go_enter func153,ntmps153
 go_wp2_with fail
 go_loopg [3,8] r.length (λm lv iv wr=>∃k:Nat,k+m=r.length/\iv=az aJ k/\Hid (NJ w lv (fr Xs (r.take k)) wr))
 case atStart=>exact⟨0,aa,rfl,cK⟩
 case round=>
  obtain⟨k,hkn,rfl,HE⟩:=hrel;have aW:=HE.out.2;clear cK;by_cases hlt:k<r.length
  .obtain⟨a,ha⟩:∃a,r[k]?=some a:=⟨_,bo hlt⟩;obtain⟨v0,v2,v3⟩:=HV.out k a ha;have r0:=aS aW v0 (lt_of_cell v0);have r2:=aS aW v2 (lt_of_cell v2);have r3:=aS aW v3 (lt_of_cell v3);have gH:(k:Int)<(r.length:Int):=aa
   have hT':fr Xs (r.take (k+1))=fr Xs (r.take k)++[(xi Xs a).f]:=by
    unfold fr;rw[jF,ha];simp
   have HT:Hid (fr Xs (r.take (k+1))=fr Xs (r.take k)++[(xi Xs a).f]):=hT';have hxl:(fr Xs (r.take k)).length<=85000000:=by simp[fr];omega
   have HC:Hid (jc (xi Xs a).f=[aA aK (aO aK (xi Xs a).f.1) (aO aK (xi Xs a).f.2.1),az aJ (xi Xs a).f.2.2]):=rfl;clear hT' v0 v2 v3 ha;generalize(xi Xs a).f=N at*;generalize aO aK N.1=N1 at*;generalize aO aK N.2.1=N2 at*;generalize N.2.2=N3 at*;generalize fr Xs (r.take k)=A1 at*;obtain⟨ho,_⟩:=HE.out;have hs5:=aW.size;clear HE HV HN
   go_wp2_with (first |(simp only[gN];go_simp)|(at_builtin;refine wpList_append_lies _ rfl (.tmp 12) (.tmp 18) 138 rfl w.heap.size 83 i0 _ 2 24 underlying138 hi hz0 hz1 hz2 rfl ah u3 A1.length (eF A1) rfl (bB ho (λk hk=>Below.heap_alloc _ _ _ (bn ho k hk).2)) ⟨wr.heap.size,0,none⟩ 1 1 [aA aK N1 N2,az aJ N3] rfl rfl (World.news_of_block (cs:= #[aA aK N1 N2,az aJ N3]) (t:=83) (fr:=(0,0)) (heap_alloc_new wr _)) (by simp[Value.oneCell']) ah (by unfold maxLen;omega) aa (by simp;omega) (wr.heap.size+1) af ?_;intro g' cap' w6 iw mW GP D3))
   have HN':Hid (NJ w (aG (some ⟨g',0,none⟩) (A1.length+1) cap') (fr Xs (r.take (k+1))) w6):=by
    rw[HT.out];refine⟨?_,(aW.alloc aW.size _).grown mW (by simp;omega) (λk hk=>(bn ho k hk).1)⟩
    rw[bY,Rb,HC.out];exact iw
   clear iw mW ho HT HC
   go_roundg (gk-1)
   case measure=>omega
   case rel=>exact⟨k+1,aa,ai,HN'⟩
  .have hk:k=r.length:=aa
   subst hk;have HF:=HE.out;rw[fO] at HF;clear HE HV;obtain⟨a0,ha0⟩:∃a,(fr Xs r)[0]?=some a:=⟨_,bo (by simp[fr];exact hne)⟩
   have hfl:(fr Xs r).length=r.length:=by simp[fr]
   have adr:(fr Xs r).take 1=[a0]:=by
    have:=jF (l:=fr Xs r) (i:=0);rw[ha0] at this;simpa using this
   have HW:Hid (∀v w1,jk w1 v (fr Xs r++[a0])->Gl w1->ak 71 #[v] w1 λe w'=>e=aL (aF ⟨(Pl.bI Pl.dH ((fr Xs r++[a0]).map Ge.aX)).toArray⟩)/\aj w1 w'):=λv w1 h1 h2=>aoJ _ v w1 h1 h2 (λn hn=>by
    rcases dv.1 hn with hn|hn
    .exact HN.out n hn
    .rw[dh] at hn;rw[hn];exact HN.out a0 (bT ha0)) (by rw[bY,hfl];simp;omega)
   have hRT:kj Xs r=40::(Pl.bI Pl.dH ((fr Xs r++[a0]).map Ge.aX)++[41]):=by unfold kj;rw[adr]
   have I2:Hid (kj Xs r=40::(Pl.bI Pl.dH ((fr Xs r++[a0]).map Ge.aX)++[41])):=hRT;have Sr:(Pl.bI Pl.dH ((fr Xs r++[a0]).map Ge.aX)).length<=140737488355328:=by
    have:=Pl.Lh Pl.dH 101 ((fr Xs r++[a0]).map Ge.aX) (λq hq=>by
     obtain⟨n,hm,rfl⟩:=bQ.1 hq;refine Re ?_;rcases dv.1 hm with hn|hn
     .exact HN.out n hn
     .rw[dh] at hn;rw[hn];exact HN.out a0 (bT ha0))
    rw[ia,bY,hfl,OX] at this;omega
   generalize Pl.bI Pl.dH ((fr Xs r++[a0]).map Ge.aX)=TX at*;have hs1:¬9223372036854775807<1+TX.length:=aa
   have hs2:¬9223372036854775807<1+TX.length+1:=aa
   clear adr HN hRT;generalize fr Xs r=F at*;obtain⟨ho,_⟩:=HF;rw[hfl] at ho;have kV:jk wr u3 F:=by
    have:=xk ho (iA _);rw[<-hfl] at this;exact this
   obtain⟨so3,aoM,hu3⟩:=LQ kV;subst hu3;obtain⟨g3,hso,hlt',c0,c1'⟩:=LS kV ha0;subst hso;rw[hfl] at ho;have HC:Hid (jc a0=[aA aK (aO aK a0.1) (aO aK a0.2.1),az aJ a0.2.2]):=rfl;generalize aO aK a0.1=N1 at*;generalize aO aK a0.2.1=N2 at*;generalize En:a0.2.2=N3 at*;clear kV ha0;have hs5:=aW.size;have uU:Gl wr:=hG.below aW hG.sz;rw[hfl]
   go_wp2_with (first |(simp only;go_simp)|(at_builtin;refine wpList_append_lies _ rfl (.tmp 21) (.tmp 25) 138 rfl w.heap.size 83 i0 _ 2 24 underlying138 hi hz0 hz1 hz2 rfl ah (aG (some ⟨g3,0,none⟩) r.length aoM) r.length (eF F) rfl (bB ho (λk hk=>Below.heap_alloc _ _ _ (bn ho k hk).2)) ⟨wr.heap.size,0,none⟩ 1 1 [aA aK N1 N2,az aJ N3] rfl rfl (World.news_of_block (cs:= #[aA aK N1 N2,az aJ N3]) (t:=83) (fr:=(0,0)) (heap_alloc_new wr _)) (by simp[Value.oneCell']) ah (by unfold maxLen;omega) aa (by simp;omega) (wr.heap.size+1) af ?_;intro g' cap' w6 iw mW GP D3))
   have bp:aj w w6:=(aW.alloc aW.size _).grown mW (by simp;omega) (λk hk=>(bn ho k hk).1)
   have hr6:jk w6 (aG (some ⟨g',0,none⟩) (r.length+1) cap') (F++[a0]):=by
    unfold jk;rw[bY,Rb,HC.out,hfl];exact xk iw (iA _)
   have ni:Hid (ak 71 #[aG (some ⟨g',0,none⟩) (r.length+1) cap'] w6 λe w'=>e=aL (aF ⟨TX.toArray⟩)/\aj w6 w'):=HW.out _ _ hr6 (hG.below bp hG.sz)
   have I3:Hid (aj w w6):=bp;clear hr6 iw mW ho HW HC bp c0 c1' aW uU
   go_wp2_with fail
   refine ni.out.mono ?_;rintro e w7 ⟨rfl,bw⟩;have xS:Hid (aj w w7):=I3.out.trans (bw.mono I3.out.size);clear ni I3 bw
   go_wp2_with fail
   go_ret
   exact⟨by rw[I2.out];simp[ByteArray.mk_append_mk],xS.out⟩
end
section
open Go.RowKit
open Ge
def eW(Rs:List (List Nat)):Nat:=(Rs.map List.length).sum
def jn(ps:List Pg):Nat:=(ps.map λp=>p.1.length+eW p.2).sum
theorem adu(a b:List (List Nat)):eW (a++b)=eW a+eW b:=by simp[eW]
theorem aoO(a b:List Pg):jn (a++b)=jn a+jn b:=by simp[jn]
theorem aoP(Xs:List PB)(A:List Nat):(ez Xs A).length<=A.length:=by rw[T8];exact Te Xs A
theorem aoQ(Xs:List PB)(A:List Nat):∀k,k<=A.length->(cP Xs (A.take k)).1.length+eW (cP Xs (A.take k)).2<=k:=by
 intro k;induction k with
 |zero=>intro _;simp[cP,eW]
 |succ k ih=>
  intro hk;have ih:=ih aa
  have htk:A.take (k+1)=A.take k++[A[k]]:=by rw[jF,bo aa];rfl
  rw[htk,zQ];generalize cP Xs (A.take k)=p at*;unfold j5;split
  .simp only;rw[adu];have h1:=aoP Xs ((p.1++[A[k]]).drop (jd Xs (p.1++[A[k]]) A[k]).toNat);have h2:eW [ez Xs ((p.1++[A[k]]).drop (jd Xs (p.1++[A[k]]) A[k]).toNat)]=(ez Xs ((p.1++[A[k]]).drop (jd Xs (p.1++[A[k]]) A[k]).toNat)).length:=by simp[eW]
   rw[h2];rw[uB] at h1;rw[iB];simp only[bY,OX] at h1⊢;omega
  .simp only[bY,OX];omega
theorem aoR(Xs:List PB)(A:List Nat):eW (cJ Xs A)<=A.length:=by
 have:=aoQ Xs A A.length (aY _);rw[fO] at this;unfold cJ;omega
theorem Uo(P:List Nat->Bool):∀(Rs:List (List Nat)) acc,(Rs.foldl (λacc r=>if P r then r else acc) acc).length+eW (Rs.filter λr=> !P r)<=acc.length+eW Rs
 |[],acc=>by simp[eW]
 |r::Rs,acc=>by
  rw[sL];have e:eW (r::Rs)=r.length+eW Rs:=by simp[eW]
  cases hp:P r
  .have:=Uo P Rs acc;rw[Ax (by simp[hp])]
   have e2:eW (r::Rs.filter λr=> !P r)=r.length+eW (Rs.filter λr=> !P r):=by simp[eW]
   rw[e2,e];simp only[mi,nL];omega
  .have:=Uo P Rs r;rw[wu (by simp[hp])]
   rw[e];simp only[kP];omega
theorem adv:∀(ps:List Pg)(q:Nat)(Rs:List (List Nat)),jn (ps.set q ((ps.getD q ([],[])).1,(ps.getD q ([],[])).2++Rs))<=jn ps+eW Rs
 |[],_,_=>af
 |p::ps,0,Rs=>by
  simp only[dS,List.getD_cons_zero,jn,ij,C6,adu];omega
 |p::ps,q+1,Rs=>by
  have:=adv ps q Rs;simp only[dD,List.getD_cons_succ];simp only[jn,ij,C6] at this⊢;omega
section
variable{rg:List (List Pt)}{l:List Nd}{r:Int}{Xs:List PB}
theorem SX.eW(h:SX rg l r Xs)(hB:BD Xs):∀k,k<=Xs.length->jn (bG Xs k).ps+jM Xs.length (bG Xs k).bz []<=Xs.length
 |0,_=>by
  have:=xE Xs.length (bG Xs 0).bz [];have e:jn (bG Xs 0).ps=0:=by simp[bG,jn]
  omega
 |k+1,hk=>by
  have ih:=h.eW hB k aa
  have hP:=h.pv hB k aa
  rw[Ck];generalize bG Xs k=st at*;cases hm:st.bz k
  .have hleft:jM Xs.length st.bz (dI Xs st.bz k)+(dI Xs st.bz k).length<=jM Xs.length st.bz []+0:=zU (mk:=st.bz) (λj hj=>(h.next hB hj).1) Xs.length [] k aa
   have IP:jM Xs.length (λj=>st.bz j||(dI Xs st.bz k).contains j) []=jM Xs.length st.bz (dI Xs st.bz k):=by unfold jM;simp
   have hrt:=aoR Xs (dI Xs st.bz k);unfold qi;rw[hm];simp only[mi,nL];split
   .simp only;rw[IP,aoO];have h1:=Uo (dm Xs) (cJ Xs (dI Xs st.bz k)) [];have e:jn [(vO (dm Xs) (cJ Xs (dI Xs st.bz k)),(cJ Xs (dI Xs st.bz k)).filter λr=> !dm Xs r)]=(vO (dm Xs) (cJ Xs (dI Xs st.bz k))).length+_root_.Go.Proofs.YtkjhhooecopolaaGreatDoor.eW ((cJ Xs (dI Xs st.bz k)).filter λr=> !dm Xs r):=by simp[jn]
    rw[e];unfold vO;simp only[iJ] at h1;omega
   .simp only;rw[IP];have:=adv st.ps (st.ow (jf Xs (xi Xs k).f)) (cJ Xs (dI Xs st.bz k));omega
  .unfold qi;rw[hm];exact ih
end
end
section
open Go.RowKit
def ba(t:List UInt8):ByteArray:=⟨t.toArray⟩
def vQ(ST:List UInt8)(TS:List (List UInt8)):List UInt8:=40::(Lib.join (ST::TS) [44,32]++[41])
theorem adw(l:List (List UInt8)):(l.map ba).map (·.data.toList)=l:=by
 rw[iC]
 conv=>rhs;rw[<-List.map_id l]
 rfl
theorem adx{w wr:aM}{lv:aN}{l:List (List UInt8)}(h:SI w lv (l.map ba) wr)(hl:l.length<=90000000)(hlen:(Lib.join l [44,32]).length<=140737488355328):
  ak 103 #[lv,aF ⟨#[44,32]⟩] wr λe w'=>e=aL (aF ⟨(Lib.join l [44,32]).toArray⟩)/\aj wr w':=by
 have:=adq ⟨#[44,32]⟩ h (by rw[ia];omega) (by rw[adw];exact hlen)
 rw[adw] at this;exact this
theorem aoS(pb gs ns cs:Nat)(so:Option Addr)(c:Nat)(ST:List UInt8)(TS:List (List UInt8))(w:aM)(hl:TS.length<=85000000)(hlen:(Lib.join (ST::TS) [44,32]).length<=140737488355328)(hG:Gl w)
  (c0:w.cell? ⟨pb,0,none⟩=some (aG (some ⟨gs,0,none⟩) ns cs))(c1:w.cell? ⟨pb,1,none⟩=some (aG so TS.length c))
  (HS:Hid (∀w1,aj w w1->Gl w1->ak 153 #[aG (some ⟨gs,0,none⟩) ns cs] w1 λe w'=>e=aL (aF (ba ST))/\aj w1 w'))
  (HH:Hid (∀(k:Nat) t,TS[k]?=some t->∃b gk nk ck,so=some ⟨b,0,none⟩/\w.cell? ⟨b,k,none⟩=some (aG (some ⟨gk,0,none⟩) nk ck)/\∀w1,aj w w1->Gl w1->ak 153 #[aG (some ⟨gk,0,none⟩) nk ck] w1 λe w'=>e=aL (aF (ba t))/\aj w1 w')):
  ak 102 #[aH (some ⟨pb,0,none⟩)] w λe w'=>e=aL (aF (ba (vQ ST TS)))/\aj w w':=by
 obtain⟨i0,hi,hz0,hz1,hz2⟩:=info_parts Rc;have nj:pb<w.heap.size:=lt_of_cell c0;have HS0:Hid (ak 153 #[aG (some ⟨gs,0,none⟩) ns cs] w λe w'=>e=aL (aF (ba ST))/\aj w w'):=HS.out w (Below.refl _ _) hG
 go_enter func102,ntmps102
 go_wp2_with fail
 refine HS0.out.mono ?_;rintro e w1 ⟨rfl,hb1⟩;have EU:=hb1.alloc hb1.size (.cells #[aF (ba ST)] 9);have d1:=aS EU c1 nj;have cK:Hid (SI w (aG (some ⟨w1.heap.size,0,none⟩) 1 1) ((ST::TS.take 0).map ba) (w1.alloc (.cells #[aF (ba ST)] 9))):=⟨⟨rfl,aT ⟨w1.heap.size,1, #[aF (ba ST)],rfl,hb1.size,heap_alloc_new w1 _,aY _,by unfold maxLen;omega,rfl,rfl⟩⟩,EU⟩
 clear hb1 HS0
 go_wp2_with fail
 go_loopg [3,17] TS.length (λm lv iv wr=>∃k:Nat,k+m=TS.length/\iv=az aJ k/\Hid (SI w lv ((ST::TS.take k).map ba) wr))
 case atStart=>exact⟨0,aa,rfl,cK⟩
 case round=>
  obtain⟨k,hkn,rfl,HE⟩:=hrel;have aW:=HE.out.2;clear cK d1 EU;by_cases hlt:k<TS.length
  .obtain⟨t,ht⟩:∃t,TS[k]?=some t:=⟨_,bo hlt⟩;obtain⟨b,gk',nk,ck,rfl,v0,hc⟩:=HH.out k t ht;have r0:=aS aW v0 (lt_of_cell v0);have gH:(k:Int)<(TS.length:Int):=aa
   have HC:Hid (ak 153 #[aG (some ⟨gk',0,none⟩) nk ck] wr λe w'=>e=aL (aF (ba t))/\aj wr w'):=hc wr aW (hG.below aW hG.sz)
   have hT':(ST::TS.take (k+1)).map ba=(ST::TS.take k).map ba++[ba t]:=by
    rw[jF,ht];simp
   have HT:Hid ((ST::TS.take (k+1)).map ba=(ST::TS.take k).map ba++[ba t]):=hT';have hxl:((ST::TS.take k).map ba).length<=85000001:=by simp;omega
   obtain⟨ho,_⟩:=HE.out;clear hT' v0 ht hc HE HH HS c0 c1;generalize(ST::TS.take k).map ba=A1 at*;generalize ba t=X at*
   go_wp2_with fail
   refine HC.out.mono ?_;rintro e w5 ⟨rfl,bg⟩;have l9:aj w w5:=aW.trans (bg.mono aW.size);have eT:w5.ownsRow w.heap.size 9 1 u3 A1.length (A1.map Value.string):=bB ho λk hk=>bg.block k (bn ho k hk).2
   have hs5:=l9.size;clear ho HC bg aW
   go_wp2_with (at_builtin;refine wpList_append_lies _ rfl (.tmp 21) (.tmp 24) 164 rfl w.heap.size 9 i0 _ 1 16 underlying164 hi hz0 hz1 hz2 rfl ah u3 A1.length (A1.map Value.string) rfl (bB eT (λk hk=>Below.heap_alloc _ _ _ (bn eT k hk).2)) ⟨w5.heap.size,0,none⟩ 1 1 [aF X] rfl rfl (World.news_of_block (cs:= #[aF X]) (t:=9) (fr:=(0,0)) (heap_alloc_new w5 _)) (by simp[Value.oneCell']) ah (by unfold maxLen;omega) aa (by simp;omega) (w5.heap.size+1) af ?_;intro g' cap' w6 iw mW GP D3)
   have HN:Hid (SI w (aG (some ⟨g',0,none⟩) (A1.length+1) cap') ((ST::TS.take (k+1)).map ba) w6):=by
    rw[HT.out];refine⟨?_,(l9.alloc l9.size _).grown mW (by simp;omega) (λk hk=>(bn eT k hk).1)⟩
    rw[bY,jC];exact iw
   clear iw mW eT HT
   go_roundg (gk-1)
   case measure=>omega
   case rel=>exact⟨k+1,aa,ai,HN⟩
  .have hk:k=TS.length:=aa
   subst hk;have HF:=HE.out;rw[fO] at HF;have HJ:Hid (ak 103 #[u3,aF ⟨#[44,32]⟩] wr λe w'=>e=aL (aF ⟨(Lib.join (ST::TS) [44,32]).toArray⟩)/\aj wr w'):=adx HF (by simp;omega) hlen
   have I2:Hid (vQ ST TS=40::(Lib.join (ST::TS) [44,32]++[41])):=rfl;generalize Lib.join (ST::TS) [44,32]=TX at*;have hs1:¬9223372036854775807<1+TX.length:=aa
   have hs2:¬9223372036854775807<1+TX.length+1:=aa
   have HB:Hid (aj w wr):=aW;clear HE HH HS c0 c1 HF aW
   go_wp2_with fail
   refine HJ.out.mono ?_;rintro e w7 ⟨rfl,bw⟩;have xS:Hid (aj w w7):=HB.out.trans (bw.mono HB.out.size);clear HJ bw HB
   go_wp2_with fail
   go_ret
   exact⟨by rw[I2.out];simp[ba,ByteArray.mk_append_mk],xS.out⟩
end
end Go.Proofs.YtkjhhooecopolaaGreatDoor
