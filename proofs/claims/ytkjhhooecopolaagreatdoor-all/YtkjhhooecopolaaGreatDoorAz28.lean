import Derived.Test.YtkjhhooecopolaaGreatDoorAz26
set_option maxRecDepth 100000
set_option maxHeartbeats 4000000
namespace Go.Proofs.YtkjhhooecopolaaGreatDoor
open Go.Proofs.Tryz
open Value renaming int->I,complex->A,agg->u,bool->aC,string->aD,slice->D,pointer->aF,tuple->aG
open IntKind renaming i64->J
open FloatKind renaming f64->C
open Ending renaming returned->aJ
open Go renaming World->G,Value->Y
open Option renaming some->K,none->Z
open Bool renaming true->aP,false->aQ
section
open Go.RowKit
variable{wr w' w5 w6:G}{base:Nat}{fD:Y}
structure Tg where
 k:Nat
 q:Nat
abbrev Tg.rY:Tg:=⟨0,0⟩
abbrev Tg.jC(q:Nat):Tg:=⟨1,q⟩
abbrev Tg.holes(q:Nat):Tg:=⟨2,q⟩
abbrev Tg.ring:Tg:=⟨3,0⟩
abbrev Pg:=V Nat×V (V Nat)
structure iY where
 pb:Nat
 sv:Y
 hv:Y
 hvs:V Y
def iP(p:iY):Y:=aF<|K ⟨p.pb,0,Z⟩
structure DJ(bs:V Nat)(base:Nat)(T:Nat->Tg)(q:Nat)(ph:iY)(ps:Pg)(wr:G):Prop where
 blk:wr.heap[ph.pb]?=K (.cells #[ph.sv,ph.hv] 187 (0,0))
 ge:base<=ph.pb
 tp:T ph.pb=.jC q
 sh:wr.ownsRow base 175 1 ph.sv ps.1.length (bU<|ps.1.map<|bx bs)
 ts:∀k,ph.sv.ownBlock=K k->T k=.ring
 ho:wr.ownsRow base 185 1 ph.hv ph.hvs.length ph.hvs
 th:∀k,ph.hv.ownBlock=K k->T k=.holes q
 hl:ph.hvs.length=ps.2.length
 hr:∀(i:Nat) v r,ph.hvs[i]?=K v->ps.2[i]?=K r->wr.ownsRow base 175 1 v r.length (bU<|r.map<|bx bs)/\∀k,v.ownBlock=K k->T k=.ring
structure PI(bs:V Nat)(base:Nat)(fD:Y)(PS:V Pg)(PH:V iY)(T:Nat->Tg)(wr:G):Prop where
 row:wr.ownsRow base 165 1 fD PH.length (PH.map iP)
 tl:∀k,fD.ownBlock=K k->T k=.rY
 len:PH.length=PS.length
 pg:∀(q:Nat) ph ps,PH[q]?=K ph->PS[q]?=K ps->DJ bs base T q ph ps wr
theorem DJ.keep{bs:V Nat}{T T':Nat->Tg}{q:Nat}{ph:iY}{ps:Pg}(h:DJ bs base T q ph ps wr)(d:∀b,base<=b->b<wr.heap.size->T b=.jC q\/T b=.ring\/T b=.holes q->w'.heap[b]?=wr.heap[b]?)(c:∀b,b<wr.heap.size->T' b=T b):DJ bs base T' q ph ps w':=by have a:=apJ h.blk;refine⟨(d _ h.ge a<|j h.tp).trans h.blk,h.ge,by rw[c _ a];exact h.tp,bH h.sh λk e=>d k (bn h.sh k e).1 (bn h.sh k e).2<|F<|j<|h.ts k e,λk e=>by rw[c k (bn h.sh k e).2];exact h.ts k e,bH h.ho λk e=>d k (bn h.ho k e).1 (bn h.ho k e).2<|F<|F<|h.th k e,λk e=>by rw[c k (bn h.ho k e).2];exact h.th k e,h.hl,λi v r l m=>?_⟩;obtain⟨f,g⟩:=h.hr i v r l m;exact⟨bH f λk e=>d k (bn f k e).1 (bn f k e).2<|F<|j<|g k e,λk e=>by rw[c k (bn f k e).2];exact g k e⟩
theorem PI.keep{bs:V Nat}{PS:V Pg}{PH:V iY}{T:Nat->Tg}(h:PI bs base fD PS PH T wr)(a:∀b,base<=b->b<wr.heap.size->w'.heap[b]?=wr.heap[b]?):PI bs base fD PS PH T w':=
 ⟨bH h.row λk e=>a k (bn h.row k e).1 (bn h.row k e).2,h.tl,h.len,λq ph ps c d=>(h.pg q ph ps c d).keep (λb f g _=>a b f g)<|λ_ _=>rfl⟩
theorem zE{α β:Type}{a:V α}{b:V β}{i:Nat}{p:α×β}(h:(a.zip b)[i]?=K p):a[i]?=K p.1/\b[i]?=K p.2:=by rw[Kd] at h;exact h
theorem IF(P:V Nat->Bool)(a:VR):∀(b:V VR),gb P a b=a\/(gb P a b∈b/\P (gb P a b).2=aP):=by intro b;unfold gb;induction b generalizing a with|nil=>exact j rfl|cons p b d=>rw[ls];by_cases c:P p.2=aP;rw[y c];rcases d p with h|h;rw[h];exact F ⟨E,c⟩;exact F ⟨bW _ h.1,h.2⟩;rw[X c];rcases d a with h|h;exact j h;exact F ⟨bW _ h.1,h.2⟩
structure RV(bs:V Nat)(lo hi:Nat)(Z:V VR)(w:G):Prop where
 own:∀p∈Z,w.ownsRow lo 175 1 p.1 p.2.length (bU<|p.2.map<|bx bs)/\∀k,p.1.ownBlock=K k->k<hi
theorem RV.keep{bs:V Nat}{lo hi:Nat}{Z:V VR}{w:G}(h:RV bs lo hi Z w)(c:∀b,lo<=b->b<hi->w'.heap[b]?=w.heap[b]?):RV bs lo hi Z w':=
 ⟨λp a=>⟨bH (h.own p a).1 λk e=>c k (bn (h.own p a).1 k e).1<|(h.own p a).2 k e,(h.own p a).2⟩⟩
theorem PI.push{bs:V Nat}{lvQ:Y}{PS:V Pg}{PH:V iY}{T:Nat->Tg}(h:PI bs base fD PS PH T wr)(P:V Nat->Bool)(a:V VR)(N lo:Nat)(c:Y)
  (hlo:wr.heap.size<=lo)(hbase:base<=lo)(hN:lo<=N)(C3:N<w5.heap.size)(R:RV bs lo N a w6)
  (m:∀b,base<=b->b<wr.heap.size->T b≠.rY->w6.heap[b]?=wr.heap[b]?)
  (n:w6.ownsRow base 165 1 lvQ (PH.length+1) (PH.map iP++[aF (K ⟨N,0,Z⟩)]))(H:∀k,lvQ.ownBlock=K k->fD.ownBlock=K k\/(N<k/\k<w5.heap.size))
  (u:w6.heap[N]?=K (.cells #[(gb P (D Z 0 0,[]) a).1,c] 187 (0,0)))(z:w6.ownsRow base 185 1 c ((gd P a).map (·.1)).length ((gd P a).map (·.1)))(g:∀k,c.ownBlock=K k->w5.heap.size<=k):
  ∃O,PI bs base lvQ (PS++[((gb P (D Z 0 0,[]) a).2,(gd P a).map (·.2))]) (PH++[⟨N,(gb P (D Z 0 0,[]) a).1,c,(gd P a).map (·.1)⟩]) O w6:=by refine⟨λb=>if b<wr.heap.size then T b else if b=N then .jC PH.length else if c.ownBlock=K b then .holes PH.length else if lvQ.ownBlock=K b then .rY else .ring,?_⟩;have f:∀k,lo<=k->k<N->(λb=>if b<wr.heap.size then T b else if b=N then Tg.jC PH.length else if c.ownBlock=K b then .holes PH.length else if lvQ.ownBlock=K b then .rY else .ring) k=Tg.ring:=λk F M=>(by have s:¬k<wr.heap.size:=U;have t:¬k=N:=U;have e3:¬c.ownBlock=K k:=λe=>(by have:=g k e;omega);have e4:¬lvQ.ownBlock=K k:=λe=>(by rcases H k e with e|e;have:=(bn h.row k e).2;omega;omega);simp only[X s,X t,X e3,X e4]);refine⟨?_,λk d=>?_,by rw[bG,bG,h.len];rfl,λq ph ps x B=>?_⟩;rw[abb,bG];exact n;rcases H k d with e|⟨s,t⟩;have S:=(bn h.row k e).2;simp only[y S];exact h.tl k e;have l:¬k<wr.heap.size:=U;have j:¬k=N:=U;have W:¬c.ownBlock=K k:=λe=>(by have:=g k e;omega);simp only[X l,X j,X W,y d];by_cases J:q<PH.length;rw[dQ J] at x;rw[dQ (by rw[<-h.len];exact J)] at B;refine(h.pg q ph ps x B).keep (λb w S L=>m b w S (λe=>by rw[e] at L;simp at L))<|λb w=>(by simp only[y w]);have C:q=PH.length:=(by have:=(bX.1 x).1;simp at this;omega);subst C;have s:ph=⟨N,(gb P (D Z 0 0,[]) a).1,c,(gd P a).map (·.1)⟩:=(by simpa using x.symm);have t:ps=((gb P (D Z 0 0,[]) a).2,(gd P a).map (·.2)):=(by rw[h.len] at B;simpa using B.symm);subst s t;refine⟨u,el hbase hN,?_,?_,λk d=>?_,z,λk d=>?_,E,λi v r o Q=>?_⟩;have l:¬N<wr.heap.size:=U;simp only[X l,jk];rcases IF P (D Z 0 0,[]) a with e|⟨e,_⟩;rw[e];exact ak _ _ _ _;exact mQ (R.own _ e).1 hbase;rcases IF P (D Z 0 0,[]) a with e|⟨e,_⟩;simp only at d;rw[e] at d;simp[Value.ownBlock] at d;exact f k (bn (R.own _ e).1 k d).1 ((R.own _ e).2 k d);have S:=g k d;have l:¬k<wr.heap.size:=U;have j:¬k=N:=U;simp only at d;simp only[X l,X j,y d];simp only at o Q;rw[aa9] at o Q;obtain⟨p,I,rfl⟩:=oC.1 o;rw[I] at Q;have e:p.2=r:=(by simpa using Q);subst e;have A:p∈a:=(et.1<|bB I).1;obtain⟨F,M⟩:=R.own p A;exact⟨mQ F hbase,λk d=>f k (bn F k d).1<|M k d⟩
theorem PI.more{bs:V Nat}{PS:V Pg}{PH:V iY}{T:Nat->Tg}(h:PI bs base fD PS PH T wr)(Z:V VR)(lo A q:Nat)(ph:iY)(ps:Pg)(x:PH[q]?=K ph)(F:PS[q]?=K ps)(a:Y)
  (hlo:wr.heap.size<=lo)(hbase:base<=lo)(hhi:A<=w5.heap.size)(hlh:lo<=A)(hZ:RV bs lo A Z w6)
  (g:∀b,base<=b->b<wr.heap.size->T b≠.jC q->T b≠.holes q->w6.heap[b]?=wr.heap[b]?)
  (C:w6.heap[ph.pb]?=K (.cells #[ph.sv,a] 187 (0,0)))(D:w6.ownsRow base 185 1 a (ph.hvs++Z.map (·.1)).length (ph.hvs++Z.map (·.1)))(o:∀k,a.ownBlock=K k->ph.hv.ownBlock=K k\/w5.heap.size<=k):
  ∃W,PI bs base fD (PS.set q (ps.1,ps.2++Z.map (·.2))) (PH.set q ⟨ph.pb,ph.sv,a,ph.hvs++Z.map (·.1)⟩) W w6:=by have B:q<PH.length:=(bX.1 x).1;have I:q<PS.length:=(by rw[<-h.len];exact B);have d:=h.pg q ph ps x F;have H:=apJ d.blk;refine⟨λb=>if b<wr.heap.size then T b else if a.ownBlock=K b then .holes q else .ring,?_⟩;have c:∀b,b<wr.heap.size->(λb=>if b<wr.heap.size then T b else if a.ownBlock=K b then Tg.holes q else .ring) b=T b:=λb j=>(by simp only[y j]);have P:∀k,lo<=k->k<A->(λb=>if b<wr.heap.size then T b else if a.ownBlock=K b then Tg.holes q else .ring) k=Tg.ring:=λk s z=>(by have e1:¬k<wr.heap.size:=U;have e3:¬a.ownBlock=K k:=λe=>(by rcases o k e with e|e;have:=(bn d.ho k e).2;omega;omega);simp only[X e1,X e3]);have w:(PH.set q ⟨ph.pb,ph.sv,a,ph.hvs++Z.map (·.1)⟩).map iP=PH.map iP:=(by rw[VT];have:iP ⟨ph.pb,ph.sv,a,ph.hvs++Z.map (·.1)⟩=(PH.map iP)[q]'(by simpa using B):=(by rw[sO];have:=(bX.1 x).2;rw[this];rfl);rw[this];exact ajw _);refine⟨?_,λk l=>?_,by simp[h.len],λO L M Q R=>?_⟩;rw[w,jE];exact bH h.row λk e=>g k (bn h.row k e).1 (bn h.row k e).2 (by rw[h.tl k e];simp) (by rw[h.tl k e];simp);exact(c k (bn h.row k l).2).trans (h.tl k l);by_cases m:q=O;subst m;rw[ox B] at Q;rw[ox I] at R;injection Q with Q;injection R with R;subst Q R;have f:∀b,base<=b->b<wr.heap.size->T b=.ring->w6.heap[b]?=wr.heap[b]?:=λb j J n=>g b j J (by rw[n];simp) (by rw[n];simp);refine⟨C,d.ge,(c _ H).trans d.tp,bH d.sh λk e=>f k (bn d.sh k e).1 (bn d.sh k e).2<|d.ts k e,λk e=>(c k (bn d.sh k e).2).trans<|d.ts k e,D,λk l=>?_,by simp[d.hl],λi v r S t=>?_⟩;rcases o k l with e|e;exact(c k (bn d.ho k e).2).trans (d.th k e);have a1:¬k<wr.heap.size:=U;simp only at l;simp only[X a1,y l];simp only at S t;by_cases u:i<ph.hvs.length;rw[dQ u] at S;rw[dQ (by rw[<-d.hl];exact u)] at t;obtain⟨s,z⟩:=d.hr i v r S t;exact⟨bH s λk e=>f k (bn s k e).1 (bn s k e).2<|z k e,λk e=>(c k (bn s k e).2).trans<|z k e⟩;rw[jc U] at S;rw[jc (by rw[<-d.hl];omega),<-d.hl] at t;rw[aa9] at S t;obtain⟨p,N,rfl⟩:=oC.1 S;rw[N] at t;have e:p.2=r:=(by simpa using t);subst e;obtain⟨s,z⟩:=hZ.own p<|bB N;exact⟨mQ s hbase,λk l=>P k (bn s k l).1<|z k l⟩;rw[ss m] at Q R;refine(h.pg O L M Q R).keep (λb j J n=>g b j J (λe=>?_)<|λe=>?_) c;rw[e] at n;simp at n;exact m n;rw[e] at n;simp at n;exact m n
structure St where
 bC:Nat->Bool
 ow:Nat->Nat
 ps:V Pg
def o8(P:V Nat->Bool)(Rs:V (V Nat)):V Nat:=Rs.foldl (λa r=>if P r then r else a) []
def dK(Xs:V PB)(mk:Nat->Bool)(i:Nat):V Nat:=fp (dF Xs) mk Xs.length [] i
def lM(Xs:V PB)(a:St)(i:Nat):St:=
 if a.bC i then a
 else if(cF Xs<|dK Xs a.bC i).any (dl Xs) then
  ⟨λj=>a.bC j||(dK Xs a.bC i).contains j,λj=>if(dK Xs a.bC i).contains j then a.ps.length else a.ow j,a.ps++[(o8 (dl Xs)<|cF Xs<|dK Xs a.bC i,(cF Xs<|dK Xs a.bC i).filter λr=> !dl Xs r)]⟩
 else
  ⟨λj=>a.bC j||(dK Xs a.bC i).contains j,λj=>if(dK Xs a.bC i).contains j then a.ow (gI Xs (xi Xs i).f) else a.ow j,a.ps.set (a.ow<|gI Xs (xi Xs i).f) ((a.ps.getD (a.ow<|gI Xs (xi Xs i).f) ([],[])).1,(a.ps.getD (a.ow<|gI Xs (xi Xs i).f) ([],[])).2++cF Xs (dK Xs a.bC i))⟩
def bT(Xs:V PB)(k:Nat):St:=(List.range k).foldl (lM Xs) ⟨λ_=>aQ,λ_=>0,[]⟩
theorem ue(Xs:V PB)(k:Nat):bT Xs (k+1)=lM Xs (bT Xs k) k:=by unfold bT;rw[lZ,nw];rfl
structure Ss(bs:V Nat)(g cap:Nat)(Inv:Nat->Y->G->Prop)(B:Nat->Y->G->Prop)(C1:Nat->Y->Nat->Nat->V Nat->G->Prop)(C2:Nat->Y->Nat->Nat->V Nat->Nat->Nat->Nat->G->Prop)
  (D1 D2:Nat->Y->Nat->Nat->V Nat->Nat->Nat->Nat->Nat->G->Prop)(E:Nat->Y->Nat->Nat->V Nat->Nat->Nat->Nat->Nat->G->Prop)(F:Nat->Y->Nat->Nat->V Nat->Nat->Nat->G->Prop)(Q:Y->G->Prop)(base:Nat):Prop where
 row:∀k lv wr,Inv k lv wr->k<bs.length->wr.cell? ⟨g,k,Z⟩=K (aF<|K ⟨bx bs k,0,Z⟩)/\∃m,wr.cell? ⟨bx bs k,6,Z⟩=K (aC m)/\(m=aP->Inv (k+1) lv wr)/\(m=aQ->B k lv wr)
 walk:∀k lv wr,B k lv wr->M 110 #[D (K ⟨g,0,Z⟩) bs.length cap,aF<|K ⟨bx bs k,0,Z⟩] wr λe w1=>∃gW cW L,e=aJ (D (K ⟨gW,0,Z⟩) L.length cW)/\L.length<=85000000/\C1 k lv gW cW L w1
 rings:∀k lv gW cW L w1,C1 k lv gW cW L w1->M 111 #[D (K ⟨gW,0,Z⟩) L.length cW] w1 λe w2=>∃gR cR n,e=aJ (D (K ⟨gR,0,Z⟩) n cR)/\C2 k lv gW cW L gR cR n w2
 con:∀k lv gW cW L gR cR n w2,C2 k lv gW cW L gR cR n w2->M 112 #[D (K ⟨gR,0,Z⟩) n cR,.func (.func 113) #[] #[]] (w2.alloc<|.cells #[D Z 0 0,D Z 0 0] 187) λe w4=>∃b,e=aJ (aC b)/\(b=aP->D1 k lv gW cW L gR cR n w2.heap.size w4)/\(b=aQ->D2 k lv gW cW L gR cR n w2.heap.size w4)
 push:∀k lv gW cW L gR cR n N w4,D1 k lv gW cW L gR cR n N w4->∃np pp,w4.ownsRow base 165 1 lv np pp/\np<=85000000/\base<=w4.heap.size/\∀g' cap' w8,w8.ownsRow base 165 1 (D (K ⟨g',0,Z⟩) (np+1) cap') (np+1) (pp++[aF (K ⟨N,0,Z⟩)])->(w4.alloc<|.cells #[aF (K ⟨N,0,Z⟩)] 165).grownBy w8 lv.ownBlock->(lv.ownBlock=K g'\/g'=w4.heap.size+1)->E k (D (K ⟨g',0,Z⟩) (np+1) cap') gW cW L gR cR n N w8
 below:∀k lv gW cW L gR cR n N w4,D2 k lv gW cW L gR cR n N w4->∃N1 N2 N3,w4.cell? ⟨bx bs k,2,Z⟩=K (A C N1 N2)/\w4.cell? ⟨bx bs k,3,Z⟩=K (I J N3)/\M 114 #[D (K ⟨g,0,Z⟩) bs.length cap,u #[A C N1 N2,I J N3]] w4 λe w5=>∃bL ob,e=aJ (aF<|K ⟨bL,0,Z⟩)/\w5.cell? ⟨bL,7,Z⟩=K (aF<|K ⟨ob,0,Z⟩)/\E k lv gW cW L gR cR n ob w5
 take:∀k lv gW cW L gR cR n ob w5,E k lv gW cW L gR cR n ob w5->M 115 #[aF (K ⟨ob,0,Z⟩),D (K ⟨gR,0,Z⟩) n cR] w5 λe w6=>e=aJ (aG #[])/\F k lv gW cW L ob 0 w6
 own:∀k lv gW cW L ob t wr,F k lv gW cW L ob t wr->t<L.length->∃b o,wr.cell? ⟨gW,t,Z⟩=K (aF<|K ⟨b,0,Z⟩)/\wr.cell? ⟨b,7,Z⟩=K o/\wr.frozen? ⟨b,7,Z⟩=aQ/\F k lv gW cW L ob (t+1) (wr.setCell ⟨b,7,Z⟩<|aF<|K ⟨ob,0,Z⟩)
 done:∀k lv gW cW L ob wr,F k lv gW cW L ob L.length wr->k<bs.length->Inv (k+1) lv wr
 sort:∀lv wr,Inv bs.length lv wr->M 116 #[lv] wr λe w'=>e=aJ (aG #[])/\Q lv w'
theorem afp:(Tryz.prog.info? 165).map (λi=>(i.zero,i.size,i.bytes))=K (K<|aF Z,1,8):=z
theorem afq(bs:V Nat)(g cap:Nat)(j:Nat->Y->G->Prop)(B:Nat->Y->G->Prop)(C1:Nat->Y->Nat->Nat->V Nat->G->Prop)(C2:Nat->Y->Nat->Nat->V Nat->Nat->Nat->Nat->G->Prop)
  (D1 D2:Nat->Y->Nat->Nat->V Nat->Nat->Nat->Nat->Nat->G->Prop)(E:Nat->Y->Nat->Nat->V Nat->Nat->Nat->Nat->Nat->G->Prop)(F:Nat->Y->Nat->Nat->V Nat->Nat->Nat->G->Prop)(Q:Y->G->Prop)(base:Nat)
  (d:H (Ss bs g cap j B C1 C2 D1 D2 E F Q base))(w:G)(hl:bs.length<=85000000)(h0:j 0 (D Z 0 0) w):
  M 69 #[D (K ⟨g,0,Z⟩) bs.length cap] w λe w'=>∃lv,e=aJ lv/\Q lv w':=by have gh:=hid h0;clear h0;go_enter func69,ntmps69;go_wp2_with fail;go_loopg [3,13] bs.length (λm lv iv wr=>∃k:Nat,k+m=bs.length/\iv=I J k/\H (j k lv wr));(case atStart=>exact⟨0,U,rfl,gh.o⟩);case round=>obtain⟨k,hkn,rfl,HE⟩:=hrel;clear gh;obtain⟨W,hG0⟩:∃W,W=gk:=⟨gk,rfl⟩;subst hG0;by_cases y:k<bs.length;(.obtain⟨c1,m,c6,z,A⟩:=d.o.row k u3 wr HE.o y;have:(k:Int)<(bs.length:Int):=U;cases m;(.have HB:H (B k u3 wr):=A rfl;have Su:=d.o.walk k u3 wr HB.o;have HWc:=hid Su;clear z A Su HE HB;go_wp2_with fail;refine HWc.o.mono ?_;rintro e w1 ⟨l,f,L,rfl,qi,Sv⟩;have HRc:=hid<|d.o.rings k u3 l f L w1 Sv;clear Sv HWc c1 c6;go_wp2_with fail;refine HRc.o.mono ?_;rintro e O ⟨gR,cR,n,rfl,Sw⟩;have S:=hid<|d.o.con k u3 l f L gR cR n O Sw;clear Sw HRc;go_wp2_with fail;refine S.o.mono ?_;rintro e T ⟨b,rfl,o,u⟩;cases b;(.have DL:=u rfl;obtain⟨N1,N2,N3,f2,f3,Sx⟩:=d.o.below k u3 l f L gR cR n O.heap.size T DL;have X:=hid Sx;clear o u DL Sx S;go_wp2_with fail;refine X.o.mono ?_;rintro e w5 ⟨bL,ob,rfl,o7,yx⟩;have p:=hid yx;clear yx X f2 f3;go_wp2_with fail;have s:=hid<|d.o.take k u3 l f L gR cR n ob w5 p.o;clear p;go_wp2_with fail;refine s.o.mono ?_;rintro e w6 ⟨rfl,hF⟩;have q:=hid hF;clear hF s;go_wp2_with fail;go_loopg [49] L.length (λm iv wr=>∃t:Nat,t+m=L.length/\iv=I J t/\H (F k u3 l f L ob t wr));(case atStart=>exact⟨0,U,rfl,q.o⟩);case round=>obtain⟨t,htn,rfl,a⟩:=hrel;clear q;by_cases C:t<L.length;(.obtain⟨bb,oo,d1,d2,d3,v⟩:=d.o.own k u3 l f L ob t wr a.o C;have hti:(t:Int)<(L.length:Int):=U;have i:=hid v;clear v a;go_wp2_with fail;go_roundg (gk-1);(case measure=>omega);case rel=>exact⟨t+1,U,af,i.o⟩);.have P:t=L.length:=U;subst P;have r:=hid<|d.o.done k u3 l f L ob wr a.o y;clear a;go_wp2_with fail;go_roundg (W-1);(case measure=>omega);case rel=>exact⟨k+1,U,af,r.o⟩);.have Sy:=o rfl;obtain⟨np,pp,ho,Sz,hbz,x⟩:=d.o.push k u3 l f L gR cR n O.heap.size T Sy;have Gd:=hid x;have hnb:(T.alloc<|.cells #[aF (K ⟨O.heap.size,0,Z⟩)] 165).heap[T.heap.size]?=K (.cells #[aF (K ⟨O.heap.size,0,Z⟩)] 165 (0,0)):=aa _ _;have rW:(T.alloc<|.cells #[aF (K ⟨O.heap.size,0,Z⟩)] 165).ownsRow base 165 1 u3 np pp:=bH ho λk hk=>ad _ _ _ (bn ho k hk).2;clear o u Sy x ho S;go_wp2_with (at_builtin;refine nE rfl afp underlying131 rW hnb (T.heap.size+1) ?_;intro g' c w8 fX mO R jW);have p:=hid<|Gd.o g' c w8 fX mO R;generalize O.heap.size=N at*;clear fX mO R hnb rW Gd;have s:=hid<|d.o.take k (D (K ⟨g',0,Z⟩) (np+1) c) l f L gR cR n N w8 p.o;clear p;go_wp2_with fail;refine s.o.mono ?_;rintro e w6 ⟨rfl,hF⟩;have q:=hid hF;clear hF s;go_wp2_with fail;go_loopg [49] L.length (λm iv wr=>∃t:Nat,t+m=L.length/\iv=I J t/\H (F k (D (K ⟨g',0,Z⟩) (np+1) c) l f L N t wr));(case atStart=>exact⟨0,U,rfl,q.o⟩);case round=>obtain⟨t,htn,rfl,a⟩:=hrel;clear q;by_cases C:t<L.length;(.obtain⟨bb,oo,d1,d2,d3,v⟩:=d.o.own k (D (K ⟨g',0,Z⟩) (np+1) c) l f L N t wr a.o C;have hti:(t:Int)<(L.length:Int):=U;have i:=hid v;clear v a;go_wp2_with fail;go_roundg (gk-1);(case measure=>omega);case rel=>exact⟨t+1,U,af,i.o⟩);.have P:t=L.length:=U;subst P;have r:=hid<|d.o.done k (D (K ⟨g',0,Z⟩) (np+1) c) l f L N wr a.o y;clear a;go_wp2_with fail;go_roundg (W-1);(case measure=>omega);case rel=>exact⟨k+1,U,af,r.o⟩);.have r:=hid<|z rfl;clear z A HE d;go_wp2_with fail;go_roundg (W-1);(case measure=>omega);case rel=>exact⟨k+1,U,af,r.o⟩);have hk:k=bs.length:=U;subst hk;have HSc:=hid<|d.o.sort u3 wr HE.o;clear HE d;go_wp2_with fail;refine HSc.o.mono ?_;rintro e w9 ⟨rfl,hQ⟩;have HQ:H (Q u3 w9):=hQ;clear hQ HSc;go_wp2_with fail;go_ret;exact⟨u3,rfl,HQ.o⟩
theorem ap7(s:ByteArray)(w:G)(hm:s.size<=maxLen)(g:Gl w):
  M 41 #[aD s] w (ai (aG #[aD ⟨(Pl.afk s.data.toList).toArray⟩,I J (Pl.err s.data.toList).1,I J (Pl.err s.data.toList).2]) w):=by
 by_cases m:(Pl.err s.data.toList).1=0
 .have j:=(tf m).2.1;obtain⟨hro,hrl,ms,hel⟩:=Gz m;have i:=Pl.No m;have p:Pl.afk s.data.toList=Pl.df Pl.fC (N.g8<|N.o<|Pl.rings s.data.toList):=y m;have C:H (∀w1,Gl w1->M 33 #[aD s] w1 λe w'=>ag w1 w'/\∃q rv,e=aJ (aG #[aF (K ⟨q,0,Z⟩),I J 0,I J 0])/\
    w'.cell? ⟨q,6,Z⟩=K rv/\q<w'.heap.size/\yv w' rv (Pl.rings s.data.toList)):=λw1 F=>by
   refine(Lo s w1 hm F).mono ?_;rintro e w' ⟨V,u,rfl,pS⟩;obtain⟨q,rfl,_,hR⟩:=pS m;obtain⟨c,t,r,tv,rv,hc,hl',S,hown,k⟩:=hR;exact⟨V,q,rv,by rw[m,j];rfl,apL S 6,apJ S,aap k⟩
  have z:=hid<|λv w1 hv=>aau _ v w1 hv hro hrl;have A:=hid<|λv w1 hv=>acC _ v w1 hv i ms;rw[p,m,j];generalize Pl.rings s.data.toList=RG at*;generalize N.o RG=ES at*;generalize N.g8 ES=NS0 at*;go_enter func41,ntmps41;go_wp2_with fail;refine(C.o _ g).mono ?_;rintro e w1 ⟨b,q,rv,rfl,c6,hlt,hrr⟩;have B:=g.below b g.sz;go_wp2_with fail;refine(z.o _ _ hrr).mono ?_;rintro e w3 ⟨ev,rfl,hrb,Q⟩;have d:=b.trans<|Q.mono b.size;have P:=B.below Q B.sz;go_wp2_with fail;refine(A.o _ _ hrb).mono ?_;rintro e w4 ⟨nv,l,rfl,IN,R,qp,hnn,Y,_⟩;have f:=d.trans<|R.mono d.size;have L:=P.below R P.sz;subst qp;have x:=hid<|aon l nv w4 IN L hnn Y;generalize O:Pl.df Pl.fC (l.map N.T)=TX at x;have D:=hid O;go_wp2_with fail;refine x.o.mono ?_;rintro e w5 ⟨rfl,W⟩;have n:=f.trans<|W.mono f.size;go_wp2_with fail;refine ab (v:=aG #[aD ⟨TX.toArray⟩,I J 0,I J 0]) (by simp[results,results41,go_sem]) rfl ⟨by rw[D.o];rfl,n⟩
 have p:Pl.afk s.data.toList=[]:=X m;rw[p];have:(((Pl.err s.data.toList).1:Int) != 0)=aP:=(by rw[qL];omega);have C:H (∀w1,Gl w1->M 33 #[aD s] w1 λe w'=>ag w1 w'/\∃u,e=aJ (aG #[aF u,I J (Pl.err s.data.toList).1,I J (Pl.err s.data.toList).2])):=λw1 F=>(by refine(Lo s w1 hm F).mono ?_;rintro e w' ⟨V,u,rfl,_⟩;exact⟨V,u,rfl⟩);generalize(Pl.err s.data.toList).1=a at*;generalize(Pl.err s.data.toList).2=Pp at*;go_enter func41,ntmps41;go_wp2_with fail;refine(C.o _ g).mono ?_;rintro e w1 ⟨b,u,rfl⟩;go_wp2_with fail;refine ab (v:=aG #[aD ⟨#[]⟩,I J a,I J Pp]) (by simp[results,results41,go_sem]) rfl ⟨rfl,b⟩
end
end Go.Proofs.YtkjhhooecopolaaGreatDoor
