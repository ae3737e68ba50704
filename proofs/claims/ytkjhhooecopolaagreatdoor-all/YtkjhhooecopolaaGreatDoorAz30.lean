import Derived.Test.YtkjhhooecopolaaGreatDoorAz29
set_option maxRecDepth 100000
set_option maxHeartbeats 4000000
namespace Go.Proofs.YtkjhhooecopolaaGreatDoor
open Go.Proofs.Tryz
open Value renaming int->I,complex->A,agg->u,bool->aC,slice->D,pointer->aF,tuple->aG
open IntKind renaming i64->J
open FloatKind renaming f64->C
open Ending renaming returned->aJ
open Go renaming World->G,Value->Y
open Option renaming some->K,none->Z
open Bool renaming true->aP,false->aQ
section
open Go.RowKit
open N
theorem lj{w:G}{base:Nat}{e:TypeId}{v:Y}{n:Nat}{xs:V Y}(h:w.ownsRow base e 1 v n xs)(x:0<n):
  ∃a d,v=D (K ⟨a,0,Z⟩) n d/\base<=a/\a<w.heap.size/\xs.length=n/\∀(i:Nat) u,xs[i]?=K u->w.cell? ⟨a,i,Z⟩=K u:=by obtain⟨r,k⟩:=h;rcases k with⟨_,q⟩|⟨g,cap,f,p,l,c,s,t,B,m⟩;omega;refine⟨g,cap,p,l,apJ c,U,λi u b=>?_⟩;rw[<-m,jb] at b;split at b;unfold World.cell?;grind;cases b
theorem wE{w:G}{base:Nat}{e:TypeId}{v:Y}{n:Nat}{xs:V Y}(h:w.ownsRow base e 1 v n xs):∃a m c,v=D a m c:=by rcases h.2 with⟨h,_⟩|⟨_,_,_,h,_⟩;grind;grind
theorem II(Xs:V PB)(A:V Nat):(eH Xs A).length=(d8 Xs A).length:=by unfold eH;grind
theorem afs(Xs:V PB)(A:V Nat):∀a∈eH Xs A,a∈A:=λa b=>by
 unfold eH at b;rcases dm.1 b with h|h
 .exact Iy Xs A a (KC h)
 .exact Iy Xs A a (kP h)
section
variable{rg:V (V O)}{l:V Nd}{r:Int}{Xs:V PB}
theorem SX.IJ(h:SX rg l r Xs){L:V Nat}{n0:Nd}(g:jh Xs L)(m:∀a∈L,a<Xs.length)(d:∀s,L[0]?=K s->(xi Xs s).f=n0):∀k,k<=L.length->∀ring∈(cV Xs<|L.take k).2,ring≠[]/\(∀a∈ring,a∈L)/\ring.length<=L.length
 |0,_,ring,b=>by simp[cV] at b
 |k+1,P,ring,b=>by obtain⟨s,p⟩:∃s,L[k]?=K s:=⟨_,be U⟩;have t:L.take (k+1)=L.take k++[s]:=(by rw[fg,p];rfl);rw[t,rV] at b;unfold iO at b;split at b;rename_i q;rcases dm.1 b with b|b;exact h.IJ g m d k U ring b;have e:=cI.1 b;have n:=h.parts g m d k s p q;have v:=zB Xs L k;have B:∀a∈(cV Xs<|L.take k).1++[s],a∈L:=λa c=>(by rcases dm.1 c with c|c;exact DH Xs L k a c;grind);refine⟨λx=>?_,λa c=>?_,?_⟩;have:=bd List.length x;rw[e,II] at this;grind;rw[e] at c;exact B a<|KC<|afs Xs _ a c;rw[e,II];have:=Iz Xs<|((cV Xs<|L.take k).1++[s]).drop (iX Xs ((cV Xs<|L.take k).1++[s]) s).toNat;grind;exact h.IJ g m d k U ring b
theorem SX.DM(h:SX rg l r Xs){L:V Nat}{k:Nat}(c:Wk Xs k L):∀ring∈cF Xs L,ring≠[]/\(∀a∈ring,a∈L)/\ring.length<=L.length:=by have d:∀s,L[0]?=K s->(xi Xs s).f=(xi Xs k).f:=λs b=>(by rw[c.head] at b;grind);have:=h.IJ c.conn c.lt d L.length<|aX _;rw[dV] at this;exact this
end
structure HI(bs:V Nat)(Xs:V PB)(g:Nat)(w0:G)(k:Nat)(lv:Y)(PH:V iY)(T:Nat->Tg)(ow:Nat->Option Nat)(wr:G):Prop where
 sw:SW g bs Xs (bT Xs k).bC ow wr
 pi:PI bs w0.heap.size lv (bT Xs k).ps PH T wr
 own:∀j,j<Xs.length->(bT Xs k).bC j=aP->∃ph,PH[(bT Xs k).ow j]?=K ph/\ow j=K ph.pb
 mo:Mo bs w0 wr
structure ks(bs:V Nat)(Xs:V PB)(g:Nat)(w0:G)(k:Nat)(lv:Y)(gW cW:Nat)(L:V Nat)(gR cR n:Nat)(PH:V iY)(T:Nat->Tg)(ow:Nat->Option Nat)(wr w1 w2:G)(lo:Y)(O:V Nat)(rv:V Y):Prop where
 hi:HI bs Xs g w0 k lv PH T ow wr
 kl:k<Xs.length
 un:(bT Xs k).bC k=aQ
 eL:L=dK Xs (bT Xs k).bC k
 ws:WS wr g bs Xs (bT Xs k).bC ow (D (K ⟨gW,0,Z⟩) L.length cW) L w1
 ri:RI bs w1 lo (D (K ⟨gR,0,Z⟩) n cR) O (cF Xs L) rv w2
 en:n=rv.length
section
variable{bs:V Nat}{Xs:V PB}{g:Nat}{w0:G}{k:Nat}{lv:Y}{gW cW:Nat}{L:V Nat}{gR cR n:Nat}{PH:V iY}{T:Nat->Tg}{ow:Nat->Option Nat}{wr w1 w2:G}{lo:Y}{O:V Nat}{rv:V Y}
theorem ks.sz(h:ks bs Xs g w0 k lv gW cW L gR cR n PH T ow wr w1 w2 lo O rv):w0.heap.size<=wr.heap.size/\wr.heap.size<=w1.heap.size/\w1.heap.size<=w2.heap.size:=⟨h.hi.mo.size,h.ws.mo.size,h.ri.below.size⟩
theorem ks.same(h:ks bs Xs g w0 k lv gW cW L gR cR n PH T ow wr w1 w2 lo O rv)(a:∀b∈bs,b<w0.heap.size){b:Nat}(e:w0.heap.size<=b)(d:b<wr.heap.size):w2.heap[b]?=wr.heap[b]?:=by have:=h.sz;exact(h.ri.below.block b U).trans<|h.ws.mo.block b d (λc=>by grind)
theorem ks.DN(h:ks bs Xs g w0 k lv gW cW L gR cR n PH T ow wr w1 w2 lo O rv):SW g bs Xs (λj=>(bT Xs k).bC j||L.contains j) ow w2:=h.ws.sw.below h.ri.below
theorem ks.IK(h:ks bs Xs g w0 k lv gW cW L gR cR n PH T ow wr w1 w2 lo O rv):RV bs w1.heap.size w2.heap.size (rv.zip<|cF Xs L) w2:=by refine⟨λp f=>?_⟩;obtain⟨i,d,e⟩:=ig.1 f;obtain⟨b,c⟩:=zE (by grind:(rv.zip<|cF Xs L)[i]?=K p);have a:=(h.ri.ring i p.1 p.2 b c).1;exact⟨a,λk e=>(bn a k e).2⟩
theorem ks.shell(h:ks bs Xs g w0 k lv gW cW L gR cR n PH T ow wr w1 w2 lo O rv)(B:BD Xs)(m:∀ring∈cF Xs L,ring≠[]/\(∀a∈ring,a∈L)/\ring.length<=L.length)(l:∀a∈L,a<Xs.length)(P:L.length<=85000000)(p:VR)(t:p∈rv.zip (cF Xs L))(w':G)(R:w'.heap[g]?=w2.heap[g]?)(q:∀b∈bs,w'.heap[b]?=w2.heap[b]?)(S:∀b,w1.heap.size<=b->b<w2.heap.size->w'.heap[b]?=w2.heap[b]?):
  M 113 #[p.1] w' (ai (aC<|dl Xs p.2) w'):=by
 have c:=h.DN;have f:SW g bs Xs (λj=>(bT Xs k).bC j||L.contains j) ow w':=
  ⟨c.len,c.nd,c.ng,λi d=>(an (w:=w2) R).trans<|c.row i d,λi d=>(q _<|mZ d).trans<|c.side i d⟩
 have o:=(h.IK).keep (w':=w') S;have r:p.2∈cF Xs L:=(by obtain⟨i,d,e⟩:=ig.1 t;grind);obtain⟨v,x,u⟩:=m p.2 r;exact aeV bs Xs B g _ ow w' f p.2 v U (λa Q=>by rw[c.len];grind) _ p.1 (o.own p t).1
end
def lN:Obj:=.cells #[D Z 0 0,D Z 0 0] 187
section
variable(bs:V Nat)(Xs:V PB)(g cap:Nat)(w0:G)
def DO(k:Nat)(a:Y)(wr:G):Prop:=k<=Xs.length/\∃PH T ow,HI bs Xs g w0 k a PH T ow wr
def BQ(k:Nat)(a:Y)(wr:G):Prop:=k<Xs.length/\(bT Xs k).bC k=aQ/\∃PH T ow,HI bs Xs g w0 k a PH T ow wr
def IL(k:Nat)(c:Y)(b a:Nat)(L:V Nat)(w1:G):Prop:=k<Xs.length/\(bT Xs k).bC k=aQ/\L=dK Xs (bT Xs k).bC k/\∃PH T ow wr,HI bs Xs g w0 k c PH T ow wr/\WS wr g bs Xs (bT Xs k).bC ow (D (K ⟨b,0,Z⟩) L.length a) L w1
def IM(k:Nat)(e:Y)(d b:Nat)(L:V Nat)(c a n:Nat)(f:G):Prop:=∃PH T ow wr w1 lo O rv,ks bs Xs g w0 k e d b L c a n PH T ow wr w1 f lo O rv
def DQ(v:Bool)(k:Nat)(f:Y)(e c:Nat)(L:V Nat)(d b n N:Nat)(h:G):Prop:=∃PH T ow wr w1 a lo O rv,ks bs Xs g w0 k f e c L d b n PH T ow wr w1 a lo O rv/\N=a.heap.size/\Below (a.heap.size+1) (a.alloc lN) h/\(cF Xs L).any (dl Xs)=v
def aeq(k:Nat)(c:Y)(m h:Nat)(L:V Nat)(l f n p:Nat)(d:G):Prop:=∃e PH T ow wr w1 a lo O rv,ks bs Xs g w0 k e m h L l f n PH T ow wr w1 a lo O rv/\p=a.heap.size/\(cF Xs L).any (dl Xs)=aP/\
 d.ownsRow w0.heap.size 165 1 c (PH.length+1) (PH.map iP++[aF (K ⟨a.heap.size,0,Z⟩)])/\(∀k,c.ownBlock=K k->e.ownBlock=K k\/(a.heap.size<k/\k<d.heap.size))/\(∀b,b<a.heap.size+1->e.ownBlock≠K b->d.heap[b]?=(a.alloc lN).heap[b]?)/\a.heap.size+1<=d.heap.size/\Mo bs w0 d
def aeA(k:Nat)(m:Y)(l e:Nat)(L:V Nat)(h d n p:Nat)(c:G):Prop:=∃PH T ow wr w1 a lo O rv ph,ks bs Xs g w0 k m l e L h d n PH T ow wr w1 a lo O rv/\(cF Xs L).any (dl Xs)=aQ/\PH[(bT Xs k).ow (gI Xs (xi Xs k).f)]?=K ph/\p=ph.pb/\(∀b,b<a.heap.size+1->c.heap[b]?=(a.alloc lN).heap[b]?)/\a.heap.size+1<=c.heap.size/\Mo bs w0 c
def EQ(k:Nat)(e:Y)(d b:Nat)(L:V Nat)(c a n f:Nat)(h:G):Prop:=aeq bs Xs g w0 k e d b L c a n f h\/aeA bs Xs g w0 k e d b L c a n f h
def wF(ow:Nat->Option Nat)(A:V Nat)(o:Nat):Nat->Option Nat:=λj=>if A.contains j then K o else ow j
def FQ(k:Nat)(d:Y)(b _:Nat)(L:V Nat)(c t:Nat)(wr:G):Prop:=k<Xs.length/\(∀a∈L,a<Xs.length)/\(∀j,(bT Xs<|k+1).bC j=((bT Xs k).bC j||L.contains j))/\(∀j,L.contains j=aQ->(bT Xs<|k+1).ow j=(bT Xs k).ow j)/\
 ∃PH T ow q ph,PI bs w0.heap.size d (bT Xs<|k+1).ps PH T wr/\(∀j,L.contains j=aP->(bT Xs<|k+1).ow j=q)/\PH[q]?=K ph/\ph.pb=c/\(∀j,j<Xs.length->(bT Xs k).bC j=aP->∃ph,PH[(bT Xs k).ow j]?=K ph/\ow j=K ph.pb)/\
 SW g bs Xs (λj=>(bT Xs k).bC j||L.contains j) (wF ow (L.take t) c) wr/\(∀(t s:Nat),L[t]?=K s->wr.cell? ⟨b,t,Z⟩=K (aF<|K ⟨bx bs s,0,Z⟩))/\w0.heap.size<=b/\Mo bs w0 wr
end
section
variable{rg:V (V O)}{l:V Nd}{r:Int}{Xs:V PB}{bs:V Nat}{g cap:Nat}{w0:G}
theorem afu(k:Nat)(f:Y)(wr:G)(h:DO bs Xs g w0 k f wr)(b:k<bs.length):wr.cell? ⟨g,k,Z⟩=K (aF<|K ⟨bx bs k,0,Z⟩)/\∃m,wr.cell? ⟨bx bs k,6,Z⟩=K (aC m)/\(m=aP->DO bs Xs g w0 (k+1) f wr)/\(m=aQ->BQ bs Xs g w0 k f wr):=by obtain⟨_,PH,T,ow,a⟩:=h;have c:k<Xs.length:=(by rw[<-a.sw.len];exact b);refine⟨a.sw.row k b,(bT Xs k).bC k,apL (a.sw.side k b) 6,λd=>⟨U,PH,T,ow,?_⟩,λd=>⟨c,d,PH,T,ow,a⟩⟩;have e:bT Xs (k+1)=bT Xs k:=(by rw[ue];unfold lM;rw[y d]);exact⟨by rw[e];exact a.sw,by rw[e];exact a.pi,by rw[e];exact a.own,a.mo⟩
theorem afv(h:SX rg l r Xs)(c:BD Xs)(t:g<w0.heap.size)(s:bs.length<=cap)(k:Nat)(B:Y)(wr:G)(R:BQ bs Xs g w0 k B wr):
  M 110 #[D (K ⟨g,0,Z⟩) bs.length cap,aF<|K ⟨bx bs k,0,Z⟩] wr λe w1=>∃m f L,e=aJ (D (K ⟨m,0,Z⟩) L.length f)/\L.length<=85000000/\IL bs Xs g w0 k B m f L w1:=by obtain⟨p,x,PH,T,ow,n⟩:=R;have P:=h.pv c k U;obtain⟨A,Q⟩:=h.walk c P p x;have b:=n.sw.len;have q:(dK Xs (bT Xs k).bC k).length<=85000000:=(by have:=r7 (mk:=(bT Xs k).bC) (λj o=>(h.next c o).1) Xs.length [] k p;have y:=qw Xs.length (bT Xs k).bC [];have z:=c.len;have e:fp (dF Xs) (bT Xs k).bC Xs.length [] k=dK Xs (bT Xs k).bC k:=rfl;grind);refine(aep bs Xs c g cap k _ ow wr n.sw (bg t n.mo.size) (by omega) s<|λi S=>h.go i S).mono ?_;rintro e w1 ⟨w,rfl,d⟩;rw[b] at d;have a:=d;have v:dK Xs (bT Xs k).bC k≠[]:=λe=>(by have:=Q.head;grind);obtain⟨m,f,u,_⟩:=li a.own (by intro e;exact v<|oB.1 e);subst u;exact⟨m,f,_,rfl,q,p,x,rfl,PH,T,ow,wr,n,a⟩
theorem afw(h:SX rg l r Xs)(q:BD Xs)(k:Nat)(H:Y)(P x:Nat)(L:V Nat)(w1:G)(R:IL bs Xs g w0 k H P x L w1):
  M 111 #[D (K ⟨P,0,Z⟩) L.length x] w1 λe I=>∃B v n,e=aJ (D (K ⟨B,0,Z⟩) n v)/\IM bs Xs g w0 k H P x L B v n I:=by obtain⟨o,F,eL,PH,T,ow,wr,C,d⟩:=R;have N:=h.pv q k U;obtain⟨X,c⟩:=h.walk q N o F;rw[<-eL] at X c;have t:=C.sw.len;have u:L≠[]:=λe=>(by have:=c.head;grind);have Q:L.length<=85000000:=(by have:=r7 (mk:=(bT Xs k).bC) (λj hj=>(h.next q hj).1) Xs.length [] k o;have h2:=qw Xs.length (bT Xs k).bC [];have h3:=q.len;have e:fp (dF Xs) (bT Xs k).bC Xs.length [] k=L:=eL.symm;grind);have J:∀s,L[0]?=K s->(xi Xs s).f=(xi Xs k).f:=λs m=>(by rw[c.head] at m;grind);obtain⟨A,cX,hv,_,_,_,_,_,hcell⟩:=li d.own (by simp_all);have S:A=P:=(by grind);subst S;refine(aeR bs Xs q g _ ow w1 d.sw L Q (λa W=>by rw[t];exact c.lt a W) A x (λi a hi=>hcell i (bx bs a) (by grind))<|λk' s m y=>h.parts c.conn c.lt J k' s m y).mono ?_;rintro e I ⟨lvR,lo,O,rv,rfl,b⟩;have w:0<rv.length:=(by rw[b.len];exact fT.2<|IH c);obtain⟨B,v,z,_⟩:=lj b.ro w;subst z;exact⟨B,v,rv.length,rfl,PH,T,ow,wr,w1,lo,O,rv,C,o,F,eL,d,b,rfl⟩
theorem afx(h:SX rg l r Xs)(x:BD Xs)(I:∀b∈bs,b<w0.heap.size)(hg0:g<w0.heap.size)(k:Nat)(lv:Y)(z y:Nat)(L:V Nat)(s p n:Nat)(a:G)(J:IM bs Xs g w0 k lv z y L s p n a):
  M 112 #[D (K ⟨s,0,Z⟩) n p,.func (.func 113) #[] #[]] (a.alloc<|.cells #[D Z 0 0,D Z 0 0] 187) λe u=>∃b,e=aJ (aC b)/\(b=aP->DQ bs Xs g w0 aP k lv z y L s p n a.heap.size u)/\(b=aQ->DQ bs Xs g w0 aQ k lv z y L s p n a.heap.size u):=by
 obtain⟨PH,T,ow,wr,w1,lo,O,rv,c⟩:=J;have hP:=h.pv x k (by have:=c.kl;omega);obtain⟨hc,o⟩:=h.walk x hP c.kl c.un;rw[<-c.eL] at hc o;have C:=h.DM o;have A:L.length<=85000000:=(by have:=r7 (mk:=(bT Xs k).bC) (λj hj=>(h.next x hj).1) Xs.length [] k c.kl;have h2:=qw Xs.length (bT Xs k).bC [];have h3:=x.len;have e:fp (dF Xs) (bT Xs k).bC Xs.length [] k=L:=c.eL.symm;grind);have hrl:rv.length<=85000000:=(by rw[c.ri.len];have:=(zB Xs L L.length).2;rw[dV] at this;unfold cF;omega);have IN:0<rv.length:=(by rw[c.ri.len];exact fT.2<|IH o);have N:=c.en;subst N;obtain⟨S,cX,R,_,X,_,hcell⟩:=lj c.ri.ro IN;have W:S=s:=(by grind);subst W;have B:∀b,b<a.heap.size->(a.alloc lN).heap[b]?=a.heap[b]?:=λb F=>ad _ _ _ F;have hs:=c.sz;have Q:(a.alloc lN).heap.size=a.heap.size+1:=by simp
 have hix:=aeW (dl Xs) (cF Xs L) rv c.ri.len S p (a.alloc lN) hrl (λi v P=>⟨(an (w:=a)<|B S X).trans<|hcell i v P,by
   obtain⟨q,hq⟩:∃q,(cF Xs L)[i]?=K q:=⟨_,be (by rw[<-c.ri.len];grind)⟩;exact wE (c.ri.ring i v q P hq).1⟩) (λi v q P hq w' F=>by
   have hp:(v,q)∈rv.zip (cF Xs L):=bB (Kd.2 ⟨P,hq⟩);have d:∀b,b<a.heap.size->w'.heap[b]?=a.heap[b]?:=λb f=>(F.block b (by omega)).trans (B b f);exact c.shell x C o.lt A (v,q) hp w' (d g U) (λb f=>d b (by grind)) (λb _ f=>d b f))
 refine(aeX _ S rv.length p (a.alloc lN) hix).mono ?_;rintro e u ⟨rfl,H⟩;rw[Se];have m:Below (a.heap.size+1) (a.alloc lN) u:=(by grind);exact⟨_,rfl,λR=>⟨PH,T,ow,wr,w1,a,lo,O,rv,c,rfl,m,R⟩,λR=>⟨PH,T,ow,wr,w1,a,lo,O,rv,c,rfl,m,R⟩⟩
end
theorem SC(P:V Nat->Bool):∀(rv:V Y)(Rs:V (V Nat))(a:VR),rv.length=Rs.length->(gb P a<|rv.zip Rs).2=Rs.foldl (λb r=>if P r then r else b) a.2
 |[],[],a,_=>rfl
 |v::rv,q::Rs,a,h=>by show(gb P (if P q then(v,q) else a)<|rv.zip Rs).2=Rs.foldl _ (if P q then q else a.2);rw[SC P rv Rs _<|by grind];grind
 |[],_::_,_,h=>by grind
 |_::_,[],_,h=>by grind
theorem SD(P:V Nat->Bool):∀(rv:V Y)(Rs:V (V Nat)),rv.length=Rs.length->(gd P<|rv.zip Rs).map (·.2)=Rs.filter λr=> !P r
 |[],[],_=>rfl
 |v::rv,q::Rs,h=>by have a:=SD P rv Rs (by grind);unfold gd at*;rw[EN,Vo,Vo];grind
 |[],_::_,h=>by grind
 |_::_,[],h=>by grind
theorem afy(P:V Nat->Bool)(a:VR)(Z:V VR)(h:∀p∈Z,P p.2=aQ):gb P a Z=a/\gd P Z=Z:=by refine⟨?_,?_⟩;rcases IF P a Z with e|⟨c,b⟩;exact e;grind;unfold gd;exact E5.2 λp d=>by grind
section
variable{bs:V Nat}{Xs:V PB}{g:Nat}{w0:G}{k:Nat}{lv:Y}{gW cW:Nat}{L:V Nat}{gR cR n:Nat}{PH:V iY}{T:Nat->Tg}{ow:Nat->Option Nat}{wr w1 w2:G}{lo:Y}{O:V Nat}{rv:V Y}
theorem ks.SE(h:ks bs Xs g w0 k lv gW cW L gR cR n PH T ow wr w1 w2 lo O rv):Mo bs wr w2:=h.ws.mo.trans<|Mo.of bs h.ri.below
theorem SF{w2 w4:G}(a:Below (w2.heap.size+1) (w2.alloc lN) w4):ag w2 w4:=(aj _ _).trans<|a.mono U
end
section
variable{rg:V (V O)}{l:V Nd}{r:Int}{Xs:V PB}{bs:V Nat}{g cap:Nat}{w0:G}
theorem afz(h:SX rg l r Xs)(w:BD Xs)(S:∀b∈bs,b<w0.heap.size)(k:Nat)(lv:Y)(gW cW:Nat)(L:V Nat)(gR cR n N:Nat)(t:G)(J:DQ bs Xs g w0 aP k lv gW cW L gR cR n N t):
  ∃P A,t.ownsRow w0.heap.size 165 1 lv P A/\P<=85000000/\w0.heap.size<=t.heap.size/\∀p a Q,Q.ownsRow w0.heap.size 165 1 (D (K ⟨p,0,Z⟩) (P+1) a) (P+1) (A++[aF (K ⟨N,0,Z⟩)])->(t.alloc<|.cells #[aF (K ⟨N,0,Z⟩)] 165).grownBy Q lv.ownBlock->(lv.ownBlock=K p\/p=t.heap.size+1)->EQ bs Xs g w0 k (D (K ⟨p,0,Z⟩) (P+1) a) gW cW L gR cR n N Q:=by obtain⟨PH,T,ow,wr,w1,w2,lo,O,rv,c,rfl,q,x⟩:=J;have hs:=c.sz;have o:(w2.alloc lN).heap.size=w2.heap.size+1:=(by simp);have u:=q.size;rw[o] at u;have v:=SF q;have H:=h.pv w k (by have:=c.kl;omega);have I:=w.len;have W:=H.len;have z:=c.hi.pi.len;have M:=c.kl;have m:=c.hi.pi.row;have f:=λb e=>bn m b e;refine⟨PH.length,PH.map iP,bH m λb e=>(v.block b (by grind)).trans<|c.same S (f b e).1 (f b e).2,U,U,λp a Q B s d=>j ⟨lv,PH,T,ow,wr,w1,w2,lo,O,rv,c,rfl,x,B,λb e=>?_,λb y i=>?_,?_,?_⟩⟩;have C:p=b:=(by simpa[Value.ownBlock] using e);subst C;rcases d with d|d;grind;have:=(bn B p rfl).2;omega;exact(s.block b aq<|λe=>i e.symm).trans ((ad _ _ _ U).trans<|q.block b y);have:=s.size;simp at this;omega;have X:=c.hi.mo.trans<|c.SE.trans<|Mo.of bs v;exact X.below ((Mo.alloc lv.ownBlock.toList t _).trans<|Mo.grown s (λb e=>by grind)) λb y R=>(by grind)
theorem afA(h:SX rg l r Xs)(P:BD Xs)(_:∀b∈bs,b<w0.heap.size)(k:Nat)(lv:Y)(gW cW:Nat)(L:V Nat)(gR cR n N:Nat)(B:G)(hd:DQ bs Xs g w0 aQ k lv gW cW L gR cR n N B):
  ∃H W N3,B.cell? ⟨bx bs k,2,Z⟩=K (A C H W)/\B.cell? ⟨bx bs k,3,Z⟩=K (I J N3)/\M 114 #[D (K ⟨g,0,Z⟩) bs.length cap,u #[A C H W,I J N3]] B λe z=>∃X ob,e=aJ (aF<|K ⟨X,0,Z⟩)/\z.cell? ⟨X,7,Z⟩=K (aF<|K ⟨ob,0,Z⟩)/\EQ bs Xs g w0 k lv gW cW L gR cR n ob z:=by obtain⟨PH,T,ow,wr,w1,w2,lo,O,rv,c,rfl,s,d⟩:=hd;have:=c.sz;have w:(w2.alloc lN).heap.size=w2.heap.size+1:=(by simp);have y:=s.size;rw[w] at y;have t:=SF s;have hP:=h.pv P k (by have:=c.kl;omega);have a:=c.DN.below t;have q:=a.len;have:k<bs.length:=(by rw[q];exact c.kl);have hS:=a.rb.at c.kl;have R:∀ring∈cF Xs (dK Xs (bT Xs k).bC k),dl Xs ring=aQ:=λring hr=>(by rw[<-c.eL] at hr;grind);obtain⟨o,v,Q⟩:=h.low P hP c.kl c.un R;obtain⟨ph,i,S⟩:=c.hi.own _ v Q;refine⟨_,_,_,hS.c2,hS.c3,(ae9 bs Xs P a.nd (xi Xs k).f (P.v _<|gm c.kl).f g cap B a.rb o).mono ?_⟩;rintro e z ⟨rfl,p⟩;have x:=a.below p;have m:=x.side (gI Xs (xi Xs k).f) (by omega);rw[S] at m;refine⟨_,ph.pb,rfl,apL m 7,F ⟨PH,T,ow,wr,w1,w2,lo,O,rv,ph,c,d,i,rfl,λb hb=>(p.block b U).trans<|s.block b hb,by have:=p.size;omega,?_⟩⟩;exact c.hi.mo.trans<|c.SE.trans<|(Mo.of bs t).trans<|Mo.of bs p
theorem SJ(h:SX rg l r Xs)(b:BD Xs){k:Nat}{lv:Y}{gW cW:Nat}{L:V Nat}{gR cR n:Nat}{PH:V iY}{T:Nat->Tg}{ow:Nat->Option Nat}{wr w1 w2:G}{lo:Y}{O:V Nat}{rv:V Y}(a:ks bs Xs g w0 k lv gW cW L gR cR n PH T ow wr w1 w2 lo O rv):
  Wk Xs k L/\L.length<=85000000/\rv.length<=85000000/\0<rv.length/\rv.length=(cF Xs L).length:=by have f:=h.pv b k (by have:=a.kl;omega);obtain⟨m,d⟩:=h.walk b f a.kl a.un;rw[<-a.eL] at m d;have c:L.length<=85000000:=(by have:=r7 (mk:=(bT Xs k).bC) (λj p=>(h.next b p).1) Xs.length [] k a.kl;have q:=qw Xs.length (bT Xs k).bC [];have s:=b.len;have e:fp (dF Xs) (bT Xs k).bC Xs.length [] k=L:=a.eL.symm;grind);refine⟨d,c,?_,?_,a.ri.len⟩;rw[a.ri.len];have:=(zB Xs L L.length).2;rw[dV] at this;unfold cF;omega;rw[a.ri.len];exact fT.2<|IH d
theorem afB(h:SX rg l r Xs)(hB:BD Xs)(u:∀b∈bs,b<w0.heap.size)(hg0:g<w0.heap.size)(k:Nat)(lv:Y)(gW cW:Nat)(L:V Nat)(gR cR n ob:Nat)(m:G)(he:aeq bs Xs g w0 k lv gW cW L gR cR n ob m):
  M 115 #[aF (K ⟨ob,0,Z⟩),D (K ⟨gR,0,Z⟩) n cR] m λe N=>e=aJ (aG #[])/\FQ bs Xs g w0 k lv gW cW L ob 0 N:=by
 obtain⟨lv0,PH,T,ow,wr,w1,w2,lo,O,rv,c,rfl,am3,A,hQ,x,afC,afE⟩:=he;obtain⟨hW,qi,hrl,IN,Q⟩:=SJ h hB c;have Io:=h.DM hW;have hs:=c.sz;have hen:=c.en;subst hen;have H:=c.hi.pi.row;have B:=λb e=>bn H b e;have k5:=λb o P=>(x b U P).trans<|ad _ _ _ o;have d:∀b,b<w0.heap.size->m.heap[b]?=w2.heap[b]?:=λb o=>k5 b U (λe=>by grind);have f:∀b,w1.heap.size<=b->b<w2.heap.size->m.heap[b]?=w2.heap[b]?:=λb a S=>k5 b S (λe=>by grind);have C3:m.heap[w2.heap.size]?=K (.cells #[D Z 0 0,D Z 0 0] 187 (0,0)):=(x _ U (λe=>by grind)).trans<|aa w2 _;obtain⟨gX,cX,hv,hgl,tE,_,hcell⟩:=lj c.ri.ro IN;have IP:gX=gR:=(by grind);subst IP;have hzl:(rv.zip<|cF Xs L).length=rv.length:=by grind
 have afH:TK m w0.heap.size w2.heap.size (D Z 0 0) (D Z 0 0) (D Z 0 0) [] m:=⟨C3,ak _ _ _ _,Mo.refl _ _,λb e=>by grind,by simp[Value.ownBlock]⟩;have hcall:=Sj (dl Xs) (rv.zip<|cF Xs L) (D Z 0 0,[]) w2.heap.size gX cR w0.heap.size (D Z 0 0) [] m (by omega) E U afH ⟨U,by simp[Value.ownBlock]⟩
  (λi p hp=>by
   obtain⟨a,S⟩:=zE hp;exact⟨(an (w:=w2) (f gX hgl tE)).trans (hcell i p.1 a),wE (c.ri.ring i p.1 p.2 a S).1⟩)
  (λp hp w' hm=>by
   have km:∀b,b<w2.heap.size->w'.heap[b]?=m.heap[b]?:=λb o=>hm.block b U (by
    intro hk;rcases bK.1 hk with e|e
    .omega
    .simp[Value.ownBlock] at e)
   exact c.shell hB Io hW.lt qi p hp w' ((km g U).trans (d g hg0)) (λb o=>(km b (by grind)).trans (d b (u b o))) (λb a S=>(km b S).trans (f b a S)))
 rw[hzl] at hcall;refine hcall.mono ?_;rintro e N ⟨rfl,I,q⟩;rw[qM] at q;have W:∀b,b<m.heap.size->b≠w2.heap.size->N.heap[b]?=m.heap[b]?:=λb o P=>q.mo.block b o (by
  intro hk;rcases bK.1 hk with e|e
  omega
  .simp[Value.ownBlock] at e)
 have F:=c.hi.pi.push (w5:=m) (w6:=N) (lvQ:=lv) (dl Xs) (rv.zip<|cF Xs L) w2.heap.size w1.heap.size I U U U U
  (c.IK.keep (w':=N) λb a S=>(W b U U).trans<|f b a S)
  (λb a S ht=>(W b U U).trans<|(k5 b U<|λe=>ht<|c.hi.pi.tl b e).trans<|c.same u a S)
  (bH A λb e=>W b (bn A b e).2 (by
   grind)) hQ q.jC q.own (λb e=>by
   rcases q.fresh b e with e|e
   .simp[Value.ownBlock] at e
   .exact e)
 obtain⟨T',hPI⟩:=F;have z:bT Xs (k+1)=⟨λj=>(bT Xs k).bC j||L.contains j,λj=>if L.contains j then(bT Xs k).ps.length else(bT Xs k).ow j,(bT Xs k).ps++[(o8 (dl Xs)<|cF Xs L,(cF Xs L).filter λr=> !dl Xs r)]⟩:=(by rw[ue];unfold lM;rw[<-c.eL,X (by rw[c.un];simp),y am3]);rw[SC (dl Xs) rv (cF Xs L) _ Q,SD (dl Xs) rv (cF Xs L) Q] at hPI;have C:=c.hi.pi.len;refine⟨rfl,c.kl,hW.lt,by rw[z];simp,by rw[z];grind,PH++[⟨w2.heap.size,(gb (dl Xs) (D Z 0 0,[])<|rv.zip<|cF Xs L).1,I,(gd (dl Xs)<|rv.zip<|cF Xs L).map (·.1)⟩],T',ow,PH.length,⟨w2.heap.size,(gb (dl Xs) (D Z 0 0,[])<|rv.zip<|cF Xs L).1,I,(gd (dl Xs)<|rv.zip<|cF Xs L).map (·.1)⟩,?_,by rw[z];grind,by simp,rfl,λj hj IQ=>?_,?_,λt s hts=>?_,?_,?_⟩;rw[z];exact hPI;obtain⟨ph,hph,how⟩:=c.hi.own j hj IQ;grind;have R:=c.DN;refine SW.congr (mk:=λj=>(bT Xs k).bC j||L.contains j) (ow:=ow) ⟨R.len,R.nd,R.ng,λi hi=>?_,λi hi=>?_⟩ (λ_ _=>rfl) (λi _=>by unfold wF;simp);exact(an (w:=w2)<|(W g U U).trans<|d g hg0).trans (R.row i hi);have:=u _<|mZ hi;exact((W _ U U).trans<|d _ this).trans<|R.side i hi
 .obtain⟨v,cY,J,am4,afL,_,_,_,hcl⟩:=li c.ws.own (by
   grind)
  have SM:v=gW:=(by grind);subst SM;have hc:=hcl t (bx bs s) (by grind);rw[ir] at hc;refine(an (w:=w1) (?_:N.heap[v]?=w1.heap[v]?)).trans hc;have:m.heap[v]?=w2.heap[v]?:=k5 v U (λe=>by grind);exact(W v U U).trans<|this.trans<|c.ri.below.block v afL
 have P:L≠[]:=λe=>(by have:=hW.head;grind);obtain⟨v,cY,J,am4,_⟩:=li c.ws.own (by grind);grind;exact afE.below (q.mo) λb o hb'=>(by rcases bK.1 hb' with e|e;omega;simp[Value.ownBlock] at e)
end
section
variable{rg:V (V O)}{l:V Nd}{r:Int}{Xs:V PB}{bs:V Nat}{g cap:Nat}{w0:G}
theorem afD(h:SX rg l r Xs)(hB:BD Xs)(y:∀b∈bs,b<w0.heap.size)(hg0:g<w0.heap.size)(k:Nat)(lv:Y)(gW cW:Nat)(L:V Nat)(gR cR n ob:Nat)(w5:G)(he:aeA bs Xs g w0 k lv gW cW L gR cR n ob w5):
  M 115 #[aF (K ⟨ob,0,Z⟩),D (K ⟨gR,0,Z⟩) n cR] w5 λe w6=>e=aJ (aG #[])/\FQ bs Xs g w0 k lv gW cW L ob 0 w6:=by
 obtain⟨PH,T,ow,wr,w1,w2,lo,O,rv,ph,d,P,z,rfl,N,afC,afE⟩:=he;obtain⟨hW,qi,hrl,IN,amc⟩:=SJ h hB d;have Io:=h.DM hW;have hs:=d.sz;have hen:=d.en;subst hen;have hP:=h.pv hB k (by have:=d.kl;omega);generalize hq:(bT Xs k).ow (gI Xs (xi Xs k).f)=q at*;have D8:=(bX.1 z).1;have hqs:q<(bT Xs k).ps.length:=(by rw[<-d.hi.pi.len];exact D8);have hps:(bT Xs k).ps[q]?=K ((bT Xs k).ps.getD q ([],[])):=(by grind);generalize afG:(bT Xs k).ps.getD q ([],[])=ps at*;have x:=d.hi.pi.pg q ph ps z hps;have DG:=apJ x.blk;have k5:=λb B=>(N b U).trans<|ad _ _ _ B;have o:=λb c u=>(k5 b U).trans<|d.same y c u;obtain⟨gX,cX,hv,hgl,tE,_,hcell⟩:=lj d.ri.ro IN;have IP:gX=gR:=(by grind);subst IP;have hzl:(rv.zip<|cF Xs L).length=rv.length:=(by grind);have R:=λb e=>bn x.ho b e;have am6:ph.hv.ownBlock≠K ph.pb:=λe=>(by have c:=x.th _ e;rw[x.tp] at c;cases c);have afH:TK w5 w0.heap.size ph.pb ph.hv ph.sv ph.hv ph.hvs w5:=⟨(o _ x.ge DG).trans x.blk,bH x.ho λb e=>o b (R b e).1 (R b e).2,Mo.refl _ _,λb e=>j e,am6⟩;have am7:∀p∈rv.zip (cF Xs L),dl Xs p.2=aQ:=λp hp=>(by obtain⟨i,hi,e⟩:=ig.1 hp;grind);obtain⟨afI,afJ⟩:=afy (dl Xs) (ph.sv,ps.1) (rv.zip<|cF Xs L) am7;have C:∀b,b<w2.heap.size->wr.heap.size<=b\/b<w0.heap.size->b∉ph.pb::ph.hv.ownBlock.toList:=λb _ B hk=>(by have hge:=x.ge;rcases bK.1 hk with e|e;omega;grind);have hhl:ph.hvs.length<=85000000:=(by have c:=hP.hol q ps hps;have u:=x.hl;have h3:=hB.len;omega)
 have hcall:=Sj (dl Xs) (rv.zip<|cF Xs L) (ph.sv,ps.1) ph.pb gX cR w0.heap.size ph.hv ph.hvs w5 (by omega) hhl U afH ⟨U,λe=>by grind⟩
  (λi p hp=>by
   obtain⟨c,u⟩:=zE hp;exact⟨(an (w:=w2) (k5 gX tE)).trans (hcell i p.1 c),wE (d.ri.ring i p.1 p.2 c u).1⟩)
  (λp hp w' hm=>by
   have km:=λb B Q=>(hm.block b U (C b B Q)).trans (k5 b B);exact d.shell hB Io hW.lt qi p hp w' (km g U (F hg0)) (λb B=>km b (by grind) (F (y b B))) (λb c u=>km b u (j U)))
 rw[hzl,afI,afJ] at hcall;refine hcall.mono ?_;rintro e w6 ⟨rfl,hv',v⟩;have k6:=λb B Q=>(v.mo.block b U<|C b B Q).trans<|k5 b B;have W:=d.hi.pi.more (w5:=w5) (w6:=w6) (rv.zip<|cF Xs L) w1.heap.size w2.heap.size q ph ps z hps hv' U U U U
  (d.IK.keep (w':=w6) λb c u=>k6 b u<|j U)
  (λb c u ht1 ht2=>(v.mo.block b U (λhk=>by
   rcases bK.1 hk with e|e
   .rw[e] at ht1;exact ht1 x.tp
   .have e':ph.hv.ownBlock=K b:=by grind
    exact ht2 (x.th b e'))).trans (o b c u))
  v.jC v.own v.fresh
 obtain⟨T',hPI⟩:=W;have A:bT Xs (k+1)=⟨λa=>(bT Xs k).bC a||L.contains a,λa=>if L.contains a then q else(bT Xs k).ow a,(bT Xs k).ps.set q (ps.1,ps.2++cF Xs L)⟩:=(by rw[ue];unfold lM;rw[<-d.eL,X (by rw[d.un];simp),X (by grind),hq,afG]);have hz2:(rv.zip<|cF Xs L).map (·.2)=cF Xs L:=List.map_snd_zip U;rw[hz2] at hPI;refine⟨rfl,d.kl,hW.lt,by rw[A];simp,by rw[A];grind,_,T',ow,q,⟨ph.pb,ph.sv,hv',ph.hvs++(rv.zip<|cF Xs L).map (·.1)⟩,by grind,by rw[A];grind,ox D8,rfl,λa hj IQ=>?_,?_,λt s hts=>?_,?_,?_⟩;obtain⟨SK,m,how⟩:=d.hi.own a hj IQ;by_cases J:q=(bT Xs k).ow a;refine⟨⟨ph.pb,ph.sv,hv',ph.hvs++(rv.zip<|cF Xs L).map (·.1)⟩,by grind,?_⟩;grind;grind;have S:=d.DN;refine SW.congr (mk:=λa=>(bT Xs k).bC a||L.contains a) (ow:=ow) ⟨S.len,S.nd,S.ng,λi hi=>?_,λi hi=>?_⟩ (λ_ _=>rfl) (λi _=>by unfold wF;simp);exact(an (w:=w2)<|k6 g U<|F hg0).trans (S.row i hi);have:=y _<|mZ hi;exact(k6 _ U<|F this).trans<|S.side i hi
 .obtain⟨I,cY,hvY,H,afL,_,_,_,hcl⟩:=li d.ws.own (by
   grind)
  have SM:I=gW:=(by grind);subst SM;have hc:=hcl t (bx bs s) (by grind);rw[ir] at hc;refine(an (w:=w1) (?_:w6.heap[I]?=w1.heap[I]?)).trans hc;exact(k6 I U<|j H).trans<|d.ri.below.block I afL
 have hne:L≠[]:=λe=>(by have:=hW.head;grind);obtain⟨I,cY,hvY,H,_⟩:=li d.ws.own (by grind);grind;exact afE.below (v.mo) λb B Q=>(by grind)
theorem afM(x:∀b∈bs,b<w0.heap.size)(k:Nat)(D:Y)(n z:Nat)(L:V Nat)(m t:Nat)(wr:G)(F:FQ bs Xs g w0 k D n z L m t wr)(M:t<L.length):∃b o,wr.cell? ⟨n,t,Z⟩=K (aF<|K ⟨b,0,Z⟩)/\wr.cell? ⟨b,7,Z⟩=K o/\wr.frozen? ⟨b,7,Z⟩=aQ/\FQ bs Xs g w0 k D n z L m (t+1) (wr.setCell ⟨b,7,Z⟩<|aF<|K ⟨m,0,Z⟩):=by obtain⟨I,f,B,h,PH,T,ow,q,ph,v,J,R,Q,l,d,hcell,e,P⟩:=F;obtain⟨s,S⟩:∃s,L[t]?=K s:=⟨_,be M⟩;have c:s<bs.length:=(by rw[d.len];exact f s<|bB S);have a:=d.side s c;have H:=x _<|mZ c;have C:∀b,w0.heap.size<=b->(wr.setCell ⟨bx bs s,7,Z⟩<|aF<|K ⟨m,0,Z⟩).heap[b]?=wr.heap[b]?:=λb A=>aaj _ _ _ _ (by grind);refine⟨bx bs s,_,hcell t s S,apL a 7,bE a 7,I,f,B,h,PH,T,ow,q,ph,v.keep<|λb A _=>C b A,J,R,Q,l,?_,λO N j=>(an (w:=wr)<|C n e).trans<|hcell O N j,e,P.trans<|Mo.setCell bs wr (p:=⟨bx bs s,7,Z⟩) (mZ c) _⟩;refine(d.own c m).congr (λ_ _=>rfl)<|λi _=>?_;have u:L.take (t+1)=L.take t++[s]:=(by rw[fg,S];rfl);unfold wF;grind
theorem afN(k:Nat)(r:Y)(v t:Nat)(L:V Nat)(s:Nat)(wr:G)(P:FQ bs Xs g w0 k r v t L s L.length wr):DO bs Xs g w0 (k+1) r wr:=by obtain⟨u,S,b,c,PH,T,ow,q,ph,f,o,n,m,d,e,hcell,Q,l⟩:=P;rw[dV] at e;refine⟨U,PH,T,wF ow L s,e.congr (λi _=>b i)<|λ_ _=>rfl,f,λj R a=>?_,l⟩;rw[b] at a;unfold wF;grind
theorem afO(h:SX rg l r Xs)(m:BD Xs)(f:∀b∈bs,b<w0.heap.size)(p:g<w0.heap.size)(u:bs.length<=cap)(S:SW g bs Xs (λ_=>aQ) (λ_=>Z) w0)(Q:Y->G->Prop)
  (C:∀a PH T wr,PI bs w0.heap.size a (bT Xs Xs.length).ps PH T wr->RB wr g bs Xs->bs.Nodup->Mo bs w0 wr->PH.length<=85000000->M 116 #[a] wr λe w'=>e=aJ (aG #[])/\Q a w'):
  M 69 #[D (K ⟨g,0,Z⟩) bs.length cap] w0 λe w'=>∃a,e=aJ a/\Q a w':=by
 have x:=S.len;have F:Ss bs g cap (DO bs Xs g w0) (BQ bs Xs g w0) (IL bs Xs g w0) (IM bs Xs g w0) (DQ bs Xs g w0 aP) (DQ bs Xs g w0 aQ) (EQ bs Xs g w0) (FQ bs Xs g w0) Q w0.heap.size:=
  ⟨λk a wr o I=>afu k a wr o I,λk a wr H=>afv h m p u k a wr H,λk a d c L w1 w=>afw h m k a d c L w1 w,λk a d c L v s n W w=>afx h m f p k a d c L v s n W w,λk a d c L v s n N z y=>afz h m f k a d c L v s n N z y,λk a d c L v s n N z y=>afA h m f k a d c L v s n N z y,
   λk a d c L v s n P A R=>by
    rcases R with R|R
    .exact afB h m f p k a d c L v s n P A R
    .exact afD h m f p k a d c L v s n P A R,
   λk a d c L P t wr i V=>afM f k a d c L P t wr i V,λk a d c L P wr i _=>afN k a d c L P wr i,λa wr o=>by
    obtain⟨_,PH,T,ow,B⟩:=o;rw[x] at B;refine C a PH T wr B.pi B.sw.rb B.sw.nd B.mo ?_;rw[B.pi.len];have:=(h.pv m Xs.length (aX _)).len;have:=m.len;omega⟩
 refine afq bs g cap _ _ _ _ _ _ _ _ Q w0.heap.size F w0 (by rw[x];exact m.len) ⟨iq _,[],λ_=>.ring,λ_=>Z,?_⟩;exact⟨S,⟨ak _ _ _ _,λk e=>by simp[Value.ownBlock] at e,rfl,λq ph ps O=>by grind⟩,λj _ J=>by simp[bT] at J,Mo.refl _ _⟩
end
end
section
open Go.RowKit
def kL(Xs:V PB):V Nat->V Nat->Int
 |[],[]=>0
 |[],_::_=> -1
 |_::_,[]=>1
 |a::r,b::s=>if cC (xi Xs a).f (xi Xs b).f=0 then kL Xs r s else cC (xi Xs a).f (xi Xs b).f
def Gr(w w':G):Prop:=ag w w'/\w.drawn<=w'.drawn
theorem Gr.refl(w:G):Gr w w:=⟨Below.refl _ _,aX _⟩
theorem Gr.trans{a b c:G}(h:Gr a b)(k:Gr b c):Gr a c:=⟨h.1.trans<|k.1.mono h.1.size,el h.2 k.2⟩
theorem afP(Xs:V PB)(bs:V Nat)(g d:V Nat)(o O u T:Nat)(w:G)(_:g.length<=85000000)(h2:d.length<=85000000)
  (P:H (∀(i:Nat) a,g[i]?=K a->w.cell? ⟨o,i,Z⟩=K (aF<|K ⟨bx bs a,0,Z⟩)))(Q:H (∀(i:Nat) a,d[i]?=K a->w.cell? ⟨u,i,Z⟩=K (aF<|K ⟨bx bs a,0,Z⟩)))
  (N:H (∀a∈g,∀b∈d,∀w',Gr w w'->M 109 #[aF (K ⟨bx bs a,0,Z⟩),aF<|K ⟨bx bs b,0,Z⟩] w' λe E=>e=aJ (I J<|cC (xi Xs a).f (xi Xs b).f)/\Gr w' E)):
  M 216 #[D (K ⟨o,0,Z⟩) g.length O,D (K ⟨u,0,Z⟩) d.length T,.func (.func 109) #[] #[]] w λe w'=>e=aJ (I J<|kL Xs g d)/\Gr w w':=by have j:H (kL Xs (g.drop 0) (d.drop 0)=kL Xs g d):=rfl;go_enter func216,ntmps216;go_wp2_with fail;go_loopg [13] g.length (λm iv wr=>∃k:Nat,k+m=g.length/\iv=I J k/\H (Gr w wr/\k<=d.length/\kL Xs (g.drop k) (d.drop k)=kL Xs g d));(case atStart=>exact⟨0,U,rfl,Gr.refl _,iq _,j.o⟩);case round=>obtain⟨k,hkn,rfl,L⟩:=hrel;obtain⟨q,Y,l⟩:=L.o;by_cases C:k<g.length;(.obtain⟨a,R⟩:∃a,g[k]?=K a:=⟨_,be C⟩;have d1:=(q.1.cell (p:=⟨o,k,Z⟩)<|apK<|P.o k a R).trans<|P.o k a R;have iH:(k:Int)<(g.length:Int):=U;by_cases s:k<d.length;(.obtain⟨b,v⟩:∃b,d[k]?=K b:=⟨_,be s⟩;have d2:=(q.1.cell (p:=⟨u,k,Z⟩)<|apK<|Q.o k b v).trans<|Q.o k b v;have F:(k:Int)<(d.length:Int):=U;have r:¬((k:Int)≥(d.length:Int)):=U;have S:=hid<|N.o a (bB R) b (bB v) wr q;have B:H ((if cC (xi Xs a).f (xi Xs b).f=0 then kL Xs (g.drop<|k+1) (d.drop<|k+1) else cC (xi Xs a).f (xi Xs b).f)=kL Xs g d):=(by have:=l;rw[qx R,qx v] at this;exact this);have n:H (Gr w wr):=q;generalize cC (xi Xs a).f (xi Xs b).f=c at*;go_wp2_with fail;refine S.o.mono ?_;rintro e w5 ⟨rfl,A⟩;have x:H (Gr w w5):=n.o.trans A;by_cases z:c=0;(.have t:H (kL Xs (g.drop<|k+1) (d.drop<|k+1)=kL Xs g d):=(by have:=B.o;rw[y z] at this;exact this);subst z;go_wp2_with fail;go_roundg (gk-1);(case measure=>omega);case rel=>exact⟨k+1,U,af,x.o,U,t.o⟩);have t:H (c=kL Xs g d):=(by have:=B.o;rw[X z] at this;exact this);go_wp2_with fail;go_ret;exact⟨by rw[<-t.o];rfl,x.o⟩);have r:(k:Int)≥(d.length:Int):=U;have t:H ((1:Int)=kL Xs g d):=(by have:=l;rw[qx R,show d.drop k=[] from Kq U] at this;exact this);have n:H (Gr w wr):=q;go_wp2_with fail;go_ret;exact⟨by rw[<-t.o];rfl,n.o⟩);have W:k=g.length:=U;subst W;rw[KA] at l;have n:H (Gr w wr):=q;by_cases s:g.length<d.length;have r:(g.length:Int)<(d.length:Int):=U;have t:H ((-1:Int)=kL Xs g d):=(by obtain⟨b,v⟩:∃b,d[g.length]?=K b:=⟨_,be s⟩;rw[qx v] at l;exact l);go_wp2_with fail;go_ret;exact⟨by rw[<-t.o];rfl,n.o⟩;have r:¬(g.length:Int)<(d.length:Int):=U;have t:H ((0:Int)=kL Xs g d):=(by rw[Kq U] at l;exact l);go_wp2_with fail;go_ret;exact⟨by rw[<-t.o];rfl,n.o⟩
def eJ:V N.Nd->V N.Nd->Int
 |[],[]=>0
 |[],_::_=> -1
 |_::_,[]=>1
 |a::r,b::s=>if cC a b=0 then eJ r s else cC a b
def fr(Xs:V PB)(r:V Nat):V N.Nd:=r.map λa=>(xi Xs a).f
theorem SO(Xs:V PB):∀r s,kL Xs r s=eJ (fr Xs r) (fr Xs s)
 |[],[]=>rfl
 |[],_::_=>rfl
 |_::_,[]=>rfl
 |a::r,b::s=>by show(if cC (xi Xs a).f (xi Xs b).f=0 then kL Xs r s else _)=(if cC (xi Xs a).f (xi Xs b).f=0 then eJ (fr Xs r) (fr Xs s) else _);rw[SO Xs r s]
theorem zF:∀r,eJ r r=0
 |[]=>rfl
 |a::r=>by show(if cC a a=0 then eJ r r else _)=0;rw[y<|rR a];exact zF r
theorem wG:∀r s,(∀a∈r,N.Can a)->(∀a∈s,N.Can a)->eJ r s<0\/eJ s r<0\/r=s
 |[],[],_,_=>F<|F rfl
 |[],_::_,_,_=>j (by show(-1:Int)<0;omega)
 |_::_,[],_,_=>F<|j (by show(-1:Int)<0;omega)
 |a::r,b::s,f,g=>by show(if cC a b=0 then eJ r s else cC a b)<0\/(if cC b a=0 then eJ s r else cC b a)<0\/_;by_cases c:cC a b=0;have e:=N.qg (f a E) (g b E) c;subst e;rw[y c,y c];rcases wG r s (λa d=>f a<|by simp[d]) (λa d=>g a<|by simp[d]) with h|h|h;omega;omega;grind;have:=Ih a b;omega
theorem wH:∀r s t,(∀a∈r,N.Can a)->(∀a∈s,N.Can a)->(∀a∈t,N.Can a)->eJ r s<0->eJ s t<0->eJ r t<0
 |[],[],_,_,_,_,h,_=>by omega
 |[],_::_,[],_,_,_,_,h=>by exact absurd h (by show ¬(1:Int)<0;omega)
 |[],_::_,_::_,_,_,_,_,_=>by show(-1:Int)<0;omega
 |_::_,[],_,_,_,_,h,_=>by exact absurd h (by show ¬(1:Int)<0;omega)
 |_::_,_::_,[],_,_,_,_,h=>by exact absurd h (by show ¬(1:Int)<0;omega)
 |a::r,b::s,c::t,q,v,x,B,P=>by have n:=q a E;have m:=v b E;have p:=x c E;have f:(if cC a b=0 then eJ r s else cC a b)<0:=B;have d:(if cC b c=0 then eJ s t else cC b c)<0:=P;show(if cC a c=0 then eJ r t else cC a c)<0;by_cases l:cC a b=0;have e:=N.qg n m l;subst e;rw[y l] at f;by_cases g:cC a c=0;rw[y g] at d⊢;exact wH r s t (λa k=>q a<|by simp[k]) (λa k=>v a<|by simp[k]) (λa k=>x a<|by simp[k]) f d;omega;rw[X l] at f;by_cases g:cC b c=0;have e:=N.qg m p g;grind;rw[X g] at d;have:=wn.2<|N.lt_trans (N.dH n) (N.dH m) (N.dH p) (wn.1 f)<|wn.1 d;omega
theorem wI{ι:Type}(b:ι->V N.Nd)(c:∀i,∀a∈b i,N.Can a):Sort.SWO (ltOf λi j=>eJ (b i)<|b j):=by
 have e:∀i j,ltOf (λi j=>eJ (b i)<|b j) i j=aP↔eJ (b i) (b j)<0:=λi j=>iE;have d:∀i j,ltOf (λi j=>eJ (b i)<|b j) i j=aQ↔¬eJ (b i) (b j)<0:=λi j=>by grind
 exact{
  irrefl:=λx=>(d x x).2 (by rw[zF];omega)
  trans:=λx y z g f=>(e x z).2<|wH _ _ _ (c x) (c y) (c z) ((e x y).1 g)<|(e y z).1 f
  ntrans:=λx y z g f=>(d x z).2 λh=>by
   rcases wG _ _ (c x) (c y) with k|k|k
   grind
   .exact(d y z).1 f (wH _ _ _ (c y) (c x) (c z) k h)
   grind}
theorem afQ(f g:Y)(w:G)(c:Int)
  (d:H (M 216 #[f,g,.func (.func 109) #[] #[]] w λe w'=>e=aJ (I J c)/\Gr w w')):
  M 174 #[f,g] w λe w'=>e=aJ (I J c)/\Gr w w':=by go_enter func174,ntmps174;go_wp2_with fail;refine d.o.mono ?_;rintro e k ⟨rfl,a⟩;have b:H (Gr w k):=a;clear a d;go_wp2_with fail;go_ret;exact⟨rfl,b.o⟩
theorem afR(f g m n1 k n r l:Nat)(w:G)(c:Int)(v:w.cell? ⟨f,0,Z⟩=K (D (K ⟨m,0,Z⟩) n1 k))(x:w.cell? ⟨g,0,Z⟩=K (D (K ⟨n,0,Z⟩) r l))
  (t:H (∀w',Gr w w'->M 174 #[D (K ⟨m,0,Z⟩) n1 k,D (K ⟨n,0,Z⟩) r l] w' λe s=>e=aJ (I J c)/\Gr w' s)):
  M 176 #[aF (K ⟨f,0,Z⟩),aF<|K ⟨g,0,Z⟩] w λe w'=>e=aJ (I J c)/\Gr w w':=by go_enter func176,ntmps176;go_wp2_with fail;have p:=apK v;have q:=apK x;have d:H (Gr w w.drew):=⟨(Below.refl _ _).drew,lX _⟩;go_region_held3 (λw'=>w'.cell? ⟨f,0,Z⟩=K (D (K ⟨m,0,Z⟩) n1 k)/\w'.cell? ⟨g,0,Z⟩=K (D (K ⟨n,0,Z⟩) r l)) (go_keep) (first|(go_at_call 174;refine(t.o _ d.o).mono ?_;rintro e B ⟨rfl,a⟩;have:=aR a.1 v p;have:=(aR a.1 x q)));all_goals (have b:H (Gr w B):=d.o.trans a;clear a t d;go_wp2_with fail;go_ret;exact⟨rfl,b.o⟩)
theorem SP{g:Nat}{bs:V Nat}{Xs:V PB}{b1 b2:Nat}{v1 v2:Y}{r1 r2:V Nat}{w:G}(f:BD Xs)(k:RB w g bs Xs)
  (u:w.ownsRow b1 175 1 v1 r1.length (bU<|r1.map<|bx bs))(y:w.ownsRow b2 175 1 v2 r2.length (bU<|r2.map<|bx bs))(n1:r1≠[])(o:r2≠[])(m:∀a∈r1,a<Xs.length)(n:∀a∈r2,a<Xs.length)(S:r1.length<=85000000)(j:r2.length<=85000000):
  M 174 #[v1,v2] w λe w'=>e=aJ (I J<|eJ (fr Xs r1)<|fr Xs r2)/\Gr w w':=by obtain⟨v,q,rfl,_,_,_,s⟩:=lj u<|fT.2 n1;obtain⟨x,r,rfl,_,_,_,t⟩:=lj y<|fT.2 o;rw[<-SO];refine afQ _ _ _ _<|afP Xs bs r1 r2 v q x r w S j (λi a h=>s i _<|by simp[bU,h]) (λi a h=>t i _<|by simp[bU,h])<|λa c b l w' R=>?_;have d:=k.below R.1;have p:∀a,a<Xs.length->il w' (bx bs a) (xi Xs a):=λa c=>d.side a _ _ (rQ (by rw[k.len];exact c))<|qu c;exact(Ic _ _ (f.v _<|gm<|m a c) (f.v _<|gm<|n b l) _ _ w' (p a<|m a c)<|p b<|n b l).mono λ_ _⟨B,P,Q⟩=>⟨B,P,Q⟩
end
section
open Go.RowKit Go.Shelf
def lO{n:Nat}(cf:Fin n->Fin n->Int)(h:0<n):Array (Fin n):=
 haveI:Inhabited (Fin n):=⟨⟨0,h⟩⟩
 Sort.pdq (ltOf cf) (Array.ofFn id) 0 n (Lib.bitLen n) aP aP
def jM{β:Type}(cf:β->β->Int)(l:V β):V β:=if h:0<l.length then(lO (λi j:Fin l.length=>cf l[i] l[j]) h).toList.map (λi=>l[i]) else[]
theorem IR{n:Nat}(cf:Fin n->Fin n->Int)(p:Sort.SWO (ltOf cf))(h:0<n):(lO cf h).size=n/\(lO cf h).toList.Perm (Array.ofFn (id:Fin n->Fin n)).toList/\
  ∀i a(g:i<(lO cf h).size)(k:a<(lO cf h).size),i<a->¬cf (lO cf h)[a] (lO cf h)[i]<0:=by letI:Inhabited (Fin n):=⟨⟨0,h⟩⟩;have d:(Array.ofFn (id:Fin n->Fin n)).size=n:=Ky;have b:=Sort.pdq_sorts (ltOf cf) p (Array.ofFn id) 0 n (Lib.bitLen n) aP aP (iq _) (by omega)<|j rfl;have e:lO cf h=Sort.pdq (ltOf cf) (Array.ofFn id) 0 n (Lib.bitLen n) aP aP:=rfl;rw[<-e] at b;obtain⟨⟨q,_,m⟩,r⟩:=b;have f:(lO cf h).size=n:=(by rw[q,d]);rw[Ds _ f,Ds _ d] at m;refine⟨f,m,λi a g k c=>?_⟩;have l:=r i a (iq _) c U;rw[gN (lO cf h) i g,gN (lO cf h) a k] at l;exact Kr l
theorem SQ{ρ:Ren}(L:SlLaysF.n6 prog ρ)(W:Nat)(eg:∀Q w,(callFunc W Q).run prog w=.ok (.enter W Q) w){β:Type}(cf:β->β->Int)(l:V β)(c:V Y)(hone:∀v∈c,v.oneCell'=aP){base:Nat}{t:TypeId}{lv:Y}{wr:G}(ho:wr.ownsRow base t 1 lv c.length c)(B:c.length=l.length)(hsz:l.length<=85000000)
  (hO:Sort.SWO (ltOf λi j:Fin l.length=>cf l[i] l[j]))
  (am9:∀w',wr.heap.size<=w'.heap.size->(∀k,k<wr.heap.size->lv.ownBlock≠K k->w'.heap[k]?=wr.heap[k]?)->∀(i j:Nat) a v x b,c[i]?=K a->c[j]?=K v->l[i]?=K x->l[j]?=K b->M W #[a,v] w' λe w''=>e=aJ (I J<|cf x b)/\Gr w' w''):
  M (ρ.f 6) #[lv,.func (.func W) #[] #[]] wr λe w'=>e=aJ (aG #[])/\∃d:V Nat,d.Perm (List.range l.length)/\jM cf l=d.filterMap (λi=>l[i]?)/\(jM cf l).length=l.length/\w'.ownsRow base t 1 lv c.length (d.filterMap<|λi=>c[i]?)/\(∀(i:Nat) a x,(d.filterMap<|λi=>c[i]?)[i]?=K a->(jM cf l)[i]?=K x->∃j,j<l.length/\d[i]?=K j/\c[j]?=K a/\l[j]?=K x)/\
   Mo lv.ownBlock.toList wr w':=by obtain⟨hlen,o⟩:=id ho;rcases o with⟨rfl,h0⟩|⟨g,cap,cur,rfl,hg,n,hnc,hcm,hcs,htk⟩;have T:c=[]:=gL.1 h0;have H:l=[]:=gL.1 (by omega);subst T;subst H;refine(AnyF.slices_SortFunc_none {L with} Z 0 _ wr).mono ?_;rintro e w' ⟨rfl,rfl⟩;exact⟨rfl,[],uv _,rfl,rfl,ho,λi a x h=>by grind,Mo.refl _ _⟩;by_cases X:0<l.length;letI:Inhabited (Fin l.length):=⟨⟨0,X⟩⟩;have hgl:g<wr.heap.size:=apJ n;have hs:(Array.ofFn (id:Fin l.length->Fin l.length)).size=l.length:=Ky;have S:∀i:Fin l.length,i.1<c.length:=λi=>(by omega);obtain⟨enc,f⟩:∃enc:Fin l.length->Y,enc=λi=>c[i.1]'(S i):=⟨_,rfl⟩;have henc:(Array.ofFn (id:Fin l.length->Fin l.length)).toList.map enc=c:=(by apply nA;simp[B];grind);have hH:Sort.Holds enc wr g 0 (Array.ofFn id):=(by intro j z;have:j<c.length:=(by omega);have e1:(cur.toList.take<|c.length*1)[j]?=((Array.ofFn (id:Fin l.length->Fin l.length)).toList.map enc)[j]?:=(by grind);rw[jb,y U,iD,aa9,iD,lB z] at e1;refine⟨?_,bE n _⟩;rw[ir];unfold World.cell?;grind);have hC:CmpLays1 prog W #[] enc (λi j:Fin l.length=>cf l[i] l[j]) g 0 l.length wr:=(by intro m os dk hdk x b;refine(am9 (sortWorld enc wr g 0 m dk os) (Id enc dk m os wr g) (λk hk N=>zk enc dk m os hk<|λe=>N<|bd K e) x.1 b.1 (enc x) (enc b) l[x] l[b] (by grind) (by grind) (be x.2) (be b.2)).mono ?_;exact λ_ _⟨P,R⟩=>⟨P,C5 R.1 R.2⟩);have p:=Any.slices_SortFunc_eq L enc (λx=>hone _ (by grind)) (λi j:Fin l.length=>cf l[i] l[j]) hO W #[] g 0 cap (Array.ofFn id) wr eg (by grind) hH hgl (by omega);rw[hs] at p;rw[B];refine p.mono ?_;rintro r w' ⟨rfl,m,os,rfl⟩;refine⟨rfl,?_⟩;have e:Sort.pdq (ltOf λi j:Fin l.length=>cf l[i] l[j]) (Array.ofFn id) 0 l.length (Lib.bitLen l.length) aP aP=lO (λi j:Fin l.length=>cf l[i] l[j]) X:=rfl;rw[e];have O:=IR (λi j:Fin l.length=>cf l[i] l[j]) hO X;have hd:=O.1;have p3:=O.2.1;clear O p e;have eX:jM cf l=(lO (λi j:Fin l.length=>cf l[i] l[j]) X).toList.map (λi=>l[i]):=(by unfold jM;grind);rw[eX];clear eX;obtain⟨s,hd'⟩:=am<|lO (λi j:Fin l.length=>cf l[i] l[j]) X;rw[<-hd'] at hd p3⊢;have fm:∀{γ:Type}(q:V γ)(hq:q.length=l.length),(s.toList.map (·.1)).filterMap (λi=>q[i]?)=s.toList.map (λi:Fin l.length=>q[i.1]'(by omega)):=λq hq=>(by rw[List.filterMap_map];rw[<-List.filterMap_eq_map];congr 1;grind);refine⟨s.toList.map (·.1),?_,?_,by simp[hd],?_,?_,?_⟩;have k:=p3.map (λi:Fin l.length=>i.1);have e3:(Array.ofFn (id:Fin l.length->Fin l.length)).toList.map (λi:Fin l.length=>i.1)=List.range l.length:=(by apply nA;simp;simp);grind;grind;rw[fm c B];refine⟨by simp[hd],F ⟨g,cap,_,rfl,hg,QT enc s m os n,by omega,hcm,?_,?_⟩⟩;unfold Sort.putCells;grind;have e1:l.length*1=s.size:=(by omega);rw[e1,QU _ _ _ (by omega),f];intro i a x P R;rw[fm c B,aa9] at P;rw[aa9] at R;(cases z:s.toList[i]? with|none=>grind|some j=>rw[z] at P R;have hb:c[j.1]'(S j)=a:=(by grind);have hx:l[j]=x:=(by grind);exact⟨j.1,j.2,by grind,by grind,by grind⟩);exact⟨rfl,rfl,rfl,Id enc s m os wr g,λk hk N=>zk enc s m os hk<|λe=>N<|by simp[Value.ownBlock,e]⟩;have H:l=[]:=gL.1 U;have T:c=[]:=gL.1 (by omega);subst T;subst H;refine(AnyF.slices_SortFunc_none {L with} (K ⟨g,0,Z⟩) cap _ wr).mono ?_;rintro r w' ⟨rfl,rfl⟩;exact⟨rfl,[],uv _,rfl,rfl,ho,λi a x h=>by grind,Mo.refl _ _⟩
theorem afS(g n cap:Nat)(a:Nat->G->Prop)(Q:G->Prop)(w:G)(o:n<=85000000)
  (v:H (∀k wr,a k wr->k<n->∃q r m c,wr.cell? ⟨g,k,Z⟩=K (aF<|K ⟨q,0,Z⟩)/\wr.cell? ⟨q,1,Z⟩=K (D r m c)/\M 173 #[D r m c,.func (.func 174) #[] #[]] wr λe w'=>e=aJ (aG #[])/\a (k+1) w'))
  (x:H (∀wr,a n wr->M 175 #[D (K ⟨g,0,Z⟩) n cap,.func (.func 176) #[] #[]] wr λe w'=>e=aJ (aG #[])/\Q w'))
  (f:H (a 0 w)):
  M 116 #[D (K ⟨g,0,Z⟩) n cap] w λe w'=>e=aJ (aG #[])/\Q w':=by go_enter func116,ntmps116;go_wp2_with fail;go_loopg [6] n (λm S wr=>∃k:Nat,k+m=n/\S=I J k/\H (a k wr));(case atStart=>exact⟨0,U,rfl,f.o⟩);case round=>obtain⟨k,R,rfl,s⟩:=hrel;by_cases p:k<n;(.obtain⟨q,r,m,c,i,j,B⟩:=v.o k wr s.o p;have d:=hid B;have:(k:Int)<(n:Int):=U;go_wp2_with fail;refine d.o.mono ?_;rintro e t ⟨rfl,l⟩;have b:=hid l;go_wp2_with fail;go_roundg (gk-1);(case measure=>omega);case rel=>exact⟨k+1,U,af,b.o⟩);have P:k=n:=U;subst P;have d:=hid<|x.o wr s.o;go_wp2_with fail;refine d.o.mono ?_;rintro e t ⟨rfl,l⟩;have b:H (Q t):=l;go_wp2_with fail;go_end0;exact⟨rfl,b.o⟩
theorem SR(w:G):
  M 116 #[D Z 0 0] w λe w'=>e=aJ (aG #[])/\w'=w:=by have a:H (M 175 #[D Z 0 0,.func (.func 176) #[] #[]] w λe w'=>e=aJ (aG #[])/\w'=w):=AnyF.slices_SortFunc_none {Tryz.sortPg with} Z 0 _ w;go_enter func116,ntmps116;go_wp2_with fail;go_loopg [6] 0 (λm b wr=>m=0/\b=I J 0/\wr=w);exact⟨rfl,rfl,rfl⟩;obtain⟨_,rfl,rfl⟩:=hrel;go_wp2_with fail;refine a.o.mono ?_;rintro e c ⟨rfl,rfl⟩;go_wp2_with fail;go_end0;exact⟨rfl,rfl⟩
end
end Go.Proofs.YtkjhhooecopolaaGreatDoor
