import Derived.Test.YtkjhhooecopolaaGreatDoorRz00
import Derived.Test.YtkjhhooecopolaaGreatDoorProg
set_option maxRecDepth 100000
set_option maxHeartbeats 4000000
namespace Go.Proofs.YtkjhhooecopolaaGreatDoor
open Tryz
open Value renaming int->az,complex->aA,float->aB,agg->aC,bool->aD,string->aF,slice->aG,pointer->aH,tuple->aI
open IntKind renaming i64->aJ
open FloatKind renaming f64->aK
open Ending renaming returned->aL
open Go renaming World->aM,Value->aN,floatOfInt->aO
namespace Gb
section
variable{ν:Type}{f:Nat->ν}{m:Nat}
theorem Py{P:Nat->Prop}:∀{n:Nat},P n->∃k,k<=n/\P k/\∀j,j<k->¬P j:=by
 intro n;induction n using Nat.strongRecOn with
 |_ n ih=>
  intro h;by_cases hk:∃j,j<n/\P j
  .obtain⟨j,hj,hp⟩:=hk;obtain⟨k,h1,h2,h3⟩:=ih j hj hp;exact⟨k,aa,h2,h3⟩
  .exact⟨n,aY _,h,λj hj hp=>hk ⟨j,hj,hp⟩⟩
def NC(f:Nat->ν)(m:Nat):Prop:=∀i j k l:Nat,i<=j->j<m->k<=l->l<m->f i=f k->f (j+1)=f (l+1)->(∀t,i<=t->t<=j->f t≠f (l+1))->(∀t,k<=t->t<=l->f t≠f (l+1))->j=l
theorem inter(hN:NC f m){x t y u:Nat}(h1:x<t)(h2:t<=y)(h3:y<u)(h4:u<m)(hp:f x=f (y+1))(hq:f t=f (u+1))(hne:f x≠f t):False:=by
 obtain⟨a,ha,⟨ha1,ha2⟩,WI⟩:=Py (P:=λa=>x<a/\f a=f t) (n:=t) ⟨h1,rfl⟩
 obtain⟨c,hc,⟨hc1,hc2⟩,hc3⟩:=Py (P:=λc=>y+1<=c/\f (c+1)=f t) (n:=u) ⟨h3,hq.symm⟩
 have:=hN x (a-1) (y+1) c aa aa hc1 aa hp (by rw[show a-1+1=a by omega,ha2,hc2]) (λs k1 k2=>?_) (λs k1 k2=>?_)
 .omega
 .rw[hc2];by_cases e:s=x
  .rw[e];exact hne
  .exact λk=>WI s aa ⟨aa,k⟩
 .rw[hc2];by_cases e:s=y+1
  .rw[e,<-hp];exact hne
  .exact λk=>hc3 (s-1) aa ⟨aa,by rw[show s-1+1=s by omega];exact k⟩
def mR(f:Nat->ν):ν->List Nat->ν->Prop
 |p,[],q=>p=q
 |p,x::O,q=>f x=p/\mR f (f (x+1)) O q
theorem mR.split:∀{A B:List Nat}{p q:ν},mR f p (A++B) q->∃c,mR f p A c/\mR f c B q
 |[],_,p,_,h=>⟨p,rfl,h⟩
 |x::A,_,_,_,h=>by
  obtain⟨c,h1,h2⟩:=mR.split h.2;exact⟨c,⟨h.1,h1⟩,h2⟩
theorem mR.snoc:∀{A:List Nat}{p:ν}{i:Nat},mR f p A (f i)->mR f p (A++[i]) (f (i+1))
 |[],_,_,h=>⟨Eq.symm h,rfl⟩
 |_::_,_,_,h=>⟨h.1,mR.snoc h.2⟩
theorem mR.get:∀{A:List Nat}{p q:ν},mR f p A q->∀(k x x':Nat),A[k]?=some x->A[k+1]?=some x'->f x'=f (x+1)
 |[],_,_,_,_,_,_,h,_=>by simp at h
 |[_],_,_,_,_,_,_,_,h=>by simp at h
 |a::b::A,_,_,h,0,x,x',h1,h2=>by
  simp at h1 h2;subst h1 h2;exact h.2.1
 |a::b::A,_,_,h,k+1,x,x',h1,h2=>mR.get h.2 k x x' (by simpa using h1) (by simpa using h2)
structure GD(f:Nat->ν)(m:Nat)(D:List Nat)(d:Nat):Prop where
 head:D.head?=some d
 inc:D.Pairwise (· < ·)
 lt:∀x∈D,x<m
 FX:mR f (f d) D (f d)
 qB:D.Pairwise (λx y=>f x≠f y)
 cls:∀z,D.getLast?=some z->∀t,d<t->t<=z->f t≠f d
 Pz:∀k x x':Nat,D[k]?=some x->D[k+1]?=some x'->(∀t,t<=x->f t≠f (x+1))/\(∀t,x'<t->t<m->f t≠f (x+1))
def AL(f:Nat->ν)(i:Nat)(a b:List Nat×List (List Nat)):Prop:=
 ((∀o∈a.1++[i],f o≠f (i+1))/\b=(a.1++[i],a.2))\/
 ∃O1 d D,a.1++[i]=O1++d::D/\f d=f (i+1)/\(∀o∈O1,f o≠f (i+1))/\b=(O1,a.2++[d::D])
structure IV(f:Nat->ν)(m i:Nat)(s:List Nat×List (List Nat)):Prop where
 inc:s.1.Pairwise (· < ·)
 lt:∀o∈s.1,o<i
 FX:mR f (f 0) s.1 (f i)
 qB:s.1.Pairwise (λx y=>f x≠f y)
 old:∀t,t<i->t∉s.1->∃x y,x<=t/\t<=y/\y<i/\f x=f (y+1)/\∀o∈s.1,o<x\/y<o
 arr:∀o∈s.1,∀u,o<=u->u<i->f (u+1)≠f o
 per:(s.1++s.2.flatten).Perm (List.range i)
 good:∀D∈s.2,∃d,GD f m D d
theorem IV.start:IV f m 0 ([],[]):=⟨List.Pairwise.nil,af,rfl,List.Pairwise.nil,λt ht=>aa,af,af,af⟩
theorem IV.push{i:Nat}{s:List Nat×List (List Nat)}(h:IV f m i s):(s.1++[i]).Pairwise (· < ·)/\(s.1++[i]).Pairwise (λx y=>f x≠f y)/\mR f (f 0) (s.1++[i]) (f (i+1)):=by
 refine⟨?_,?_,h.FX.snoc⟩
 .rw[JH];exact⟨h.inc,af,λa ha b hb=>by rw[dh.1 hb];exact h.lt a ha⟩
 .rw[JH];refine⟨h.qB,af,λa ha b hb=>?_⟩
  rw[dh.1 hb];have hlt:=h.lt a ha;have:=h.arr a ha (i-1) aa aa
  rw[show i-1+1=i by omega] at this
  exact λe=>this e.symm
theorem IV.step{i:Nat}(hN:NC f m)(hne:∀j,j<m->f j≠f (j+1))(hi:i<m){s s':List Nat×List (List Nat)}(h:IV f m i s)(hs:AL f i s s'):IV f m (i+1) s':=by
 obtain⟨PA,Dm,PC⟩:=h.push;have hlt:∀o∈s.1++[i],o<i+1:=λo ho=>by
  rcases dv.1 ho with ho|ho
  .have:=h.lt o ho;omega
  .rw[dh.1 ho];omega
 have hold:∀t,t<i+1->t∉s.1++[i]->∃x y,x<=t/\t<=y/\y<i/\f x=f (y+1)/\∀o∈s.1++[i],o<x\/y<o:=λt ht hn=>by
  have h1:t∉s.1:=λk=>hn (vX _ k)
  have h2:t≠i:=λk=>hn (by rw[k];simp)
  obtain⟨x,y,k1,k2,k3,k4,k5⟩:=h.old t aa h1
  refine⟨x,y,k1,k2,k3,k4,λo ho=>?_⟩
  rcases dv.1 ho with ho|ho
  .exact k5 o ho
  .rw[dh.1 ho];exact aT k3
 rcases hs with⟨hno,rfl⟩|⟨O1,d,D,hsp,hd,hno,rfl⟩
 .refine⟨PA,hlt,PC,Dm,λt ht hn=>?_,λo ho u h1 h2=>?_,?_,h.good⟩
  .obtain⟨x,y,k1,k2,k3,k4,k5⟩:=hold t ht hn;exact⟨x,y,k1,k2,aa,k4,k5⟩
  .by_cases e:u=i
   .rw[e];exact λk=>hno o ho k.symm
   .rcases dv.1 ho with ho|ho
    .exact h.arr o ho u h1 aa
    .have:=dh.1 ho;omega
  .show((s.1++[i])++s.2.flatten).Perm _;rw[JI];refine List.Perm.trans ?_ (h.per.append_right [i]);rw[fH,fH];exact JJ _ OE
 .rw[hsp] at PA Dm PC hlt hold;obtain⟨ahp,Kn,ahq⟩:=JH.1 PA;obtain⟨ahr,PD,ahs⟩:=JH.1 Dm;obtain⟨c,hc1,hc2⟩:=PC.split;have Ko:c=f d:=hc2.1.symm;have hlast:∀z,(d::D).getLast?=some z->z=i:=λz hz=>by
   have:(s.1++[i]).getLast?=some z:=by rw[hsp,agi,hz];rfl
   simpa using this.symm
  have Dp:∀o∈O1,o∈s.1/\o<d:=λo ho=>by
   have hod:o<d:=ahq o ho d af
   have Kq:o∈s.1++[i]:=by rw[hsp];exact vX _ ho
   rcases dv.1 Kq with k|k
   .exact⟨k,hod⟩
   .have:=dh.1 k;have:=hlt d af
    omega
  have Dq:∀x∈d::D,d<=x/\x<=i:=λx hx=>by
   have:=hlt x (CQ _ hx);rcases bU.1 hx with k|k
   .omega
   .have:=(ik.1 Kn).1 x k;omega
  have hdi:d<i:=by
   have:=Dq d af
   by_cases e:d=i
   .rw[e] at hd;exact absurd hd (hne i hi)
   .omega
  have hds:d∈s.1:=by
   have:d∈s.1++[i]:=by rw[hsp];simp
   rcases dv.1 this with k|k
   .exact k
   .have:=dh.1 k;omega
  refine⟨ahp,λo ho=>?_,?_,ahr,λt ht hn=>?_,λo ho u h1 h2=>?_,?_,λD' hD'=>?_⟩
  .have:=(Dp o ho).2;show o<i+1;omega
  .show mR f (f 0) O1 (f (i+1));rw[<-hd,<-Ko];exact hc1
  .by_cases hm:t∈d::D
   .refine⟨d,i,(Dq t hm).1,(Dq t hm).2,aa,hd,λo ho=>aU (Dp o ho).2⟩
   .have hn':t∉O1++d::D:=λk=>by
     rcases dv.1 k with k|k
     .exact hn k
     .exact hm k
    obtain⟨x,y,k1,k2,k3,k4,k5⟩:=hold t ht hn';exact⟨x,y,k1,k2,aa,k4,λo ho=>k5 o (vX _ ho)⟩
  .by_cases e:u=i
   .rw[e];exact λk=>hno o ho k.symm
   .exact h.arr o (Dp o ho).1 u h1 aa
  .show(O1++(s.2++[d::D]).flatten).Perm _;have e1:(s.2++[d::D]).flatten=s.2.flatten++(d::D):=af
   rw[e1,JI];refine List.Perm.trans ?_ (h.per.append_right [i]);have e2:(O1++(s.2.flatten++(d::D))).Perm ((O1++d::D)++s.2.flatten):=by
    rw[fH];exact JJ _ OE
   refine e2.trans ?_;rw[<-hsp,fH,fH];exact JJ _ OE
  .rcases dv.1 hD' with hD'|hD'
   .exact h.good D' hD'
   .rw[dh.1 hD'];refine⟨d,rfl,Kn,λx hx=>?_,?_,PD,λz hz t h1 h2=>?_,λk x x' hx hx'=>?_⟩
    .have:=(Dq x hx).2;omega
    .rw[Ko,<-hd] at hc2;exact hc2
    .have:=hlast z hz;have a:=h.arr d hds (t-1) aa aa
     rw[show t-1+1=t by omega] at a
     exact a
    ·
     have wK:x∈d::D:=bT hx;have Kr:x'∈d::D:=bT hx';have hq:f x'=f (x+1):=hc2.get k x x' hx hx';have hxx:x<x':=by
      have hk1:=(cG.1 hx);have hk2:=(cG.1 hx');have:=(mn.1 Kn) k (k+1) hk1.1 hk2.1 aa
      rw[hk1.2,hk2.2] at this;exact this
     have ahu:d<x':=by have:=(Dq x wK).1;omega
     have mE:f d≠f x':=by
      rcases bU.1 Kr with e|e
      .omega
      .exact(ik.1 PD).1 x' e
     have ahv:=(Dq x' Kr).2;have hxs:x∈s.1:=by
      have:x∈s.1++[i]:=by rw[hsp];exact CQ _ wK
      rcases dv.1 this with q|q
      .exact q
      .have:=dh.1 q;omega
     constructor
     .intro t0 ht0 hf0;obtain⟨k0,wL,⟨hk1,hk2⟩,hk3⟩:=Py (P:=λj=>j<=x/\f (x-j)=f (x+1)) (n:=x-t0) ⟨aa,by rw[show x-(x-t0)=t0 by omega];exact hf0⟩
      have htx:x-k0≠x:=λe=>by
       rw[e] at hk2;exact hne x aa hk2
      have hts:x-k0∉O1++d::D:=λq=>by
       have hd2:∀o∈O1++d::D,o<x'->f o≠f x':=λo ho hox=>by
        rcases dv.1 ho with q|q
        .exact ahs o q x' Kr
        .obtain⟨i1,hi1,e1⟩:=kO.1 q;have FY:=(cG.1 hx');have yN:i1<k+1:=by
          rcases CS i1 (k+1) with w|w|w
          .exact w
          .subst w;rw[FY.2] at e1;omega
          .have:=(mn.1 Kn) (k+1) i1 FY.1 hi1 w;rw[FY.2,e1] at this;omega
         have:=(mn.1 PD) i1 (k+1) hi1 FY.1 yN;rw[FY.2,e1] at this;exact this
       exact hd2 _ q aa (hk2.trans hq.symm)
      obtain⟨a,y,y1,y2,y3,y4,y5⟩:=hold (x-k0) aa hts
      have hyx:y<x:=by
       rcases y5 x (CQ _ wK) with q|q
       .omega
       .exact q
      by_cases e:f a=f (x+1)
      .refine hk3 (x-(y+1)) aa ⟨aa,?_⟩
       rw[show x-(x-(y+1))=y+1 by omega,<-y4,e]
      .refine inter hN (x:=a) (t:=x-k0) (y:=y) (u:=x) ?_ y2 hyx aa y4 hk2 (by rw[hk2];exact e)
       rcases oK a (x-k0) with w|w
       .exact w
       .have:a=x-k0:=aa
        rw[this] at e;exact absurd hk2 e
     .intro t ht htm hft;have hu:f (t-1+1)=f x':=by rw[show t-1+1=t by omega,hft,hq]
      rcases CS (t-1) i with w|w|w
      .have ahx:x'∈s.1:=by
        have:x'∈s.1++[i]:=by rw[hsp];exact CQ _ Kr
        rcases dv.1 this with q|q
        .exact q
        .have:=dh.1 q;omega
       exact h.arr x' ahx (t-1) aa w hu
      .rw[w] at hu;rw[<-hd] at hu;exact mE hu
      .exact inter hN (x:=d) (t:=x') (y:=i) (u:=t-1) ahu ahv w aa hd hu.symm mE
theorem parted(hN:NC f m)(hne:∀j,j<m->f j≠f (j+1))(h0:f m=f 0)(st:Nat->List Nat×List (List Nat))(hs0:st 0=([],[]))(hst:∀i,i<m->AL f i (st i) (st (i+1))):
  (st m).1=[]/\(st m).2.flatten.Perm (List.range m)/\∀D∈(st m).2,∃d,GD f m D d:=by
 have key:∀i,i<=m->IV f m i (st i):=λi=>by
  induction i with
  |zero=>intro _;rw[hs0];exact IV.start
  |succ i ih=>intro hi;exact(ih aa).step hN hne aa (hst i aa)
 have h:=key m (aY _);have he:(st m).1=[]:=by
  cases hO:(st m).1 with
  |nil=>rfl
  |cons o O=>
   exfalso;have hc:=h.FX;rw[hO] at hc;have hlt:=h.lt o (by rw[hO];simp)
   have:=h.arr o (by rw[hO];simp) (m-1) aa aa
   rw[show m-1+1=m by omega,h0,hc.1] at this
   exact this rfl
 refine⟨he,?_,h.good⟩;have:=h.per;rw[he] at this;exact this
end
end Gb
namespace Gb
open Ge Ga
theorem wM(nx:Sg->Sg)(s:Sg):∀a b,it nx (a+b) s=it nx a (it nx b s)
 |0,b=>by rw[jD];rfl
 |a+1,b=>by
  rw[show a+1+b=(a+b)+1 by omega]
  show nx (it nx (a+b) s)=nx (it nx a (it nx b s));rw[wM nx s a b]
theorem Ks(nx:Sg->Sg)(s:Sg)(k:Nat):FV nx s (it nx k s):=⟨k,rfl⟩
def AO(nx:Sg->Sg)(s t:Sg):Prop:=t.1=s.2/\∃k,it nx k t=s/\∀j,0<j->j<=k->(it nx j t).1≠s.2
structure iW(S:List Sg)(nx:Sg->Sg)(R:List Sg):Prop where
 ne:R≠[]
 mem:∀s∈R,s∈S
 qB:R.Pairwise (λs t=>s.1≠t.1)
 rD:∀(k:Nat) s t,R[k]?=some s->R[k+1]?=some t->AO nx s t
 cls:∀s t,R.getLast?=some s->R.head?=some t->AO nx s t
section
variable{S:List Sg}{nx:Sg->Sg}
theorem Wd.WJ(h:Wd S nx):∀(k:Nat){s t:Sg},s∈S->t∈S->it nx k s=it nx k t->s=t
 |0,_,_,_,_,e=>e
 |k+1,_,_,hs,ht,e=>h.WJ k hs ht (h.inj _ (h.pM hs k) _ (h.pM ht k) e)
theorem Wd.wN(h:Wd S nx){s:Sg}(hs:s∈S)(k:Nat):(it nx (k+1) s).1=(it nx k s).2:=(h.Dj _ (h.pM hs k)).2
theorem AO.uniq(h:Wd S nx){s t t':Sg}(ht:t∈S)(ht':t'∈S)(h1:AO nx s t)(h2:AO nx s t'):t=t':=by
 have key:∀{t t':Sg}{k k':Nat},t∈S->t'∈S->k<=k'->it nx k t=s->it nx k' t'=s->t.1=s.2->(∀j,0<j->j<=k'->(it nx j t').1≠s.2)->t=t':=by
  intro t t' k k' ht ht' hk e1 e2 hf hno;have e:t=it nx (k'-k) t':=by
   refine h.WJ k ht (h.pM ht' _) ?_;rw[<-wM,show k+(k'-k)=k' by omega,e1,e2]
  by_cases hz:k'-k=0
  .rw[hz] at e;exact e
  .exact absurd (by rw[<-e];exact hf) (hno (k'-k) aa aa)
 obtain⟨f1,k,e1,n1⟩:=h1;obtain⟨f2,k',e2,n2⟩:=h2;rcases Nat.le_total k k' with q|q
 .exact key ht ht' q e1 e2 f1 n2
 .exact(key ht' ht q e2 e1 f2 n1).symm
theorem PE{α:Type}(a:List α){b:List α}(h:b≠[]):(a++b).getLast?=b.getLast?:=by
 rw[agi];cases hb:b.getLast? with
 |none=>exact absurd (CT.1 hb) h
 |some x=>rfl
theorem iW.nd{R:List Sg}(h:iW S nx R):R.Nodup:=h.qB.imp λk e=>k (by rw[e])
theorem iW.PF{A B:List Sg}(h:iW S nx (A++B)):iW S nx (B++A):=by
 rcases A with _|⟨a,A⟩
 .simpa using h
 rcases B with _|⟨b,B⟩
 .simpa using h
 refine⟨af,λs hs=>h.mem s (by simp at hs⊢;rcases hs with k|k|k|k<;>simp[k]),?_,λk s t hs ht=>?_,λs t hs ht=>?_⟩
 .have:=h.qB;rw[JH] at this⊢;exact⟨this.2.1,this.1,λx hx y hy=>(this.2.2 y hy x hx).symm⟩
 .rcases CS (k+1) (b::B).length with q|q|q
  .rw[fI aa] at hs
   rw[fI q] at ht;refine h.rD ((a::A).length+k) s t ?_ ?_
   .rw[nJ aa,show(a::A).length+k-(a::A).length=k by omega];exact hs
   .rw[nJ aa,show(a::A).length+k+1-(a::A).length=k+1 by omega];exact ht
  .rw[fI aa] at hs
   rw[nJ aa,show k+1-(b::B).length=0 by omega] at ht
   refine h.cls s t ?_ ?_
   .rw[PE _ af,pG,show(b::B).length-1=k by omega];exact hs
   .simpa using ht
  .rw[nJ aa] at hs ht
   refine h.rD (k-(b::B).length) s t ?_ ?_
   .have:=(cG.1 hs).1;rw[fI this];exact hs
   .have:=(cG.1 ht).1;rw[show k-(b::B).length+1=k+1-(b::B).length by omega,fI this];exact ht
 .rw[PE _ af] at hs
  have ht':b=t:=by simpa using ht
  refine h.rD ((a::A).length-1) s t ?_ ?_
  .rw[fI af,<-pG];exact hs
  .rw[nJ af,show(a::A).length-1+1-(a::A).length=0 by simp];simp[ht']
theorem iW.eq(h:Wd S nx){R R':List Sg}(k:iW S nx R)(k':iW S nx R')(he:R.head?=R'.head?):R=R':=by
 have pre:∀{R R':List Sg},iW S nx R->iW S nx R'->R.head?=R'.head?->∀i,i<R.length->i<R'.length->R[i]?=R'[i]?:=by
  intro R R' k k' he i;induction i with
  |zero=>intro _ _;rw[<-CU,<-CU];exact he
  |succ i ih=>
   intro h1 h2;have e:=ih aa aa
   have a1:R[i]?=some R[i]:=bo aa
   have a2:R[i+1]?=some R[i+1]:=bo h1;have b2:R'[i+1]?=some R'[i+1]:=bo h2;have r1:=k.rD i _ _ a1 a2;have r2:=k'.rD i _ _ (e.symm.trans a1) b2;rw[a2,b2,r1.uniq h (k.mem _ (gZ h1)) (k'.mem _ (gZ h2)) r2]
 have len:∀{R R':List Sg},iW S nx R->iW S nx R'->R.head?=R'.head?->¬R.length<R'.length:=by
  intro R R' k k' he hl;have hp:0<R.length:=jE.2 k.ne;have e:=pre k k' he (R.length-1) aa aa
  have a1:R[R.length-1]?=some R[R.length-1]:=bo aa
  have hh:R.head?=some R[0]:=by rw[CU];exact bo hp
  have r1:=k.cls _ _ (by rw[pG];exact a1) hh
  have b2:R'[R.length-1+1]?=some R'[R.length]:=by rw[show R.length-1+1=R.length by omega];exact bo hl
  have r2:=k'.rD (R.length-1) _ _ (e.symm.trans a1) b2;have e3:=r1.uniq h (k.mem _ (gZ hp)) (k'.mem _ (gZ hl)) r2;have h0:R'[0]?=some R[0]:=by rw[<-CU,<-he];exact hh
  have h0':=cG.1 h0;have:=(mn.1 k'.qB) 0 R.length h0'.1 hl hp;rw[h0'.2,e3] at this;exact this rfl
 refine Fj λi=>?_
 have l1:=len k k' he;have l2:=len k' k he.symm;by_cases hi:i<R.length
 .exact pre k k' he i hi aa
 .rw[yw aa,yw aa]
structure FZ(nx:Sg->Sg)(s:Sg)(m:Nat):Prop where
 pos:0<m
 per:it nx m s=s
 nd:∀i j,i<m->j<m->it nx i s=it nx j s->i=j
theorem Wd.path(h:Wd S nx){s:Sg}(hs:s∈S)(i:Nat):∀n,Path (it nx i s).1 ((List.range' i n).map (λj=>it nx j s)) (it nx (i+n) s).1
 |0=>rfl
 |n+1=>by
  rw[List.range'_concat,jC];refine(h.path hs i n).append ?_;simp only[VB,ij,JK];exact⟨rfl,by show(it nx (i+n) s).2=(it nx (i+(n+1)) s).1;rw[<-agj,h.wN hs]⟩
theorem Wd.nc(h:Wd S nx){s:Sg}(hs:s∈S){m:Nat}(hc:FZ nx s m):NC (λi=>(it nx i s).1) m:=by
 intro i j k l h1 h2 h3 h4 hf hq n1 n2;have PG:∀i j,i<=j->(List.range' i (j-i)).map (λt=>it nx t s)++[it nx j s]=(List.range' i (j-i+1)).map (λt=>it nx t s):=λi j hij=>by
  rw[List.range'_concat,jC];simp only[VB,ij,JK];rw[show i+(j-i)=j by omega]
 have hA:Path (it nx i s).1 ((List.range' i (j-i)).map (λt=>it nx t s)++[it nx j s]) (it nx (l+1) s).1:=by
  rw[PG i j h1];have:=h.path hs i (j-i+1);rw[show i+(j-i+1)=j+1 by omega] at this
  have hq':(it nx (j+1) s).1=(it nx (l+1) s).1:=hq;rw[<-hq'];exact this
 have hC:Path (it nx i s).1 ((List.range' k (l-k)).map (λt=>it nx t s)++[it nx l s]) (it nx (l+1) s).1:=by
  rw[PG k l h3];have:=h.path hs k (l-k+1);rw[show k+(l-k+1)=l+1 by omega] at this
  have hf':(it nx i s).1=(it nx k s).1:=hf;rw[hf'];exact this
 have mem:∀i j,i<=j->∀u∈(List.range' i (j-i)).map (λt=>it nx t s)++[it nx j s],∃t,i<=t/\t<=j/\u=it nx t s:=λi j hij u hu=>by
  rw[PG i j hij] at hu;obtain⟨t,ht,rfl⟩:=bQ.1 hu;rw[JL] at ht;exact⟨t,aa,aa,rfl⟩
 have e:=h.aho hA hC (λu hu=>by
   obtain⟨t,_,_,rfl⟩:=mem i j h1 u hu;exact h.pM hs t) (λu hu=>by
   obtain⟨t,_,_,rfl⟩:=mem k l h3 u hu;exact h.pM hs t) (λu hu=>by
   obtain⟨t,a,b,rfl⟩:=mem i j h1 u hu;exact n1 t a b) (λu hu=>by
   obtain⟨t,a,b,rfl⟩:=mem k l h3 u hu;exact n2 t a b) (by
   rcases Nat.le_total j l with q|q
   .refine aU ?_;have:=Ks nx (it nx j s) (l-j);rw[<-wM,show l-j+j=l by omega] at this
    exact this
   .refine aT ?_;have:=Ks nx (it nx l s) (j-l);rw[<-wM,show j-l+l=j by omega] at this
    exact this)
 exact hc.nd j l h2 h4 e
theorem F4{α β:Type}(g:α->β)(l:List α):(l.map g).getLast?=l.getLast?.map g:=af
theorem GD.ring(h:Wd S nx){s:Sg}(hs:s∈S){m:Nat}(hc:FZ nx s m){D:List Nat}{d:Nat}(hD:GD (λi=>(it nx i s).1) m D d):iW S nx (D.map λi=>it nx i s):=by
 have per:∀j,it nx (m+j) s=it nx j s:=λj=>by rw[Nat.add_comm,wM,hc.per]
 refine⟨λe=>?_,λu hu=>?_,?_,λk u t hu ht=>?_,λu t hu ht=>?_⟩
 .have:=hD.head;rw[uA.1 e] at this;cases this
 .obtain⟨t,_,rfl⟩:=bQ.1 hu;exact h.pM hs t
 .rw[oL];exact hD.qB
 .rw[iI] at hu ht;obtain⟨x,hx,rfl⟩:=rp.1 hu;obtain⟨x',hx',rfl⟩:=rp.1 ht;have hq:(it nx x' s).1=(it nx (x+1) s).1:=hD.FX.get k x x' hx hx';obtain⟨n1,n2⟩:=hD.Pz k x x' hx hx';rw[h.wN hs] at hq;have lx:=hD.lt x (bT hx);have lx':=hD.lt x' (bT hx');refine⟨hq,m-x'+x,?_,λj j1 j2=>?_⟩
  .rw[<-wM,show m-x'+x+x'=m+x by omega,per]
  .rw[<-wM];by_cases hj:j+x'<m
   .have:=n2 (j+x') aa hj
    simp only[h.wN hs x] at this;exact this
   .have:=n1 (j+x'-m) aa
    simp only[h.wN hs x] at this;rw[show j+x'=m+(j+x'-m) by omega,per]
    exact this
 .rw[F4] at hu;rw[List.head?_map] at ht;obtain⟨x,hx,rfl⟩:=rp.1 hu;obtain⟨x',hx',rfl⟩:=rp.1 ht;rw[hD.head] at hx';obtain rfl:d=x':=mO hx';have wK:x∈D:=sK hx;have hcl:(it nx (x+1) s).1=(it nx d s).1:=by
   obtain⟨L,hL⟩:=List.getLast?_eq_some_iff.1 hx;have k:=hD.FX;rw[hL] at k;obtain⟨c,_,k2⟩:=k.split;exact k2.2
  rw[h.wN hs] at hcl;have hdx:d<=x:=by
   have e:=hD.head;cases D with
   |nil=>cases e
   |cons a D=>
    have:a=d:=mO e;subst this;rcases bU.1 wK with k|k
    .omega
    .have:=(ik.1 hD.inc).1 x k;omega
  refine⟨hcl.symm,x-d,?_,λj j1 j2=>?_⟩
  .rw[<-wM,show x-d+d=x by omega]
  .rw[<-wM,hcl];exact hD.cls x hx (j+d) aa aa
end
def Fc(S:List Sg)(s u:Sg):Prop:=∀es,Cl es->In S es->Lf es s=Lf es u
theorem Fc.symm{S:List Sg}{s u:Sg}(h:Fc S s u):Fc S u s:=λes a b=>(h es a b).symm
theorem Fc.trans{S:List Sg}{s u v:Sg}(h:Fc S s u)(k:Fc S u v):Fc S s v:=λes a b=>(h es a b).trans (k es a b)
structure LR(S:List Sg)(nx:Sg->Sg)(R:List Sg):Prop where
 ring:iW S nx R
 least:∀a,R.head?=some a->∀s∈R,ge a.1 s.1
def shl(R:List Sg):Prop:=∃a z,R.head?=some a/\R.getLast?=some z/\0<cr (dr z) (dr a)
theorem WK:∀(R:List Sg),R≠[]->∃a∈R,∀s∈R,ge a.1 s.1
 |[],h=>absurd rfl h
 |[a],_=>⟨a,af,λs hs=>by rw[dh.1 hs];exact Kh _⟩
 |a::b::R,_=>by
  obtain⟨c,hc,hl⟩:=WK (b::R) af
  rcases Pq a.1 c.1 with k|k
  .refine⟨a,af,λs hs=>?_⟩
   rcases bU.1 hs with e|e
   .rw[e];exact Kh _
   .exact Pr k (hl s e)
  .refine⟨c,bX _ hc,λs hs=>?_⟩
   rcases bU.1 hs with e|e
   .rw[e];exact k
   .exact hl s e
section
variable{S:List Sg}{nx:Sg->Sg}
theorem Wd.fc(h:Wd S nx){s u:Sg}(hs:s∈S)(hw:FV nx s u):Fc S s u:=λ_ a b=>(h.along a b hs hw).symm
theorem WM:∀(T:List Sg)(a:Sg),(∀(k:Nat) s t,(a::T)[k]?=some s->(a::T)[k+1]?=some t->t.1=s.2)->∀z,(a::T).getLast?=some z->Path a.1 (a::T) z.2
 |[],a,_,z,hz=>by
  have:a=z:=by simpa using hz
  rw[this];exact Path.one
 |b::T,a,h,z,hz=>by
  refine⟨rfl,?_⟩;have e:b.1=a.2:=h 0 a b rfl rfl;rw[<-e];exact WM T b (λk s t hs ht=>h (k+1) s t (by simpa using hs) (by simpa using ht)) z (by simpa using hz)
theorem iW.path{R:List Sg}(k:iW S nx R){a:Sg}(ha:R.head?=some a):Path a.1 R a.1:=by
 cases R with
 |nil=>cases ha
 |cons b T=>
  obtain rfl:b=a:=mO ha;obtain⟨z,hz⟩:∃z,(b::T).getLast?=some z:=by
   cases e:(b::T).getLast? with
   |none=>exact absurd (CT.1 e) af
   |some z=>exact⟨z,rfl⟩
  have:=WM T b (λi s t hs ht=>(k.rD i s t hs ht).1) z hz
  rw[<-(k.cls z b hz rfl).1] at this;exact this
theorem iW.WN{R:List Sg}(k:iW S nx R):∃A B,R=A++B/\LR S nx (B++A):=by
 obtain⟨a,ha,hl⟩:=WK R k.ne;obtain⟨A,B,e⟩:=agk ha;refine⟨A,a::B,e,?_,λb hb s hs=>?_⟩
 .rw[e] at k;exact k.PF
 .obtain rfl:a=b:=by simpa using hb
  refine hl s ?_;rw[e];simp at hs⊢;rcases hs with q|q|q<;>simp[q]
theorem LR.rg(h:Wd S nx){R:List Sg}(k:LR S nx R){a z:Sg}(ha:R.head?=some a)(hz:R.getLast?=some z):∃M,Rg S R a M z:=by
 have hp:=k.ring.path ha;cases R with
 |nil=>cases ha
 |cons b T=>
  obtain rfl:b=a:=mO ha;have hT:T≠[]:=λe=>by
   rw[e] at hp;exact h.ne b (k.ring.mem b af) hp.2.symm
  obtain⟨M,y,e⟩:∃M y,T=M++[y]:=⟨T.dropLast,T.getLast hT,(List.dropLast_concat_getLast hT).symm⟩;obtain rfl:y=z:=by
   rw[e] at hz;simpa[List.getLast?_cons,List.getLast?_append] using hz
  exact⟨M,by rw[e],hp,k.ring.mem,λs hs=>((ik.1 k.ring.qB).1 s (by rw[e];exact hs)).symm,k.least b rfl⟩
theorem nS{R:List Sg}(h:R≠[]):∃a z,R.head?=some a/\R.getLast?=some z:=by
 cases e:R.getLast? with
 |none=>exact absurd (CT.1 e) h
 |some z=>
  cases R with
  |nil=>exact absurd rfl h
  |cons a T=>exact⟨a,z,rfl,rfl⟩
theorem LR.val(h:Wd S nx){R:List Sg}(k:LR S nx R){a:Sg}(ha:R.head?=some a):(shl R->Lf R a=1)/\(¬shl R->Lf R a=0):=by
 obtain⟨a',z,ha',hz⟩:=nS k.ring.ne;obtain rfl:a'=a:=mO (ha'.symm.trans ha);obtain⟨M,hg⟩:=k.rg h ha' hz;have hv:=hg.val h;constructor
 .rintro⟨b,y,hb,hy,hc⟩;obtain rfl:b=a':=mO (hb.symm.trans ha');obtain rfl:y=z:=mO (hy.symm.trans hz);rw[aV hc] at hv;exact hv
 .intro hn;rw[aQ (λhc=>hn ⟨a',z,ha',hz,hc⟩)] at hv
  exact hv
theorem LR.cl(h:Wd S nx){R:List Sg}(k:LR S nx R):Cl R/\In S R:=by
 obtain⟨a,z,ha,hz⟩:=nS k.ring.ne;obtain⟨M,hg⟩:=k.rg h ha hz;exact⟨hg.cl h,hg.bu⟩
theorem LR.one(h:Wd S nx){R R':List Sg}(k:LR S nx R)(k':LR S nx R')(hs:shl R)(hs':shl R'){a a':Sg}(ha:R.head?=some a)(ha':R'.head?=some a')(hf:Fc S a a'):R=R':=by
 apply mj;intro hne;have hna:a≠a':=λe=>hne (k.ring.eq h k'.ring (by rw[ha,ha',e]))
 obtain⟨b,z,hb,hz⟩:=nS k.ring.ne;obtain rfl:b=a:=mO (hb.symm.trans ha);obtain⟨b',z',hb',hz'⟩:=nS k'.ring.ne;obtain rfl:b'=a':=mO (hb'.symm.trans ha');obtain⟨M,hg⟩:=k.rg h ha hz;obtain⟨M',hg'⟩:=k'.rg h ha' hz';have v:=(k.val h ha).1 hs;have v':=(k'.val h ha').1 hs';exact hg.asym h hg' hna ((hf R' (k'.cl h).1 (k'.cl h).2).trans v') ((hf.symm R (k.cl h).1 (k.cl h).2).trans v)
theorem LR.eq(h:Wd S nx){R R':List Sg}(k:LR S nx R)(k':LR S nx R'){s:Sg}(hs:s∈R)(hs':s∈R'):R=R':=by
 obtain⟨A,B,e⟩:=agk hs;obtain⟨A',B',e'⟩:=agk hs';have r:iW S nx (s::B++A):=by have:=k.ring;rw[e] at this;exact this.PF
 have r':iW S nx (s::B'++A'):=by have:=k'.ring;rw[e'] at this;exact this.PF
 have hQ:=r.eq h r' af
 have mem:∀u,u∈R↔u∈R':=λu=>by
  have m1:u∈R↔u∈s::B++A:=by rw[e];simp;constructor<;>(rintro(q|q|q)<;>simp[q])
  have m2:u∈R'↔u∈s::B'++A':=by rw[e'];simp;constructor<;>(rintro(q|q|q)<;>simp[q])
  rw[m1,m2,hQ]
 obtain⟨a,z,ha,_⟩:=nS k.ring.ne;obtain⟨a',z',ha',_⟩:=nS k'.ring.ne;have hm:a∈R:=by cases R with
  |nil=>cases ha
  |cons b T=>rw[<-mO ha];simp
 have hm':a'∈R':=by cases R' with
  |nil=>cases ha'
  |cons b T=>rw[<-mO ha'];simp
 have ef:a.1=a'.1:=Kg (k.least a ha a' ((mem a').2 hm')) (k'.least a' ha' a ((mem a).1 hm));have ea:a=a':=by
  apply mj;intro hne;have hmr:=(mem a').2 hm';obtain⟨i,hi,ei⟩:=kO.1 hm;obtain⟨j,hj,ej⟩:=kO.1 hmr;have pw:=mn.1 k.ring.qB;rcases CS i j with q|q|q
  .have:=pw i j hi hj q;rw[ei,ej] at this;exact this ef
  .subst q;exact hne (ei.symm.trans ej)
  .have:=pw j i hj hi q;rw[ei,ej] at this;exact this ef.symm
 exact k.ring.eq h k'.ring (by rw[ha,ha',ea])
def tG:Sg->List Sg->List Sg
 |_,[]=>[]
 |b,s::A=>if cr (dr b) (dr s)=0 then tG s A else s::tG s A
def s0:Sg:=((0,0),(0,0))
def dE(R:List Sg):List Pt:=(tG (R.getLastD s0) R).map Prod.fst
theorem WQ{x y z:Pt}(h1:bh x z=true)(h2:bh y z=true):bh (x.1+y.1,x.2+y.2) z=true:=by
 rw[dP] at h1 h2⊢;unfold cr dt at*;simp only;constructor
 .have:(x.1+y.1)*z.2-(x.2+y.2)*z.1=(x.1*z.2-x.2*z.1)+(y.1*z.2-y.2*z.1):=by grind
  omega
 .have:(x.1+y.1)*z.1+(x.2+y.2)*z.2=(x.1*z.1+x.2*z.2)+(y.1*z.1+y.2*z.2):=by grind
  omega
theorem Dr{x y z:Pt}(h1:bh x y=true)(h2:bh y z=true):bh x z=true:=by
 rw[dP] at*;have hy:=fW (wG (D:=x) (r:=y) aa)
 have e1:dt y y*cr x z=cr x y*dt y z+dt x y*cr y z:=by unfold cr dt;grind
 have e2:dt y y*dt x z=dt x y*dt y z-cr x y*cr y z:=by unfold cr dt;grind
 rw[h1.1,h2.1] at e1 e2;have p1:=fR (z:=cr x z) hy;have p2:=bO (z:=dt x z) hy;have:=bJ h1.2 h2.2;constructor
 .exact p1.1 aa
 .exact p2.1 aa
theorem F5{z w:Pt}(h:bh z w=true):bh w z=true:=by
 rw[dP] at*;rw[di,jQ];omega
theorem tB{x:Pt}(h:x≠(0,0)):bh x x=true:=(dP _ _).2 ⟨by unfold cr;grind,fW h⟩
theorem Wd.Ku(h:Wd S nx){b s:Sg}(hb:b∈S)(hs:s∈S)(e:s.1=b.2)(hc:cr (dr b) (dr s)=0):bh (dr b) (dr s)=true:=by
 refine(dP _ _).2 ⟨hc,?_⟩;have t:=h.two s hs b hb e;rcases fX (dt (dr b) (dr s)) 0 with q|q|q
 .have:bh (dr s) (neg (dr b))=true:=(dP _ _).2 ⟨by rw[gF,di];omega,by rw[mD,jQ];omega⟩
  rw[t] at this;cases this
 .exfalso;have e1:dt (dr b) (dr b)*dt (dr s) (dr s)=dt (dr b) (dr s)*dt (dr b) (dr s)+cr (dr b) (dr s)*cr (dr b) (dr s):=by unfold dt cr;grind
  rw[q,hc] at e1;have:=bJ (fW (h.iK hb)) (fW (h.iK hs));omega
 .exact q
theorem WR(a b c:Pt):dr (a,c)=((dr (a,b)).1+(dr (b,c)).1,(dr (a,b)).2+(dr (b,c)).2):=by unfold dr;exact eB (by simp only;omega) (by simp only;omega)
theorem Wd.PJ(h:Wd S nx):∀(T:List Sg)(b:Sg)(e:Pt),b∈S->(∀s∈T,s∈S)->Path b.2 T e->(tG b T=[]->bh (dr (b.1,e)) (dr b)=true)/\(∀t U,tG b T=t::U->bh (dr (b.1,t.1)) (dr b)=true)
 |[],b,e,hb,_,hp=>by
  have:b.2=e:=hp;subst this;exact⟨λ_=>tB (h.iK hb),λt U k=>by cases k⟩
 |s::T,b,e,hb,hm,hp=>by
  have hs:=hm s af
  unfold tG;by_cases hc:cr (dr b) (dr s)=0
  .rw[aV hc];obtain⟨i1,i2⟩:=h.PJ T s e hs (λu hu=>hm u (bX _ hu)) hp.2
   have hd:=h.Ku hb hs hp.1 hc;have hj:∀x,bh (dr (s.1,x)) (dr s)=true->bh (dr (b.1,x)) (dr b)=true:=λx k=>by
    rw[WR b.1 s.1 x];refine WQ ?_ (Dr k (F5 hd));rw[hp.1];exact tB (h.iK hb)
   exact⟨λk=>hj e (i1 k),λt U k=>hj t.1 (i2 t U k)⟩
  .rw[aQ hc];refine⟨λk=>(by cases k),λt U k=>?_⟩
   injection k with k1 _;rw[<-k1,hp.1];exact tB (h.iK hb)
theorem Kv{R:List Sg}{z:Sg}(h:R.getLast?=some z)(d:Sg):R.getLastD d=z:=by rw[nK,h];rfl
theorem LR.F6(h:Wd S nx){R:List Sg}(k:LR S nx R):∃a T t U,R=a::T/\tG a T=t::U/\dE R=a.1::t.1::U.map Prod.fst/\bh (dr (a.1,t.1)) (dr a)=true:=by
 obtain⟨a,z,ha,hz⟩:=nS k.ring.ne;obtain⟨M,hg⟩:=k.rg h ha hz;have hcr:cr (dr z) (dr a)≠0:=λq=>by
  have h1:=lW (hg.Kl h) (hg.Kk h) (by rw[gu];omega)
  have h2:bh (dr a) (neg (dr z))=true:=(dP _ _).2 ⟨by rw[gF,di];omega,by rw[jQ];exact h1⟩
  rw[h.two a hg.ma z hg.mz hg.z2.symm] at h2;cases h2
 have hp:=hg.path;have he:=hg.eq;obtain⟨i1,i2⟩:=h.PJ (M++[z]) a a.1 hg.ma (λs hs=>hg.mem s (by rw[he];exact bX _ hs)) (by rw[he] at hp;exact hp.2)
 cases ht:tG a (M++[z]) with
 |nil=>
  have:=i1 ht;rw[(mQ (s:=(a.1,a.1))).2 rfl,AE] at this;cases this
 |cons t U=>
  refine⟨a,M++[z],t,U,he,ht,?_,i2 t U ht⟩;unfold dE;rw[Kv hz,he];show(if cr (dr z) (dr a)=0 then tG a (M++[z]) else a::tG a (M++[z])).map Prod.fst=_
  rw[aQ hcr,ht];rfl
theorem LR.PK(h:Wd S nx){R R':List Sg}(k:LR S nx R)(k':LR S nx R')(he:dE R=dE R'):R=R':=by
 obtain⟨a,T,t,U,e1,_,c1,d1⟩:=k.F6 h;obtain⟨a',T',t',U',lY,_,c1',d1'⟩:=k'.F6 h;rw[c1,c1'] at he;injection he with x1 he;injection he with x2 _;have ha:a∈S:=k.ring.mem a (by rw[e1];simp)
 have ha':a'∈S:=k'.ring.mem a' (by rw[lY];simp)
 rw[x1,x2] at d1;have e:a=a':=h.one a ha a' ha' x1 (Dr (F5 d1) d1');exact k.ring.eq h k'.ring (by rw[e1,lY,e];rfl)
end
end Gb
section
namespace Pl
structure Tk where
 k:Nat
 raw:List UInt8
 n:Int
 pl:Nat
def isLet(c:UInt8):Bool:=decide (65<=c.toNat/\c.toNat<=90)
def cu(c:UInt8):Bool:=decide (48<=c.toNat/\c.toNat<=57)
def iX(c:UInt8):Bool:=decide (c.toNat=32)
def fw(l:List UInt8):Nat:=l.foldl (λa c=>10*a+(c.toNat-48)) 0
def dA(l:List UInt8)(i:Nat):Tk:=
 match l with
 |[]=>⟨101,[],0,i⟩
 |c::r=>
  if c.toNat=40\/c.toNat=41\/c.toNat=44\/c.toNat=47 then⟨c.toNat,[c],0,i⟩
  else if isLet c=true then⟨119,(c::r).takeWhile isLet,0,i⟩
  else if c.toNat=45 then
   (if r.takeWhile cu=[]\/9<(r.takeWhile cu).length then⟨120,[],0,i⟩ else⟨110,c::r.takeWhile cu, -(fw (r.takeWhile cu):Int),i⟩)
  else
   (if(c::r).takeWhile cu=[]\/9<((c::r).takeWhile cu).length then⟨120,[],0,i⟩ else⟨110,(c::r).takeWhile cu,(fw ((c::r).takeWhile cu):Int),i⟩)
def bl(s:List UInt8)(i:Nat):Nat:=i+((s.drop i).takeWhile iX).length
def tk(s:List UInt8)(i:Nat):Tk:=dA (s.drop (bl s i)) (bl s i)
def iq(s:List UInt8):Nat->Nat->List Tk
 |0,i=>[tk s i]
 |f+1,i=>if(tk s i).k=101\/(tk s i).k=120 then[tk s i] else tk s i::iq s f ((tk s i).pl+(tk s i).raw.length)
def jR(s:List UInt8):List Tk->Prop
 |[]=>False
 |[t]=>t.k=101\/t.k=120
 |t::u::r=>¬(t.k=101\/t.k=120)/\u=tk s (t.pl+t.raw.length)/\jR s (u::r)
theorem PN(s:List UInt8)(i:Nat)(h:i<=s.length):i<=bl s i/\bl s i<=s.length:=by
 have:=(rq iX (l:=s.drop i)).length_le;simp only[uB] at this;unfold bl;omega
theorem ahz(l:List UInt8)(i:Nat):(dA l i).pl=i:=by
 unfold dA;repeat' split
 all_goals rfl
theorem ahA(l:List UInt8)(i:Nat):(dA l i).raw.length<=l.length/\((dA l i).k=101\/(dA l i).k=120\/1<=(dA l i).raw.length):=by
 unfold dA;split
 .exact⟨aY _,aU rfl⟩
 .rename_i c r
  have h1:=(rq isLet (l:=c::r)).length_le;have h2:=(rq cu (l:=c::r)).length_le;have h3:=(rq cu (l:=r)).length_le;simp only[dw] at h1 h2 h3⊢;split
  .exact⟨af,af⟩
  .split
   .rename_i hl
    refine⟨h1,aT (aT ?_)⟩;simp[hl]
   .split
    .split
     .exact⟨af,aT (aU rfl)⟩
     .exact⟨by simp;omega,af⟩
    .split
     .exact⟨af,aT (aU rfl)⟩
     .rename_i h
      refine⟨h2,aT (aT ?_)⟩;have:¬(c::r).takeWhile cu=[]:=λe=>h (aU e)
      exact jE.2 this
theorem ahB(s:List UInt8)(i:Nat):(tk s i).pl=bl s i:=ahz _ _
theorem F7(s:List UInt8)(i:Nat)(h:i<=s.length):(tk s i).pl+(tk s i).raw.length<=s.length/\((tk s i).k=101\/(tk s i).k=120\/i+1<=(tk s i).pl+(tk s i).raw.length):=by
 have h1:=ahA (s.drop (bl s i)) (bl s i);have h2:=PN s i h;rw[ahB];simp only[uB] at h1;unfold tk;refine⟨aa,?_⟩
 rcases h1.2 with h|h|h
 .exact aU h
 .exact aT (aU h)
 .exact aT (aT aa)
theorem PQ(s:List UInt8)(f i:Nat):∃r,iq s f i=tk s i::r:=by
 cases f with
 |zero=>exact⟨[],rfl⟩
 |succ f=>
  by_cases h:(tk s i).k=101\/(tk s i).k=120
  .exact⟨[],by rw[iq,aV h]⟩
  .exact⟨_,by rw[iq,aQ h]⟩
theorem WT(s:List UInt8):∀(f i:Nat),i<=s.length->s.length<f+i->jR s (iq s f i)
 |0,i,h,h2=>aa
 |f+1,i,h,h2=>by
  by_cases hs:(tk s i).k=101\/(tk s i).k=120
  .rw[iq,aV hs];exact hs
  .rw[iq,aQ hs];have hn:=F7 s i h;have tD:i+1<=(tk s i).pl+(tk s i).raw.length:=by
    rcases hn.2 with h|h|h
    .exact absurd (aU h) hs
    .exact absurd (aT h) hs
    .exact h
   obtain⟨r,hr⟩:=PQ s f ((tk s i).pl+(tk s i).raw.length);have ih:=WT s f ((tk s i).pl+(tk s i).raw.length) hn.1 aa
   rw[hr] at ih⊢;exact⟨hs,rfl,ih⟩
def all(s:List UInt8):List Tk:=iq s (s.length+1) 0
theorem Kw(s:List UInt8):jR s (all s):=WT s _ 0 (iA _) aa
def mk(c:Nat):List Tk->Bool×List Tk
 |[]=>(false,[])
 |t::r=>if t.k=c then(true,r) else(false,t::r)
def wd(w:List UInt8):List Tk->Bool×List Tk
 |[]=>(false,[])
 |t::r=>if t.k=119/\t.raw=w then(true,r) else(false,t::r)
def ir:List Tk->Bool×List Tk×(Int×Int)
 |[]=>(false,[],(0,0))
 |[x]=>(false,[x],(0,0))
 |x::y::r=>if x.k=110 then(if y.k=110 then(true,r,(x.n,y.n)) else(false,y::r,(0,0))) else(false,x::y::r,(0,0))
def gM{α:Type}(item:List Tk->Bool×List Tk×α):Nat->List Tk->List α->Bool×List Tk×List α
  | 0,l,acc=>(false,l,acc)
  | f+1,l,acc=>
    if(item l).1=true then
      (if(mk 44 (item l).2.1).1=true then gM item f (mk 44 (item l).2.1).2 (acc++[(item l).2.2])
       else((mk 41 (item l).2.1).1,(mk 41 (item l).2.1).2,acc++[(item l).2.2]))
    else(false,(item l).2.1,acc)
def EMPTY:List UInt8:=[69,77,80,84,89]
def jS:List UInt8:=[80,79,76,89,71,79,78]
def fA:List UInt8:=[77,85,76,84,73,80,79,76,89,71,79,78]
def kf(l:List Tk):Bool×List Tk×List (Int×Int):=
 if(mk 40 l).1=true then
  (if(mk 41 (mk 40 l).2).1=true then(true,(mk 41 (mk 40 l).2).2,[]) else gM ir l.length (mk 40 l).2 [])
 else(false,l,[])
def fK(l:List Tk):Bool×List Tk×List (List (Int×Int)):=
 if(wd EMPTY l).1=true then(true,(wd EMPTY l).2,[])
 else if(mk 40 l).1=true then gM kf l.length (mk 40 l).2 []
 else(false,l,[])
def lZ(l:List Tk):Bool×List Tk×List (List (List (Int×Int))):=
 if(wd EMPTY l).1=true then(true,(wd EMPTY l).2,[])
 else if(mk 40 l).1=true then gM fK l.length (mk 40 l).2 []
 else(false,l,[])
def pk(t:Tk):Int:=if t.k=101 then 1 else if t.k=119 then 2 else if t.k=110 then 3 else if t.k=40\/t.k=41\/t.k=44 then 4 else 0
def cM(t:Tk):List UInt8:=if t.k=47 then[] else t.raw
theorem extract_eq(s:ByteArray)(a b:Nat):s.extract a b=⟨((s.data.toList.drop a).take (b-a)).toArray⟩:=by
 apply ByteArray.ext;apply Array.toList_inj.1;simp[ByteArray.data_extract]
theorem drop_cons(s:ByteArray)(j:Nat)(h:j<s.size):s.data.toList.drop j=s[j]::s.data.toList.drop (j+1):=
 uC (by simpa using h)
theorem take_takeWhile(p:UInt8->Bool)(l:List UInt8):l.take (l.takeWhile p).length=l.takeWhile p:=
 List.prefix_iff_eq_take.1 (rq p) |>.symm
theorem WU(s:List UInt8)(t:Tk)(r:List Tk)(h:jR s (t::r))(hk:¬(t.k=101\/t.k=120)):
  ∃u r',r=u::r'/\u=tk s (t.pl+t.raw.length)/\jR s r:=by
 cases r with
 |nil=>exact absurd h hk
 |cons u r'=>exact⟨u,r',rfl,h.2.1,h.2.2⟩
theorem PR(s:List UInt8):∀(c l:List Tk),jR s (c++l)->l≠[]->jR s l
 |[],l,h,_=>h
 |t::c,l,h,hl=>by
  cases c with
  |nil=>
   cases l with
   |nil=>exact absurd rfl hl
   |cons u r=>exact h.2.2
  |cons u c'=>exact PR s (u::c') l h.2.2 hl
def Place(s:List UInt8)(t:Tk):Prop:=t.pl+t.raw.length<=s.length/\(∃i,i<=s.length/\t=tk s i)
theorem WV(s:List UInt8):∀(l:List Tk),jR s l->(∀t r,l=t::r->Place s t)->∀t∈l,Place s t
 |[],h,_,t,ht=>by simp at ht
 |[a],h,h0,t,ht=>by
  rw[dh] at ht;subst ht;exact h0 t [] rfl
 |a::b::r,h,h0,t,ht=>by
  have ha:=h0 a (b::r) rfl;rcases bU.1 ht with rfl|ht
  .exact ha
  .refine WV s (b::r) h.2.2 ?_ t ht;intro t' r' e;injection e with e1 e2;subst e1;exact⟨by rw[h.2.1];exact(F7 s _ ha.1).1,_,ha.1,h.2.1⟩
theorem Ky(s:List UInt8):∀t∈all s,Place s t:=by
 refine WV s _ (Kw s) ?_;intro t r e;obtain⟨r',hr⟩:=PQ s (s.length+1) 0;unfold all at e;rw[hr] at e;injection e with e1 e2;subst e1;exact⟨(F7 s 0 (iA _)).1,0,iA _,rfl⟩
theorem WW(s:List UInt8):∀(f i:Nat),(iq s f i).length<=f+1
 |0,i=>by simp[iq]
 |f+1,i=>by
  rw[iq];split
  .simp
  .have:=WW s f ((tk s i).pl+(tk s i).raw.length);simp;omega
theorem Kz(s:List UInt8):(all s).length<=s.length+2:=WW s _ 0
end Pl
end
section
open Go.RowKit
theorem uJ{a b:Bool}(h:a=b):Ending.returned (aD a)=aL (aD b):=by rw[h]
theorem KA{k:IntKind}{a b:Int}(h:a=b):Ending.returned (az k a)=aL (az k b):=by rw[h]
theorem ahC(c:UInt8)(w:aM):
  ak 90 #[az .u8 c.toNat] w λe w'=>e=aL (aD (Pl.iX c))/\w'=w:=by
 go_enter func90,ntmps90
 go_wp2
 go_ret
 refine⟨uJ ?_,rfl⟩;unfold Pl.iX;rw[lF];simp;omega
theorem yO(c:UInt8)(w:aM):
  ak 91 #[az .u8 c.toNat] w λe w'=>e=aL (aD (Pl.isLet c))/\w'=w:=by
 go_enter func91,ntmps91
 go_wp2
 all_goals
  go_ret
  refine⟨uJ ?_,rfl⟩;unfold Pl.isLet;rw[lF];simp;omega
theorem AQ(c:UInt8)(w:aM):
  ak 92 #[az .u8 c.toNat] w λe w'=>e=aL (aD (Pl.cu c))/\w'=w:=by
 go_enter func92,ntmps92
 go_wp2
 all_goals
  go_ret
  refine⟨uJ ?_,rfl⟩;unfold Pl.cu;rw[lF];simp;omega
theorem PU(p:UInt8->Bool)(s:List UInt8)(i:Nat)(h:i<s.length)(hp:p s[i]=true):
  ((s.drop i).takeWhile p).length=((s.drop (i+1)).takeWhile p).length+1:=by
 rw[uC h,Aj,aV hp];rfl
theorem PW(p:UInt8->Bool)(s:List UInt8)(i:Nat)(h:i<s.length)(hp:p s[i]=false):
  ((s.drop i).takeWhile p).length=0:=by
 rw[uC h,Aj,aQ (by simp[hp])];rfl
theorem ahD(F:Nat)(hc:∀(args:Array aN)(w:aM),(callFunc F args).run prog w=.ok (.enter F args) w)(P:UInt8->Bool)(hF:∀(c:UInt8)(w:aM),ak F #[az .u8 c.toNat] w λe w'=>e=aL (aD (P c))/\w'=w)(s:ByteArray)(i:Int)(w:aM)(h0:0<=i)(h1:i<=s.size)(hs:s.size<=400):
  ak 89 #[aF s,az aJ i,.func (.func F) #[] #[]] w λe w'=>e=aL (az aJ (i+((s.data.toList.drop i.toNat).takeWhile P).length))/\w'=w:=by
 obtain⟨n,rfl⟩:=ass h0;rw[JM];have hn:n<=s.size:=aa
 clear h0 h1
 go_enter func89,ntmps89
 go_wp2_with fail
 go_loop [1] (λt=>∃j:Nat,j<=s.size/\t=az aJ j/\j+((s.data.toList.drop j).takeWhile P).length=n+((s.data.toList.drop n).takeWhile P).length) (λt=>s.size-(intOf t).toNat)
 case atStart=>exact⟨n,hn,rfl,rfl⟩
 case round=>
  obtain⟨j,hj,rfl,he⟩:=hrel;have HE:Hid (j+((s.data.toList.drop j).takeWhile P).length=n+((s.data.toList.drop n).takeWhile P).length):=he;clear he;by_cases hlt:j<s.size
  .by_cases hp:P s[j]=true
   .have HS:Hid (j+1+((s.data.toList.drop (j+1)).takeWhile P).length=n+((s.data.toList.drop n).takeWhile P).length):=by
     have h1:=PU P s.data.toList j (by simpa using hlt) hp
     have h2:=HE.out;show _=_;omega
    clear HE
    go_wp2_with (refine(hF _ _).mono ?_;rintro e w' ⟨rfl,rfl⟩)
    go_round
    case rel=>exact⟨j+1,aa,ai,HS.out⟩
    case measure=>simp[intOf];omega
   .have hp':P s[j]=false:=by simpa using hp
    have HS:Hid (j=n+((s.data.toList.drop n).takeWhile P).length):=by
     have h1:=PW P s.data.toList j (by simpa using hlt) hp'
     have h2:=HE.out;show _=_;omega
    clear HE hp
    go_wp2_with (refine(hF _ _).mono ?_;rintro e w' ⟨rfl,rfl⟩)
    go_ret
    exact⟨KA (by have:=HS.out;omega),rfl⟩
  .have HS:Hid (j=n+((s.data.toList.drop n).takeWhile P).length):=by
    have h2:=HE.out;rw[Ak (by simp;omega:s.data.toList.length<=j)] at h2
    simp at h2;exact h2
   clear HE
   go_wp2_with (refine(hF _ _).mono ?_;rintro e w' ⟨rfl,rfl⟩)
   go_ret
   exact⟨KA (by have:=HS.out;omega),rfl⟩
theorem PY(F:Nat)(hc:∀(args:Array aN)(w:aM),(callFunc F args).run prog w=.ok (.enter F args) w)(P:UInt8->Bool)(hF:∀(c:UInt8)(w:aM),ak F #[az .u8 c.toNat] w λe w'=>e=aL (aD (P c))/\w'=w)(s:ByteArray)(i j:Nat)(w:aM)(h1:i<=s.size)(hs:s.size<=400)(hj:j=i+((s.data.toList.drop i).takeWhile P).length):
  ak 89 #[aF s,az aJ i,.func (.func F) #[] #[]] w λe w'=>e=aL (az aJ j)/\w'=w:=by
 refine(ahD F hc P hF s i w aa aa hs).mono ?_
 rintro e w' ⟨rfl,rfl⟩;exact⟨KA (by rw[hj];simp),rfl⟩
abbrev yP:=PY _ Tryz.call90 _ ahC
abbrev ahE:=PY _ Tryz.call91 _ yO
abbrev WY:=PY _ Tryz.call92 _ AQ
structure Gl(w:aM):Prop where
 sz:6<=w.heap.size
 es:∃tp p,w.var? Tryz.prog "strconv.ErrSyntax" =some #[.iface tp p]
 er:∃tp p,w.var? Tryz.prog "strconv.ErrRange" =some #[.iface tp p]
 tab:Lib.TabIs Tryz.prog w "internal/strconv.uint64pow10" .u64 Lib.pow10Tab
def gw(t:Pl.Tk):Array aN:= #[az aJ (Pl.pk t),aF ⟨(Pl.cM t).toArray⟩,az aJ t.n,az aJ t.pl]
def WZ:Prop:=∀(s:ByteArray)(j:Nat)(w:aM),j<s.size->s.size<=400->Gl w->(∀h:j<s.size,Pl.cu s[j]=true\/s[j].toNat=45)->
  ak 93 #[aF s,az aJ j] w λe w'=>e=aL (aC (gw (Pl.dA (s.data.toList.drop j) j)))/\aj w w'
theorem ahF(s:ByteArray)(j:Nat)(h:s.size<=j):gw (Pl.dA (s.data.toList.drop j) j)= #[az aJ 1,aF ⟨#[]⟩,az aJ 0,az aJ j]:=by
 rw[Ak (by simp;omega)];rfl
theorem ahG(s:ByteArray)(j k:Nat)(h:j<s.size)(hl:Pl.isLet s[j]=true)(hk:k=j+((s.data.toList.drop j).takeWhile Pl.isLet).length):
  gw (Pl.dA (s.data.toList.drop j) j)= #[az aJ 2,aF (s.extract j k),az aJ 0,az aJ j]:=by
 rw[Pl.extract_eq,hk,JN,Pl.take_takeWhile,Pl.drop_cons s j h];have h1:¬(s[j].toNat=40\/s[j].toNat=41\/s[j].toNat=44\/s[j].toNat=47):=by
  have:=fV hl;omega
 simp only[Pl.dA];rw[aQ h1,aV hl];rfl
theorem PZ(s:ByteArray)(j:Nat)(h:j<s.size)(hl:s[j].toNat=40\/s[j].toNat=41\/s[j].toNat=44):
  gw (Pl.dA (s.data.toList.drop j) j)= #[az aJ 4,aF (s.extract j (j+1)),az aJ 0,az aJ j]:=by
 rw[Pl.extract_eq,JN,Pl.drop_cons s j h];have h1:s[j].toNat=40\/s[j].toNat=41\/s[j].toNat=44\/s[j].toNat=47:=aa
 simp only[Pl.dA];rw[aV h1];have h2:s[j].toNat≠101/\s[j].toNat≠119/\s[j].toNat≠110/\s[j].toNat≠47:=aa
 simp[gw,Pl.pk,Pl.cM,h2,hl]
theorem ahH(s:ByteArray)(j:Nat)(h:j<s.size)(h1:¬(s[j].toNat=40\/s[j].toNat=41\/s[j].toNat=44))(h2:Pl.isLet s[j]=false)(h3:Pl.cu s[j]=false)(h4:s[j].toNat≠45):
  gw (Pl.dA (s.data.toList.drop j) j)= #[az aJ 0,aF ⟨#[]⟩,az aJ 0,az aJ j]:=by
 rw[Pl.drop_cons s j h];simp only[Pl.dA];by_cases h5:s[j].toNat=47
 .rw[aV aa]
  simp[gw,Pl.pk,Pl.cM,h5]
 .rw[aQ aa,aQ (by simp[h2]),aQ h4]
  simp[h3,gw,Pl.pk,Pl.cM]
theorem globals:Tryz.prog.globalNamed "strconv.ErrSyntax" =some 0/\Tryz.prog.globalNamed "strconv.ErrRange" =some 1/\Tryz.prog.globalNamed "internal/strconv.uint64pow10" =some 3:=⟨by kernel_rfl,by kernel_rfl,by kernel_rfl⟩
theorem Gl.below{w w':aM}{B:Nat}(h:Gl w)(hb:Below B w w')(hB:6<=B):Gl w':=by
 obtain⟨g1,g2,g3⟩:=globals;obtain⟨tp,p,h1⟩:=h.es;obtain⟨tq,q,h2⟩:=h.er;refine⟨fN h.sz hb.size,⟨tp,p,var?_below hb g1 aa h1⟩,⟨tq,q,var?_below hb g2 aa h2⟩,var?_below hb g3 aa h.tab⟩
theorem Gl.alloc{w:aM}(h:Gl w)(o:Obj):Gl (w.alloc o):=
 h.below ((Below.refl w.heap.size w).alloc (aY _) o) h.sz
theorem KB{W w1:aM}(hb:aj W w1):(∀b o,b<W.heap.size->w1.cell? ⟨b,o,none⟩=W.cell? ⟨b,o,none⟩)/\(∀b o,b<W.heap.size->w1.frozen? ⟨b,o,none⟩=W.frozen? ⟨b,o,none⟩):=
 ⟨λb o h=>hb.cell (p:=⟨b,o,none⟩) h,λb o h=>hb.frozen (p:=⟨b,o,none⟩) h⟩
theorem W5(hN:WZ)(s:ByteArray)(i:Nat)(w:aM)(h1:i<=s.size)(hs:s.size<=400)(hG:Gl w):
  ak 60 #[aF s,az aJ i] w λe w'=>e=aL (aC (gw (Pl.tk s.data.toList i)))/\aj w w':=by
 have hbl:=Pl.PN s.data.toList i (by simpa using h1)
 unfold Pl.tk;generalize hj:Pl.bl s.data.toList i=j at*;have F8:j<=s.size:=by simpa using hbl.2
 have HJ:Hid (j=i+((s.data.toList.drop i).takeWhile Pl.iX).length):=by rw[<-hj];rfl
 clear hj hbl;by_cases hlt:j<s.size
 .have hne:((j:Int) == (s.size:Int))=false:=by simp;omega
  cases hl:Pl.isLet s[j]
  .cases hd:Pl.cu s[j]
   .by_cases hm:s[j].toNat=45
    .have hmb:((s[j].toNat:Int) == 45)=true:=by simp;omega
     generalize hT:gw (Pl.dA (s.data.toList.drop j) j)=T;have HN:Hid (∀w1,Gl w1->ak 93 #[aF s,az aJ j] w1 λe w'=>e=aL (aC T)/\aj w1 w'):=λw1 g1=>by
      rw[<-hT];exact hN s j w1 hlt hs g1 (λ_=>aT hm)
     obtain⟨t0,t1,t2,t3,rfl⟩:∃a b c d,T= #[Value.int aJ a,aF b,az aJ c,az aJ d]:=⟨_,_,_,_,hT.symm⟩;clear hT hm
     go_enter func60,ntmps60
     go_wp2_with fail
     refine(yP s i j _ h1 hs HJ.out).mono ?_;rintro e w' ⟨rfl,rfl⟩
     go_wp2_with fail
     refine(yO _ _).mono ?_;rintro e w' ⟨rfl,rfl⟩
     go_wp2_with fail
     refine(AQ _ _).mono ?_;rintro e w' ⟨rfl,rfl⟩
     go_wp2_with fail
     refine(HN.out _ (hG.alloc _)).mono ?_;rintro e w1 ⟨rfl,hb⟩;obtain⟨hc,hf⟩:=KB hb;have hz:w.heap.size<w1.heap.size:=by have:=hb.size;simp at this;omega
     go_wp2_with fail
     refine bodyPost_ret (v:=aC #[az aJ t0,aF t1,az aJ t2,az aJ t3]) (by simp[results,results60,go_sem,hc]) rfl ⟨rfl,?_⟩
     exact((((((Below.refl w.heap.size w).alloc (aY _) _).trans (hb.mono af)).setCell (aY _) _).setCell (aY _) _).setCell (aY _) _).setCell (aY _) _
    .have hmb:((s[j].toNat:Int) == 45)=false:=by simp;omega
     by_cases q0:s[j].toNat=40
     .rw[PZ s j hlt aa]
      have Qa:((s[j].toNat:Int) == 40)=true:=by simp;omega
      clear q0 hm
      go_enter func60,ntmps60
      go_wp2_with fail
      refine(yP s i j _ h1 hs HJ.out).mono ?_;rintro e w' ⟨rfl,rfl⟩
      go_wp2_with fail
      refine(yO _ _).mono ?_;rintro e w' ⟨rfl,rfl⟩
      go_wp2_with fail
      refine(AQ _ _).mono ?_;rintro e w' ⟨rfl,rfl⟩
      go_wp2_with fail
      exact bodyPost_ret (v:=aC #[az aJ 4,aF (s.extract j (j+1)),az aJ 0,az aJ j]) (by simp[results,results60,go_sem]) rfl ⟨rfl,aw _ _⟩
     .by_cases q1:s[j].toNat=41
      .rw[PZ s j hlt aa]
       have Qa:((s[j].toNat:Int) == 40)=false:=by simp;omega
       have W7:((s[j].toNat:Int) == 41)=true:=by simp;omega
       clear q0 q1 hm
       go_enter func60,ntmps60
       go_wp2_with fail
       refine(yP s i j _ h1 hs HJ.out).mono ?_;rintro e w' ⟨rfl,rfl⟩
       go_wp2_with fail
       refine(yO _ _).mono ?_;rintro e w' ⟨rfl,rfl⟩
       go_wp2_with fail
       refine(AQ _ _).mono ?_;rintro e w' ⟨rfl,rfl⟩
       go_wp2_with fail
       exact bodyPost_ret (v:=aC #[az aJ 4,aF (s.extract j (j+1)),az aJ 0,az aJ j]) (by simp[results,results60,go_sem]) rfl ⟨rfl,aw _ _⟩
      .by_cases q2:s[j].toNat=44
       .rw[PZ s j hlt aa]
        have Qa:((s[j].toNat:Int) == 40)=false:=by simp;omega
        have W7:((s[j].toNat:Int) == 41)=false:=by simp;omega
        have ahI:((s[j].toNat:Int) == 44)=true:=by simp;omega
        clear q0 q1 q2 hm
        go_enter func60,ntmps60
        go_wp2_with fail
        refine(yP s i j _ h1 hs HJ.out).mono ?_;rintro e w' ⟨rfl,rfl⟩
        go_wp2_with fail
        refine(yO _ _).mono ?_;rintro e w' ⟨rfl,rfl⟩
        go_wp2_with fail
        refine(AQ _ _).mono ?_;rintro e w' ⟨rfl,rfl⟩
        go_wp2_with fail
        exact bodyPost_ret (v:=aC #[az aJ 4,aF (s.extract j (j+1)),az aJ 0,az aJ j]) (by simp[results,results60,go_sem]) rfl ⟨rfl,aw _ _⟩
       .rw[ahH s j hlt aa hl hd hm]
        have Qa:((s[j].toNat:Int) == 40)=false:=by simp;omega
        have W7:((s[j].toNat:Int) == 41)=false:=by simp;omega
        have ahI:((s[j].toNat:Int) == 44)=false:=by simp;omega
        clear q0 q1 q2 hm
        go_enter func60,ntmps60
        go_wp2_with fail
        refine(yP s i j _ h1 hs HJ.out).mono ?_;rintro e w' ⟨rfl,rfl⟩
        go_wp2_with fail
        refine(yO _ _).mono ?_;rintro e w' ⟨rfl,rfl⟩
        go_wp2_with fail
        refine(AQ _ _).mono ?_;rintro e w' ⟨rfl,rfl⟩
        go_wp2_with fail
        exact bodyPost_ret (v:=aC #[az aJ 0,aF ⟨#[]⟩,az aJ 0,az aJ j]) (by simp[results,results60,go_sem]) rfl ⟨rfl,aw _ _⟩
   .generalize hT:gw (Pl.dA (s.data.toList.drop j) j)=T;have HN:Hid (∀w1,Gl w1->ak 93 #[aF s,az aJ j] w1 λe w'=>e=aL (aC T)/\aj w1 w'):=λw1 g1=>by
     rw[<-hT];exact hN s j w1 hlt hs g1 (λ_=>aU hd)
    obtain⟨t0,t1,t2,t3,rfl⟩:∃a b c d,T= #[Value.int aJ a,aF b,az aJ c,az aJ d]:=⟨_,_,_,_,hT.symm⟩;clear hT
    go_enter func60,ntmps60
    go_wp2_with fail
    refine(yP s i j _ h1 hs HJ.out).mono ?_;rintro e w' ⟨rfl,rfl⟩
    go_wp2_with fail
    refine(yO _ _).mono ?_;rintro e w' ⟨rfl,rfl⟩
    go_wp2_with fail
    refine(AQ _ _).mono ?_;rintro e w' ⟨rfl,rfl⟩
    go_wp2_with fail
    refine(HN.out _ (hG.alloc _)).mono ?_;rintro e w1 ⟨rfl,hb⟩;obtain⟨hc,hf⟩:=KB hb;have hz:w.heap.size<w1.heap.size:=by have:=hb.size;simp at this;omega
    go_wp2_with fail
    refine bodyPost_ret (v:=aC #[az aJ t0,aF t1,az aJ t2,az aJ t3]) (by simp[results,results60,go_sem,hc]) rfl ⟨rfl,?_⟩
    exact((((((Below.refl w.heap.size w).alloc (aY _) _).trans (hb.mono af)).setCell (aY _) _).setCell (aY _) _).setCell (aY _) _).setCell (aY _) _
  .have hfin:=ahG s j _ hlt hl rfl;generalize hk:j+((s.data.toList.drop j).takeWhile Pl.isLet).length=k at hfin;have hk1:j<=k/\k<=s.size:=by
    have:=(rq Pl.isLet (l:=s.data.toList.drop j)).length_le;simp at this;omega
   have HK:Hid (k=j+((s.data.toList.drop j).takeWhile Pl.isLet).length):=hk.symm;rw[hfin];clear hk hfin
   go_enter func60,ntmps60
   go_wp2_with fail
   refine(yP s i j _ h1 hs HJ.out).mono ?_;rintro e w' ⟨rfl,rfl⟩
   go_wp2_with fail
   refine(yO _ _).mono ?_;rintro e w' ⟨rfl,rfl⟩
   go_wp2_with fail
   refine(ahE s j k _ F8 hs HK.out).mono ?_;rintro e w' ⟨rfl,rfl⟩
   go_wp2_with fail
   exact bodyPost_ret (v:=aC #[az aJ 2,aF (s.extract j k),az aJ 0,az aJ j]) (by simp[results,results60,go_sem]) rfl ⟨rfl,aw _ _⟩
 .have he:j=s.size:=aa
  subst he;rw[ahF s s.size (aY _)]
  go_enter func60,ntmps60
  go_wp2_with fail
  refine(yP s i s.size _ h1 hs HJ.out).mono ?_;rintro e w' ⟨rfl,rfl⟩
  go_wp2_with fail
  exact bodyPost_ret (v:=aC #[az aJ 1,aF ⟨#[]⟩,az aJ 0,az aJ s.size]) (by simp[results,results60,go_sem]) rfl ⟨rfl,aw _ _⟩
end
end Go.Proofs.YtkjhhooecopolaaGreatDoor
namespace Go.Proofs
open Tryz
open Value renaming int->az,complex->aA,float->aB,agg->aC,bool->aD,string->aF,slice->aG,pointer->aH,tuple->aI
open IntKind renaming i64->aJ
open FloatKind renaming f64->aK
open Ending renaming returned->aL
open Go renaming World->aM,Value->aN,floatOfInt->aO
open Go.Shelf
def Tryz.lays169_ren:Go.Shelf.Ren:=⟨fun |169=>121|n=>n,fun |70=>193|9=>9|0=>0|72=>196|37=>194|127=>251|3=>3|5=>5|n=>n,fun |n=>n⟩
theorem Tryz.lays169:Go.Proofs.Lays.n169 prog Tryz.lays169_ren:={
 mixed:=ag
 f169:=func121.trans (aZ some ag)
 t0:=underlying0
 a0:=isAgg0
 z0:=sizeOf0
 v0:=zeroValue0
 t3:=underlying3
 a3:=isAgg3
 z3:=sizeOf3
 v3:=zeroValue3
 t9:=underlying9
 a9:=isAgg9
 z9:=sizeOf9
 v9:=zeroValue9
 t37:=underlying194
 a37:=isAgg194
 z37:=sizeOf194
 v37:=zeroValue194
 t70:=underlying193
 a70:=isAgg193
 z70:=sizeOf193
 v70:=zeroValue193
 t72:=underlying196
 a72:=isAgg196
 z72:=sizeOf196
 v72:=zeroValue196
 t127:=underlying251
 a127:=isAgg251
 z127:=sizeOf251
 v127:=zeroValue251}
theorem Tryz.Builder_Extra_169:Builder.Extra prog Tryz.lays169_ren:={
 sizeBuilder:=ag
 liesBuilder:=ag
 t5:=underlying5
 a5:=isAgg5
 z5:=sizeOf5
 v5:=zeroValue5
 infoByte:=ag
 cellsByte:=ag
 sizeByte:=ag
 neB5:=by decide}
open Go.RowKit in
open Go.RowKit in
open Go.RowKit in
theorem Tryz.Builder_String_any(B b:Nat)(l:List UInt8)(w:aM)(h:Lib.IsBuilder 196 5 B b (Lib.byteCells l) w)(hBw:B<=w.heap.size):
  ak 121 #[aH (some ⟨b,0,none⟩)] w λe w'=>e=aL (aF ⟨l.toArray⟩)/\Below B w w':=Any.Builder_String_any Tryz.lays169 Tryz.Builder_Extra_169 B b l w h hBw
open Go.RowKit in
open Go.RowKit in
def Tryz.lays156_ren:Go.Shelf.Ren:=⟨fun |156=>103|165=>154|166=>119|169=>121|240=>177|241=>197|276=>218|277=>239|n=>n,fun |31=>164|9=>9|3=>3|4=>4|0=>0|20=>20|72=>196|76=>201|70=>193|37=>194|75=>199|127=>251|164=>290|5=>5|80=>166|n=>n,fun |n=>n⟩
theorem Tryz.lays156:Go.Proofs.Lays.n156 prog Tryz.lays156_ren:={
 mixed:=ag
 f156:=func103.trans (aZ some ag)
 f165:=func154.trans (aZ some ag)
 f166:=func119.trans (aZ some ag)
 f169:=func121.trans (aZ some ag)
 f240:=func177.trans (aZ some ag)
 f241:=func197.trans (aZ some ag)
 f276:=func218.trans (aZ some ag)
 f277:=func239.trans (aZ some ag)
 t0:=underlying0
 a0:=isAgg0
 z0:=sizeOf0
 v0:=zeroValue0
 t3:=underlying3
 a3:=isAgg3
 z3:=sizeOf3
 v3:=zeroValue3
 t4:=underlying4
 a4:=isAgg4
 z4:=sizeOf4
 v4:=zeroValue4
 t9:=underlying9
 a9:=isAgg9
 z9:=sizeOf9
 v9:=zeroValue9
 t20:=underlying20
 a20:=isAgg20
 z20:=sizeOf20
 v20:=zeroValue20
 t31:=underlying164
 a31:=isAgg164
 z31:=sizeOf164
 v31:=zeroValue164
 t37:=underlying194
 a37:=isAgg194
 z37:=sizeOf194
 v37:=zeroValue194
 t70:=underlying193
 a70:=isAgg193
 z70:=sizeOf193
 v70:=zeroValue193
 t72:=underlying196
 a72:=isAgg196
 z72:=sizeOf196
 v72:=zeroValue196
 t75:=underlying199
 a75:=isAgg199
 z75:=sizeOf199
 v75:=zeroValue199
 t76:=underlying201
 a76:=isAgg201
 z76:=sizeOf201
 v76:=zeroValue201
 t127:=underlying251
 a127:=isAgg251
 z127:=sizeOf251
 v127:=zeroValue251
 t164:=underlying290
 a164:=isAgg290
 z164:=sizeOf290
 v164:=zeroValue290}
theorem Tryz.Builder_Extra_156:Builder.Extra prog Tryz.lays156_ren:={
 sizeBuilder:=ag
 liesBuilder:=ag
 t5:=underlying5
 a5:=isAgg5
 z5:=sizeOf5
 v5:=zeroValue5
 infoByte:=ag
 cellsByte:=ag
 sizeByte:=ag
 neB5:=by decide}
open Go.RowKit in
theorem Tryz.strings_Join_none(a:Option Addr)(c:Nat)(sep:ByteArray)(w:aM):
  ak 103 #[aG a 0 c,aF sep] w λe w'=>e=aL (aF ⟨#[]⟩)/\w'=w:=Any.strings_Join_none Tryz.lays156 Tryz.Builder_Extra_156 a c sep w
open Go.RowKit in
theorem Tryz.strings_Join(bk o c:Nat)(xs:List ByteArray)(sep:ByteArray)(w:aM)(hcells:∀(j:Nat) x,xs[j]?=some x->w.cell? ⟨bk,o+j,none⟩=some (aF x))(hbk:bk<w.heap.size)(hN:xs.length<=140737488355328)(hcap:xs.length<=c)(hlen:(Lib.join (xs.map (·.data.toList)) sep.data.toList).length<=140737488355328):
  ak 103 #[aG (some ⟨bk,o,none⟩) xs.length c,aF sep] w λe w'=>e=aL (aF ⟨(Lib.join (xs.map (·.data.toList)) sep.data.toList).toArray⟩)/\aj w w':=Any.strings_Join Tryz.lays156 Tryz.Builder_Extra_156 bk o c xs sep w hcells hbk hN hcap hlen
def Tryz.lays125_ren:Go.Shelf.Ren:=⟨fun |125=>164|128=>208|129=>209|n=>n,fun |46=>238|3=>3|51=>280|53=>282|4=>4|5=>5|9=>9|n=>n,fun |n=>n⟩
theorem Tryz.lays125:Go.Proofs.Lays.n125 prog Tryz.lays125_ren:={
 mixed:=ag
 f125:=func164.trans (aZ some ag)
 f128:=func208.trans (aZ some ag)
 f129:=func209.trans (aZ some ag)
 t3:=underlying3
 a3:=isAgg3
 z3:=sizeOf3
 v3:=zeroValue3
 t4:=underlying4
 a4:=isAgg4
 z4:=sizeOf4
 v4:=zeroValue4
 t5:=underlying5
 a5:=isAgg5
 z5:=sizeOf5
 v5:=zeroValue5
 t9:=underlying9
 a9:=isAgg9
 z9:=sizeOf9
 v9:=zeroValue9
 t46:=underlying238
 a46:=isAgg238
 z46:=sizeOf238
 v46:=zeroValue238
 t51:=underlying280
 a51:=isAgg280
 z51:=sizeOf280
 v51:=zeroValue280
 t53:=underlying282
 a53:=isAgg282
 z53:=sizeOf282
 v53:=zeroValue282}
theorem Tryz.bits_Len(x:Int)(w:aM)(h0:0<=x)(h1:x<=18446744073709551615):
  ak 164 #[az .u64 x] w λe w'=>e=aL (az aJ (Lib.bitLen x.toNat))/\w'=w:=Any.bits_Len Tryz.lays125 x w h0 h1
open Go.RowKit in
open Go.RowKit in
open Go.RowKit in
open Go.RowKit in
open Go.RowKit in
open Go.RowKit in
open Go.RowKit in
def Tryz.lays172_ren:Go.Shelf.Ren:=⟨fun |172=>147|244=>193|245=>194|247=>233|279=>234|280=>235|281=>236|282=>237|287=>283|316=>284|171=>146|205=>285|321=>302|322=>303|243=>192|246=>232|283=>279|284=>280|285=>281|286=>282|129=>209|317=>298|318=>299|319=>300|320=>301|337=>307|338=>308|n=>n,fun |9=>9|3=>3|75=>199|76=>201|4=>4|5=>5|167=>301|37=>194|0=>0|85=>302|2=>2|168=>304|53=>282|175=>338|46=>238|210=>342|127=>251|145=>361|143=>359|21=>21|171=>334|173=>336|212=>356|51=>280|20=>20|213=>357|232=>365|233=>366|80=>166|n=>n,fun |15=>0|16=>1|17=>3|18=>4|19=>5|n=>n⟩
open Go.RowKit in
open Go.Lib in
open Go.Lib in
open Go.Lib in
open Go.Lib in
open Go.RowKit Go.Sort Go.Lib in
def Tryz.laysM246_ren:Go.Shelf.Ren:=⟨fun |246=>232|283=>279|284=>280|285=>281|286=>282|129=>209|317=>298|318=>299|319=>300|320=>301|337=>307|338=>308|n=>n,fun |2=>2|3=>3|9=>9|4=>4|171=>334|0=>0|53=>282|37=>194|5=>5|173=>336|212=>356|51=>280|20=>20|213=>357|46=>238|232=>365|233=>366|n=>n,fun |17=>3|18=>4|19=>5|n=>n⟩
open Go.RowKit Go.Sort Go.Lib in
open Go.RowKit Go.Sort Go.Lib in
def Tryz.laysM243_ren:Go.Shelf.Ren:=⟨fun |243=>192|246=>232|283=>279|284=>280|285=>281|286=>282|129=>209|317=>298|318=>299|319=>300|320=>301|337=>307|338=>308|n=>n,fun |3=>3|9=>9|2=>2|4=>4|171=>334|0=>0|53=>282|37=>194|5=>5|173=>336|212=>356|51=>280|20=>20|213=>357|46=>238|232=>365|233=>366|n=>n,fun |17=>3|18=>4|19=>5|n=>n⟩
open Go.RowKit Go.Sort Go.Lib in
open Go.RowKit Go.Sort Go.Lib in
def Tryz.laysM171_ren:Go.Shelf.Ren:=⟨fun |171=>146|243=>192|246=>232|283=>279|284=>280|285=>281|286=>282|129=>209|317=>298|318=>299|319=>300|320=>301|337=>307|338=>308|n=>n,fun |3=>3|9=>9|2=>2|4=>4|171=>334|0=>0|53=>282|37=>194|5=>5|173=>336|212=>356|51=>280|20=>20|213=>357|46=>238|232=>365|233=>366|n=>n,fun |17=>3|18=>4|19=>5|n=>n⟩
theorem Tryz.laysM171:Go.Proofs.LaysM.n171 prog Tryz.laysM171_ren:={
 mixed:=ag
 f129:=func209.trans (aZ some ag)
 f171:=func146.trans (aZ some ag)
 f243:=func192.trans (aZ some ag)
 f246:=func232.trans (aZ some ag)
 f283:=func279.trans (aZ some ag)
 f284:=func280.trans (aZ some ag)
 f285:=func281.trans (aZ some ag)
 f286:=func282.trans (aZ some ag)
 f317:=func298.trans (aZ some ag)
 f318:=func299.trans (aZ some ag)
 f319:=func300.trans (aZ some ag)
 f320:=func301.trans (aZ some ag)
 f337:=func307.trans (aZ some ag)
 f338:=func308.trans (aZ some ag)
 t0:=underlying0
 a0:=isAgg0
 z0:=sizeOf0
 v0:=zeroValue0
 t2:=underlying2
 a2:=isAgg2
 z2:=sizeOf2
 v2:=zeroValue2
 t3:=underlying3
 a3:=isAgg3
 z3:=sizeOf3
 v3:=zeroValue3
 t4:=underlying4
 a4:=isAgg4
 z4:=sizeOf4
 v4:=zeroValue4
 t5:=underlying5
 a5:=isAgg5
 z5:=sizeOf5
 v5:=zeroValue5
 t9:=underlying9
 a9:=isAgg9
 z9:=sizeOf9
 v9:=zeroValue9
 t20:=underlying20
 a20:=isAgg20
 z20:=sizeOf20
 v20:=zeroValue20
 t37:=underlying194
 a37:=isAgg194
 z37:=sizeOf194
 v37:=zeroValue194
 t46:=underlying238
 a46:=isAgg238
 z46:=sizeOf238
 v46:=zeroValue238
 t51:=underlying280
 a51:=isAgg280
 z51:=sizeOf280
 v51:=zeroValue280
 t53:=underlying282
 a53:=isAgg282
 z53:=sizeOf282
 v53:=zeroValue282
 t171:=underlying334
 a171:=isAgg334
 z171:=sizeOf334
 v171:=zeroValue334
 t173:=underlying336
 a173:=isAgg336
 z173:=sizeOf336
 v173:=zeroValue336
 t212:=underlying356
 a212:=isAgg356
 z212:=sizeOf356
 v212:=zeroValue356
 t213:=underlying357
 a213:=isAgg357
 z213:=sizeOf357
 t232:=underlying365
 a232:=isAgg365
 z232:=sizeOf365
 v232:=zeroValue365
 t233:=underlying366
 a233:=isAgg366
 z233:=sizeOf366
 v233:=zeroValue366
 g17:=ag
 g18:=ag
 g19:=ag
 i0:=ag
 i2:=ag
 i3:=ag
 i4:=ag
 i5:=ag
 i9:=ag
 i20:=ag
 i37:=ag
 i46:=ag
 i51:=ag
 i53:=ag
 i171:=ag
 i173:=ag
 i212:=ag
 i232:=ag
 i233:=ag
 m17:=ag
 m18:=ag
 m19:=by kernel_rfl}
open Go.RowKit Go.Sort Go.Lib in
theorem Tryz.strconv_Itoa(n:Int)(h0: -9223372036854775808<=n)(h1:n<=9223372036854775807)(w:World)(ahJ:Lib.TabIs Tryz.prog w "internal/strconv.uint64pow10" .u64 Lib.pow10Tab):
  ak 146 #[az aJ n] w λe w'=>e=aL (aF ⟨(Lib.itoa n).toArray⟩)/\∃k os,w'=grow (w.drewN k) os:=Any.strconv_Itoa Tryz.laysM171 n h0 h1 w ahJ
open Go.RowKit Go.Sort Go.Lib in
open Go.RowKit in
open Go.RowKit in
open Go.RowKit in
open Go.RowKit in
open Go.RowKit in
open Go.RowKit in
open Go.RowKit in
open Go.RowKit in
open Go.RowKit in
open Go.RowKit in
open Go.RowKit in
open Go.RowKit in
open Go.RowKit in
open Go.RowKit in
open Go.RowKit in
open Go.RowKit in
def Tryz.laysC172_ren:Go.Shelf.Ren:=⟨fun |172=>147|244=>193|245=>194|247=>233|279=>234|280=>235|281=>236|282=>237|287=>283|316=>284|171=>146|205=>285|321=>302|322=>303|243=>192|246=>232|283=>279|284=>280|285=>281|286=>282|129=>209|317=>298|318=>299|319=>300|320=>301|337=>307|338=>308|n=>n,fun |9=>9|3=>3|75=>199|76=>201|4=>4|5=>5|167=>301|37=>194|0=>0|85=>302|2=>2|168=>304|53=>282|175=>338|46=>238|210=>342|127=>251|145=>361|143=>359|21=>21|171=>334|173=>336|212=>356|51=>280|20=>20|213=>357|232=>365|233=>366|80=>166|n=>n,fun |15=>0|16=>1|17=>3|18=>4|19=>5|n=>n⟩
theorem Tryz.laysC172:Go.Proofs.LaysC.n172 prog Tryz.laysC172_ren:={
 mixed:=ag
 f129:=func209.trans (aZ some ag)
 f171:=func146.trans (aZ some ag)
 f172:=func147.trans (aZ some ag)
 f205:=func285.trans (aZ some ag)
 f243:=func192.trans (aZ some ag)
 f244:=func193.trans (aZ some ag)
 f245:=func194.trans (aZ some ag)
 f246:=func232.trans (aZ some ag)
 f247:=func233.trans (aZ some ag)
 f279:=func234.trans (aZ some ag)
 f280:=func235.trans (aZ some ag)
 f281:=func236.trans (aZ some ag)
 f282:=func237.trans (aZ some ag)
 f283:=func279.trans (aZ some ag)
 f284:=func280.trans (aZ some ag)
 f285:=func281.trans (aZ some ag)
 f286:=func282.trans (aZ some ag)
 f287:=func283.trans (aZ some ag)
 f316:=func284.trans (aZ some ag)
 f317:=func298.trans (aZ some ag)
 f318:=func299.trans (aZ some ag)
 f319:=func300.trans (aZ some ag)
 f320:=func301.trans (aZ some ag)
 f321:=func302.trans (aZ some ag)
 f322:=func303.trans (aZ some ag)
 f337:=func307.trans (aZ some ag)
 f338:=func308.trans (aZ some ag)
 t0:=underlying0
 a0:=isAgg0
 z0:=sizeOf0
 v0:=zeroValue0
 t2:=underlying2
 a2:=isAgg2
 z2:=sizeOf2
 v2:=zeroValue2
 t3:=underlying3
 a3:=isAgg3
 z3:=sizeOf3
 v3:=zeroValue3
 t4:=underlying4
 a4:=isAgg4
 z4:=sizeOf4
 v4:=zeroValue4
 t5:=underlying5
 a5:=isAgg5
 z5:=sizeOf5
 v5:=zeroValue5
 t9:=underlying9
 a9:=isAgg9
 z9:=sizeOf9
 v9:=zeroValue9
 t20:=underlying20
 a20:=isAgg20
 z20:=sizeOf20
 v20:=zeroValue20
 t21:=underlying21
 a21:=isAgg21
 z21:=sizeOf21
 v21:=zeroValue21
 t37:=underlying194
 a37:=isAgg194
 z37:=sizeOf194
 v37:=zeroValue194
 t46:=underlying238
 a46:=isAgg238
 z46:=sizeOf238
 v46:=zeroValue238
 t51:=underlying280
 a51:=isAgg280
 z51:=sizeOf280
 v51:=zeroValue280
 t53:=underlying282
 a53:=isAgg282
 z53:=sizeOf282
 v53:=zeroValue282
 t75:=underlying199
 a75:=isAgg199
 z75:=sizeOf199
 v75:=zeroValue199
 t76:=underlying201
 a76:=isAgg201
 z76:=sizeOf201
 v76:=zeroValue201
 t85:=underlying302
 a85:=isAgg302
 z85:=sizeOf302
 v85:=zeroValue302
 t127:=underlying251
 a127:=isAgg251
 z127:=sizeOf251
 v127:=zeroValue251
 t143:=underlying359
 a143:=isAgg359
 z143:=sizeOf359
 v143:=zeroValue359
 t145:=underlying361
 a145:=isAgg361
 z145:=sizeOf361
 v145:=zeroValue361
 t167:=underlying301
 a167:=isAgg301
 z167:=sizeOf301
 v167:=zeroValue301
 t168:=underlying304
 a168:=isAgg304
 z168:=sizeOf304
 v168:=zeroValue304
 t171:=underlying334
 a171:=isAgg334
 z171:=sizeOf334
 v171:=zeroValue334
 t173:=underlying336
 a173:=isAgg336
 z173:=sizeOf336
 v173:=zeroValue336
 t175:=underlying338
 a175:=isAgg338
 z175:=sizeOf338
 v175:=zeroValue338
 t210:=underlying342
 a210:=isAgg342
 z210:=sizeOf342
 v210:=zeroValue342
 t212:=underlying356
 a212:=isAgg356
 z212:=sizeOf356
 v212:=zeroValue356
 t213:=underlying357
 a213:=isAgg357
 z213:=sizeOf357
 t232:=underlying365
 a232:=isAgg365
 z232:=sizeOf365
 v232:=zeroValue365
 t233:=underlying366
 a233:=isAgg366
 z233:=sizeOf366
 v233:=zeroValue366
 g15:=ag
 g16:=ag
 g17:=ag
 g18:=ag
 g19:=ag
 t80:=underlying166
 a80:=isAgg166
 z80:=sizeOf166
 v80:=zeroValue166
 i0:=ag
 i2:=ag
 i3:=ag
 i4:=ag
 i5:=ag
 i9:=ag
 i20:=ag
 i21:=ag
 i37:=ag
 i46:=ag
 i51:=ag
 i53:=ag
 i75:=ag
 i76:=ag
 i80:=ag
 i85:=ag
 i127:=ag
 i143:=ag
 i145:=ag
 i167:=ag
 i168:=ag
 i171:=ag
 i173:=ag
 i175:=ag
 i210:=ag
 i212:=ag
 i232:=ag
 i233:=ag
 m15:=ag
 m16:=ag
 m17:=ag
 m18:=ag
 m19:=ag
 c0:=ag
 c2:=ag
 c3:=ag
 c4:=ag
 c5:=ag
 c9:=ag
 c20:=ag
 c21:=ag
 c37:=ag
 c46:=ag
 c51:=ag
 c53:=ag
 c75:=ag
 c76:=ag
 c80:=ag
 c85:=ag
 c127:=ag
 c143:=ag
 c145:=ag
 c167:=ag
 c168:=ag
 c171:=ag
 c173:=ag
 c175:=ag
 c210:=ag
 c212:=ag
 c213:=ag
 c232:=ag
 c233:=by kernel_rfl}
open Go.RowKit in
theorem Tryz.strconv_Atoi_ok(s:ByteArray)(hmax:s.size<=9223372036854775806)(v:Int)(h:Lib.atoiAll s.data.toList=.ok v)(w:aM):
  ak 147 #[aF s] w λe w'=>e=aL (aI #[az aJ v,.nilIface])/\(w'=w\/∃t,w'=Lib.bytesWorld w 5 t):=Any.strconv_Atoi_ok Tryz.laysC172 s hmax v h w
open Go.RowKit in
open Go.RowKit in
open Go.RowKit in
theorem Tryz.strconv_Atoi_syntax_var(s:ByteArray)(hlim:s.size<=281474976710656)(h:Lib.atoiAll s.data.toList=.«syntax»)(tp:TypeId)(p:Value)(w:World)(hvar:w.var? Tryz.prog "strconv.ErrSyntax" =some #[.iface tp p]):
  ak 147 #[aF s] w λe w'=>∃N,e=aL (aI #[az aJ 0,.iface 304 (aH (some ⟨N,0,none⟩))])/\w.heap.size<=N/\w'.heap[N]?=some (.cells #[aF ⟨#[65,116,111,105]⟩,aF s,.iface tp p] 342 (0,0))/\aj w w':=Any.strconv_Atoi_syntax_var Tryz.laysC172 s hlim h tp p w hvar
open Go.RowKit in
theorem Tryz.strconv_Atoi_range_var(s:ByteArray)(hlim:s.size<=281474976710656)(h:Lib.atoiAll s.data.toList=.range)(tp:TypeId)(p:Value)(w:World)(hvar:w.var? Tryz.prog "strconv.ErrRange" =some #[.iface tp p]):
  ak 147 #[aF s] w λe w'=>∃N,e=aL (aI #[az aJ (Lib.atoiSat s.data.toList),.iface 304 (aH (some ⟨N,0,none⟩))])/\w.heap.size<=N/\w'.heap[N]?=some (.cells #[aF ⟨#[65,116,111,105]⟩,aF s,.iface tp p] 342 (0,0))/\aj w w':=Any.strconv_Atoi_range_var Tryz.laysC172 s hlim h tp p w hvar
end Go.Proofs
namespace Go.Proofs.YtkjhhooecopolaaGreatDoor
open Tryz
open Value renaming int->az,complex->aA,float->aB,agg->aC,bool->aD,string->aF,slice->aG,pointer->aH,tuple->aI
open IntKind renaming i64->aJ
open FloatKind renaming f64->aK
open Ending renaming returned->aL
open Go renaming World->aM,Value->aN,floatOfInt->aO
section
open Go.RowKit
variable{A l:List Pl.Tk}{base size n b k rb:Nat}{w w' w1:aM}
theorem W8(s:ByteArray)(hs:s.size<=400)(w:aM)(hG:Gl w):
  ak 147 #[aF s] w λe w'=>∃v o,e=aL (aI #[az aJ v,o])/\aj w w'/\
   ((Lib.atoiAll s.data.toList=.ok v/\o=.nilIface)\/((∀v,Lib.atoiAll s.data.toList≠.ok v)/\∃t p,o=.iface t p)):=by
 cases h:Lib.atoiAll s.data.toList
 .rename_i v
  refine(Tryz.strconv_Atoi_ok s aa v h w).mono ?_
  rintro e w' ⟨rfl,hw⟩;refine⟨v,_,rfl,?_,aU ⟨rfl,rfl⟩⟩;rcases hw with rfl|⟨t,rfl⟩
  .exact Below.refl _ _
  .exact Lib.bytesWorld_below _ _ _
 .obtain⟨tp,p,hv⟩:=hG.es;refine(Tryz.strconv_Atoi_syntax_var s aa h tp p w hv).mono ?_
  rintro e w' ⟨N,rfl,_,_,hb⟩;exact⟨_,_,rfl,hb,aT ⟨λv hv=>(by cases hv),_,_,rfl⟩⟩
 .obtain⟨tp,p,hv⟩:=hG.er;refine(Tryz.strconv_Atoi_range_var s aa h tp p w hv).mono ?_
  rintro e w' ⟨N,rfl,_,_,hb⟩;exact⟨_,_,rfl,hb,aT ⟨λv hv=>(by cases hv),_,_,rfl⟩⟩
theorem ahK{c:UInt8}(h:Pl.cu c=true):Lib.digitVal c=some (c.toNat-48):=by
 have h1:=fV h;unfold Lib.digitVal;simp[h1]
theorem W9:∀(l:List UInt8)(acc:Nat),(∀c∈l,Pl.cu c=true)->Lib.decFrom acc l=some (l.foldl (λa c=>10*a+(c.toNat-48)) acc)
 |[],acc,_=>rfl
 |c::r,acc,h=>by
  have hc:=ahK (h c af)
  have ih:=W9 r (10*acc+(c.toNat-48)) (λx hx=>h x (by simp[hx]))
  simp only[Lib.decFrom,hc,sL];rw[<-ih];simp[Nat.mul_comm]
theorem Xa(l:List UInt8)(hl:l≠[])(h:∀c∈l,Pl.cu c=true):Lib.decNat l=some (Pl.fw l):=by
 unfold Lib.decNat Pl.fw;rw[aQ (by simpa using hl)]
 exact W9 l 0 h
theorem F9(l:List UInt8):∀c∈l.takeWhile Pl.cu,Pl.cu c=true:=by
 induction l with
 |nil=>intro c hc;simp at hc
 |cons a r ih=>
  intro c hc;rw[Aj] at hc;split at hc
  .rcases bU.1 hc with rfl|h
   .assumption
   .exact ih c h
  .simp at hc
def wO(j:Nat):Array aN:= #[az aJ 0,aF ⟨#[]⟩,az aJ 0,az aJ j]
def oQ(neg:Bool)(c:UInt8)(r:List UInt8):List UInt8:=if neg then c::r.takeWhile Pl.cu else(c::r).takeWhile Pl.cu
def lK(neg:Bool)(c:UInt8)(r:List UInt8):List UInt8:=if neg then r.takeWhile Pl.cu else(c::r).takeWhile Pl.cu
def Gc(neg:Bool)(c:UInt8)(r:List UInt8):Int:=if neg then -(Pl.fw (lK neg c r):Int) else(Pl.fw (lK neg c r):Int)
theorem Xb(neg:Bool)(c:UInt8)(r:List UInt8)(hc:if neg then c.toNat=45 else Pl.cu c=true)(hd:lK neg c r≠[]):
  Lib.atoi (oQ neg c r)=some (Gc neg c r):=by
 cases neg
 .have h0:Pl.cu c=true:=by simpa using hc
  have h1:=fV h0;have e:oQ false c r=c::r.takeWhile Pl.cu:=by simp[oQ,h0]
  have e2:lK false c r=c::r.takeWhile Pl.cu:=by simp[lK,h0]
  have h45:(c == 45)=false:=by
   rw[sM];intro h;rw[h] at h1;simp at h1
  have h43:(c == 43)=false:=by
   rw[sM];intro h;rw[h] at h1;simp at h1
  have hn:=Xa (c::r.takeWhile Pl.cu) af (by
   have:=F9 (c::r);simpa[h0] using this)
  rw[e];unfold Gc;rw[e2];simp only[Lib.atoi,h45,h43,hn];simp
 .have h0:c.toNat=45:=by simpa using hc
  have h45:(c == 45)=true:=by
   rw[VE];exact agl.1 h0
  have hd':r.takeWhile Pl.cu≠[]:=by simpa[lK] using hd
  have hn:=Xa (r.takeWhile Pl.cu) hd' (F9 r);have e:oQ true c r=c::r.takeWhile Pl.cu:=rfl;have e2:lK true c r=r.takeWhile Pl.cu:=rfl;rw[e];unfold Gc;rw[e2];simp only[Lib.atoi,h45,hn];simp
theorem Xc(neg:Bool)(c:UInt8)(r:List UInt8):(oQ neg c r).length<=(lK neg c r).length+1:=by
 cases neg<;>simp[oQ,lK]
theorem Xd(neg:Bool)(c:UInt8)(r:List UInt8)(j:Nat)(hc:if neg then c.toNat=45 else Pl.cu c=true):
  Pl.dA (c::r) j=if lK neg c r=[]\/9<(lK neg c r).length then⟨120,[],0,j⟩ else⟨110,oQ neg c r,Gc neg c r,j⟩:=by
 cases neg
 .have h0:Pl.cu c=true:=by simpa using hc
  have h1:=fV h0;have h2:¬(Pl.isLet c=true):=by
   intro h;have:=fV h;omega
  simp only[Pl.dA];rw[aQ aa,aQ h2,aQ aa]
  rfl
 .have h0:c.toNat=45:=by simpa using hc
  have h2:¬(Pl.isLet c=true):=by
   intro h;have:=fV h;omega
  simp only[Pl.dA];rw[aQ aa,aQ h2,aV h0]
  rfl
theorem Xe(neg:Bool)(c:UInt8)(r:List UInt8)(j:Nat)(v:Int)(hc:if neg then c.toNat=45 else Pl.cu c=true)
  (h:Lib.atoiAll (oQ neg c r)=.ok v)(h9:(lK neg c r).length<=9):
  gw (Pl.dA (c::r) j)= #[az aJ 3,aF ⟨(oQ neg c r).toArray⟩,az aJ v,az aJ j]:=by
 have hr:=Xc neg c r;rw[Lib.atoiAll_short _ aa] at h
 rw[Xd neg c r j hc];by_cases hd:lK neg c r=[]
 .exfalso;cases neg
  .have h0:Pl.cu c=true:=by simpa using hc
   simp[lK,h0] at hd
  .have e:oQ true c r=[c]:=by
    have:r.takeWhile Pl.cu=[]:=hd;simp[oQ,this]
   have h0:c.toNat=45:=by simpa using hc
   have h45:(c == 45)=true:=by
    rw[VE];exact agl.1 h0
   rw[e] at h;simp[Lib.atoi,h45,Lib.decNat,Lib.NumEnd.ofOption] at h
 .rw[Xb neg c r hc hd] at h;rw[aQ (by rintro(h'|h');exact hd h';omega)]
  simp only[Lib.NumEnd.ofOption] at h;injection h with h;simp[gw,Pl.pk,Pl.cM,h]
theorem KC(neg:Bool)(c:UInt8)(r:List UInt8)(j:Nat)(hc:if neg then c.toNat=45 else Pl.cu c=true)
  (h:(∀v,Lib.atoiAll (oQ neg c r)≠.ok v)\/9<(lK neg c r).length):
  gw (Pl.dA (c::r) j)=wO j:=by
 have hr:=Xc neg c r;rw[Xd neg c r j hc];by_cases hd:lK neg c r=[]\/9<(lK neg c r).length
 .rw[aV hd];rfl
 .exfalso;rcases h with h|h
  .apply h (Gc neg c r);rw[Lib.atoiAll_short _ aa,Xb neg c r hc (λe=>hd (aU e))]
   rfl
  .omega
theorem Xf(s:ByteArray)(j k:Nat)(neg:Bool)(h:j<s.size)(hc:if neg then s[j].toNat=45 else Pl.cu s[j]=true)
  (hk:k=(if neg then j+1 else j)+((s.data.toList.drop (if neg then j+1 else j)).takeWhile Pl.cu).length):
  s.extract j k=⟨(oQ neg s[j] (s.data.toList.drop (j+1))).toArray⟩/\(lK neg s[j] (s.data.toList.drop (j+1))).length=k-(if neg then j+1 else j):=by
 rw[Pl.extract_eq,hk,Pl.drop_cons s j h];cases neg
 .simp only[mi,nL,JN];rw[Pl.drop_cons s j h,Pl.take_takeWhile];exact⟨rfl,rfl⟩
 .simp only[kP,JN];rw[show j+1+((s.data.toList.drop (j+1)).takeWhile Pl.cu).length-j=((s.data.toList.drop (j+1)).takeWhile Pl.cu).length+1 from by omega,Fk,Pl.take_takeWhile]
  exact⟨rfl,rfl⟩
theorem ahL(s:ByteArray)(j:Nat)(w:aM)(hlt:j<s.size)(hs:s.size<=400)(hG:Gl w)(hm:((s[j].toNat:Int) == 45)=false)(hc:if false then s[j].toNat=45 else Pl.cu s[j]=true):
  ak 93 #[aF s,az aJ j] w λe w'=>e=aL (aC (gw (Pl.dA (s.data.toList.drop j) j)))/\aj w w':=by
 obtain⟨k,hk⟩:∃k,k=j+((s.data.toList.drop j).takeWhile Pl.cu).length:=⟨_,rfl⟩;have hk1:j<=k/\k<=s.size:=by
  have:=(rq Pl.cu (l:=s.data.toList.drop j)).length_le;simp at this;omega
 obtain⟨hx,hl⟩:=Xf s j k false hlt hc (by simpa using hk)
 have HK:Hid (k=j+((s.data.toList.drop j).takeWhile Pl.cu).length):=hk;have hl':(lK false s[j] (s.data.toList.drop (j+1))).length=k-j:=by simpa using hl
 have HX:Hid (s.extract j k=⟨(oQ false s[j] (s.data.toList.drop (j+1))).toArray⟩):=hx;rw[Pl.drop_cons s j hlt];have hsz:(s.extract j k).size<=400:=by simp[ByteArray.size_extract];omega
 have HA:Hid (∀w1,Gl w1->ak 147 #[aF (s.extract j k)] w1 λe w'=>∃v o,e=aL (aI #[az aJ v,o])/\aj w1 w'/\
   ((k-j<=9->o=.nilIface->gw (Pl.dA (s[j]::s.data.toList.drop (j+1)) j)= #[az aJ 3,aF (s.extract j k),az aJ v,az aJ j])/\
   ((o=.nilIface\/∃t p,o=.iface t p)/\((9<k-j\/∃t p,o=.iface t p)->gw (Pl.dA (s[j]::s.data.toList.drop (j+1)) j)=wO j)))):=λw1 g1=>by
  refine(W8 _ hsz w1 g1).mono ?_;rintro e w' ⟨v,o,rfl,hb,ho⟩;refine⟨v,o,rfl,hb,?_⟩;rw[hx] at ho⊢;simp only[] at ho;rcases ho with⟨hv,rfl⟩|⟨hv,t,p,rfl⟩
  .refine⟨λh9 _=>Xe false s[j] _ j v hc hv aa,aU rfl,?_⟩
   rintro(h|⟨t,p,h⟩)
   .exact KC false s[j] _ j hc (aT aa)
   .cases h
  .refine⟨λ_ h=>(by cases h),aT ⟨t,p,rfl⟩,λ_=>KC false s[j] _ j hc (aU hv)⟩
 clear hx hl hl' hk hsz HX;generalize gw (Pl.dA (s[j]::s.data.toList.drop (j+1)) j)=T at*;clear hc
 go_enter func93,ntmps93
 go_wp2_with fail
 refine(WY s j k _ aa hs HK.out).mono ?_
 rintro e w' ⟨rfl,rfl⟩
 go_wp2_with fail
 refine(HA.out _ (hG.alloc _)).mono ?_;rintro e w1 ⟨v,o,rfl,hb,h1,h2,h3⟩;have H1:Hid (k-j<=9->o=.nilIface->T= #[az aJ 3,aF (s.extract j k),az aJ v,az aJ j]):=h1;have H3:Hid ((9<k-j\/∃t p,o=.iface t p)->T=wO j):=h3;clear h1 h3;obtain⟨hcc,hf⟩:=KB hb;have hz:w.heap.size<w1.heap.size:=by have:=hb.size;simp at this;omega
 rcases h2 with rfl|⟨t,p,rfl⟩
 .by_cases h9:k-j<=9
  .have hT:=H1.out h9 rfl;subst hT;clear H1 H3 HA
   go_wp2_with fail
   refine bodyPost_ret (v:=aC #[az aJ 3,aF (s.extract j k),az aJ v,az aJ j]) (by simp[results,results93,go_sem,hcc]) rfl ⟨rfl,?_⟩
   exact((((((Below.refl w.heap.size w).alloc (aY _) _).trans (hb.mono af)).setCell (aY _) _).setCell (aY _) _).setCell (aY _) _).setCell (aY _) _
  .have hT:=H3.out (aU aa)
   unfold wO at hT;subst hT;clear H1 H3 HA
   go_wp2_with fail
   refine bodyPost_ret (v:=aC #[az aJ 0,aF ⟨#[]⟩,az aJ 0,az aJ j]) (by simp[results,results93,go_sem,hcc]) rfl ⟨rfl,?_⟩
   exact((((((Below.refl w.heap.size w).alloc (aY _) _).trans (hb.mono af)).setCell (aY _) _).setCell (aY _) _).setCell (aY _) _).setCell (aY _) _
 .have hT:=H3.out (aT ⟨t,p,rfl⟩);unfold wO at hT;subst hT;clear H1 H3 HA
  go_wp2_with fail
  refine bodyPost_ret (v:=aC #[az aJ 0,aF ⟨#[]⟩,az aJ 0,az aJ j]) (by simp[results,results93,go_sem,hcc]) rfl ⟨rfl,?_⟩
  exact((((((Below.refl w.heap.size w).alloc (aY _) _).trans (hb.mono af)).setCell (aY _) _).setCell (aY _) _).setCell (aY _) _).setCell (aY _) _
theorem ahM(s:ByteArray)(j:Nat)(w:aM)(hlt:j<s.size)(hs:s.size<=400)(hG:Gl w)(hm:((s[j].toNat:Int) == 45)=true)(hc:if true then s[j].toNat=45 else Pl.cu s[j]=true):
  ak 93 #[aF s,az aJ j] w λe w'=>e=aL (aC (gw (Pl.dA (s.data.toList.drop j) j)))/\aj w w':=by
 obtain⟨k,hk⟩:∃k,k=(j+1)+((s.data.toList.drop (j+1)).takeWhile Pl.cu).length:=⟨_,rfl⟩;have hk1:(j+1)<=k/\k<=s.size:=by
  have:=(rq Pl.cu (l:=s.data.toList.drop (j+1))).length_le;simp at this;omega
 obtain⟨hx,hl⟩:=Xf s j k true hlt hc (by simpa using hk)
 have HK:Hid (k=(j+1)+((s.data.toList.drop (j+1)).takeWhile Pl.cu).length):=hk;have hl':(lK true s[j] (s.data.toList.drop (j+1))).length=k-(j+1):=by simpa using hl
 have HX:Hid (s.extract j k=⟨(oQ true s[j] (s.data.toList.drop (j+1))).toArray⟩):=hx;rw[Pl.drop_cons s j hlt];have hsz:(s.extract j k).size<=400:=by simp[ByteArray.size_extract];omega
 have HA:Hid (∀w1,Gl w1->ak 147 #[aF (s.extract j k)] w1 λe w'=>∃v o,e=aL (aI #[az aJ v,o])/\aj w1 w'/\
   ((k-(j+1)<=9->o=.nilIface->gw (Pl.dA (s[j]::s.data.toList.drop (j+1)) j)= #[az aJ 3,aF (s.extract j k),az aJ v,az aJ j])/\
   ((o=.nilIface\/∃t p,o=.iface t p)/\((9<k-(j+1)\/∃t p,o=.iface t p)->gw (Pl.dA (s[j]::s.data.toList.drop (j+1)) j)=wO j)))):=λw1 g1=>by
  refine(W8 _ hsz w1 g1).mono ?_;rintro e w' ⟨v,o,rfl,hb,ho⟩;refine⟨v,o,rfl,hb,?_⟩;rw[hx] at ho⊢;simp only[] at ho;rcases ho with⟨hv,rfl⟩|⟨hv,t,p,rfl⟩
  .refine⟨λh9 _=>Xe true s[j] _ j v hc hv aa,aU rfl,?_⟩
   rintro(h|⟨t,p,h⟩)
   .exact KC true s[j] _ j hc (aT aa)
   .cases h
  .refine⟨λ_ h=>(by cases h),aT ⟨t,p,rfl⟩,λ_=>KC true s[j] _ j hc (aU hv)⟩
 clear hx hl hl' hk hsz HX;generalize gw (Pl.dA (s[j]::s.data.toList.drop (j+1)) j)=T at*;clear hc
 go_enter func93,ntmps93
 go_wp2_with fail
 refine(WY s (j+1) k _ aa hs HK.out).mono ?_
 rintro e w' ⟨rfl,rfl⟩
 go_wp2_with fail
 refine(HA.out _ (hG.alloc _)).mono ?_;rintro e w1 ⟨v,o,rfl,hb,h1,h2,h3⟩;have H1:Hid (k-(j+1)<=9->o=.nilIface->T= #[az aJ 3,aF (s.extract j k),az aJ v,az aJ j]):=h1;have H3:Hid ((9<k-(j+1)\/∃t p,o=.iface t p)->T=wO j):=h3;clear h1 h3;obtain⟨hcc,hf⟩:=KB hb;have hz:w.heap.size<w1.heap.size:=by have:=hb.size;simp at this;omega
 rcases h2 with rfl|⟨t,p,rfl⟩
 .by_cases h9:k-(j+1)<=9
  .have hT:=H1.out h9 rfl;subst hT;clear H1 H3 HA
   go_wp2_with fail
   refine bodyPost_ret (v:=aC #[az aJ 3,aF (s.extract j k),az aJ v,az aJ j]) (by simp[results,results93,go_sem,hcc]) rfl ⟨rfl,?_⟩
   exact((((((Below.refl w.heap.size w).alloc (aY _) _).trans (hb.mono af)).setCell (aY _) _).setCell (aY _) _).setCell (aY _) _).setCell (aY _) _
  .have hT:=H3.out (aU aa)
   unfold wO at hT;subst hT;clear H1 H3 HA
   go_wp2_with fail
   refine bodyPost_ret (v:=aC #[az aJ 0,aF ⟨#[]⟩,az aJ 0,az aJ j]) (by simp[results,results93,go_sem,hcc]) rfl ⟨rfl,?_⟩
   exact((((((Below.refl w.heap.size w).alloc (aY _) _).trans (hb.mono af)).setCell (aY _) _).setCell (aY _) _).setCell (aY _) _).setCell (aY _) _
 .have hT:=H3.out (aT ⟨t,p,rfl⟩);unfold wO at hT;subst hT;clear H1 H3 HA
  go_wp2_with fail
  refine bodyPost_ret (v:=aC #[az aJ 0,aF ⟨#[]⟩,az aJ 0,az aJ j]) (by simp[results,results93,go_sem,hcc]) rfl ⟨rfl,?_⟩
  exact((((((Below.refl w.heap.size w).alloc (aY _) _).trans (hb.mono af)).setCell (aY _) _).setCell (aY _) _).setCell (aY _) _).setCell (aY _) _
theorem Xg:WZ:=by
 intro s j w hlt hs hG hd;by_cases h:s[j].toNat=45
 .exact ahM s j w hlt hs hG (by simp;omega) (by simpa using h)
 .exact ahL s j w hlt hs hG (by simp;omega) (by simpa using(hd hlt).resolve_right h)
theorem bB{e:TypeId}{v:aN}{xs:List aN}(h:w.ownsRow base e size v n xs)
  (hk:∀k,v.ownBlock=some k->w'.heap[k]?=w.heap[k]?):w'.ownsRow base e size v n xs:=by
 obtain⟨h1,h2⟩:=h;refine⟨h1,?_⟩;rcases h2 with h2|⟨g,cap,cur,hv,hg,hh,r⟩
 .exact aU h2
 .exact aT ⟨g,cap,cur,hv,hg,by rw[hk g (by rw[hv];rfl)];exact hh,r⟩
theorem bn{e:TypeId}{v:aN}{xs:List aN}(h:w.ownsRow base e size v n xs):
  ∀k,v.ownBlock=some k->base<=k/\k<w.heap.size:=h.lt
theorem cell_of{c:Array aN}{T:TypeId}(h:w.heap[b]?=some (.cells c T (0,0)))(o:Nat):w.cell? ⟨b,o,none⟩=c[o]?:=by
 simp[World.cell?,h]
theorem bK{c:Array aN}{T:TypeId}(h:w.heap[b]?=some (.cells c T (0,0)))(o:Nat):w.frozen? ⟨b,o,none⟩=false:=by
 simp[World.frozen?,h]
theorem lt_of_heap{o:Obj}(h:w.heap[b]?=some o):b<w.heap.size:=by
 rcases oK b w.heap.size with h1|h1
 .exact h1
 .rw[JO h1] at h;cases h
theorem heap_set{o:Nat}{c:Array aN}{T:TypeId}(h:w.heap[b]?=some (.cells c T (0,0)))(v:aN):
  (w.setCell ⟨b,o,none⟩ v).heap[b]?=some (.cells (c.setIfInBounds o v) T (0,0)):=by
 simp[World.setCell,Array.getElem?_modify,h]
theorem dQ{o:Nat}(h:k≠b)(v:aN):(w.setCell ⟨b,o,none⟩ v).heap[k]?=w.heap[k]?:=Below.heap_setCell _ _ _ _ h
def AR(p:Int×Int):aN:=aA aK (aO aK p.1) (aO aK p.2)
def rE(g:List (Int×Int)):List aN:=g.map AR
def qC(c:List Pl.Tk):List aN:=c.flatMap λt=>(gw t).toList
theorem ahN(c:List Pl.Tk)(t:Pl.Tk):qC (c++[t])=qC c++(gw t).toList:=by simp[qC]
def tE(rb:Nat)(rv:aN)(rg:List (List (Int×Int)))(w:aM):Prop:=
 ∃vs:List aN,vs.length=rg.length/\w.ownsRow (rb+1) 127 1 rv rg.length vs/\
  (∀(i:Nat) v g,vs[i]?=some v->rg[i]?=some g->w.ownsRow (rb+1) 81 1 v g.length (rE g))/\
  (∀(i j:Nat) v u k,vs[i]?=some v->vs[j]?=some u->v.ownBlock=some k->u.ownBlock=some k->i=j)
theorem tE.kept{rv:aN}{rg:List (List (Int×Int))}(h:tE rb rv rg w)
  (hk:∀k cur e,w.heap[k]?=some (.cells cur e (0,0))->(e=127\/e=81)->rb<k->w'.heap[k]?=w.heap[k]?):tE rb rv rg w':=by
 obtain⟨vs,h1,h2,h3,h4⟩:=h;have key:∀e v n xs,(e=127\/e=81)->w.ownsRow (rb+1) e 1 v n xs->w'.ownsRow (rb+1) e 1 v n xs:=λe v n xs he ho=>by
  refine bB ho λk hv=>?_
  rcases ho.2 with⟨ha,_⟩|⟨g,cap,cur,hv',hg,hh,r⟩
  .rw[ha] at hv;cases hv
  .rw[hv'] at hv;have:g=k:=by simpa[Value.ownBlock] using hv
   subst this;exact hk g cur e hh he hg
 exact⟨vs,h1,key _ _ _ _ (aU rfl) h2,λi v g a b=>key _ _ _ _ (aT rfl) (h3 i v g a b),h4⟩
def KD(s:ByteArray)(t:Pl.Tk)(tv rv:aN):Array aN:= #[aF s,az aJ (Pl.pk t),aF ⟨(Pl.cM t).toArray⟩,az aJ t.n,az aJ t.pl,tv,rv]
def RD(rb:Nat)(s:ByteArray)(A l:List Pl.Tk)(rg:List (List (Int×Int)))(w:aM):Prop:=
 ∃c t r tv rv,c++l=A/\l=t::r/\w.heap[rb]?=some (.cells (KD s t tv rv) 80 (0,0))/\
  w.ownsRow (rb+1) 76 4 tv c.length (qC c)/\tE rb rv rg w
theorem Dt{o:Obj}{row:Option Nat}(hg:(w.alloc o).grownBy w1 row)(k:Nat)(hk:k<w.heap.size)(hne:row≠some k):w1.heap[k]?=w.heap[k]?:=
 (hg.block k (by simp;omega) (λe=>hne e.symm)).trans (Below.heap_alloc _ _ _ hk)
theorem uK{o:Obj}{row:Option Nat}(hg:(w.alloc o).drew.grownBy w1 row)(k:Nat)(hk:k<w.heap.size)(hne:row≠some k):w1.heap[k]?=w.heap[k]?:=
 (hg.block k (by show k<(w.alloc o).heap.size;simp;omega) (λe=>hne e.symm)).trans (Below.heap_alloc _ _ _ hk)
theorem uL{e:TypeId}{v:aN}{xs:List aN}(h:w.ownsRow base e size v n xs)(k:Nat)(hk:k<base):v.ownBlock≠some k:=
 λe=>by have:=(bn h k e).1;omega
structure Cx(rb:Nat)(s:ByteArray)(A:List Pl.Tk):Prop where
 hs:s.size<=400
 ch:Pl.jR s.data.toList A
 len:A.length<=402
 pl:∀t∈A,Pl.Place s.data.toList t
 rb:6<=rb
theorem tF{e e':TypeId}{v:aN}{xs:List aN}{cur:Array aN}(h:w.ownsRow base e size v n xs)
  (hk:w.heap[k]?=some (.cells cur e' (0,0)))(hne:e'≠e):v.ownBlock≠some k:=by
 intro hv;rcases h.2 with⟨ha,_⟩|⟨g,cap,cur',hv',hg,hh,r⟩
 .rw[ha] at hv;cases hv
 .rw[hv'] at hv;have:g=k:=by simpa[Value.ownBlock] using hv
  subst this;rw[hh] at hk;injection hk with hk;injection hk with _ hk _;exact hne hk.symm
def NT(rb k:Nat)(w:aM):Prop:=∃tv,w.cell? ⟨rb,5,none⟩=some tv/\tv.ownBlock≠some k
def Kp(rb:Nat)(w w':aM):Prop:=∀k o,k≠rb->NT rb k w->w.heap[k]?=some o->w'.heap[k]?=some o/\NT rb k w'
def qD:Prop:=∀(rb:Nat)(s:ByteArray)(A r:List Pl.Tk)(t:Pl.Tk)(rg:List (List (Int×Int)))(w:aM),Cx rb s A->RD rb s A (t::r) rg w->Gl w->
  (t.k=119\/t.k=110\/t.k=40\/t.k=41\/t.k=44)->
  ak 148 #[aH (some ⟨rb,0,none⟩)] w λe w'=>e=aL (aI #[])/\RD rb s A r rg w'/\Below rb w w'/\Kp rb w w'
theorem RD.cells{s:ByteArray}{rg:List (List (Int×Int))}(h:RD rb s A l rg w):
  ∃t r,l=t::r/\w.cell? ⟨rb,0,none⟩=some (aF s)/\w.cell? ⟨rb,1,none⟩=some (az aJ (Pl.pk t))/\w.cell? ⟨rb,2,none⟩=some (aF ⟨(Pl.cM t).toArray⟩)/\w.cell? ⟨rb,3,none⟩=some (az aJ t.n)/\w.cell? ⟨rb,4,none⟩=some (az aJ t.pl):=by
 obtain⟨c,t,r,tv,rv,hc,hl,hb,hown,hrg⟩:=h;exact⟨t,r,hl,cell_of hb 0,cell_of hb 1,cell_of hb 2,cell_of hb 3,cell_of hb 4⟩
theorem RD.below{s:ByteArray}{rg:List (List (Int×Int))}(h:RD rb s A l rg w)(hb:aj w w'):RD rb s A l rg w':=by
 obtain⟨c,t,r,tv,rv,hc,hl,hbk,hown,hrg⟩:=h;refine⟨c,t,r,tv,rv,hc,hl,(hb.block rb (lt_of_heap hbk)).trans hbk,bB hown λk hk=>hb.block k (bn hown k hk).2,hrg.kept λk cur e hk _ _=>hb.block k (lt_of_heap hk)⟩
theorem RD.alloc{s:ByteArray}{rg:List (List (Int×Int))}(h:RD rb s A l rg w)(o:Obj):RD rb s A l rg (w.alloc o):=
 h.below ((Below.refl _ _).alloc (aY _) o)
theorem RD.lt{s:ByteArray}{rg:List (List (Int×Int))}(h:RD rb s A l rg w):rb<w.heap.size:=by
 obtain⟨c,t,r,tv,rv,hc,hl,hbk,hown,hrg⟩:=h;exact lt_of_heap hbk
theorem RD.nt{s:ByteArray}{rg:List (List (Int×Int))}(h:RD rb s A l rg w)(k:Nat)(hk:w.heap.size<=k):NT rb k w:=by
 obtain⟨c,t,r,tv,rv,hc,hl,hbk,hown,hrg⟩:=h;exact⟨tv,cell_of hbk 5,λe=>by have:=(bn hown k e).2;omega⟩
theorem NT.below(h:NT rb k w)(uM:rb<w.heap.size)(hb:aj w w'):NT rb k w':=by
 obtain⟨tv,h1,h2⟩:=h;exact⟨tv,(aS hb h1 uM),h2⟩
end
section
namespace Pl
def Form(t:Tk):Prop:=((t.k=101\/t.k=120)/\t.raw=[])\/(∃c:UInt8,t.raw=[c]/\t.k=c.toNat/\(c.toNat=40\/c.toNat=41\/c.toNat=44\/c.toNat=47))\/
 (t.k=119/\∃c r,t.raw=c::r/\isLet c=true)\/(t.k=110/\∃c r,t.raw=c::r/\(cu c=true\/c.toNat=45))
theorem ahO(l:List UInt8)(i:Nat):Form (dA l i):=by
 unfold dA;split
 .exact aU ⟨aU rfl,rfl⟩
 .rename_i c r
  split
  .rename_i h;exact aT (aU ⟨c,rfl,rfl,h⟩)
  .split
   .rename_i h
    exact aT (aT (aU ⟨rfl,c,r.takeWhile isLet,by simp[h],h⟩))
   .split
    .rename_i h
     split
     .exact aU ⟨aT rfl,rfl⟩
     .exact aT (aT (aT ⟨rfl,c,_,rfl,aT h⟩))
    .split
     .exact aU ⟨aT rfl,rfl⟩
     .rename_i h
      by_cases hd:cu c=true
      .exact aT (aT (aT ⟨rfl,c,r.takeWhile cu,by simp[hd],aU hd⟩))
      .exact absurd (aU (by simp[hd])) h
theorem Qb{s:List UInt8}{t:Tk}(h:Place s t):Form t:=by
 obtain⟨_,i,_,rfl⟩:=h;exact ahO _ _
theorem KE{t:Tk}(h:Form t)(c:UInt8)(hc:c.toNat=40\/c.toNat=41\/c.toNat=44):cM t=[c]↔t.k=c.toNat:=by
 unfold cM;rcases h with⟨hk,hr⟩|⟨d,hr,hk,hd⟩|⟨hk,d,r,hr,hd⟩|⟨hk,d,r,hr,hd⟩
 .rw[aQ aa,hr]
  constructor
  .intro h;cases h
  .intro h;omega
 .by_cases h47:t.k=47
  .rw[aV h47];constructor
   .intro h;cases h
   .intro h;omega
  .rw[aQ h47,hr,hk];constructor
   .intro h;injection h with h;rw[h]
   .intro h;rw[agl.1 h]
 .rw[aQ aa,hr]
  constructor
  .intro h;injection h with h;have:=fV hd;rw[h] at this;omega
  .intro h;omega
 .rw[aQ aa,hr]
  constructor
  .intro h;injection h with h;rcases hd with hd|hd
   .have:=fV hd;rw[h] at this;omega
   .rw[h] at hd;omega
  .intro h;omega
theorem Xh{t:Tk}(h:Form t)(q:List UInt8)(a:UInt8)(b:List UInt8)(hq:q=a::b)(ha:isLet a=true):cM t=q↔(t.k=119/\t.raw=q):=by
 have ha':=fV ha;unfold cM;rcases h with⟨hk,hr⟩|⟨d,hr,hk,hd⟩|⟨hk,d,r,hr,hd⟩|⟨hk,d,r,hr,hd⟩
 .rw[aQ aa,hr,hq]
  constructor
  .intro h;cases h
  .intro h;cases h.2
 .by_cases h47:t.k=47
  .rw[aV h47,hq];constructor
   .intro h;cases h
   .intro h;omega
  .rw[aQ h47,hr,hq];constructor
   .intro h;injection h with h;rw[h] at hd;omega
   .intro h;omega
 .rw[aQ aa]
  exact⟨λh=>⟨hk,h⟩,λh=>h.2⟩
 .rw[aQ aa,hr,hq]
  constructor
  .intro h;injection h with h;rcases hd with hd|hd
   .have:=fV hd;rw[h] at this;omega
   .rw[h] at hd;omega
  .intro h;omega
theorem yQ{t:Tk}:pk t=3↔t.k=110:=by
 unfold pk;constructor
 .intro h
  repeat' split at h
  all_goals first |assumption|omega
 .intro h;rw[aQ aa,aQ aa,aV h]
theorem Xi{t:Tk}:pk t=1↔t.k=101:=by
 unfold pk;constructor
 .intro h
  repeat' split at h
  all_goals first |assumption|omega
 .intro h;rw[aV h]
end Pl
end
section
open Go.RowKit
theorem Xj(hO:qD)(rb:Nat)(s q:ByteArray)(A r:List Pl.Tk)(t:Pl.Tk)(rg:List (List (Int×Int)))(w:aM)(cx:Cx rb s A)(hR:RD rb s A (t::r) rg w)(hG:Gl w)
  (hk:t.k=119\/t.k=110\/t.k=40\/t.k=41\/t.k=44)(hq:(⟨(Pl.cM t).toArray⟩:ByteArray)=q):
  ak 94 #[aH (some ⟨rb,0,none⟩),aF q] w λe w'=>e=aL (aD true)/\RD rb s A r rg w'/\Below rb w w':=by
 obtain⟨t',r',hl,c0,c1,c2,c3,c4⟩:=hR.cells;injection hl with h1 h2;subst h1 h2;rw[hq] at c2;clear hq;have HO:Hid (ak 148 #[aH (some ⟨rb,0,none⟩)] w λe w'=>e=aL (aI #[])/\RD rb s A r rg w'/\Below rb w w'/\Kp rb w w'):=hO rb s A r t rg w cx hR hG hk
 clear hO hR hk
 go_enter func94,ntmps94
 go_wp2_with fail
 refine HO.out.mono ?_;rintro e w1 ⟨rfl,h1,h2,h3⟩
 go_wp2_with fail
 go_ret
 exact⟨rfl,h1,h2⟩
theorem Xk(rb:Nat)(s q:ByteArray)(A r:List Pl.Tk)(t:Pl.Tk)(rg:List (List (Int×Int)))(w:aM)(hR:RD rb s A (t::r) rg w)
  (hq:((⟨(Pl.cM t).toArray⟩:ByteArray).toList == q.toList)=false):
  ak 94 #[aH (some ⟨rb,0,none⟩),aF q] w λe w'=>e=aL (aD false)/\w'=w:=by
 obtain⟨t',r',hl,c0,c1,c2,c3,c4⟩:=hR.cells;injection hl with h1 h2;subst h1 h2;generalize(⟨(Pl.cM t).toArray⟩:ByteArray)=a at*;clear hR
 go_enter func94,ntmps94
 go_wp2_with fail
 go_ret
 exact⟨rfl,rfl⟩
theorem RD.suffix{rb:Nat}{s:ByteArray}{A l:List Pl.Tk}{rg:List (List (Int×Int))}{w:aM}(h:RD rb s A l rg w):∃c t r,c++l=A/\l=t::r:=by
 obtain⟨c,t,r,tv,rv,hc,hl,_⟩:=h;exact⟨c,t,r,hc,hl⟩
theorem RD.form{rb:Nat}{s:ByteArray}{A r:List Pl.Tk}{t:Pl.Tk}{rg:List (List (Int×Int))}{w:aM}(cx:Cx rb s A)(h:RD rb s A (t::r) rg w):Pl.Form t:=by
 obtain⟨c,_,_,hc,_⟩:=h.suffix;exact Pl.Qb (cx.pl t (by rw[<-hc];simp))
theorem Du(hO:qD)(c:UInt8)(hc:c.toNat=40\/c.toNat=41\/c.toNat=44)(rb:Nat)(s:ByteArray)(A l:List Pl.Tk)(rg:List (List (Int×Int)))(w:aM)(cx:Cx rb s A)(hR:RD rb s A l rg w)(hG:Gl w):
  ak 94 #[aH (some ⟨rb,0,none⟩),aF ⟨#[c]⟩] w λe w'=>e=aL (aD (Pl.mk c.toNat l).1)/\RD rb s A (Pl.mk c.toNat l).2 rg w'/\Below rb w w':=by
 obtain⟨_,t,r,_,rfl⟩:=hR.suffix;have hf:=hR.form cx;by_cases hk:t.k=c.toNat
 .have e:Pl.mk c.toNat (t::r)=(true,r):=by simp[Pl.mk,hk]
  rw[e];exact Xj hO rb s ⟨#[c]⟩ A r t rg w cx hR hG aa (by rw[(Pl.KE hf c hc).2 hk])
 .have e:Pl.mk c.toNat (t::r)=(false,t::r):=by simp[Pl.mk,hk]
  rw[e];refine(Xk rb s ⟨#[c]⟩ A r t rg w hR ?_).mono ?_
  .rw[ByteArray.toList_eq,ByteArray.toList_eq,sM];intro h;exact hk ((Pl.KE hf c hc).1 (by simpa using h))
  .rintro e w' ⟨rfl,rfl⟩;exact⟨rfl,hR,Below.refl _ _⟩
theorem KF(hO:qD)(q:List UInt8)(a:UInt8)(b:List UInt8)(hq:q=a::b)(ha:Pl.isLet a=true)(rb:Nat)(s:ByteArray)(A l:List Pl.Tk)(rg:List (List (Int×Int)))(w:aM)(cx:Cx rb s A)(hR:RD rb s A l rg w)(hG:Gl w):
  ak 94 #[aH (some ⟨rb,0,none⟩),aF ⟨q.toArray⟩] w λe w'=>e=aL (aD (Pl.wd q l).1)/\RD rb s A (Pl.wd q l).2 rg w'/\Below rb w w':=by
 obtain⟨_,t,r,_,rfl⟩:=hR.suffix;have hf:=hR.form cx;by_cases hk:t.k=119/\t.raw=q
 .have e:Pl.wd q (t::r)=(true,r):=by simp[Pl.wd,hk]
  rw[e];exact Xj hO rb s ⟨q.toArray⟩ A r t rg w cx hR hG aa (by rw[(Pl.Xh hf q a b hq ha).2 hk])
 .have e:Pl.wd q (t::r)=(false,t::r):=by simp only[Pl.wd];rw[aQ hk]
  rw[e];refine(Xk rb s ⟨q.toArray⟩ A r t rg w hR ?_).mono ?_
  .rw[ByteArray.toList_eq,ByteArray.toList_eq,sM];intro h;exact hk ((Pl.Xh hf q a b hq ha).1 (by simpa using h))
  .rintro e w' ⟨rfl,rfl⟩;exact⟨rfl,hR,Below.refl _ _⟩
theorem Qc(hO:qD)(rb:Nat)(s:ByteArray)(A r:List Pl.Tk)(t:Pl.Tk)(rg:List (List (Int×Int)))(w:aM)(cx:Cx rb s A)(hR:RD rb s A (t::r) rg w)(hG:Gl w)(hk:t.k=110):
  ak 238 #[aH (some ⟨rb,0,none⟩)] w λe w'=>e=aL (aD true)/\RD rb s A r rg w'/\Below rb w w'/\Kp rb w w':=by
 obtain⟨t',r',hl,c0,c1,c2,c3,c4⟩:=hR.cells;injection hl with h1 h2;subst h1 h2;rw[Pl.yQ.2 hk] at c1;have HO:Hid (ak 148 #[aH (some ⟨rb,0,none⟩)] w λe w'=>e=aL (aI #[])/\RD rb s A r rg w'/\Below rb w w'/\Kp rb w w'):=hO rb s A r t rg w cx hR hG aa
 clear hO hR hk
 go_enter func238,ntmps238
 go_wp2_with fail
 refine HO.out.mono ?_;rintro e w1 ⟨rfl,h1,h2,h3⟩
 go_wp2_with fail
 go_ret
 exact⟨rfl,h1,h2,h3⟩
theorem Xl(rb:Nat)(s:ByteArray)(A r:List Pl.Tk)(t:Pl.Tk)(rg:List (List (Int×Int)))(w:aM)(hR:RD rb s A (t::r) rg w)(hk:t.k≠110):
  ak 238 #[aH (some ⟨rb,0,none⟩)] w λe w'=>e=aL (aD false)/\w'=w:=by
 obtain⟨t',r',hl,c0,c1,c2,c3,c4⟩:=hR.cells;injection hl with h1 h2;subst h1 h2;have hp:(Pl.pk t != 3)=true:=by
  rw[yx];intro h;exact hk (Pl.yQ.1 h)
 generalize Pl.pk t=a at*;clear hR hk
 go_enter func238,ntmps238
 go_wp2_with fail
 go_ret
 exact⟨rfl,rfl⟩
end
end Go.Proofs.YtkjhhooecopolaaGreatDoor
