import Derived.Test.YtkjhhooecopolaaGreatDoorWz02
import Derived.Test.YtkjhhooecopolaaGreatDoorProg
set_option maxRecDepth 100000
set_option maxHeartbeats 4000000
namespace Go.Proofs.YtkjhhooecopolaaGreatDoor.Gb
open Ge Ga
def Fc(S:List Sg)(s u:Sg):Prop:=∀es,Cl es->In S es->Lf es s=Lf es u
theorem Fc.refl(S:List Sg)(s:Sg):Fc S s s:=fun _ _ _=>rfl
theorem Fc.symm{S:List Sg}{s u:Sg}(h:Fc S s u):Fc S u s:=fun es a b=>(h es a b).symm
theorem Fc.trans{S:List Sg}{s u v:Sg}(h:Fc S s u)(k:Fc S u v):Fc S s v:=fun es a b=>(h es a b).trans (k es a b)
structure LR(S:List Sg)(nx:Sg->Sg)(R:List Sg):Prop where
 ring:eo S nx R
 least:∀a,R.head?=some a->∀s∈R,ge a.1 s.1
def shl(R:List Sg):Prop:=∃a z,R.head?=some a/\R.getLast?=some z/\0<cr (dr z) (dr a)
theorem Q4:∀(R:List Sg),R≠[]->∃a∈R,∀s∈R,ge a.1 s.1
 |[],h=>absurd rfl h
 |[a],_=>⟨a,by simp,fun s hs=>by rw[bY.1 hs];exact Gm _⟩
 |a::b::R,_=>by
  obtain⟨c,hc,hl⟩:=Q4 (b::R) (by simp)
  rcases K5 a.1 c.1 with k|k
  ·refine⟨a,by simp,fun s hs=>?_⟩
   rcases aP.1 hs with e|e
   ·rw[e];exact Gm _
   ·exact K6 k (hl s e)
  ·refine⟨c,aT _ hc,fun s hs=>?_⟩
   rcases aP.1 hs with e|e
   ·rw[e];exact k
   ·exact hl s e
section
variable{S:List Sg}{nx:Sg->Sg}
theorem Wd.fc(h:Wd S nx){s u:Sg}(hs:s∈S)(hw:Ce nx s u):Fc S s u:=fun _ a b=>(h.along a b hs hw).symm
theorem mM.fc(h:Wd S nx){s t:Sg}(ht:t∈S)(k:mM nx s t):Fc S s t:=by
 obtain⟨_,n,e,_⟩:=k;rw[<-e];exact(h.fc ht (Ck nx t n)).symm
theorem eo.fc(h:Wd S nx){R:List Sg}(k:eo S nx R){a s:Sg}(ha:R.head?=some a)(hs:s∈R):Fc S a s:=by
 have key:∀(i:Nat)(s:Sg),R[i]?=some s->Fc S a s:=fun i=>by
  induction i with
  |zero=>intro s e;rw[<-uU,ha] at e;rw[gA e];exact Fc.refl _ _
  |succ i ih=>
   intro s e;have hi:=(bZ.1 e).1;have e0:R[i]?=some R[i]:=aC (by omega)
   exact(ih _ e0).trans ((k.gU i _ _ e0 e).fc h (k.mem s (aZ e)))
 obtain⟨i,hi,e⟩:=iO.1 hs;exact key i s (by rw[aC hi,e])
theorem Q5:∀(T:List Sg)(a:Sg),(∀(k:Nat) s t,(a::T)[k]?=some s->(a::T)[k+1]?=some t->t.1=s.2)->∀z,(a::T).getLast?=some z->Path a.1 (a::T) z.2
 |[],a,_,z,hz=>by
  have:a=z:=by simpa using hz
  rw[this];exact Path.one
 |b::T,a,h,z,hz=>by
  refine⟨rfl,?_⟩;have e:b.1=a.2:=h 0 a b rfl rfl;rw[<-e];exact Q5 T b (fun k s t hs ht=>h (k+1) s t (by simpa using hs) (by simpa using ht)) z (by simpa using hz)
theorem eo.path{R:List Sg}(k:eo S nx R){a:Sg}(ha:R.head?=some a):Path a.1 R a.1:=by
 cases R with
 |nil=>cases ha
 |cons b T=>
  obtain rfl:b=a:=gA ha;obtain⟨z,hz⟩:∃z,(b::T).getLast?=some z:=by
   cases e:(b::T).getLast? with
   |none=>exact absurd (yR.1 e) (by simp)
   |some z=>exact⟨z,rfl⟩
  have:=Q5 T b (fun i s t hs ht=>(k.gU i s t hs ht).1) z hz
  rw[<-(k.cls z b hz rfl).1] at this;exact this
theorem eo.Q6{R:List Sg}(k:eo S nx R):∃A B,R=A++B/\LR S nx (B++A):=by
 obtain⟨a,ha,hl⟩:=Q4 R k.ne;obtain⟨A,B,e⟩:=aaO ha;refine⟨A,a::B,e,?_,fun b hb s hs=>?_⟩
 ·rw[e] at k;exact k.zr
 ·obtain rfl:a=b:=by simpa using hb
  refine hl s ?_;rw[e];simp at hs⊢;rcases hs with q|q|q<;>simp[q]
theorem LR.rg(h:Wd S nx){R:List Sg}(k:LR S nx R){a z:Sg}(ha:R.head?=some a)(hz:R.getLast?=some z):∃M,Rg S R a M z:=by
 have hp:=k.ring.path ha;cases R with
 |nil=>cases ha
 |cons b T=>
  obtain rfl:b=a:=gA ha;have hT:T≠[]:=fun e=>by
   rw[e] at hp;exact h.ne b (k.ring.mem b (by simp)) hp.2.symm
  obtain⟨M,y,e⟩:∃M y,T=M++[y]:=⟨T.dropLast,T.getLast hT,(amo hT).symm⟩;obtain rfl:y=z:=by
   rw[e] at hz;simpa[List.getLast?_cons,List.getLast?_append] using hz
  exact⟨M,by rw[e],hp,k.ring.mem,fun s hs=>((fK.1 k.ring.mK).1 s (by rw[e];exact hs)).symm,k.least b rfl⟩
theorem jI{R:List Sg}(h:R≠[]):∃a z,R.head?=some a/\R.getLast?=some z:=by
 cases e:R.getLast? with
 |none=>exact absurd (yR.1 e) h
 |some z=>
  cases R with
  |nil=>exact absurd rfl h
  |cons a T=>exact⟨a,z,rfl,rfl⟩
theorem LR.val(h:Wd S nx){R:List Sg}(k:LR S nx R){a:Sg}(ha:R.head?=some a):(shl R->Lf R a=1)/\(¬shl R->Lf R a=0):=by
 obtain⟨a',z,ha',hz⟩:=jI k.ring.ne;obtain rfl:a'=a:=gA (ha'.symm.trans ha);obtain⟨M,hg⟩:=k.rg h ha' hz;have hv:=hg.val h;constructor
 ·rintro⟨b,y,hb,hy,hc⟩;obtain rfl:b=a':=gA (hb.symm.trans ha');obtain rfl:y=z:=gA (hy.symm.trans hz);rw[aj hc] at hv;exact hv
 ·intro hn;rw[af (fun hc=>hn ⟨a',z,ha',hz,hc⟩)] at hv
  exact hv
theorem LR.cl(h:Wd S nx){R:List Sg}(k:LR S nx R):Cl R/\In S R:=by
 obtain⟨a,z,ha,hz⟩:=jI k.ring.ne;obtain⟨M,hg⟩:=k.rg h ha hz;exact⟨hg.cl h,hg.inn⟩
theorem LR.one(h:Wd S nx){R R':List Sg}(k:LR S nx R)(k':LR S nx R')(hs:shl R)(hs':shl R'){a a':Sg}(ha:R.head?=some a)(ha':R'.head?=some a')(hf:Fc S a a'):R=R':=by
 apply fV;intro hne;have Ld:a≠a':=fun e=>hne (k.ring.eq h k'.ring (by rw[ha,ha',e]))
 obtain⟨b,z,hb,hz⟩:=jI k.ring.ne;obtain rfl:b=a:=gA (hb.symm.trans ha);obtain⟨b',z',hb',hz'⟩:=jI k'.ring.ne;obtain rfl:b'=a':=gA (hb'.symm.trans ha');obtain⟨M,hg⟩:=k.rg h ha hz;obtain⟨M',hg'⟩:=k'.rg h ha' hz';have v:=(k.val h ha).1 hs;have v':=(k'.val h ha').1 hs';exact hg.asym h hg' Ld ((hf R' (k'.cl h).1 (k'.cl h).2).trans v') ((hf.symm R (k.cl h).1 (k.cl h).2).trans v)
theorem LR.eq(h:Wd S nx){R R':List Sg}(k:LR S nx R)(k':LR S nx R'){s:Sg}(hs:s∈R)(hs':s∈R'):R=R':=by
 obtain⟨A,B,e⟩:=aaO hs;obtain⟨A',B',e'⟩:=aaO hs';have r:eo S nx (s::B++A):=by have:=k.ring;rw[e] at this;exact this.zr
 have r':eo S nx (s::B'++A'):=by have:=k'.ring;rw[e'] at this;exact this.zr
 have hQ:=r.eq h r' (by simp)
 have mem:∀u,u∈R↔u∈R':=fun u=>by
  have m1:u∈R↔u∈s::B++A:=by rw[e];simp;constructor<;>(rintro(q|q|q)<;>simp[q])
  have m2:u∈R'↔u∈s::B'++A':=by rw[e'];simp;constructor<;>(rintro(q|q|q)<;>simp[q])
  rw[m1,m2,hQ]
 obtain⟨a,z,ha,_⟩:=jI k.ring.ne;obtain⟨a',z',ha',_⟩:=jI k'.ring.ne;have hm:a∈R:=by cases R with
  |nil=>cases ha
  |cons b T=>rw[<-gA ha];simp
 have hm':a'∈R':=by cases R' with
  |nil=>cases ha'
  |cons b T=>rw[<-gA ha'];simp
 have ef:a.1=a'.1:=Gk (k.least a ha a' ((mem a').2 hm')) (k'.least a' ha' a ((mem a).1 hm));have ea:a=a':=by
  apply fV;intro hne;have hmr:=(mem a').2 hm';obtain⟨i,hi,ei⟩:=iO.1 hm;obtain⟨j,hj,ej⟩:=iO.1 hmr;have pw:=kE.1 k.ring.mK;rcases rf i j with q|q|q
  ·have:=pw i j hi hj q;rw[ei,ej] at this;exact this ef
  ·subst q;exact hne (ei.symm.trans ej)
  ·have:=pw j i hj hi q;rw[ei,ej] at this;exact this ef.symm
 exact k.ring.eq h k'.ring (by rw[ha,ha',ea])
def tG:Sg->List Sg->List Sg
 |_,[]=>[]
 |b,s::A=>if cr (dr b) (dr s)=0 then tG s A else s::tG s A
def s0:Sg:=((0,0),(0,0))
def aY(R:List Sg):List Pt:=(tG (R.getLastD s0) R).map Prod.fst
theorem zw{x y z:Pt}(h1:ai x z=true)(h2:ai y z=true):ai (x.1+y.1,x.2+y.2) z=true:=by
 rw[bA] at h1 h2⊢;unfold cr dt at*;simp only;constructor
 ·have:(x.1+y.1)*z.2-(x.2+y.2)*z.1=(x.1*z.2-x.2*z.1)+(y.1*z.2-y.2*z.1):=by grind
  omega
 ·have:(x.1+y.1)*z.1+(x.2+y.2)*z.2=(x.1*z.1+x.2*z.2)+(y.1*z.1+y.2*z.2):=by grind
  omega
theorem jd{x y z:Pt}(h1:ai x y=true)(h2:ai y z=true):ai x z=true:=by
 rw[bA] at*;have hy:=cP (tS (D:=x) (r:=y) (by omega))
 have e1:dt y y*cr x z=cr x y*dt y z+dt x y*cr y z:=by unfold cr dt;grind
 have e2:dt y y*dt x z=dt x y*dt y z-cr x y*cr y z:=by unfold cr dt;grind
 rw[h1.1,h2.1] at e1 e2;have p1:=dE (z:=cr x z) hy;have p2:=aQ (z:=dt x z) hy;have:=aR h1.2 h2.2;constructor
 ·exact p1.1 (by omega)
 ·exact p2.1 (by omega)
theorem jU{z w:Pt}(h:ai z w=true):ai w z=true:=by
 rw[bA] at*;rw[bT,iR];omega
theorem jJ{x:Pt}(h:x≠(0,0)):ai x x=true:=(bA _ _).2 ⟨by unfold cr;grind,cP h⟩
theorem Wd.lW(h:Wd S nx){b s:Sg}(hb:b∈S)(hs:s∈S)(e:s.1=b.2)(hc:cr (dr b) (dr s)=0):ai (dr b) (dr s)=true:=by
 refine(bA _ _).2 ⟨hc,?_⟩;have t:=h.two s hs b hb e;rcases eK (dt (dr b) (dr s)) 0 with q|q|q
 ·have:ai (dr s) (neg (dr b))=true:=(bA _ _).2 ⟨by rw[dP,bT];omega,by rw[ju,iR];omega⟩
  rw[t] at this;cases this
 ·exfalso;have e1:dt (dr b) (dr b)*dt (dr s) (dr s)=dt (dr b) (dr s)*dt (dr b) (dr s)+cr (dr b) (dr s)*cr (dr b) (dr s):=by unfold dt cr;grind
  rw[q,hc] at e1;have:=aR (cP (h.dK hb)) (cP (h.dK hs));omega
 ·exact q
theorem zx(a b c:Pt):dr (a,c)=((dr (a,b)).1+(dr (b,c)).1,(dr (a,b)).2+(dr (b,c)).2):=by unfold dr;exact bX (by simp only;omega) (by simp only;omega)
theorem Wd.Q7(h:Wd S nx):∀(T:List Sg)(b:Sg)(e:Pt),b∈S->(∀s∈T,s∈S)->Path b.2 T e->(tG b T=[]->ai (dr (b.1,e)) (dr b)=true)/\(∀t U,tG b T=t::U->ai (dr (b.1,t.1)) (dr b)=true)
 |[],b,e,hb,_,hp=>by
  have:b.2=e:=hp;subst this;exact⟨fun _=>jJ (h.dK hb),fun t U k=>by cases k⟩
 |s::T,b,e,hb,hm,hp=>by
  have hs:=hm s (by simp)
  unfold tG;by_cases hc:cr (dr b) (dr s)=0
  ·rw[aj hc];obtain⟨i1,i2⟩:=h.Q7 T s e hs (fun u hu=>hm u (aT _ hu)) hp.2
   have hd:=h.lW hb hs hp.1 hc;have hj:∀x,ai (dr (s.1,x)) (dr s)=true->ai (dr (b.1,x)) (dr b)=true:=fun x k=>by
    rw[zx b.1 s.1 x];refine zw ?_ (jd k (jU hd));rw[hp.1];exact jJ (h.dK hb)
   exact⟨fun k=>hj e (i1 k),fun t U k=>hj t.1 (i2 t U k)⟩
  ·rw[af hc];refine⟨fun k=>(by cases k),fun t U k=>?_⟩
   injection k with k1 _;rw[<-k1,hp.1];exact jJ (h.dK hb)
theorem GF{R:List Sg}{z:Sg}(h:R.getLast?=some z)(d:Sg):R.getLastD d=z:=by rw[jE,h];rfl
theorem LR.Cq(h:Wd S nx){R:List Sg}(k:LR S nx R):∃a T t U,R=a::T/\tG a T=t::U/\aY R=a.1::t.1::U.map Prod.fst/\ai (dr (a.1,t.1)) (dr a)=true:=by
 obtain⟨a,z,ha,hz⟩:=jI k.ring.ne;obtain⟨M,hg⟩:=k.rg h ha hz;have hcr:cr (dr z) (dr a)≠0:=fun q=>by
  have h1:=ko (hg.Gt h) (hg.Gs h) (by rw[dI];omega)
  have h2:ai (dr a) (neg (dr z))=true:=(bA _ _).2 ⟨by rw[dP,bT];omega,by rw[iR];exact h1⟩
  rw[h.two a hg.ma z hg.mz hg.z2.symm] at h2;cases h2
 have hp:=hg.path;have he:=hg.eq;obtain⟨i1,i2⟩:=h.Q7 (M++[z]) a a.1 hg.ma (fun s hs=>hg.mem s (by rw[he];exact aT _ hs)) (by rw[he] at hp;exact hp.2)
 cases ht:tG a (M++[z]) with
 |nil=>
  have:=i1 ht;rw[(gS (s:=(a.1,a.1))).2 rfl,tT] at this;cases this
 |cons t U=>
  refine⟨a,M++[z],t,U,he,ht,?_,i2 t U ht⟩;unfold aY;rw[GF hz,he];show(if cr (dr z) (dr a)=0 then tG a (M++[z]) else a::tG a (M++[z])).map Prod.fst=_
  rw[af hcr,ht];rfl
theorem LR.GG(h:Wd S nx){R R':List Sg}(k:LR S nx R)(k':LR S nx R')(he:aY R=aY R'):R=R':=by
 obtain⟨a,T,t,U,e1,_,c1,d1⟩:=k.Cq h;obtain⟨a',T',t',U',je,_,c1',GH⟩:=k'.Cq h;rw[c1,c1'] at he;injection he with x1 he;injection he with x2 _;have ha:a∈S:=k.ring.mem a (by rw[e1];simp)
 have ha':a'∈S:=k'.ring.mem a' (by rw[je];simp)
 rw[x1,x2] at d1;have e:a=a':=h.one a ha a' ha' x1 (jd (jU d1) GH);exact k.ring.eq h k'.ring (by rw[e1,je,e];rfl)
end
end Go.Proofs.YtkjhhooecopolaaGreatDoor.Gb
namespace Go.Proofs.YtkjhhooecopolaaGreatDoor
namespace Pl
structure Tk where
 k:Nat
 raw:List UInt8
 n:Int
 pl:Nat
def isLet(c:UInt8):Bool:=decide (65<=c.toNat/\c.toNat<=90)
def bz(c:UInt8):Bool:=decide (48<=c.toNat/\c.toNat<=57)
def fD(c:UInt8):Bool:=decide (c.toNat=32)
def rI(l:List UInt8):Nat:=l.foldl (fun a c=>10*a+(c.toNat-48)) 0
def cQ(l:List UInt8)(i:Nat):Tk:=
 match l with
 |[]=>⟨101,[],0,i⟩
 |c::r=>
  if c.toNat=40\/c.toNat=41\/c.toNat=44\/c.toNat=47 then⟨c.toNat,[c],0,i⟩
  else if isLet c=true then⟨119,(c::r).takeWhile isLet,0,i⟩
  else if c.toNat=45 then
   (if r.takeWhile bz=[]\/9<(r.takeWhile bz).length then⟨120,[],0,i⟩ else⟨110,c::r.takeWhile bz, -(rI (r.takeWhile bz):Int),i⟩)
  else
   (if(c::r).takeWhile bz=[]\/9<((c::r).takeWhile bz).length then⟨120,[],0,i⟩ else⟨110,(c::r).takeWhile bz,(rI ((c::r).takeWhile bz):Int),i⟩)
def bl(s:List UInt8)(i:Nat):Nat:=i+((s.drop i).takeWhile fD).length
def tk(s:List UInt8)(i:Nat):Tk:=cQ (s.drop (bl s i)) (bl s i)
def iT(s:List UInt8):Nat->Nat->List Tk
 |0,i=>[tk s i]
 |f+1,i=>if(tk s i).k=101\/(tk s i).k=120 then[tk s i] else tk s i::iT s f ((tk s i).pl+(tk s i).raw.length)
def iU(s:List UInt8):List Tk->Prop
 |[]=>False
 |[t]=>t.k=101\/t.k=120
 |t::u::r=>¬(t.k=101\/t.k=120)/\u=tk s (t.pl+t.raw.length)/\iU s (u::r)
theorem Q8(s:List UInt8)(i:Nat)(h:i<=s.length):i<=bl s i/\bl s i<=s.length:=by
 have:=(yS fD (l:=s.drop i)).length_le;simp only[rp] at this;unfold bl;omega
theorem acd(l:List UInt8)(i:Nat):(cQ l i).pl=i:=by
 unfold cQ;repeat' split
 all_goals rfl
theorem ace(l:List UInt8)(i:Nat):(cQ l i).raw.length<=l.length/\((cQ l i).k=101\/(cQ l i).k=120\/1<=(cQ l i).raw.length):=by
 unfold cQ;split
 ·exact⟨ay _,ag rfl⟩
 ·rename_i c r
  have h1:=(yS isLet (l:=c::r)).length_le;have h2:=(yS bz (l:=c::r)).length_le;have h3:=(yS bz (l:=r)).length_le;simp only[cN] at h1 h2 h3⊢;split
  ·exact⟨by simp,by simp⟩
  ·split
   ·rename_i hl
    refine⟨h1,ah (ah ?_)⟩;simp[hl]
   ·split
    ·split
     ·exact⟨by simp,ah (ag rfl)⟩
     ·exact⟨by simp;omega,by simp⟩
    ·split
     ·exact⟨by simp,ah (ag rfl)⟩
     ·rename_i h
      refine⟨h2,ah (ah ?_)⟩;have:¬(c::r).takeWhile bz=[]:=fun e=>h (ag e)
      exact iP.2 this
theorem Q9(s:List UInt8)(i:Nat):(tk s i).pl=bl s i:=acd _ _
theorem Cr(s:List UInt8)(i:Nat)(h:i<=s.length):(tk s i).pl+(tk s i).raw.length<=s.length/\((tk s i).k=101\/(tk s i).k=120\/i+1<=(tk s i).pl+(tk s i).raw.length):=by
 have h1:=ace (s.drop (bl s i)) (bl s i);have h2:=Q8 s i h;rw[Q9];simp only[rp] at h1;unfold tk;refine⟨by omega,?_⟩
 rcases h1.2 with h|h|h
 ·exact ag h
 ·exact ah (ag h)
 ·exact ah (ah (by omega))
theorem GI(s:List UInt8)(f i:Nat):∃r,iT s f i=tk s i::r:=by
 cases f with
 |zero=>exact⟨[],rfl⟩
 |succ f=>
  by_cases h:(tk s i).k=101\/(tk s i).k=120
  ·exact⟨[],by rw[iT,aj h]⟩
  ·exact⟨_,by rw[iT,af h]⟩
theorem Ra(s:List UInt8):∀(f i:Nat),i<=s.length->s.length<f+i->iU s (iT s f i)
 |0,i,h,h2=>by omega
 |f+1,i,h,h2=>by
  by_cases hs:(tk s i).k=101\/(tk s i).k=120
  ·rw[iT,aj hs];exact hs
  ·rw[iT,af hs];have hn:=Cr s i h;have rJ:i+1<=(tk s i).pl+(tk s i).raw.length:=by
    rcases hn.2 with h|h|h
    ·exact absurd (ag h) hs
    ·exact absurd (ah h) hs
    ·exact h
   obtain⟨r,hr⟩:=GI s f ((tk s i).pl+(tk s i).raw.length);have ih:=Ra s f ((tk s i).pl+(tk s i).raw.length) hn.1 (by omega)
   rw[hr] at ih⊢;exact⟨hs,rfl,ih⟩
def all(s:List UInt8):List Tk:=iT s (s.length+1) 0
theorem Ct(s:List UInt8):iU s (all s):=Ra s _ 0 (iD _) (by omega)
def mk(c:Nat):List Tk->Bool×List Tk
 |[]=>(false,[])
 |t::r=>if t.k=c then(true,r) else(false,t::r)
def wd(w:List UInt8):List Tk->Bool×List Tk
 |[]=>(false,[])
 |t::r=>if t.k=119/\t.raw=w then(true,r) else(false,t::r)
def fk:List Tk->Bool×List Tk×(Int×Int)
 |[]=>(false,[],(0,0))
 |[x]=>(false,[x],(0,0))
 |x::y::r=>if x.k=110 then(if y.k=110 then(true,r,(x.n,y.n)) else(false,y::r,(0,0))) else(false,x::y::r,(0,0))
def cE{α:Type}(item:List Tk->Bool×List Tk×α):Nat->List Tk->List α->Bool×List Tk×List α
  | 0,l,acc=>(false,l,acc)
  | f+1,l,acc=>
    if(item l).1=true then
      (if(mk 44 (item l).2.1).1=true then cE item f (mk 44 (item l).2.1).2 (acc++[(item l).2.2])
       else((mk 41 (item l).2.1).1,(mk 41 (item l).2.1).2,acc++[(item l).2.2]))
    else(false,(item l).2.1,acc)
def EMPTY:List UInt8:=[69,77,80,84,89]
def iq:List UInt8:=[80,79,76,89,71,79,78]
def jf:List UInt8:=[77,85,76,84,73,80,79,76,89,71,79,78]
def gH(l:List Tk):Bool×List Tk×List (Int×Int):=
 if(mk 40 l).1=true then
  (if(mk 41 (mk 40 l).2).1=true then(true,(mk 41 (mk 40 l).2).2,[]) else cE fk l.length (mk 40 l).2 [])
 else(false,l,[])
def dB(l:List Tk):Bool×List Tk×List (List (Int×Int)):=
 if(wd EMPTY l).1=true then(true,(wd EMPTY l).2,[])
 else if(mk 40 l).1=true then cE gH l.length (mk 40 l).2 []
 else(false,l,[])
def iH(l:List Tk):Bool×List Tk×List (List (List (Int×Int))):=
 if(wd EMPTY l).1=true then(true,(wd EMPTY l).2,[])
 else if(mk 40 l).1=true then cE dB l.length (mk 40 l).2 []
 else(false,l,[])
def pk(t:Tk):Int:=if t.k=101 then 1 else if t.k=119 then 2 else if t.k=110 then 3 else if t.k=40\/t.k=41\/t.k=44 then 4 else 0
def bB(t:Tk):List UInt8:=if t.k=47 then[] else t.raw
theorem extract_eq(s:ByteArray)(a b:Nat):s.extract a b=⟨((s.data.toList.drop a).take (b-a)).toArray⟩:=by
 apply ByteArray.ext;apply Array.toList_inj.1;simp[ByteArray.data_extract]
theorem drop_cons(s:ByteArray)(j:Nat)(h:j<s.size):s.data.toList.drop j=s[j]::s.data.toList.drop (j+1):=
 Qk (by simpa using h)
theorem take_takeWhile(p:UInt8->Bool)(l:List UInt8):l.take (l.takeWhile p).length=l.takeWhile p:=
 List.prefix_iff_eq_take.1 (yS p) |>.symm
theorem Rb(s:List UInt8)(t:Tk)(r:List Tk)(h:iU s (t::r))(hk:¬(t.k=101\/t.k=120)):
  ∃u r',r=u::r'/\u=tk s (t.pl+t.raw.length)/\iU s r:=by
 cases r with
 |nil=>exact absurd h hk
 |cons u r'=>exact⟨u,r',rfl,h.2.1,h.2.2⟩
theorem GJ(s:List UInt8):∀(c l:List Tk),iU s (c++l)->l≠[]->iU s l
 |[],l,h,_=>h
 |t::c,l,h,hl=>by
  cases c with
  |nil=>
   cases l with
   |nil=>exact absurd rfl hl
   |cons u r=>exact h.2.2
  |cons u c'=>exact GJ s (u::c') l h.2.2 hl
def Place(s:List UInt8)(t:Tk):Prop:=t.pl+t.raw.length<=s.length/\(∃i,i<=s.length/\t=tk s i)
theorem Rc(s:List UInt8):∀(l:List Tk),iU s l->(∀t r,l=t::r->Place s t)->∀t∈l,Place s t
 |[],h,_,t,ht=>by simp at ht
 |[a],h,h0,t,ht=>by
  rw[bY] at ht;subst ht;exact h0 t [] rfl
 |a::b::r,h,h0,t,ht=>by
  have ha:=h0 a (b::r) rfl;rcases aP.1 ht with rfl|ht
  ·exact ha
  ·refine Rc s (b::r) h.2.2 ?_ t ht;intro t' r' e;injection e with e1 e2;subst e1;exact⟨by rw[h.2.1];exact(Cr s _ ha.1).1,_,ha.1,h.2.1⟩
theorem GK(s:List UInt8):∀t∈all s,Place s t:=by
 refine Rc s _ (Ct s) ?_;intro t r e;obtain⟨r',hr⟩:=GI s (s.length+1) 0;unfold all at e;rw[hr] at e;injection e with e1 e2;subst e1;exact⟨(Cr s 0 (iD _)).1,0,iD _,rfl⟩
theorem Re(s:List UInt8):∀(f i:Nat),(iT s f i).length<=f+1
 |0,i=>by simp[iT]
 |f+1,i=>by
  rw[iT];split
  ·simp
  ·have:=Re s f ((tk s i).pl+(tk s i).raw.length);simp;omega
theorem GL(s:List UInt8):(all s).length<=s.length+2:=Re s _ 0
end Pl
end Go.Proofs.YtkjhhooecopolaaGreatDoor
namespace Go.Proofs.YtkjhhooecopolaaGreatDoor
open Go.RowKit
theorem xq{a b:Bool}(h:a=b):Ending.returned (.bool a)=.returned (.bool b):=by rw[h]
theorem rK{k:IntKind}{a b:Int}(h:a=b):Ending.returned (.int k a)=.returned (.int k b):=by rw[h]
theorem Le(c:UInt8)(w:World):
  Calls Tryz.prog 90 #[.int .u8 c.toNat] w fun e w'=>e=.returned (.bool (Pl.fD c))/\w'=w:=by
 go_enter Tryz.func90,Tryz.ntmps90
 go_wp2
 go_ret
 refine⟨xq ?_,rfl⟩;unfold Pl.fD;rw[lg];simp;omega
theorem rL(c:UInt8)(w:World):
  Calls Tryz.prog 91 #[.int .u8 c.toNat] w fun e w'=>e=.returned (.bool (Pl.isLet c))/\w'=w:=by
 go_enter Tryz.func91,Tryz.ntmps91
 go_wp2
 all_goals
  go_ret
  refine⟨xq ?_,rfl⟩;unfold Pl.isLet;rw[lg];simp;omega
theorem tY(c:UInt8)(w:World):
  Calls Tryz.prog 92 #[.int .u8 c.toNat] w fun e w'=>e=.returned (.bool (Pl.bz c))/\w'=w:=by
 go_enter Tryz.func92,Tryz.ntmps92
 go_wp2
 all_goals
  go_ret
  refine⟨xq ?_,rfl⟩;unfold Pl.bz;rw[lg];simp;omega
theorem Lg(p:UInt8->Bool)(s:List UInt8)(i:Nat)(h:i<s.length)(hp:p s[i]=true):
  ((s.drop i).takeWhile p).length=((s.drop (i+1)).takeWhile p).length+1:=by
 rw[Qk h,wY,aj hp];rfl
theorem Lh(p:UInt8->Bool)(s:List UInt8)(i:Nat)(h:i<s.length)(hp:p s[i]=false):
  ((s.drop i).takeWhile p).length=0:=by
 rw[Qk h,wY,af (by simp[hp])];rfl
theorem acf(s:ByteArray)(i:Int)(w:World)(h0:0<=i)(h1:i<=s.size)(hs:s.size<=400):
  Calls Tryz.prog 89 #[.string s,.int .i64 i,.func (.func 90) #[] #[]] w fun e w'=>e=.returned (.int .i64 (i+((s.data.toList.drop i.toNat).takeWhile Pl.fD).length))/\w'=w:=by
 obtain⟨n,rfl⟩:=Ql h0;rw[yT];have hn:n<=s.size:=by omega
 clear h0 h1
 go_enter Tryz.func89,Tryz.ntmps89
 go_wp2_with fail
 go_loop [1] (fun t=>∃j:Nat,j<=s.size/\t=.int .i64 j/\j+((s.data.toList.drop j).takeWhile Pl.fD).length=n+((s.data.toList.drop n).takeWhile Pl.fD).length) (fun t=>s.size-(intOf t).toNat)
 case atStart=>exact⟨n,hn,rfl,rfl⟩
 case round=>
  obtain⟨j,hj,rfl,he⟩:=hrel;have HE:Hid (j+((s.data.toList.drop j).takeWhile Pl.fD).length=n+((s.data.toList.drop n).takeWhile Pl.fD).length):=he;clear he;by_cases hlt:j<s.size
  ·by_cases hp:Pl.fD s[j]=true
   ·have HS:Hid (j+1+((s.data.toList.drop (j+1)).takeWhile Pl.fD).length=n+((s.data.toList.drop n).takeWhile Pl.fD).length):=by
     have h1:=Lg Pl.fD s.data.toList j (by simpa using hlt) hp
     have h2:=HE.out;show _=_;omega
    clear HE
    go_wp2_with (go_at_call 90;refine(Le _ _).mono ?_;rintro e w' ⟨rfl,rfl⟩)
    go_round
    case rel=>exact⟨j+1,by omega,by go_num,HS.out⟩
    case measure=>simp[intOf];omega
   ·have hp':Pl.fD s[j]=false:=by simpa using hp
    have HS:Hid (j=n+((s.data.toList.drop n).takeWhile Pl.fD).length):=by
     have h1:=Lh Pl.fD s.data.toList j (by simpa using hlt) hp'
     have h2:=HE.out;show _=_;omega
    clear HE hp
    go_wp2_with (go_at_call 90;refine(Le _ _).mono ?_;rintro e w' ⟨rfl,rfl⟩)
    go_ret
    exact⟨rK (by have:=HS.out;omega),rfl⟩
  ·have HS:Hid (j=n+((s.data.toList.drop n).takeWhile Pl.fD).length):=by
    have h2:=HE.out;rw[Kq (by simp;omega:s.data.toList.length<=j)] at h2
    simp at h2;exact h2
   clear HE
   go_wp2_with (go_at_call 90;refine(Le _ _).mono ?_;rintro e w' ⟨rfl,rfl⟩)
   go_ret
   exact⟨rK (by have:=HS.out;omega),rfl⟩
theorem vA(s:ByteArray)(i j:Nat)(w:World)(h1:i<=s.size)(hs:s.size<=400)(hj:j=i+((s.data.toList.drop i).takeWhile Pl.fD).length):
  Calls Tryz.prog 89 #[.string s,.int .i64 i,.func (.func 90) #[] #[]] w fun e w'=>e=.returned (.int .i64 j)/\w'=w:=by
 refine(acf s i w (by omega) (by omega) hs).mono ?_
 rintro e w' ⟨rfl,rfl⟩;exact⟨rK (by rw[hj];simp),rfl⟩
theorem acg(s:ByteArray)(i:Int)(w:World)(h0:0<=i)(h1:i<=s.size)(hs:s.size<=400):
  Calls Tryz.prog 89 #[.string s,.int .i64 i,.func (.func 91) #[] #[]] w fun e w'=>e=.returned (.int .i64 (i+((s.data.toList.drop i.toNat).takeWhile Pl.isLet).length))/\w'=w:=by
 obtain⟨n,rfl⟩:=Ql h0;rw[yT];have hn:n<=s.size:=by omega
 clear h0 h1
 go_enter Tryz.func89,Tryz.ntmps89
 go_wp2_with fail
 go_loop [1] (fun t=>∃j:Nat,j<=s.size/\t=.int .i64 j/\j+((s.data.toList.drop j).takeWhile Pl.isLet).length=n+((s.data.toList.drop n).takeWhile Pl.isLet).length) (fun t=>s.size-(intOf t).toNat)
 case atStart=>exact⟨n,hn,rfl,rfl⟩
 case round=>
  obtain⟨j,hj,rfl,he⟩:=hrel;have HE:Hid (j+((s.data.toList.drop j).takeWhile Pl.isLet).length=n+((s.data.toList.drop n).takeWhile Pl.isLet).length):=he;clear he;by_cases hlt:j<s.size
  ·by_cases hp:Pl.isLet s[j]=true
   ·have HS:Hid (j+1+((s.data.toList.drop (j+1)).takeWhile Pl.isLet).length=n+((s.data.toList.drop n).takeWhile Pl.isLet).length):=by
     have h1:=Lg Pl.isLet s.data.toList j (by simpa using hlt) hp
     have h2:=HE.out;show _=_;omega
    clear HE
    go_wp2_with (go_at_call 91;refine(rL _ _).mono ?_;rintro e w' ⟨rfl,rfl⟩)
    go_round
    case rel=>exact⟨j+1,by omega,by go_num,HS.out⟩
    case measure=>simp[intOf];omega
   ·have hp':Pl.isLet s[j]=false:=by simpa using hp
    have HS:Hid (j=n+((s.data.toList.drop n).takeWhile Pl.isLet).length):=by
     have h1:=Lh Pl.isLet s.data.toList j (by simpa using hlt) hp'
     have h2:=HE.out;show _=_;omega
    clear HE hp
    go_wp2_with (go_at_call 91;refine(rL _ _).mono ?_;rintro e w' ⟨rfl,rfl⟩)
    go_ret
    exact⟨rK (by have:=HS.out;omega),rfl⟩
  ·have HS:Hid (j=n+((s.data.toList.drop n).takeWhile Pl.isLet).length):=by
    have h2:=HE.out;rw[Kq (by simp;omega:s.data.toList.length<=j)] at h2
    simp at h2;exact h2
   clear HE
   go_wp2_with (go_at_call 91;refine(rL _ _).mono ?_;rintro e w' ⟨rfl,rfl⟩)
   go_ret
   exact⟨rK (by have:=HS.out;omega),rfl⟩
theorem ach(s:ByteArray)(i j:Nat)(w:World)(h1:i<=s.size)(hs:s.size<=400)(hj:j=i+((s.data.toList.drop i).takeWhile Pl.isLet).length):
  Calls Tryz.prog 89 #[.string s,.int .i64 i,.func (.func 91) #[] #[]] w fun e w'=>e=.returned (.int .i64 j)/\w'=w:=by
 refine(acg s i w (by omega) (by omega) hs).mono ?_
 rintro e w' ⟨rfl,rfl⟩;exact⟨rK (by rw[hj];simp),rfl⟩
theorem aci(s:ByteArray)(i:Int)(w:World)(h0:0<=i)(h1:i<=s.size)(hs:s.size<=400):
  Calls Tryz.prog 89 #[.string s,.int .i64 i,.func (.func 92) #[] #[]] w fun e w'=>e=.returned (.int .i64 (i+((s.data.toList.drop i.toNat).takeWhile Pl.bz).length))/\w'=w:=by
 obtain⟨n,rfl⟩:=Ql h0;rw[yT];have hn:n<=s.size:=by omega
 clear h0 h1
 go_enter Tryz.func89,Tryz.ntmps89
 go_wp2_with fail
 go_loop [1] (fun t=>∃j:Nat,j<=s.size/\t=.int .i64 j/\j+((s.data.toList.drop j).takeWhile Pl.bz).length=n+((s.data.toList.drop n).takeWhile Pl.bz).length) (fun t=>s.size-(intOf t).toNat)
 case atStart=>exact⟨n,hn,rfl,rfl⟩
 case round=>
  obtain⟨j,hj,rfl,he⟩:=hrel;have HE:Hid (j+((s.data.toList.drop j).takeWhile Pl.bz).length=n+((s.data.toList.drop n).takeWhile Pl.bz).length):=he;clear he;by_cases hlt:j<s.size
  ·by_cases hp:Pl.bz s[j]=true
   ·have HS:Hid (j+1+((s.data.toList.drop (j+1)).takeWhile Pl.bz).length=n+((s.data.toList.drop n).takeWhile Pl.bz).length):=by
     have h1:=Lg Pl.bz s.data.toList j (by simpa using hlt) hp
     have h2:=HE.out;show _=_;omega
    clear HE
    go_wp2_with (go_at_call 92;refine(tY _ _).mono ?_;rintro e w' ⟨rfl,rfl⟩)
    go_round
    case rel=>exact⟨j+1,by omega,by go_num,HS.out⟩
    case measure=>simp[intOf];omega
   ·have hp':Pl.bz s[j]=false:=by simpa using hp
    have HS:Hid (j=n+((s.data.toList.drop n).takeWhile Pl.bz).length):=by
     have h1:=Lh Pl.bz s.data.toList j (by simpa using hlt) hp'
     have h2:=HE.out;show _=_;omega
    clear HE hp
    go_wp2_with (go_at_call 92;refine(tY _ _).mono ?_;rintro e w' ⟨rfl,rfl⟩)
    go_ret
    exact⟨rK (by have:=HS.out;omega),rfl⟩
  ·have HS:Hid (j=n+((s.data.toList.drop n).takeWhile Pl.bz).length):=by
    have h2:=HE.out;rw[Kq (by simp;omega:s.data.toList.length<=j)] at h2
    simp at h2;exact h2
   clear HE
   go_wp2_with (go_at_call 92;refine(tY _ _).mono ?_;rintro e w' ⟨rfl,rfl⟩)
   go_ret
   exact⟨rK (by have:=HS.out;omega),rfl⟩
theorem Rf(s:ByteArray)(i j:Nat)(w:World)(h1:i<=s.size)(hs:s.size<=400)(hj:j=i+((s.data.toList.drop i).takeWhile Pl.bz).length):
  Calls Tryz.prog 89 #[.string s,.int .i64 i,.func (.func 92) #[] #[]] w fun e w'=>e=.returned (.int .i64 j)/\w'=w:=by
 refine(aci s i w (by omega) (by omega) hs).mono ?_
 rintro e w' ⟨rfl,rfl⟩;exact⟨rK (by rw[hj];simp),rfl⟩
structure Gl(w:World):Prop where
 sz:6<=w.heap.size
 es:∃tp p,w.var? Tryz.prog "strconv.ErrSyntax" =some #[.iface tp p]
 er:∃tp p,w.var? Tryz.prog "strconv.ErrRange" =some #[.iface tp p]
 tab:Lib.TabIs Tryz.prog w "internal/strconv.uint64pow10" .u64 Lib.pow10Tab
def fq(t:Pl.Tk):Array Value:= #[.int .i64 (Pl.pk t),.string ⟨(Pl.bB t).toArray⟩,.int .i64 t.n,.int .i64 t.pl]
def Rh:Prop:=∀(s:ByteArray)(j:Nat)(w:World),j<s.size->s.size<=400->Gl w->(∀h:j<s.size,Pl.bz s[j]=true\/s[j].toNat=45)->
  Calls Tryz.prog 93 #[.string s,.int .i64 j] w fun e w'=>e=.returned (.agg (fq (Pl.cQ (s.data.toList.drop j) j)))/\Below w.heap.size w w'
theorem acj(s:ByteArray)(j:Nat)(h:s.size<=j):fq (Pl.cQ (s.data.toList.drop j) j)= #[.int .i64 1,.string ⟨#[]⟩,.int .i64 0,.int .i64 j]:=by
 rw[Kq (by simp;omega)];rfl
theorem ack(s:ByteArray)(j k:Nat)(h:j<s.size)(hl:Pl.isLet s[j]=true)(hk:k=j+((s.data.toList.drop j).takeWhile Pl.isLet).length):
  fq (Pl.cQ (s.data.toList.drop j) j)= #[.int .i64 2,.string (s.extract j k),.int .i64 0,.int .i64 j]:=by
 rw[Pl.extract_eq,hk,Qm,Pl.take_takeWhile,Pl.drop_cons s j h];have h1:¬(s[j].toNat=40\/s[j].toNat=41\/s[j].toNat=44\/s[j].toNat=47):=by
  have:=gh hl;omega
 simp only[Pl.cQ];rw[af h1,aj hl];rfl
theorem Li(s:ByteArray)(j:Nat)(h:j<s.size)(hl:s[j].toNat=40\/s[j].toNat=41\/s[j].toNat=44):
  fq (Pl.cQ (s.data.toList.drop j) j)= #[.int .i64 4,.string (s.extract j (j+1)),.int .i64 0,.int .i64 j]:=by
 rw[Pl.extract_eq,Qm,Pl.drop_cons s j h];have h1:s[j].toNat=40\/s[j].toNat=41\/s[j].toNat=44\/s[j].toNat=47:=by omega
 simp only[Pl.cQ];rw[aj h1];have h2:s[j].toNat≠101/\s[j].toNat≠119/\s[j].toNat≠110/\s[j].toNat≠47:=by omega
 simp[fq,Pl.pk,Pl.bB,h2,hl]
theorem acm(s:ByteArray)(j:Nat)(h:j<s.size)(h1:¬(s[j].toNat=40\/s[j].toNat=41\/s[j].toNat=44))(h2:Pl.isLet s[j]=false)(h3:Pl.bz s[j]=false)(h4:s[j].toNat≠45):
  fq (Pl.cQ (s.data.toList.drop j) j)= #[.int .i64 0,.string ⟨#[]⟩,.int .i64 0,.int .i64 j]:=by
 rw[Pl.drop_cons s j h];simp only[Pl.cQ];by_cases h5:s[j].toNat=47
 ·rw[aj (by omega)]
  simp[fq,Pl.pk,Pl.bB,h5]
 ·rw[af (by omega),af (by simp[h2]),af h4]
  simp[h3,fq,Pl.pk,Pl.bB]
theorem globals:Tryz.prog.globalNamed "strconv.ErrSyntax" =some 0/\Tryz.prog.globalNamed "strconv.ErrRange" =some 1/\Tryz.prog.globalNamed "internal/strconv.uint64pow10" =some 3:=⟨by kernel_rfl,by kernel_rfl,by kernel_rfl⟩
theorem Gl.below{w w':World}{B:Nat}(h:Gl w)(hb:Below B w w')(hB:6<=B):Gl w':=by
 obtain⟨g1,g2,g3⟩:=globals;obtain⟨tp,p,h1⟩:=h.es;obtain⟨tq,q,h2⟩:=h.er;refine⟨fg h.sz hb.size,⟨tp,p,var?_below hb g1 (by omega) h1⟩,⟨tq,q,var?_below hb g2 (by omega) h2⟩,var?_below hb g3 (by omega) h.tab⟩
theorem Gl.alloc{w:World}(h:Gl w)(o:Obj):Gl (w.alloc o):=
 h.below ((Below.refl w.heap.size w).alloc (ay _) o) h.sz
theorem GM{W w1:World}(hb:Below W.heap.size W w1):(∀b o,b<W.heap.size->w1.cell? ⟨b,o,none⟩=W.cell? ⟨b,o,none⟩)/\(∀b o,b<W.heap.size->w1.frozen? ⟨b,o,none⟩=W.frozen? ⟨b,o,none⟩):=
 ⟨fun b o h=>hb.cell (p:=⟨b,o,none⟩) h,fun b o h=>hb.frozen (p:=⟨b,o,none⟩) h⟩
theorem Ri(hN:Rh)(s:ByteArray)(i:Nat)(w:World)(h1:i<=s.size)(hs:s.size<=400)(hG:Gl w):
  Calls Tryz.prog 60 #[.string s,.int .i64 i] w fun e w'=>e=.returned (.agg (fq (Pl.tk s.data.toList i)))/\Below w.heap.size w w':=by
 have hbl:=Pl.Q8 s.data.toList i (by simpa using h1)
 unfold Pl.tk;generalize hj:Pl.bl s.data.toList i=j at*;have Lj:j<=s.size:=by simpa using hbl.2
 have HJ:Hid (j=i+((s.data.toList.drop i).takeWhile Pl.fD).length):=by rw[<-hj];rfl
 clear hj hbl;by_cases hlt:j<s.size
 ·have hne:((j:Int) == (s.size:Int))=false:=by simp;omega
  cases hl:Pl.isLet s[j]
  ·cases hd:Pl.bz s[j]
   ·by_cases hm:s[j].toNat=45
    ·have hmb:((s[j].toNat:Int) == 45)=true:=by simp;omega
     generalize hT:fq (Pl.cQ (s.data.toList.drop j) j)=T;have HN:Hid (∀w1,Gl w1->Calls Tryz.prog 93 #[.string s,.int .i64 j] w1 fun e w'=>e=.returned (.agg T)/\Below w1.heap.size w1 w'):=fun w1 g1=>by
      rw[<-hT];exact hN s j w1 hlt hs g1 (fun _=>ah hm)
     obtain⟨t0,t1,t2,t3,rfl⟩:∃a b c d,T= #[Value.int .i64 a,.string b,.int .i64 c,.int .i64 d]:=⟨_,_,_,_,hT.symm⟩;clear hT hm
     go_enter Tryz.func60,Tryz.ntmps60
     go_wp2_with fail
     refine(vA s i j _ h1 hs HJ.out).mono ?_;rintro e w' ⟨rfl,rfl⟩
     go_wp2_with fail
     refine(rL _ _).mono ?_;rintro e w' ⟨rfl,rfl⟩
     go_wp2_with fail
     refine(tY _ _).mono ?_;rintro e w' ⟨rfl,rfl⟩
     go_wp2_with fail
     refine(HN.out _ (hG.alloc _)).mono ?_;rintro e w1 ⟨rfl,hb⟩;obtain⟨hc,hf⟩:=GM hb;have hz:w.heap.size<w1.heap.size:=by have:=hb.size;simp at this;omega
     go_wp2_with fail
     refine bodyPost_ret (v:=.agg #[.int .i64 t0,.string t1,.int .i64 t2,.int .i64 t3]) (by simp[results,Tryz.results60,go_sem,hc]) rfl ⟨rfl,?_⟩
     exact((((((Below.refl w.heap.size w).alloc (ay _) _).trans (hb.mono (by simp))).setCell (ay _) _).setCell (ay _) _).setCell (ay _) _).setCell (ay _) _
    ·have hmb:((s[j].toNat:Int) == 45)=false:=by simp;omega
     by_cases q0:s[j].toNat=40
     ·rw[Li s j hlt (by omega)]
      have Ll:((s[j].toNat:Int) == 40)=true:=by simp;omega
      clear q0 hm
      go_enter Tryz.func60,Tryz.ntmps60
      go_wp2_with fail
      refine(vA s i j _ h1 hs HJ.out).mono ?_;rintro e w' ⟨rfl,rfl⟩
      go_wp2_with fail
      refine(rL _ _).mono ?_;rintro e w' ⟨rfl,rfl⟩
      go_wp2_with fail
      refine(tY _ _).mono ?_;rintro e w' ⟨rfl,rfl⟩
      go_wp2_with fail
      exact bodyPost_ret (v:=.agg #[.int .i64 4,.string (s.extract j (j+1)),.int .i64 0,.int .i64 j]) (by simp[results,Tryz.results60,go_sem]) rfl ⟨rfl,(Below.refl _ _).alloc (ay _) _⟩
     ·by_cases q1:s[j].toNat=41
      ·rw[Li s j hlt (by omega)]
       have Ll:((s[j].toNat:Int) == 40)=false:=by simp;omega
       have Rj:((s[j].toNat:Int) == 41)=true:=by simp;omega
       clear q0 q1 hm
       go_enter Tryz.func60,Tryz.ntmps60
       go_wp2_with fail
       refine(vA s i j _ h1 hs HJ.out).mono ?_;rintro e w' ⟨rfl,rfl⟩
       go_wp2_with fail
       refine(rL _ _).mono ?_;rintro e w' ⟨rfl,rfl⟩
       go_wp2_with fail
       refine(tY _ _).mono ?_;rintro e w' ⟨rfl,rfl⟩
       go_wp2_with fail
       exact bodyPost_ret (v:=.agg #[.int .i64 4,.string (s.extract j (j+1)),.int .i64 0,.int .i64 j]) (by simp[results,Tryz.results60,go_sem]) rfl ⟨rfl,(Below.refl _ _).alloc (ay _) _⟩
      ·by_cases q2:s[j].toNat=44
       ·rw[Li s j hlt (by omega)]
        have Ll:((s[j].toNat:Int) == 40)=false:=by simp;omega
        have Rj:((s[j].toNat:Int) == 41)=false:=by simp;omega
        have acn:((s[j].toNat:Int) == 44)=true:=by simp;omega
        clear q0 q1 q2 hm
        go_enter Tryz.func60,Tryz.ntmps60
        go_wp2_with fail
        refine(vA s i j _ h1 hs HJ.out).mono ?_;rintro e w' ⟨rfl,rfl⟩
        go_wp2_with fail
        refine(rL _ _).mono ?_;rintro e w' ⟨rfl,rfl⟩
        go_wp2_with fail
        refine(tY _ _).mono ?_;rintro e w' ⟨rfl,rfl⟩
        go_wp2_with fail
        exact bodyPost_ret (v:=.agg #[.int .i64 4,.string (s.extract j (j+1)),.int .i64 0,.int .i64 j]) (by simp[results,Tryz.results60,go_sem]) rfl ⟨rfl,(Below.refl _ _).alloc (ay _) _⟩
       ·rw[acm s j hlt (by omega) hl hd hm]
        have Ll:((s[j].toNat:Int) == 40)=false:=by simp;omega
        have Rj:((s[j].toNat:Int) == 41)=false:=by simp;omega
        have acn:((s[j].toNat:Int) == 44)=false:=by simp;omega
        clear q0 q1 q2 hm
        go_enter Tryz.func60,Tryz.ntmps60
        go_wp2_with fail
        refine(vA s i j _ h1 hs HJ.out).mono ?_;rintro e w' ⟨rfl,rfl⟩
        go_wp2_with fail
        refine(rL _ _).mono ?_;rintro e w' ⟨rfl,rfl⟩
        go_wp2_with fail
        refine(tY _ _).mono ?_;rintro e w' ⟨rfl,rfl⟩
        go_wp2_with fail
        exact bodyPost_ret (v:=.agg #[.int .i64 0,.string ⟨#[]⟩,.int .i64 0,.int .i64 j]) (by simp[results,Tryz.results60,go_sem]) rfl ⟨rfl,(Below.refl _ _).alloc (ay _) _⟩
   ·generalize hT:fq (Pl.cQ (s.data.toList.drop j) j)=T;have HN:Hid (∀w1,Gl w1->Calls Tryz.prog 93 #[.string s,.int .i64 j] w1 fun e w'=>e=.returned (.agg T)/\Below w1.heap.size w1 w'):=fun w1 g1=>by
     rw[<-hT];exact hN s j w1 hlt hs g1 (fun _=>ag hd)
    obtain⟨t0,t1,t2,t3,rfl⟩:∃a b c d,T= #[Value.int .i64 a,.string b,.int .i64 c,.int .i64 d]:=⟨_,_,_,_,hT.symm⟩;clear hT
    go_enter Tryz.func60,Tryz.ntmps60
    go_wp2_with fail
    refine(vA s i j _ h1 hs HJ.out).mono ?_;rintro e w' ⟨rfl,rfl⟩
    go_wp2_with fail
    refine(rL _ _).mono ?_;rintro e w' ⟨rfl,rfl⟩
    go_wp2_with fail
    refine(tY _ _).mono ?_;rintro e w' ⟨rfl,rfl⟩
    go_wp2_with fail
    refine(HN.out _ (hG.alloc _)).mono ?_;rintro e w1 ⟨rfl,hb⟩;obtain⟨hc,hf⟩:=GM hb;have hz:w.heap.size<w1.heap.size:=by have:=hb.size;simp at this;omega
    go_wp2_with fail
    refine bodyPost_ret (v:=.agg #[.int .i64 t0,.string t1,.int .i64 t2,.int .i64 t3]) (by simp[results,Tryz.results60,go_sem,hc]) rfl ⟨rfl,?_⟩
    exact((((((Below.refl w.heap.size w).alloc (ay _) _).trans (hb.mono (by simp))).setCell (ay _) _).setCell (ay _) _).setCell (ay _) _).setCell (ay _) _
  ·have hfin:=ack s j _ hlt hl rfl;generalize hk:j+((s.data.toList.drop j).takeWhile Pl.isLet).length=k at hfin;have hk1:j<=k/\k<=s.size:=by
    have:=(yS Pl.isLet (l:=s.data.toList.drop j)).length_le;simp at this;omega
   have HK:Hid (k=j+((s.data.toList.drop j).takeWhile Pl.isLet).length):=hk.symm;rw[hfin];clear hk hfin
   go_enter Tryz.func60,Tryz.ntmps60
   go_wp2_with fail
   refine(vA s i j _ h1 hs HJ.out).mono ?_;rintro e w' ⟨rfl,rfl⟩
   go_wp2_with fail
   refine(rL _ _).mono ?_;rintro e w' ⟨rfl,rfl⟩
   go_wp2_with fail
   refine(ach s j k _ Lj hs HK.out).mono ?_;rintro e w' ⟨rfl,rfl⟩
   go_wp2_with fail
   exact bodyPost_ret (v:=.agg #[.int .i64 2,.string (s.extract j k),.int .i64 0,.int .i64 j]) (by simp[results,Tryz.results60,go_sem]) rfl ⟨rfl,(Below.refl _ _).alloc (ay _) _⟩
 ·have he:j=s.size:=by omega
  subst he;rw[acj s s.size (ay _)]
  go_enter Tryz.func60,Tryz.ntmps60
  go_wp2_with fail
  refine(vA s i s.size _ h1 hs HJ.out).mono ?_;rintro e w' ⟨rfl,rfl⟩
  go_wp2_with fail
  exact bodyPost_ret (v:=.agg #[.int .i64 1,.string ⟨#[]⟩,.int .i64 0,.int .i64 s.size]) (by simp[results,Tryz.results60,go_sem]) rfl ⟨rfl,(Below.refl _ _).alloc (ay _) _⟩
end Go.Proofs.YtkjhhooecopolaaGreatDoor
