import Derived.Test.YtkjhhooecopolaaGreatDoorZz02
import Derived.Test.YtkjhhooecopolaaGreatDoorProg
set_option maxRecDepth 100000
set_option maxHeartbeats 4000000
namespace Go.Proofs.YtkjhhooecopolaaGreatDoor.Gb
open Ge Ga
def Fc(S:List Sg)(s u:Sg):Prop:=∀es,Cl es->In S es->Lf es s=Lf es u
theorem Fc.symm{S:List Sg}{s u:Sg}(h:Fc S s u):Fc S u s:=fun es a b=>(h es a b).symm
theorem Fc.trans{S:List Sg}{s u v:Sg}(h:Fc S s u)(k:Fc S u v):Fc S s v:=fun es a b=>(h es a b).trans (k es a b)
structure LR(S:List Sg)(nx:Sg->Sg)(R:List Sg):Prop where
 ring:iU S nx R
 least:∀a,R.head?=some a->∀s∈R,ge a.1 s.1
def shl(R:List Sg):Prop:=∃a z,R.head?=some a/\R.getLast?=some z/\0<cr (dr z) (dr a)
theorem PU:∀(R:List Sg),R≠[]->∃a∈R,∀s∈R,ge a.1 s.1
 |[],h=>absurd rfl h
 |[a],_=>⟨a,by simp,fun s hs=>by rw[bI.1 hs];exact EM _⟩
 |a::b::R,_=>by
  obtain⟨c,hc,hl⟩:=PU (b::R) (by simp)
  rcases JQ a.1 c.1 with k|k
  ·refine⟨a,by simp,fun s hs=>?_⟩
   rcases aP.1 hs with e|e
   ·rw[e];exact EM _
   ·exact JR k (hl s e)
  ·refine⟨c,bo _ hc,fun s hs=>?_⟩
   rcases aP.1 hs with e|e
   ·rw[e];exact k
   ·exact hl s e
section
variable{S:List Sg}{nx:Sg->Sg}
theorem Wd.fc(h:Wd S nx){s u:Sg}(hs:s∈S)(hw:AE nx s u):Fc S s u:=fun _ a b=>(h.along a b hs hw).symm
theorem PW:∀(T:List Sg)(a:Sg),(∀(k:Nat) s t,(a::T)[k]?=some s->(a::T)[k+1]?=some t->t.1=s.2)->∀z,(a::T).getLast?=some z->Path a.1 (a::T) z.2
 |[],a,_,z,hz=>by
  have:a=z:=by simpa using hz
  rw[this];exact Path.one
 |b::T,a,h,z,hz=>by
  refine⟨rfl,?_⟩;have e:b.1=a.2:=h 0 a b rfl rfl;rw[<-e];exact PW T b (fun k s t hs ht=>h (k+1) s t (by simpa using hs) (by simpa using ht)) z (by simpa using hz)
theorem iU.path{R:List Sg}(k:iU S nx R){a:Sg}(ha:R.head?=some a):Path a.1 R a.1:=by
 cases R with
 |nil=>cases ha
 |cons b T=>
  obtain rfl:b=a:=lG ha;obtain⟨z,hz⟩:∃z,(b::T).getLast?=some z:=by
   cases e:(b::T).getLast? with
   |none=>exact absurd (xJ.1 e) (by simp)
   |some z=>exact⟨z,rfl⟩
  have:=PW T b (fun i s t hs ht=>(k.o6 i s t hs ht).1) z hz
  rw[<-(k.cls z b hz rfl).1] at this;exact this
theorem iU.PX{R:List Sg}(k:iU S nx R):∃A B,R=A++B/\LR S nx (B++A):=by
 obtain⟨a,ha,hl⟩:=PU R k.ne;obtain⟨A,B,e⟩:=Zc ha;refine⟨A,a::B,e,?_,fun b hb s hs=>?_⟩
 ·rw[e] at k;exact k.J1
 ·obtain rfl:a=b:=by simpa using hb
  refine hl s ?_;rw[e];simp at hs⊢;rcases hs with q|q|q<;>simp[q]
theorem LR.rg(h:Wd S nx){R:List Sg}(k:LR S nx R){a z:Sg}(ha:R.head?=some a)(hz:R.getLast?=some z):∃M,Rg S R a M z:=by
 have hp:=k.ring.path ha;cases R with
 |nil=>cases ha
 |cons b T=>
  obtain rfl:b=a:=lG ha;have hT:T≠[]:=fun e=>by
   rw[e] at hp;exact h.ne b (k.ring.mem b (by simp)) hp.2.symm
  obtain⟨M,y,e⟩:∃M y,T=M++[y]:=⟨T.dropLast,T.getLast hT,(List.dropLast_concat_getLast hT).symm⟩;obtain rfl:y=z:=by
   rw[e] at hz;simpa[List.getLast?_cons,List.getLast?_append] using hz
  exact⟨M,by rw[e],hp,k.ring.mem,fun s hs=>((fE.1 k.ring.oa).1 s (by rw[e];exact hs)).symm,k.least b rfl⟩
theorem kN{R:List Sg}(h:R≠[]):∃a z,R.head?=some a/\R.getLast?=some z:=by
 cases e:R.getLast? with
 |none=>exact absurd (xJ.1 e) h
 |some z=>
  cases R with
  |nil=>exact absurd rfl h
  |cons a T=>exact⟨a,z,rfl,rfl⟩
theorem LR.val(h:Wd S nx){R:List Sg}(k:LR S nx R){a:Sg}(ha:R.head?=some a):(shl R->Lf R a=1)/\(¬shl R->Lf R a=0):=by
 obtain⟨a',z,ha',hz⟩:=kN k.ring.ne;obtain rfl:a'=a:=lG (ha'.symm.trans ha);obtain⟨M,hg⟩:=k.rg h ha' hz;have hv:=hg.val h;constructor
 ·rintro⟨b,y,hb,hy,hc⟩;obtain rfl:b=a':=lG (hb.symm.trans ha');obtain rfl:y=z:=lG (hy.symm.trans hz);rw[ah hc] at hv;exact hv
 ·intro hn;rw[aa (fun hc=>hn ⟨a',z,ha',hz,hc⟩)] at hv
  exact hv
theorem LR.cl(h:Wd S nx){R:List Sg}(k:LR S nx R):Cl R/\In S R:=by
 obtain⟨a,z,ha,hz⟩:=kN k.ring.ne;obtain⟨M,hg⟩:=k.rg h ha hz;exact⟨hg.cl h,hg.aF⟩
theorem LR.one(h:Wd S nx){R R':List Sg}(k:LR S nx R)(k':LR S nx R')(hs:shl R)(hs':shl R'){a a':Sg}(ha:R.head?=some a)(ha':R'.head?=some a')(hf:Fc S a a'):R=R':=by
 apply lD;intro hne;have hna:a≠a':=fun e=>hne (k.ring.eq h k'.ring (by rw[ha,ha',e]))
 obtain⟨b,z,hb,hz⟩:=kN k.ring.ne;obtain rfl:b=a:=lG (hb.symm.trans ha);obtain⟨b',z',hb',hz'⟩:=kN k'.ring.ne;obtain rfl:b'=a':=lG (hb'.symm.trans ha');obtain⟨M,hg⟩:=k.rg h ha hz;obtain⟨M',hg'⟩:=k'.rg h ha' hz';have v:=(k.val h ha).1 hs;have v':=(k'.val h ha').1 hs';exact hg.asym h hg' hna ((hf R' (k'.cl h).1 (k'.cl h).2).trans v') ((hf.symm R (k.cl h).1 (k.cl h).2).trans v)
theorem LR.eq(h:Wd S nx){R R':List Sg}(k:LR S nx R)(k':LR S nx R'){s:Sg}(hs:s∈R)(hs':s∈R'):R=R':=by
 obtain⟨A,B,e⟩:=Zc hs;obtain⟨A',B',e'⟩:=Zc hs';have r:iU S nx (s::B++A):=by have:=k.ring;rw[e] at this;exact this.J1
 have r':iU S nx (s::B'++A'):=by have:=k'.ring;rw[e'] at this;exact this.J1
 have hQ:=r.eq h r' (by simp)
 have mem:∀u,u∈R↔u∈R':=fun u=>by
  have m1:u∈R↔u∈s::B++A:=by rw[e];simp;constructor<;>(rintro(q|q|q)<;>simp[q])
  have m2:u∈R'↔u∈s::B'++A':=by rw[e'];simp;constructor<;>(rintro(q|q|q)<;>simp[q])
  rw[m1,m2,hQ]
 obtain⟨a,z,ha,_⟩:=kN k.ring.ne;obtain⟨a',z',ha',_⟩:=kN k'.ring.ne;have hm:a∈R:=by cases R with
  |nil=>cases ha
  |cons b T=>rw[<-lG ha];simp
 have hm':a'∈R':=by cases R' with
  |nil=>cases ha'
  |cons b T=>rw[<-lG ha'];simp
 have ef:a.1=a'.1:=EL (k.least a ha a' ((mem a').2 hm')) (k'.least a' ha' a ((mem a).1 hm));have ea:a=a':=by
  apply lD;intro hne;have hmr:=(mem a').2 hm';obtain⟨i,hi,ei⟩:=jL.1 hm;obtain⟨j,hj,ej⟩:=jL.1 hmr;have pw:=lF.1 k.ring.oa;rcases Ej i j with q|q|q
  ·have:=pw i j hi hj q;rw[ei,ej] at this;exact this ef
  ·subst q;exact hne (ei.symm.trans ej)
  ·have:=pw j i hj hi q;rw[ei,ej] at this;exact this ef.symm
 exact k.ring.eq h k'.ring (by rw[ha,ha',ea])
def tG:Sg->List Sg->List Sg
 |_,[]=>[]
 |b,s::A=>if cr (dr b) (dr s)=0 then tG s A else s::tG s A
def s0:Sg:=((0,0),(0,0))
def iV(R:List Sg):List Pt:=(tG (R.getLastD s0) R).map Prod.fst
theorem aaC{x y z:Pt}(h1:ay x z=true)(h2:ay y z=true):ay (x.1+y.1,x.2+y.2) z=true:=by
 rw[cQ] at h1 h2⊢;unfold cr dt at*;simp only;constructor
 ·have:(x.1+y.1)*z.2-(x.2+y.2)*z.1=(x.1*z.2-x.2*z.1)+(y.1*z.2-y.2*z.1):=by grind
  omega
 ·have:(x.1+y.1)*z.1+(x.2+y.2)*z.2=(x.1*z.1+x.2*z.2)+(y.1*z.1+y.2*z.2):=by grind
  omega
theorem J3{x y z:Pt}(h1:ay x y=true)(h2:ay y z=true):ay x z=true:=by
 rw[cQ] at*;have hy:=dO (rX (D:=x) (r:=y) (by omega))
 have e1:dt y y*cr x z=cr x y*dt y z+dt x y*cr y z:=by unfold cr dt;grind
 have e2:dt y y*dt x z=dt x y*dt y z-cr x y*cr y z:=by unfold cr dt;grind
 rw[h1.1,h2.1] at e1 e2;have p1:=dJ (z:=cr x z) hy;have p2:=aN (z:=dt x z) hy;have:=aR h1.2 h2.2;constructor
 ·exact p1.1 (by omega)
 ·exact p2.1 (by omega)
theorem EY{z w:Pt}(h:ay z w=true):ay w z=true:=by
 rw[cQ] at*;rw[bV,iF];omega
theorem AQ{x:Pt}(h:x≠(0,0)):ay x x=true:=(cQ _ _).2 ⟨by unfold cr;grind,dO h⟩
theorem Wd.PY(h:Wd S nx){b s:Sg}(hb:b∈S)(hs:s∈S)(e:s.1=b.2)(hc:cr (dr b) (dr s)=0):ay (dr b) (dr s)=true:=by
 refine(cQ _ _).2 ⟨hc,?_⟩;have t:=h.two s hs b hb e;rcases eD (dt (dr b) (dr s)) 0 with q|q|q
 ·have:ay (dr s) (neg (dr b))=true:=(cQ _ _).2 ⟨by rw[fh,bV];omega,by rw[j6,iF];omega⟩
  rw[t] at this;cases this
 ·exfalso;have e1:dt (dr b) (dr b)*dt (dr s) (dr s)=dt (dr b) (dr s)*dt (dr b) (dr s)+cr (dr b) (dr s)*cr (dr b) (dr s):=by unfold dt cr;grind
  rw[q,hc] at e1;have:=aR (dO (h.gh hb)) (dO (h.gh hs));omega
 ·exact q
theorem aaD(a b c:Pt):dr (a,c)=((dr (a,b)).1+(dr (b,c)).1,(dr (a,b)).2+(dr (b,c)).2):=by unfold dr;exact dC (by simp only;omega) (by simp only;omega)
theorem Wd.PZ(h:Wd S nx):∀(T:List Sg)(b:Sg)(e:Pt),b∈S->(∀s∈T,s∈S)->Path b.2 T e->(tG b T=[]->ay (dr (b.1,e)) (dr b)=true)/\(∀t U,tG b T=t::U->ay (dr (b.1,t.1)) (dr b)=true)
 |[],b,e,hb,_,hp=>by
  have:b.2=e:=hp;subst this;exact⟨fun _=>AQ (h.gh hb),fun t U k=>by cases k⟩
 |s::T,b,e,hb,hm,hp=>by
  have hs:=hm s (by simp)
  unfold tG;by_cases hc:cr (dr b) (dr s)=0
  ·rw[ah hc];obtain⟨i1,i2⟩:=h.PZ T s e hs (fun u hu=>hm u (bo _ hu)) hp.2
   have hd:=h.PY hb hs hp.1 hc;have hj:∀x,ay (dr (s.1,x)) (dr s)=true->ay (dr (b.1,x)) (dr b)=true:=fun x k=>by
    rw[aaD b.1 s.1 x];refine aaC ?_ (J3 k (EY hd));rw[hp.1];exact AQ (h.gh hb)
   exact⟨fun k=>hj e (i1 k),fun t U k=>hj t.1 (i2 t U k)⟩
  ·rw[aa hc];refine⟨fun k=>(by cases k),fun t U k=>?_⟩
   injection k with k1 _;rw[<-k1,hp.1];exact AQ (h.gh hb)
theorem aaE{R:List Sg}{z:Sg}(h:R.getLast?=some z)(d:Sg):R.getLastD d=z:=by rw[mZ,h];rfl
theorem LR.EZ(h:Wd S nx){R:List Sg}(k:LR S nx R):∃a T t U,R=a::T/\tG a T=t::U/\iV R=a.1::t.1::U.map Prod.fst/\ay (dr (a.1,t.1)) (dr a)=true:=by
 obtain⟨a,z,ha,hz⟩:=kN k.ring.ne;obtain⟨M,hg⟩:=k.rg h ha hz;have hcr:cr (dr z) (dr a)≠0:=fun q=>by
  have h1:=jN (hg.JU h) (hg.JT h) (by rw[eI];omega)
  have h2:ay (dr a) (neg (dr z))=true:=(cQ _ _).2 ⟨by rw[fh,bV];omega,by rw[iF];exact h1⟩
  rw[h.two a hg.ma z hg.mz hg.z2.symm] at h2;cases h2
 have hp:=hg.path;have he:=hg.eq;obtain⟨i1,i2⟩:=h.PZ (M++[z]) a a.1 hg.ma (fun s hs=>hg.mem s (by rw[he];exact bo _ hs)) (by rw[he] at hp;exact hp.2)
 cases ht:tG a (M++[z]) with
 |nil=>
  have:=i1 ht;rw[(oZ (s:=(a.1,a.1))).2 rfl,x7] at this;cases this
 |cons t U=>
  refine⟨a,M++[z],t,U,he,ht,?_,i2 t U ht⟩;unfold iV;rw[aaE hz,he];show(if cr (dr z) (dr a)=0 then tG a (M++[z]) else a::tG a (M++[z])).map Prod.fst=_
  rw[aa hcr,ht];rfl
theorem LR.J4(h:Wd S nx){R R':List Sg}(k:LR S nx R)(k':LR S nx R')(he:iV R=iV R'):R=R':=by
 obtain⟨a,T,t,U,e1,_,c1,d1⟩:=k.EZ h;obtain⟨a',T',t',U',lK,_,c1',d1'⟩:=k'.EZ h;rw[c1,c1'] at he;injection he with x1 he;injection he with x2 _;have ha:a∈S:=k.ring.mem a (by rw[e1];simp)
 have ha':a'∈S:=k'.ring.mem a' (by rw[lK];simp)
 rw[x1,x2] at d1;have e:a=a':=h.one a ha a' ha' x1 (J3 (EY d1) d1');exact k.ring.eq h k'.ring (by rw[e1,lK,e];rfl)
end
end Go.Proofs.YtkjhhooecopolaaGreatDoor.Gb
namespace Go.Proofs.YtkjhhooecopolaaGreatDoor
namespace Pl
structure Tk where
 k:Nat
 raw:List UInt8
 n:Int
 pl:Nat
def isLet(c:UInt8):Bool:=decide (65<=c.toNat/\c.toNat<=90)
def bn(c:UInt8):Bool:=decide (48<=c.toNat/\c.toNat<=57)
def fS(c:UInt8):Bool:=decide (c.toNat=32)
def qz(l:List UInt8):Nat:=l.foldl (fun a c=>10*a+(c.toNat-48)) 0
def cZ(l:List UInt8)(i:Nat):Tk:=
 match l with
 |[]=>⟨101,[],0,i⟩
 |c::r=>
  if c.toNat=40\/c.toNat=41\/c.toNat=44\/c.toNat=47 then⟨c.toNat,[c],0,i⟩
  else if isLet c=true then⟨119,(c::r).takeWhile isLet,0,i⟩
  else if c.toNat=45 then
   (if r.takeWhile bn=[]\/9<(r.takeWhile bn).length then⟨120,[],0,i⟩ else⟨110,c::r.takeWhile bn, -(qz (r.takeWhile bn):Int),i⟩)
  else
   (if(c::r).takeWhile bn=[]\/9<((c::r).takeWhile bn).length then⟨120,[],0,i⟩ else⟨110,(c::r).takeWhile bn,(qz ((c::r).takeWhile bn):Int),i⟩)
def bl(s:List UInt8)(i:Nat):Nat:=i+((s.drop i).takeWhile fS).length
def tk(s:List UInt8)(i:Nat):Tk:=cZ (s.drop (bl s i)) (bl s i)
def iW(s:List UInt8):Nat->Nat->List Tk
 |0,i=>[tk s i]
 |f+1,i=>if(tk s i).k=101\/(tk s i).k=120 then[tk s i] else tk s i::iW s f ((tk s i).pl+(tk s i).raw.length)
def iG(s:List UInt8):List Tk->Prop
 |[]=>False
 |[t]=>t.k=101\/t.k=120
 |t::u::r=>¬(t.k=101\/t.k=120)/\u=tk s (t.pl+t.raw.length)/\iG s (u::r)
theorem Qa(s:List UInt8)(i:Nat)(h:i<=s.length):i<=bl s i/\bl s i<=s.length:=by
 have:=(xK fS (l:=s.drop i)).length_le;simp only[qi] at this;unfold bl;omega
theorem aaG(l:List UInt8)(i:Nat):(cZ l i).pl=i:=by
 unfold cZ;repeat' split
 all_goals rfl
theorem aaH(l:List UInt8)(i:Nat):(cZ l i).raw.length<=l.length/\((cZ l i).k=101\/(cZ l i).k=120\/1<=(cZ l i).raw.length):=by
 unfold cZ;split
 ·exact⟨ax _,ae rfl⟩
 ·rename_i c r
  have h1:=(xK isLet (l:=c::r)).length_le;have h2:=(xK bn (l:=c::r)).length_le;have h3:=(xK bn (l:=r)).length_le;simp only[cG] at h1 h2 h3⊢;split
  ·exact⟨by simp,by simp⟩
  ·split
   ·rename_i hl
    refine⟨h1,af (af ?_)⟩;simp[hl]
   ·split
    ·split
     ·exact⟨by simp,af (ae rfl)⟩
     ·exact⟨by simp;omega,by simp⟩
    ·split
     ·exact⟨by simp,af (ae rfl)⟩
     ·rename_i h
      refine⟨h2,af (af ?_)⟩;have:¬(c::r).takeWhile bn=[]:=fun e=>h (ae e)
      exact il.2 this
theorem aaI(s:List UInt8)(i:Nat):(tk s i).pl=bl s i:=aaG _ _
theorem E0(s:List UInt8)(i:Nat)(h:i<=s.length):(tk s i).pl+(tk s i).raw.length<=s.length/\((tk s i).k=101\/(tk s i).k=120\/i+1<=(tk s i).pl+(tk s i).raw.length):=by
 have h1:=aaH (s.drop (bl s i)) (bl s i);have h2:=Qa s i h;rw[aaI];simp only[qi] at h1;unfold tk;refine⟨by omega,?_⟩
 rcases h1.2 with h|h|h
 ·exact ae h
 ·exact af (ae h)
 ·exact af (af (by omega))
theorem J5(s:List UInt8)(f i:Nat):∃r,iW s f i=tk s i::r:=by
 cases f with
 |zero=>exact⟨[],rfl⟩
 |succ f=>
  by_cases h:(tk s i).k=101\/(tk s i).k=120
  ·exact⟨[],by rw[iW,ah h]⟩
  ·exact⟨_,by rw[iW,aa h]⟩
theorem Qb(s:List UInt8):∀(f i:Nat),i<=s.length->s.length<f+i->iG s (iW s f i)
 |0,i,h,h2=>by omega
 |f+1,i,h,h2=>by
  by_cases hs:(tk s i).k=101\/(tk s i).k=120
  ·rw[iW,ah hs];exact hs
  ·rw[iW,aa hs];have hn:=E0 s i h;have qA:i+1<=(tk s i).pl+(tk s i).raw.length:=by
    rcases hn.2 with h|h|h
    ·exact absurd (ae h) hs
    ·exact absurd (af h) hs
    ·exact h
   obtain⟨r,hr⟩:=J5 s f ((tk s i).pl+(tk s i).raw.length);have ih:=Qb s f ((tk s i).pl+(tk s i).raw.length) hn.1 (by omega)
   rw[hr] at ih⊢;exact⟨hs,rfl,ih⟩
def all(s:List UInt8):List Tk:=iW s (s.length+1) 0
theorem E1(s:List UInt8):iG s (all s):=Qb s _ 0 (iq _) (by omega)
def mk(c:Nat):List Tk->Bool×List Tk
 |[]=>(false,[])
 |t::r=>if t.k=c then(true,r) else(false,t::r)
def wd(w:List UInt8):List Tk->Bool×List Tk
 |[]=>(false,[])
 |t::r=>if t.k=119/\t.raw=w then(true,r) else(false,t::r)
def fq:List Tk->Bool×List Tk×(Int×Int)
 |[]=>(false,[],(0,0))
 |[x]=>(false,[x],(0,0))
 |x::y::r=>if x.k=110 then(if y.k=110 then(true,r,(x.n,y.n)) else(false,y::r,(0,0))) else(false,x::y::r,(0,0))
def bY{α:Type}(item:List Tk->Bool×List Tk×α):Nat->List Tk->List α->Bool×List Tk×List α
  | 0,l,acc=>(false,l,acc)
  | f+1,l,acc=>
    if(item l).1=true then
      (if(mk 44 (item l).2.1).1=true then bY item f (mk 44 (item l).2.1).2 (acc++[(item l).2.2])
       else((mk 41 (item l).2.1).1,(mk 41 (item l).2.1).2,acc++[(item l).2.2]))
    else(false,(item l).2.1,acc)
def EMPTY:List UInt8:=[69,77,80,84,89]
def dQ:List UInt8:=[80,79,76,89,71,79,78]
def jk:List UInt8:=[77,85,76,84,73,80,79,76,89,71,79,78]
def ia(l:List Tk):Bool×List Tk×List (Int×Int):=
 if(mk 40 l).1=true then
  (if(mk 41 (mk 40 l).2).1=true then(true,(mk 41 (mk 40 l).2).2,[]) else bY fq l.length (mk 40 l).2 [])
 else(false,l,[])
def dv(l:List Tk):Bool×List Tk×List (List (Int×Int)):=
 if(wd EMPTY l).1=true then(true,(wd EMPTY l).2,[])
 else if(mk 40 l).1=true then bY ia l.length (mk 40 l).2 []
 else(false,l,[])
def iX(l:List Tk):Bool×List Tk×List (List (List (Int×Int))):=
 if(wd EMPTY l).1=true then(true,(wd EMPTY l).2,[])
 else if(mk 40 l).1=true then bY dv l.length (mk 40 l).2 []
 else(false,l,[])
def pk(t:Tk):Int:=if t.k=101 then 1 else if t.k=119 then 2 else if t.k=110 then 3 else if t.k=40\/t.k=41\/t.k=44 then 4 else 0
def bu(t:Tk):List UInt8:=if t.k=47 then[] else t.raw
theorem extract_eq(s:ByteArray)(a b:Nat):s.extract a b=⟨((s.data.toList.drop a).take (b-a)).toArray⟩:=by
 apply ByteArray.ext;apply Array.toList_inj.1;simp[ByteArray.data_extract]
theorem drop_cons(s:ByteArray)(j:Nat)(h:j<s.size):s.data.toList.drop j=s[j]::s.data.toList.drop (j+1):=
 OO (by simpa using h)
theorem take_takeWhile(p:UInt8->Bool)(l:List UInt8):l.take (l.takeWhile p).length=l.takeWhile p:=
 List.prefix_iff_eq_take.1 (xK p) |>.symm
theorem Qc(s:List UInt8)(t:Tk)(r:List Tk)(h:iG s (t::r))(hk:¬(t.k=101\/t.k=120)):
  ∃u r',r=u::r'/\u=tk s (t.pl+t.raw.length)/\iG s r:=by
 cases r with
 |nil=>exact absurd h hk
 |cons u r'=>exact⟨u,r',rfl,h.2.1,h.2.2⟩
theorem J6(s:List UInt8):∀(c l:List Tk),iG s (c++l)->l≠[]->iG s l
 |[],l,h,_=>h
 |t::c,l,h,hl=>by
  cases c with
  |nil=>
   cases l with
   |nil=>exact absurd rfl hl
   |cons u r=>exact h.2.2
  |cons u c'=>exact J6 s (u::c') l h.2.2 hl
def Place(s:List UInt8)(t:Tk):Prop:=t.pl+t.raw.length<=s.length/\(∃i,i<=s.length/\t=tk s i)
theorem Qd(s:List UInt8):∀(l:List Tk),iG s l->(∀t r,l=t::r->Place s t)->∀t∈l,Place s t
 |[],h,_,t,ht=>by simp at ht
 |[a],h,h0,t,ht=>by
  rw[bI] at ht;subst ht;exact h0 t [] rfl
 |a::b::r,h,h0,t,ht=>by
  have ha:=h0 a (b::r) rfl;rcases aP.1 ht with rfl|ht
  ·exact ha
  ·refine Qd s (b::r) h.2.2 ?_ t ht;intro t' r' e;injection e with e1 e2;subst e1;exact⟨by rw[h.2.1];exact(E0 s _ ha.1).1,_,ha.1,h.2.1⟩
theorem E2(s:List UInt8):∀t∈all s,Place s t:=by
 refine Qd s _ (E1 s) ?_;intro t r e;obtain⟨r',hr⟩:=J5 s (s.length+1) 0;unfold all at e;rw[hr] at e;injection e with e1 e2;subst e1;exact⟨(E0 s 0 (iq _)).1,0,iq _,rfl⟩
theorem Qe(s:List UInt8):∀(f i:Nat),(iW s f i).length<=f+1
 |0,i=>by simp[iW]
 |f+1,i=>by
  rw[iW];split
  ·simp
  ·have:=Qe s f ((tk s i).pl+(tk s i).raw.length);simp;omega
theorem E3(s:List UInt8):(all s).length<=s.length+2:=Qe s _ 0
end Pl
end Go.Proofs.YtkjhhooecopolaaGreatDoor
namespace Go.Proofs.YtkjhhooecopolaaGreatDoor
open Go.RowKit
theorem vW{a b:Bool}(h:a=b):Ending.returned (.bool a)=.returned (.bool b):=by rw[h]
theorem qB{k:IntKind}{a b:Int}(h:a=b):Ending.returned (.int k a)=.returned (.int k b):=by rw[h]
theorem J7(c:UInt8)(w:World):
  Calls Tryz.prog 90 #[.int .u8 c.toNat] w fun e w'=>e=.returned (.bool (Pl.fS c))/\w'=w:=by
 go_enter Tryz.func90,Tryz.ntmps90
 go_wp2
 go_ret
 refine⟨vW ?_,rfl⟩;unfold Pl.fS;rw[l8];simp;omega
theorem qC(c:UInt8)(w:World):
  Calls Tryz.prog 91 #[.int .u8 c.toNat] w fun e w'=>e=.returned (.bool (Pl.isLet c))/\w'=w:=by
 go_enter Tryz.func91,Tryz.ntmps91
 go_wp2
 all_goals
  go_ret
  refine⟨vW ?_,rfl⟩;unfold Pl.isLet;rw[l8];simp;omega
theorem sy(c:UInt8)(w:World):
  Calls Tryz.prog 92 #[.int .u8 c.toNat] w fun e w'=>e=.returned (.bool (Pl.bn c))/\w'=w:=by
 go_enter Tryz.func92,Tryz.ntmps92
 go_wp2
 all_goals
  go_ret
  refine⟨vW ?_,rfl⟩;unfold Pl.bn;rw[l8];simp;omega
theorem J8(p:UInt8->Bool)(s:List UInt8)(i:Nat)(h:i<s.length)(hp:p s[i]=true):
  ((s.drop i).takeWhile p).length=((s.drop (i+1)).takeWhile p).length+1:=by
 rw[OO h,vD,ah hp];rfl
theorem J9(p:UInt8->Bool)(s:List UInt8)(i:Nat)(h:i<s.length)(hp:p s[i]=false):
  ((s.drop i).takeWhile p).length=0:=by
 rw[OO h,vD,aa (by simp[hp])];rfl
theorem aaJ(s:ByteArray)(i:Int)(w:World)(h0:0<=i)(h1:i<=s.size)(hs:s.size<=400):
  Calls Tryz.prog 89 #[.string s,.int .i64 i,.func (.func 90) #[] #[]] w fun e w'=>e=.returned (.int .i64 (i+((s.data.toList.drop i.toNat).takeWhile Pl.fS).length))/\w'=w:=by
 obtain⟨n,rfl⟩:=OP h0;rw[xL];have hn:n<=s.size:=by omega
 clear h0 h1
 go_enter Tryz.func89,Tryz.ntmps89
 go_wp2_with fail
 go_loop [1] (fun t=>∃j:Nat,j<=s.size/\t=.int .i64 j/\j+((s.data.toList.drop j).takeWhile Pl.fS).length=n+((s.data.toList.drop n).takeWhile Pl.fS).length) (fun t=>s.size-(intOf t).toNat)
 case atStart=>exact⟨n,hn,rfl,rfl⟩
 case round=>
  obtain⟨j,hj,rfl,he⟩:=hrel;have HE:Hid (j+((s.data.toList.drop j).takeWhile Pl.fS).length=n+((s.data.toList.drop n).takeWhile Pl.fS).length):=he;clear he;by_cases hlt:j<s.size
  ·by_cases hp:Pl.fS s[j]=true
   ·have HS:Hid (j+1+((s.data.toList.drop (j+1)).takeWhile Pl.fS).length=n+((s.data.toList.drop n).takeWhile Pl.fS).length):=by
     have h1:=J8 Pl.fS s.data.toList j (by simpa using hlt) hp
     have h2:=HE.out;show _=_;omega
    clear HE
    go_wp2_with (go_at_call 90;refine(J7 _ _).mono ?_;rintro e w' ⟨rfl,rfl⟩)
    go_round
    case rel=>exact⟨j+1,by omega,by go_num,HS.out⟩
    case measure=>simp[intOf];omega
   ·have hp':Pl.fS s[j]=false:=by simpa using hp
    have HS:Hid (j=n+((s.data.toList.drop n).takeWhile Pl.fS).length):=by
     have h1:=J9 Pl.fS s.data.toList j (by simpa using hlt) hp'
     have h2:=HE.out;show _=_;omega
    clear HE hp
    go_wp2_with (go_at_call 90;refine(J7 _ _).mono ?_;rintro e w' ⟨rfl,rfl⟩)
    go_ret
    exact⟨qB (by have:=HS.out;omega),rfl⟩
  ·have HS:Hid (j=n+((s.data.toList.drop n).takeWhile Pl.fS).length):=by
    have h2:=HE.out;rw[Jd (by simp;omega:s.data.toList.length<=j)] at h2
    simp at h2;exact h2
   clear HE
   go_wp2_with (go_at_call 90;refine(J7 _ _).mono ?_;rintro e w' ⟨rfl,rfl⟩)
   go_ret
   exact⟨qB (by have:=HS.out;omega),rfl⟩
theorem uu(s:ByteArray)(i j:Nat)(w:World)(h1:i<=s.size)(hs:s.size<=400)(hj:j=i+((s.data.toList.drop i).takeWhile Pl.fS).length):
  Calls Tryz.prog 89 #[.string s,.int .i64 i,.func (.func 90) #[] #[]] w fun e w'=>e=.returned (.int .i64 j)/\w'=w:=by
 refine(aaJ s i w (by omega) (by omega) hs).mono ?_
 rintro e w' ⟨rfl,rfl⟩;exact⟨qB (by rw[hj];simp),rfl⟩
theorem aaK(s:ByteArray)(i:Int)(w:World)(h0:0<=i)(h1:i<=s.size)(hs:s.size<=400):
  Calls Tryz.prog 89 #[.string s,.int .i64 i,.func (.func 91) #[] #[]] w fun e w'=>e=.returned (.int .i64 (i+((s.data.toList.drop i.toNat).takeWhile Pl.isLet).length))/\w'=w:=by
 obtain⟨n,rfl⟩:=OP h0;rw[xL];have hn:n<=s.size:=by omega
 clear h0 h1
 go_enter Tryz.func89,Tryz.ntmps89
 go_wp2_with fail
 go_loop [1] (fun t=>∃j:Nat,j<=s.size/\t=.int .i64 j/\j+((s.data.toList.drop j).takeWhile Pl.isLet).length=n+((s.data.toList.drop n).takeWhile Pl.isLet).length) (fun t=>s.size-(intOf t).toNat)
 case atStart=>exact⟨n,hn,rfl,rfl⟩
 case round=>
  obtain⟨j,hj,rfl,he⟩:=hrel;have HE:Hid (j+((s.data.toList.drop j).takeWhile Pl.isLet).length=n+((s.data.toList.drop n).takeWhile Pl.isLet).length):=he;clear he;by_cases hlt:j<s.size
  ·by_cases hp:Pl.isLet s[j]=true
   ·have HS:Hid (j+1+((s.data.toList.drop (j+1)).takeWhile Pl.isLet).length=n+((s.data.toList.drop n).takeWhile Pl.isLet).length):=by
     have h1:=J8 Pl.isLet s.data.toList j (by simpa using hlt) hp
     have h2:=HE.out;show _=_;omega
    clear HE
    go_wp2_with (go_at_call 91;refine(qC _ _).mono ?_;rintro e w' ⟨rfl,rfl⟩)
    go_round
    case rel=>exact⟨j+1,by omega,by go_num,HS.out⟩
    case measure=>simp[intOf];omega
   ·have hp':Pl.isLet s[j]=false:=by simpa using hp
    have HS:Hid (j=n+((s.data.toList.drop n).takeWhile Pl.isLet).length):=by
     have h1:=J9 Pl.isLet s.data.toList j (by simpa using hlt) hp'
     have h2:=HE.out;show _=_;omega
    clear HE hp
    go_wp2_with (go_at_call 91;refine(qC _ _).mono ?_;rintro e w' ⟨rfl,rfl⟩)
    go_ret
    exact⟨qB (by have:=HS.out;omega),rfl⟩
  ·have HS:Hid (j=n+((s.data.toList.drop n).takeWhile Pl.isLet).length):=by
    have h2:=HE.out;rw[Jd (by simp;omega:s.data.toList.length<=j)] at h2
    simp at h2;exact h2
   clear HE
   go_wp2_with (go_at_call 91;refine(qC _ _).mono ?_;rintro e w' ⟨rfl,rfl⟩)
   go_ret
   exact⟨qB (by have:=HS.out;omega),rfl⟩
theorem aaL(s:ByteArray)(i j:Nat)(w:World)(h1:i<=s.size)(hs:s.size<=400)(hj:j=i+((s.data.toList.drop i).takeWhile Pl.isLet).length):
  Calls Tryz.prog 89 #[.string s,.int .i64 i,.func (.func 91) #[] #[]] w fun e w'=>e=.returned (.int .i64 j)/\w'=w:=by
 refine(aaK s i w (by omega) (by omega) hs).mono ?_
 rintro e w' ⟨rfl,rfl⟩;exact⟨qB (by rw[hj];simp),rfl⟩
theorem aaM(s:ByteArray)(i:Int)(w:World)(h0:0<=i)(h1:i<=s.size)(hs:s.size<=400):
  Calls Tryz.prog 89 #[.string s,.int .i64 i,.func (.func 92) #[] #[]] w fun e w'=>e=.returned (.int .i64 (i+((s.data.toList.drop i.toNat).takeWhile Pl.bn).length))/\w'=w:=by
 obtain⟨n,rfl⟩:=OP h0;rw[xL];have hn:n<=s.size:=by omega
 clear h0 h1
 go_enter Tryz.func89,Tryz.ntmps89
 go_wp2_with fail
 go_loop [1] (fun t=>∃j:Nat,j<=s.size/\t=.int .i64 j/\j+((s.data.toList.drop j).takeWhile Pl.bn).length=n+((s.data.toList.drop n).takeWhile Pl.bn).length) (fun t=>s.size-(intOf t).toNat)
 case atStart=>exact⟨n,hn,rfl,rfl⟩
 case round=>
  obtain⟨j,hj,rfl,he⟩:=hrel;have HE:Hid (j+((s.data.toList.drop j).takeWhile Pl.bn).length=n+((s.data.toList.drop n).takeWhile Pl.bn).length):=he;clear he;by_cases hlt:j<s.size
  ·by_cases hp:Pl.bn s[j]=true
   ·have HS:Hid (j+1+((s.data.toList.drop (j+1)).takeWhile Pl.bn).length=n+((s.data.toList.drop n).takeWhile Pl.bn).length):=by
     have h1:=J8 Pl.bn s.data.toList j (by simpa using hlt) hp
     have h2:=HE.out;show _=_;omega
    clear HE
    go_wp2_with (go_at_call 92;refine(sy _ _).mono ?_;rintro e w' ⟨rfl,rfl⟩)
    go_round
    case rel=>exact⟨j+1,by omega,by go_num,HS.out⟩
    case measure=>simp[intOf];omega
   ·have hp':Pl.bn s[j]=false:=by simpa using hp
    have HS:Hid (j=n+((s.data.toList.drop n).takeWhile Pl.bn).length):=by
     have h1:=J9 Pl.bn s.data.toList j (by simpa using hlt) hp'
     have h2:=HE.out;show _=_;omega
    clear HE hp
    go_wp2_with (go_at_call 92;refine(sy _ _).mono ?_;rintro e w' ⟨rfl,rfl⟩)
    go_ret
    exact⟨qB (by have:=HS.out;omega),rfl⟩
  ·have HS:Hid (j=n+((s.data.toList.drop n).takeWhile Pl.bn).length):=by
    have h2:=HE.out;rw[Jd (by simp;omega:s.data.toList.length<=j)] at h2
    simp at h2;exact h2
   clear HE
   go_wp2_with (go_at_call 92;refine(sy _ _).mono ?_;rintro e w' ⟨rfl,rfl⟩)
   go_ret
   exact⟨qB (by have:=HS.out;omega),rfl⟩
theorem Qf(s:ByteArray)(i j:Nat)(w:World)(h1:i<=s.size)(hs:s.size<=400)(hj:j=i+((s.data.toList.drop i).takeWhile Pl.bn).length):
  Calls Tryz.prog 89 #[.string s,.int .i64 i,.func (.func 92) #[] #[]] w fun e w'=>e=.returned (.int .i64 j)/\w'=w:=by
 refine(aaM s i w (by omega) (by omega) hs).mono ?_
 rintro e w' ⟨rfl,rfl⟩;exact⟨qB (by rw[hj];simp),rfl⟩
structure Gl(w:World):Prop where
 sz:6<=w.heap.size
 es:∃tp p,w.var? Tryz.prog "strconv.ErrSyntax" =some #[.iface tp p]
 er:∃tp p,w.var? Tryz.prog "strconv.ErrRange" =some #[.iface tp p]
 tab:Lib.TabIs Tryz.prog w "internal/strconv.uint64pow10" .u64 Lib.pow10Tab
def eo(t:Pl.Tk):Array Value:= #[.int .i64 (Pl.pk t),.string ⟨(Pl.bu t).toArray⟩,.int .i64 t.n,.int .i64 t.pl]
def Qg:Prop:=∀(s:ByteArray)(j:Nat)(w:World),j<s.size->s.size<=400->Gl w->(∀h:j<s.size,Pl.bn s[j]=true\/s[j].toNat=45)->
  Calls Tryz.prog 93 #[.string s,.int .i64 j] w fun e w'=>e=.returned (.agg (eo (Pl.cZ (s.data.toList.drop j) j)))/\Below w.heap.size w w'
theorem aaN(s:ByteArray)(j:Nat)(h:s.size<=j):eo (Pl.cZ (s.data.toList.drop j) j)= #[.int .i64 1,.string ⟨#[]⟩,.int .i64 0,.int .i64 j]:=by
 rw[Jd (by simp;omega)];rfl
theorem aaO(s:ByteArray)(j k:Nat)(h:j<s.size)(hl:Pl.isLet s[j]=true)(hk:k=j+((s.data.toList.drop j).takeWhile Pl.isLet).length):
  eo (Pl.cZ (s.data.toList.drop j) j)= #[.int .i64 2,.string (s.extract j k),.int .i64 0,.int .i64 j]:=by
 rw[Pl.extract_eq,hk,OQ,Pl.take_takeWhile,Pl.drop_cons s j h];have h1:¬(s[j].toNat=40\/s[j].toNat=41\/s[j].toNat=44\/s[j].toNat=47):=by
  have:=fO hl;omega
 simp only[Pl.cZ];rw[aa h1,ah hl];rfl
theorem Ka(s:ByteArray)(j:Nat)(h:j<s.size)(hl:s[j].toNat=40\/s[j].toNat=41\/s[j].toNat=44):
  eo (Pl.cZ (s.data.toList.drop j) j)= #[.int .i64 4,.string (s.extract j (j+1)),.int .i64 0,.int .i64 j]:=by
 rw[Pl.extract_eq,OQ,Pl.drop_cons s j h];have h1:s[j].toNat=40\/s[j].toNat=41\/s[j].toNat=44\/s[j].toNat=47:=by omega
 simp only[Pl.cZ];rw[ah h1];have h2:s[j].toNat≠101/\s[j].toNat≠119/\s[j].toNat≠110/\s[j].toNat≠47:=by omega
 simp[eo,Pl.pk,Pl.bu,h2,hl]
theorem aaP(s:ByteArray)(j:Nat)(h:j<s.size)(h1:¬(s[j].toNat=40\/s[j].toNat=41\/s[j].toNat=44))(h2:Pl.isLet s[j]=false)(h3:Pl.bn s[j]=false)(h4:s[j].toNat≠45):
  eo (Pl.cZ (s.data.toList.drop j) j)= #[.int .i64 0,.string ⟨#[]⟩,.int .i64 0,.int .i64 j]:=by
 rw[Pl.drop_cons s j h];simp only[Pl.cZ];by_cases h5:s[j].toNat=47
 ·rw[ah (by omega)]
  simp[eo,Pl.pk,Pl.bu,h5]
 ·rw[aa (by omega),aa (by simp[h2]),aa h4]
  simp[h3,eo,Pl.pk,Pl.bu]
theorem globals:Tryz.prog.globalNamed "strconv.ErrSyntax" =some 0/\Tryz.prog.globalNamed "strconv.ErrRange" =some 1/\Tryz.prog.globalNamed "internal/strconv.uint64pow10" =some 3:=⟨by kernel_rfl,by kernel_rfl,by kernel_rfl⟩
theorem Gl.below{w w':World}{B:Nat}(h:Gl w)(hb:Below B w w')(hB:6<=B):Gl w':=by
 obtain⟨g1,g2,g3⟩:=globals;obtain⟨tp,p,h1⟩:=h.es;obtain⟨tq,q,h2⟩:=h.er;refine⟨dY h.sz hb.size,⟨tp,p,var?_below hb g1 (by omega) h1⟩,⟨tq,q,var?_below hb g2 (by omega) h2⟩,var?_below hb g3 (by omega) h.tab⟩
theorem Gl.alloc{w:World}(h:Gl w)(o:Obj):Gl (w.alloc o):=
 h.below ((Below.refl w.heap.size w).alloc (ax _) o) h.sz
theorem E4{W w1:World}(hb:Below W.heap.size W w1):(∀b o,b<W.heap.size->w1.cell? ⟨b,o,none⟩=W.cell? ⟨b,o,none⟩)/\(∀b o,b<W.heap.size->w1.frozen? ⟨b,o,none⟩=W.frozen? ⟨b,o,none⟩):=
 ⟨fun b o h=>hb.cell (p:=⟨b,o,none⟩) h,fun b o h=>hb.frozen (p:=⟨b,o,none⟩) h⟩
theorem Qh(hN:Qg)(s:ByteArray)(i:Nat)(w:World)(h1:i<=s.size)(hs:s.size<=400)(hG:Gl w):
  Calls Tryz.prog 60 #[.string s,.int .i64 i] w fun e w'=>e=.returned (.agg (eo (Pl.tk s.data.toList i)))/\Below w.heap.size w w':=by
 have hbl:=Pl.Qa s.data.toList i (by simpa using h1)
 unfold Pl.tk;generalize hj:Pl.bl s.data.toList i=j at*;have Kb:j<=s.size:=by simpa using hbl.2
 have HJ:Hid (j=i+((s.data.toList.drop i).takeWhile Pl.fS).length):=by rw[<-hj];rfl
 clear hj hbl;by_cases hlt:j<s.size
 ·have hne:((j:Int) == (s.size:Int))=false:=by simp;omega
  cases hl:Pl.isLet s[j]
  ·cases hd:Pl.bn s[j]
   ·by_cases hm:s[j].toNat=45
    ·have hmb:((s[j].toNat:Int) == 45)=true:=by simp;omega
     generalize hT:eo (Pl.cZ (s.data.toList.drop j) j)=T;have HN:Hid (∀w1,Gl w1->Calls Tryz.prog 93 #[.string s,.int .i64 j] w1 fun e w'=>e=.returned (.agg T)/\Below w1.heap.size w1 w'):=fun w1 g1=>by
      rw[<-hT];exact hN s j w1 hlt hs g1 (fun _=>af hm)
     obtain⟨t0,t1,t2,t3,rfl⟩:∃a b c d,T= #[Value.int .i64 a,.string b,.int .i64 c,.int .i64 d]:=⟨_,_,_,_,hT.symm⟩;clear hT hm
     go_enter Tryz.func60,Tryz.ntmps60
     go_wp2_with fail
     refine(uu s i j _ h1 hs HJ.out).mono ?_;rintro e w' ⟨rfl,rfl⟩
     go_wp2_with fail
     refine(qC _ _).mono ?_;rintro e w' ⟨rfl,rfl⟩
     go_wp2_with fail
     refine(sy _ _).mono ?_;rintro e w' ⟨rfl,rfl⟩
     go_wp2_with fail
     refine(HN.out _ (hG.alloc _)).mono ?_;rintro e w1 ⟨rfl,hb⟩;obtain⟨hc,hf⟩:=E4 hb;have hz:w.heap.size<w1.heap.size:=by have:=hb.size;simp at this;omega
     go_wp2_with fail
     refine bodyPost_ret (v:=.agg #[.int .i64 t0,.string t1,.int .i64 t2,.int .i64 t3]) (by simp[results,Tryz.results60,go_sem,hc]) rfl ⟨rfl,?_⟩
     exact((((((Below.refl w.heap.size w).alloc (ax _) _).trans (hb.mono (by simp))).setCell (ax _) _).setCell (ax _) _).setCell (ax _) _).setCell (ax _) _
    ·have hmb:((s[j].toNat:Int) == 45)=false:=by simp;omega
     by_cases q0:s[j].toNat=40
     ·rw[Ka s j hlt (by omega)]
      have Kc:((s[j].toNat:Int) == 40)=true:=by simp;omega
      clear q0 hm
      go_enter Tryz.func60,Tryz.ntmps60
      go_wp2_with fail
      refine(uu s i j _ h1 hs HJ.out).mono ?_;rintro e w' ⟨rfl,rfl⟩
      go_wp2_with fail
      refine(qC _ _).mono ?_;rintro e w' ⟨rfl,rfl⟩
      go_wp2_with fail
      refine(sy _ _).mono ?_;rintro e w' ⟨rfl,rfl⟩
      go_wp2_with fail
      exact bodyPost_ret (v:=.agg #[.int .i64 4,.string (s.extract j (j+1)),.int .i64 0,.int .i64 j]) (by simp[results,Tryz.results60,go_sem]) rfl ⟨rfl,(Below.refl _ _).alloc (ax _) _⟩
     ·by_cases q1:s[j].toNat=41
      ·rw[Ka s j hlt (by omega)]
       have Kc:((s[j].toNat:Int) == 40)=false:=by simp;omega
       have Qi:((s[j].toNat:Int) == 41)=true:=by simp;omega
       clear q0 q1 hm
       go_enter Tryz.func60,Tryz.ntmps60
       go_wp2_with fail
       refine(uu s i j _ h1 hs HJ.out).mono ?_;rintro e w' ⟨rfl,rfl⟩
       go_wp2_with fail
       refine(qC _ _).mono ?_;rintro e w' ⟨rfl,rfl⟩
       go_wp2_with fail
       refine(sy _ _).mono ?_;rintro e w' ⟨rfl,rfl⟩
       go_wp2_with fail
       exact bodyPost_ret (v:=.agg #[.int .i64 4,.string (s.extract j (j+1)),.int .i64 0,.int .i64 j]) (by simp[results,Tryz.results60,go_sem]) rfl ⟨rfl,(Below.refl _ _).alloc (ax _) _⟩
      ·by_cases q2:s[j].toNat=44
       ·rw[Ka s j hlt (by omega)]
        have Kc:((s[j].toNat:Int) == 40)=false:=by simp;omega
        have Qi:((s[j].toNat:Int) == 41)=false:=by simp;omega
        have aaQ:((s[j].toNat:Int) == 44)=true:=by simp;omega
        clear q0 q1 q2 hm
        go_enter Tryz.func60,Tryz.ntmps60
        go_wp2_with fail
        refine(uu s i j _ h1 hs HJ.out).mono ?_;rintro e w' ⟨rfl,rfl⟩
        go_wp2_with fail
        refine(qC _ _).mono ?_;rintro e w' ⟨rfl,rfl⟩
        go_wp2_with fail
        refine(sy _ _).mono ?_;rintro e w' ⟨rfl,rfl⟩
        go_wp2_with fail
        exact bodyPost_ret (v:=.agg #[.int .i64 4,.string (s.extract j (j+1)),.int .i64 0,.int .i64 j]) (by simp[results,Tryz.results60,go_sem]) rfl ⟨rfl,(Below.refl _ _).alloc (ax _) _⟩
       ·rw[aaP s j hlt (by omega) hl hd hm]
        have Kc:((s[j].toNat:Int) == 40)=false:=by simp;omega
        have Qi:((s[j].toNat:Int) == 41)=false:=by simp;omega
        have aaQ:((s[j].toNat:Int) == 44)=false:=by simp;omega
        clear q0 q1 q2 hm
        go_enter Tryz.func60,Tryz.ntmps60
        go_wp2_with fail
        refine(uu s i j _ h1 hs HJ.out).mono ?_;rintro e w' ⟨rfl,rfl⟩
        go_wp2_with fail
        refine(qC _ _).mono ?_;rintro e w' ⟨rfl,rfl⟩
        go_wp2_with fail
        refine(sy _ _).mono ?_;rintro e w' ⟨rfl,rfl⟩
        go_wp2_with fail
        exact bodyPost_ret (v:=.agg #[.int .i64 0,.string ⟨#[]⟩,.int .i64 0,.int .i64 j]) (by simp[results,Tryz.results60,go_sem]) rfl ⟨rfl,(Below.refl _ _).alloc (ax _) _⟩
   ·generalize hT:eo (Pl.cZ (s.data.toList.drop j) j)=T;have HN:Hid (∀w1,Gl w1->Calls Tryz.prog 93 #[.string s,.int .i64 j] w1 fun e w'=>e=.returned (.agg T)/\Below w1.heap.size w1 w'):=fun w1 g1=>by
     rw[<-hT];exact hN s j w1 hlt hs g1 (fun _=>ae hd)
    obtain⟨t0,t1,t2,t3,rfl⟩:∃a b c d,T= #[Value.int .i64 a,.string b,.int .i64 c,.int .i64 d]:=⟨_,_,_,_,hT.symm⟩;clear hT
    go_enter Tryz.func60,Tryz.ntmps60
    go_wp2_with fail
    refine(uu s i j _ h1 hs HJ.out).mono ?_;rintro e w' ⟨rfl,rfl⟩
    go_wp2_with fail
    refine(qC _ _).mono ?_;rintro e w' ⟨rfl,rfl⟩
    go_wp2_with fail
    refine(sy _ _).mono ?_;rintro e w' ⟨rfl,rfl⟩
    go_wp2_with fail
    refine(HN.out _ (hG.alloc _)).mono ?_;rintro e w1 ⟨rfl,hb⟩;obtain⟨hc,hf⟩:=E4 hb;have hz:w.heap.size<w1.heap.size:=by have:=hb.size;simp at this;omega
    go_wp2_with fail
    refine bodyPost_ret (v:=.agg #[.int .i64 t0,.string t1,.int .i64 t2,.int .i64 t3]) (by simp[results,Tryz.results60,go_sem,hc]) rfl ⟨rfl,?_⟩
    exact((((((Below.refl w.heap.size w).alloc (ax _) _).trans (hb.mono (by simp))).setCell (ax _) _).setCell (ax _) _).setCell (ax _) _).setCell (ax _) _
  ·have hfin:=aaO s j _ hlt hl rfl;generalize hk:j+((s.data.toList.drop j).takeWhile Pl.isLet).length=k at hfin;have hk1:j<=k/\k<=s.size:=by
    have:=(xK Pl.isLet (l:=s.data.toList.drop j)).length_le;simp at this;omega
   have HK:Hid (k=j+((s.data.toList.drop j).takeWhile Pl.isLet).length):=hk.symm;rw[hfin];clear hk hfin
   go_enter Tryz.func60,Tryz.ntmps60
   go_wp2_with fail
   refine(uu s i j _ h1 hs HJ.out).mono ?_;rintro e w' ⟨rfl,rfl⟩
   go_wp2_with fail
   refine(qC _ _).mono ?_;rintro e w' ⟨rfl,rfl⟩
   go_wp2_with fail
   refine(aaL s j k _ Kb hs HK.out).mono ?_;rintro e w' ⟨rfl,rfl⟩
   go_wp2_with fail
   exact bodyPost_ret (v:=.agg #[.int .i64 2,.string (s.extract j k),.int .i64 0,.int .i64 j]) (by simp[results,Tryz.results60,go_sem]) rfl ⟨rfl,(Below.refl _ _).alloc (ax _) _⟩
 ·have he:j=s.size:=by omega
  subst he;rw[aaN s s.size (ax _)]
  go_enter Tryz.func60,Tryz.ntmps60
  go_wp2_with fail
  refine(uu s i s.size _ h1 hs HJ.out).mono ?_;rintro e w' ⟨rfl,rfl⟩
  go_wp2_with fail
  exact bodyPost_ret (v:=.agg #[.int .i64 1,.string ⟨#[]⟩,.int .i64 0,.int .i64 s.size]) (by simp[results,Tryz.results60,go_sem]) rfl ⟨rfl,(Below.refl _ _).alloc (ax _) _⟩
end Go.Proofs.YtkjhhooecopolaaGreatDoor
