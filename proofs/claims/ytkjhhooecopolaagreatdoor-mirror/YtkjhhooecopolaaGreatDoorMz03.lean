import Derived.Test.YtkjhhooecopolaaGreatDoorMz02
import Derived.Test.YtkjhhooecopolaaGreatDoorProg
import Derived.WalkKit
import Derived.WalkSpells
import Derived.WalkLawsBesides
set_option maxRecDepth 100000
set_option maxHeartbeats 4000000
namespace Go.Proofs.YtkjhhooecopolaaGreatDoor.Gb
open Ge Ga
theorem ug(nx:Sg->Sg)(s:Sg):∀a b,it nx (a+b) s=it nx a (it nx b s)
 |0,b=>by rw[jd];rfl
 |a+1,b=>by
  rw[show a+1+b=(a+b)+1 by omega]
  show nx (it nx (a+b) s)=nx (it nx a (it nx b s));rw[ug nx s a b]
theorem GF(nx:Sg->Sg)(s:Sg)(k:Nat):Cr nx s (it nx k s):=⟨k,rfl⟩
def xI(nx:Sg->Sg)(s t:Sg):Prop:=t.1=s.2/\∃k,it nx k t=s/\∀j,0<j->j<=k->(it nx j t).1≠s.2
structure je(S:List Sg)(nx:Sg->Sg)(R:List Sg):Prop where
 ne:R≠[]
 mem:∀s∈R,s∈S
 pQ:R.Pairwise (fun s t=>s.1≠t.1)
 qz:∀(k:Nat) s t,R[k]?=some s->R[k+1]?=some t->xI nx s t
 cls:∀s t,R.getLast?=some s->R.head?=some t->xI nx s t
section
variable{S:List Sg}{nx:Sg->Sg}
theorem Wd.Si(h:Wd S nx):∀(k:Nat){s t:Sg},s∈S->t∈S->it nx k s=it nx k t->s=t
 |0,_,_,_,_,e=>e
 |k+1,_,_,hs,ht,e=>h.Si k hs ht (h.inj _ (h.nO hs k) _ (h.nO ht k) e)
theorem Wd.uh(h:Wd S nx){s:Sg}(hs:s∈S)(k:Nat):(it nx (k+1) s).1=(it nx k s).2:=(h.zK _ (h.nO hs k)).2
theorem xI.uniq(h:Wd S nx){s t t':Sg}(ht:t∈S)(ht':t'∈S)(h1:xI nx s t)(h2:xI nx s t'):t=t':=by
 have key:∀{t t':Sg}{k k':Nat},t∈S->t'∈S->k<=k'->it nx k t=s->it nx k' t'=s->t.1=s.2->(∀j,0<j->j<=k'->(it nx j t').1≠s.2)->t=t':=by
  intro t t' k k' ht ht' hk e1 e2 hf hno;have e:t=it nx (k'-k) t':=by
   refine h.Si k ht (h.nO ht' _) ?_;rw[<-ug,show k+(k'-k)=k' by omega,e1,e2]
  by_cases hz:k'-k=0
  ·rw[hz] at e;exact e
  ·exact absurd (by rw[<-e];exact hf) (hno (k'-k) (by omega) (by omega))
 obtain⟨f1,k,e1,n1⟩:=h1;obtain⟨f2,k',e2,n2⟩:=h2;rcases Nat.le_total k k' with q|q
 ·exact key ht ht' q e1 e2 f1 n2
 ·exact(key ht' ht q e2 e1 f2 n1).symm
theorem Lr{α:Type}(a:List α){b:List α}(h:b≠[]):(a++b).getLast?=b.getLast?:=by
 rw[abL];cases hb:b.getLast? with
 |none=>exact absurd (ze.1 hb) h
 |some x=>rfl
theorem je.nd{R:List Sg}(h:je S nx R):R.Nodup:=h.pQ.imp fun k e=>k (by rw[e])
theorem je.Ls{A B:List Sg}(h:je S nx (A++B)):je S nx (B++A):=by
 rcases A with _|⟨a,A⟩
 ·simpa using h
 rcases B with _|⟨b,B⟩
 ·simpa using h
 refine⟨by simp,fun s hs=>h.mem s (by simp at hs⊢;rcases hs with k|k|k|k<;>simp[k]),?_,fun k s t hs ht=>?_,fun s t hs ht=>?_⟩
 ·have:=h.pQ;rw[FO] at this⊢;exact⟨this.2.1,this.1,fun x hx y hy=>(this.2.2 y hy x hx).symm⟩
 ·rcases FV (k+1) (b::B).length with q|q|q
  ·rw[dZ (by omega)] at hs
   rw[dZ q] at ht;refine h.qz ((a::A).length+k) s t ?_ ?_
   ·rw[nI (by omega),show(a::A).length+k-(a::A).length=k by omega];exact hs
   ·rw[nI (by omega),show(a::A).length+k+1-(a::A).length=k+1 by omega];exact ht
  ·rw[dZ (by omega)] at hs
   rw[nI (by omega),show k+1-(b::B).length=0 by omega] at ht
   refine h.cls s t ?_ ?_
   ·rw[Lr _ (by simp),pN,show(b::B).length-1=k by omega];exact hs
   ·simpa using ht
  ·rw[nI (by omega)] at hs ht
   refine h.qz (k-(b::B).length) s t ?_ ?_
   ·have:=(bT.1 hs).1;rw[dZ this];exact hs
   ·have:=(bT.1 ht).1;rw[show k-(b::B).length+1=k+1-(b::B).length by omega,dZ this];exact ht
 ·rw[Lr _ (by simp)] at hs
  have ht':b=t:=by simpa using ht
  refine h.qz ((a::A).length-1) s t ?_ ?_
  ·rw[dZ (by simp),<-pN];exact hs
  ·rw[nI (by simp),show(a::A).length-1+1-(a::A).length=0 by simp];simp[ht']
theorem je.eq(h:Wd S nx){R R':List Sg}(k:je S nx R)(k':je S nx R')(he:R.head?=R'.head?):R=R':=by
 have pre:∀{R R':List Sg},je S nx R->je S nx R'->R.head?=R'.head?->∀i,i<R.length->i<R'.length->R[i]?=R'[i]?:=by
  intro R R' k k' he i;induction i with
  |zero=>intro _ _;rw[<-QW,<-QW];exact he
  |succ i ih=>
   intro h1 h2;have e:=ih (by omega) (by omega)
   have a1:R[i]?=some R[i]:=ay (by omega)
   have a2:R[i+1]?=some R[i+1]:=ay h1;have b2:R'[i+1]?=some R'[i+1]:=ay h2;have r1:=k.qz i _ _ a1 a2;have r2:=k'.qz i _ _ (e.symm.trans a1) b2;rw[a2,b2,r1.uniq h (k.mem _ (ie h1)) (k'.mem _ (ie h2)) r2]
 have len:∀{R R':List Sg},je S nx R->je S nx R'->R.head?=R'.head?->¬R.length<R'.length:=by
  intro R R' k k' he hl;have hp:0<R.length:=gL.2 k.ne;have e:=pre k k' he (R.length-1) (by omega) (by omega)
  have a1:R[R.length-1]?=some R[R.length-1]:=ay (by omega)
  have hh:R.head?=some R[0]:=by rw[QW];exact ay hp
  have r1:=k.cls _ _ (by rw[pN];exact a1) hh
  have b2:R'[R.length-1+1]?=some R'[R.length]:=by rw[show R.length-1+1=R.length by omega];exact ay hl
  have r2:=k'.qz (R.length-1) _ _ (e.symm.trans a1) b2;have e3:=r1.uniq h (k.mem _ (ie hp)) (k'.mem _ (ie hl)) r2;have h0:R'[0]?=some R[0]:=by rw[<-QW,<-he];exact hh
  have h0':=bT.1 h0;have:=(mM.1 k'.pQ) 0 R.length h0'.1 hl hp;rw[h0'.2,e3] at this;exact this rfl
 refine BJ fun i=>?_
 have l1:=len k k' he;have l2:=len k' k he.symm;by_cases hi:i<R.length
 ·exact pre k k' he i hi (by omega)
 ·rw[xh (by omega),xh (by omega)]
structure Cv(nx:Sg->Sg)(s:Sg)(m:Nat):Prop where
 pos:0<m
 per:it nx m s=s
 nd:∀i j,i<m->j<m->it nx i s=it nx j s->i=j
theorem Wd.path(h:Wd S nx){s:Sg}(hs:s∈S)(i:Nat):∀n,Path (it nx i s).1 ((List.range' i n).map (fun j=>it nx j s)) (it nx (i+n) s).1
 |0=>rfl
 |n+1=>by
  rw[List.range'_concat,iy];refine(h.path hs i n).append ?_;simp only[QX,gK,QY];exact⟨rfl,by show(it nx (i+n) s).2=(it nx (i+(n+1)) s).1;rw[<-Nat.add_assoc,h.uh hs]⟩
theorem Wd.nc(h:Wd S nx){s:Sg}(hs:s∈S){m:Nat}(hc:Cv nx s m):NC (fun i=>(it nx i s).1) m:=by
 intro i j k l h1 h2 h3 h4 hf hq n1 n2;have Lt:∀i j,i<=j->(List.range' i (j-i)).map (fun t=>it nx t s)++[it nx j s]=(List.range' i (j-i+1)).map (fun t=>it nx t s):=fun i j hij=>by
  rw[List.range'_concat,iy];simp only[QX,gK,QY];rw[show i+(j-i)=j by omega]
 have hA:Path (it nx i s).1 ((List.range' i (j-i)).map (fun t=>it nx t s)++[it nx j s]) (it nx (l+1) s).1:=by
  rw[Lt i j h1];have:=h.path hs i (j-i+1);rw[show i+(j-i+1)=j+1 by omega] at this
  have hq':(it nx (j+1) s).1=(it nx (l+1) s).1:=hq;rw[<-hq'];exact this
 have hC:Path (it nx i s).1 ((List.range' k (l-k)).map (fun t=>it nx t s)++[it nx l s]) (it nx (l+1) s).1:=by
  rw[Lt k l h3];have:=h.path hs k (l-k+1);rw[show k+(l-k+1)=l+1 by omega] at this
  have hf':(it nx i s).1=(it nx k s).1:=hf;rw[hf'];exact this
 have mem:∀i j,i<=j->∀u∈(List.range' i (j-i)).map (fun t=>it nx t s)++[it nx j s],∃t,i<=t/\t<=j/\u=it nx t s:=fun i j hij u hu=>by
  rw[Lt i j hij] at hu;obtain⟨t,ht,rfl⟩:=aX.1 hu;rw[FW] at ht;exact⟨t,by omega,by omega,rfl⟩
 have e:=h.acW hA hC (fun u hu=>by
   obtain⟨t,_,_,rfl⟩:=mem i j h1 u hu;exact h.nO hs t) (fun u hu=>by
   obtain⟨t,_,_,rfl⟩:=mem k l h3 u hu;exact h.nO hs t) (fun u hu=>by
   obtain⟨t,a,b,rfl⟩:=mem i j h1 u hu;exact n1 t a b) (fun u hu=>by
   obtain⟨t,a,b,rfl⟩:=mem k l h3 u hu;exact n2 t a b) (by
   rcases Nat.le_total j l with q|q
   ·refine Or.inl ?_;have:=GF nx (it nx j s) (l-j);rw[<-ug,show l-j+j=l by omega] at this
    exact this
   ·refine Or.inr ?_;have:=GF nx (it nx l s) (j-l);rw[<-ug,show j-l+l=j by omega] at this
    exact this)
 exact hc.nd j l h2 h4 e
theorem Cw{α β:Type}(g:α->β)(l:List α):(l.map g).getLast?=l.getLast?.map g:=by simp
theorem GD.ring(h:Wd S nx){s:Sg}(hs:s∈S){m:Nat}(hc:Cv nx s m){D:List Nat}{d:Nat}(hD:GD (fun i=>(it nx i s).1) m D d):je S nx (D.map fun i=>it nx i s):=by
 have per:∀j,it nx (m+j) s=it nx j s:=fun j=>by rw[Nat.add_comm,ug,hc.per]
 refine⟨fun e=>?_,fun u hu=>?_,?_,fun k u t hu ht=>?_,fun u t hu ht=>?_⟩
 ·have:=hD.head;rw[rB.1 e] at this;cases this
 ·obtain⟨t,_,rfl⟩:=aX.1 hu;exact h.nO hs t
 ·rw[nJ];exact hD.pQ
 ·rw[gm] at hu ht;obtain⟨x,hx,rfl⟩:=rC.1 hu;obtain⟨x',hx',rfl⟩:=rC.1 ht;have hq:(it nx x' s).1=(it nx (x+1) s).1:=hD.Ct.get k x x' hx hx';obtain⟨n1,n2⟩:=hD.Ll k x x' hx hx';rw[h.uh hs] at hq;have lx:=hD.lt x (aY hx);have lx':=hD.lt x' (aY hx');refine⟨hq,m-x'+x,?_,fun j j1 j2=>?_⟩
  ·rw[<-ug,show m-x'+x+x'=m+x by omega,per]
  ·rw[<-ug];by_cases hj:j+x'<m
   ·have:=n2 (j+x') (by omega) hj
    simp only[h.uh hs x] at this;exact this
   ·have:=n1 (j+x'-m) (by omega)
    simp only[h.uh hs x] at this;rw[show j+x'=m+(j+x'-m) by omega,per]
    exact this
 ·rw[Cw] at hu;rw[List.head?_map] at ht;obtain⟨x,hx,rfl⟩:=rC.1 hu;obtain⟨x',hx',rfl⟩:=rC.1 ht;rw[hD.head] at hx';obtain rfl:d=x':=mN hx';have uf:x∈D:=tX hx;have hcl:(it nx (x+1) s).1=(it nx d s).1:=by
   obtain⟨L,hL⟩:=List.getLast?_eq_some_iff.1 hx;have k:=hD.Ct;rw[hL] at k;obtain⟨c,_,k2⟩:=k.split;exact k2.2
  rw[h.uh hs] at hcl;have hdx:d<=x:=by
   have e:=hD.head;cases D with
   |nil=>cases e
   |cons a D=>
    have:a=d:=mN e;subst this;rcases aQ.1 uf with k|k
    ·omega
    ·have:=(fZ.1 hD.inc).1 x k;omega
  refine⟨hcl.symm,x-d,?_,fun j j1 j2=>?_⟩
  ·rw[<-ug,show x-d+d=x by omega]
  ·rw[<-ug,hcl];exact hD.cls x hx (j+d) (by omega) (by omega)
end
def Fc(S:List Sg)(s u:Sg):Prop:=∀es,Cl es->In S es->Lf es s=Lf es u
theorem Fc.symm{S:List Sg}{s u:Sg}(h:Fc S s u):Fc S u s:=fun es a b=>(h es a b).symm
theorem Fc.trans{S:List Sg}{s u v:Sg}(h:Fc S s u)(k:Fc S u v):Fc S s v:=fun es a b=>(h es a b).trans (k es a b)
structure LR(S:List Sg)(nx:Sg->Sg)(R:List Sg):Prop where
 ring:je S nx R
 least:∀a,R.head?=some a->∀s∈R,ge a.1 s.1
def shl(R:List Sg):Prop:=∃a z,R.head?=some a/\R.getLast?=some z/\0<cr (dr z) (dr a)
theorem Sj:∀(R:List Sg),R≠[]->∃a∈R,∀s∈R,ge a.1 s.1
 |[],h=>absurd rfl h
 |[a],_=>⟨a,by simp,fun s hs=>by rw[bJ.1 hs];exact Gu _⟩
 |a::b::R,_=>by
  obtain⟨c,hc,hl⟩:=Sj (b::R) (by simp)
  rcases Ld a.1 c.1 with k|k
  ·refine⟨a,by simp,fun s hs=>?_⟩
   rcases aQ.1 hs with e|e
   ·rw[e];exact Gu _
   ·exact Le k (hl s e)
  ·refine⟨c,bn _ hc,fun s hs=>?_⟩
   rcases aQ.1 hs with e|e
   ·rw[e];exact k
   ·exact hl s e
section
variable{S:List Sg}{nx:Sg->Sg}
theorem Wd.fc(h:Wd S nx){s u:Sg}(hs:s∈S)(hw:Cr nx s u):Fc S s u:=fun _ a b=>(h.along a b hs hw).symm
theorem Sk:∀(T:List Sg)(a:Sg),(∀(k:Nat) s t,(a::T)[k]?=some s->(a::T)[k+1]?=some t->t.1=s.2)->∀z,(a::T).getLast?=some z->Path a.1 (a::T) z.2
 |[],a,_,z,hz=>by
  have:a=z:=by simpa using hz
  rw[this];exact Path.one
 |b::T,a,h,z,hz=>by
  refine⟨rfl,?_⟩;have e:b.1=a.2:=h 0 a b rfl rfl;rw[<-e];exact Sk T b (fun k s t hs ht=>h (k+1) s t (by simpa using hs) (by simpa using ht)) z (by simpa using hz)
theorem je.path{R:List Sg}(k:je S nx R){a:Sg}(ha:R.head?=some a):Path a.1 R a.1:=by
 cases R with
 |nil=>cases ha
 |cons b T=>
  obtain rfl:b=a:=mN ha;obtain⟨z,hz⟩:∃z,(b::T).getLast?=some z:=by
   cases e:(b::T).getLast? with
   |none=>exact absurd (ze.1 e) (by simp)
   |some z=>exact⟨z,rfl⟩
  have:=Sk T b (fun i s t hs ht=>(k.qz i s t hs ht).1) z hz
  rw[<-(k.cls z b hz rfl).1] at this;exact this
theorem je.Sl{R:List Sg}(k:je S nx R):∃A B,R=A++B/\LR S nx (B++A):=by
 obtain⟨a,ha,hl⟩:=Sj R k.ne;obtain⟨A,B,e⟩:=abM ha;refine⟨A,a::B,e,?_,fun b hb s hs=>?_⟩
 ·rw[e] at k;exact k.Ls
 ·obtain rfl:a=b:=by simpa using hb
  refine hl s ?_;rw[e];simp at hs⊢;rcases hs with q|q|q<;>simp[q]
theorem LR.rg(h:Wd S nx){R:List Sg}(k:LR S nx R){a z:Sg}(ha:R.head?=some a)(hz:R.getLast?=some z):∃M,Rg S R a M z:=by
 have hp:=k.ring.path ha;cases R with
 |nil=>cases ha
 |cons b T=>
  obtain rfl:b=a:=mN ha;have hT:T≠[]:=fun e=>by
   rw[e] at hp;exact h.ne b (k.ring.mem b (by simp)) hp.2.symm
  obtain⟨M,y,e⟩:∃M y,T=M++[y]:=⟨T.dropLast,T.getLast hT,(List.dropLast_concat_getLast hT).symm⟩;obtain rfl:y=z:=by
   rw[e] at hz;simpa[List.getLast?_cons,List.getLast?_append] using hz
  exact⟨M,by rw[e],hp,k.ring.mem,fun s hs=>((fZ.1 k.ring.pQ).1 s (by rw[e];exact hs)).symm,k.least b rfl⟩
theorem lV{R:List Sg}(h:R≠[]):∃a z,R.head?=some a/\R.getLast?=some z:=by
 cases e:R.getLast? with
 |none=>exact absurd (ze.1 e) h
 |some z=>
  cases R with
  |nil=>exact absurd rfl h
  |cons a T=>exact⟨a,z,rfl,rfl⟩
theorem LR.val(h:Wd S nx){R:List Sg}(k:LR S nx R){a:Sg}(ha:R.head?=some a):(shl R->Lf R a=1)/\(¬shl R->Lf R a=0):=by
 obtain⟨a',z,ha',hz⟩:=lV k.ring.ne;obtain rfl:a'=a:=mN (ha'.symm.trans ha);obtain⟨M,hg⟩:=k.rg h ha' hz;have hv:=hg.val h;constructor
 ·rintro⟨b,y,hb,hy,hc⟩;obtain rfl:b=a':=mN (hb.symm.trans ha');obtain rfl:y=z:=mN (hy.symm.trans hz);rw[if_pos hc] at hv;exact hv
 ·intro hn;rw[if_neg (fun hc=>hn ⟨a',z,ha',hz,hc⟩)] at hv
  exact hv
theorem LR.cl(h:Wd S nx){R:List Sg}(k:LR S nx R):Cl R/\In S R:=by
 obtain⟨a,z,ha,hz⟩:=lV k.ring.ne;obtain⟨M,hg⟩:=k.rg h ha hz;exact⟨hg.cl h,hg.az⟩
theorem LR.one(h:Wd S nx){R R':List Sg}(k:LR S nx R)(k':LR S nx R')(hs:shl R)(hs':shl R'){a a':Sg}(ha:R.head?=some a)(ha':R'.head?=some a')(hf:Fc S a a'):R=R':=by
 apply mL;intro hne;have hna:a≠a':=fun e=>hne (k.ring.eq h k'.ring (by rw[ha,ha',e]))
 obtain⟨b,z,hb,hz⟩:=lV k.ring.ne;obtain rfl:b=a:=mN (hb.symm.trans ha);obtain⟨b',z',hb',hz'⟩:=lV k'.ring.ne;obtain rfl:b'=a':=mN (hb'.symm.trans ha');obtain⟨M,hg⟩:=k.rg h ha hz;obtain⟨M',hg'⟩:=k'.rg h ha' hz';have v:=(k.val h ha).1 hs;have v':=(k'.val h ha').1 hs';exact hg.asym h hg' hna ((hf R' (k'.cl h).1 (k'.cl h).2).trans v') ((hf.symm R (k.cl h).1 (k.cl h).2).trans v)
theorem LR.eq(h:Wd S nx){R R':List Sg}(k:LR S nx R)(k':LR S nx R'){s:Sg}(hs:s∈R)(hs':s∈R'):R=R':=by
 obtain⟨A,B,e⟩:=abM hs;obtain⟨A',B',e'⟩:=abM hs';have r:je S nx (s::B++A):=by have:=k.ring;rw[e] at this;exact this.Ls
 have r':je S nx (s::B'++A'):=by have:=k'.ring;rw[e'] at this;exact this.Ls
 have hQ:=r.eq h r' (by simp)
 have mem:∀u,u∈R↔u∈R':=fun u=>by
  have m1:u∈R↔u∈s::B++A:=by rw[e];simp;constructor<;>(rintro(q|q|q)<;>simp[q])
  have m2:u∈R'↔u∈s::B'++A':=by rw[e'];simp;constructor<;>(rintro(q|q|q)<;>simp[q])
  rw[m1,m2,hQ]
 obtain⟨a,z,ha,_⟩:=lV k.ring.ne;obtain⟨a',z',ha',_⟩:=lV k'.ring.ne;have hm:a∈R:=by cases R with
  |nil=>cases ha
  |cons b T=>rw[<-mN ha];simp
 have hm':a'∈R':=by cases R' with
  |nil=>cases ha'
  |cons b T=>rw[<-mN ha'];simp
 have ef:a.1=a'.1:=Gt (k.least a ha a' ((mem a').2 hm')) (k'.least a' ha' a ((mem a).1 hm));have ea:a=a':=by
  apply mL;intro hne;have hmr:=(mem a').2 hm';obtain⟨i,hi,ei⟩:=j5.1 hm;obtain⟨j,hj,ej⟩:=j5.1 hmr;have pw:=mM.1 k.ring.pQ;rcases FV i j with q|q|q
  ·have:=pw i j hi hj q;rw[ei,ej] at this;exact this ef
  ·subst q;exact hne (ei.symm.trans ej)
  ·have:=pw j i hj hi q;rw[ei,ej] at this;exact this ef.symm
 exact k.ring.eq h k'.ring (by rw[ha,ha',ea])
def tG:Sg->List Sg->List Sg
 |_,[]=>[]
 |b,s::A=>if cr (dr b) (dr s)=0 then tG s A else s::tG s A
def s0:Sg:=((0,0),(0,0))
def jf(R:List Sg):List Pt:=(tG (R.getLastD s0) R).map Prod.fst
theorem ac9{x y z:Pt}(h1:ak x z=true)(h2:ak y z=true):ak (x.1+y.1,x.2+y.2) z=true:=by
 rw[cV] at h1 h2⊢;unfold cr dt at*;simp only;constructor
 ·have:(x.1+y.1)*z.2-(x.2+y.2)*z.1=(x.1*z.2-x.2*z.1)+(y.1*z.2-y.2*z.1):=by grind
  omega
 ·have:(x.1+y.1)*z.1+(x.2+y.2)*z.2=(x.1*z.1+x.2*z.2)+(y.1*z.1+y.2*z.2):=by grind
  omega
theorem Lu{x y z:Pt}(h1:ak x y=true)(h2:ak y z=true):ak x z=true:=by
 rw[cV] at*;have hy:=ez (ua (D:=x) (r:=y) (by omega))
 have e1:dt y y*cr x z=cr x y*dt y z+dt x y*cr y z:=by unfold cr dt;grind
 have e2:dt y y*dt x z=dt x y*dt y z-cr x y*cr y z:=by unfold cr dt;grind
 rw[h1.1,h2.1] at e1 e2;have p1:=dU (z:=cr x z) hy;have p2:=aO (z:=dt x z) hy;have:=aP h1.2 h2.2;constructor
 ·exact p1.1 (by omega)
 ·exact p2.1 (by omega)
theorem GG{z w:Pt}(h:ak z w=true):ak w z=true:=by
 rw[cV] at*;rw[bU,iR];omega
theorem Cy{x:Pt}(h:x≠(0,0)):ak x x=true:=(cV _ _).2 ⟨by unfold cr;grind,ez h⟩
theorem Wd.Sm(h:Wd S nx){b s:Sg}(hb:b∈S)(hs:s∈S)(e:s.1=b.2)(hc:cr (dr b) (dr s)=0):ak (dr b) (dr s)=true:=by
 refine(cV _ _).2 ⟨hc,?_⟩;have t:=h.two s hs b hb e;rcases fk (dt (dr b) (dr s)) 0 with q|q|q
 ·have:ak (dr s) (neg (dr b))=true:=(cV _ _).2 ⟨by rw[fF,bU];omega,by rw[kU,iR];omega⟩
  rw[t] at this;cases this
 ·exfalso;have e1:dt (dr b) (dr b)*dt (dr s) (dr s)=dt (dr b) (dr s)*dt (dr b) (dr s)+cr (dr b) (dr s)*cr (dr b) (dr s):=by unfold dt cr;grind
  rw[q,hc] at e1;have:=aP (ez (h.gN hb)) (ez (h.gN hs));omega
 ·exact q
theorem ada(a b c:Pt):dr (a,c)=((dr (a,b)).1+(dr (b,c)).1,(dr (a,b)).2+(dr (b,c)).2):=by unfold dr;exact dY (by simp only;omega) (by simp only;omega)
theorem Wd.Sn(h:Wd S nx):∀(T:List Sg)(b:Sg)(e:Pt),b∈S->(∀s∈T,s∈S)->Path b.2 T e->(tG b T=[]->ak (dr (b.1,e)) (dr b)=true)/\(∀t U,tG b T=t::U->ak (dr (b.1,t.1)) (dr b)=true)
 |[],b,e,hb,_,hp=>by
  have:b.2=e:=hp;subst this;exact⟨fun _=>Cy (h.gN hb),fun t U k=>by cases k⟩
 |s::T,b,e,hb,hm,hp=>by
  have hs:=hm s (by simp)
  unfold tG;by_cases hc:cr (dr b) (dr s)=0
  ·rw[if_pos hc];obtain⟨i1,i2⟩:=h.Sn T s e hs (fun u hu=>hm u (bn _ hu)) hp.2
   have hd:=h.Sm hb hs hp.1 hc;have hj:∀x,ak (dr (s.1,x)) (dr s)=true->ak (dr (b.1,x)) (dr b)=true:=fun x k=>by
    rw[ada b.1 s.1 x];refine ac9 ?_ (Lu k (GG hd));rw[hp.1];exact Cy (h.gN hb)
   exact⟨fun k=>hj e (i1 k),fun t U k=>hj t.1 (i2 t U k)⟩
  ·rw[if_neg hc];refine⟨fun k=>(by cases k),fun t U k=>?_⟩
   injection k with k1 _;rw[<-k1,hp.1];exact Cy (h.gN hb)
theorem adb{R:List Sg}{z:Sg}(h:R.getLast?=some z)(d:Sg):R.getLastD d=z:=by rw[oJ,h];rfl
theorem LR.GH(h:Wd S nx){R:List Sg}(k:LR S nx R):∃a T t U,R=a::T/\tG a T=t::U/\jf R=a.1::t.1::U.map Prod.fst/\ak (dr (a.1,t.1)) (dr a)=true:=by
 obtain⟨a,z,ha,hz⟩:=lV k.ring.ne;obtain⟨M,hg⟩:=k.rg h ha hz;have hcr:cr (dr z) (dr a)≠0:=fun q=>by
  have h1:=kf (hg.Li h) (hg.Lh h) (by rw[fw];omega)
  have h2:ak (dr a) (neg (dr z))=true:=(cV _ _).2 ⟨by rw[fF,bU];omega,by rw[iR];exact h1⟩
  rw[h.two a hg.ma z hg.mz hg.z2.symm] at h2;cases h2
 have hp:=hg.path;have he:=hg.eq;obtain⟨i1,i2⟩:=h.Sn (M++[z]) a a.1 hg.ma (fun s hs=>hg.mem s (by rw[he];exact bn _ hs)) (by rw[he] at hp;exact hp.2)
 cases ht:tG a (M++[z]) with
 |nil=>
  have:=i1 ht;rw[(qy (s:=(a.1,a.1))).2 rfl,zD] at this;cases this
 |cons t U=>
  refine⟨a,M++[z],t,U,he,ht,?_,i2 t U ht⟩;unfold jf;rw[adb hz,he];show(if cr (dr z) (dr a)=0 then tG a (M++[z]) else a::tG a (M++[z])).map Prod.fst=_
  rw[if_neg hcr,ht];rfl
theorem LR.Lv(h:Wd S nx){R R':List Sg}(k:LR S nx R)(k':LR S nx R')(he:jf R=jf R'):R=R':=by
 obtain⟨a,T,t,U,e1,_,c1,d1⟩:=k.GH h;obtain⟨a',T',t',U',mU,_,c1',d1'⟩:=k'.GH h;rw[c1,c1'] at he;injection he with x1 he;injection he with x2 _;have ha:a∈S:=k.ring.mem a (by rw[e1];simp)
 have ha':a'∈S:=k'.ring.mem a' (by rw[mU];simp)
 rw[x1,x2] at d1;have e:a=a':=h.one a ha a' ha' x1 (Lu (GG d1) d1');exact k.ring.eq h k'.ring (by rw[e1,mU,e];rfl)
end
end Go.Proofs.YtkjhhooecopolaaGreatDoor.Gb
namespace Go.Proofs.YtkjhhooecopolaaGreatDoor
namespace Pl
structure Tk where
 k:Nat
 raw:List UInt8
 n:Int
 pl:Nat
def isLet(c:UInt8):Bool:=decide (65<=c.toNat/\c.toNat<=90)
def aM(c:UInt8):Bool:=decide (48<=c.toNat/\c.toNat<=57)
def dC(c:UInt8):Bool:=decide (c.toNat=32)
def dD(l:List UInt8):Nat:=l.foldl (fun a c=>10*a+(c.toNat-48)) 0
def bX(l:List UInt8)(i:Nat):Tk:=
 match l with
 |[]=>⟨101,[],0,i⟩
 |c::r=>
  if c.toNat=40\/c.toNat=41\/c.toNat=44\/c.toNat=47 then⟨c.toNat,[c],0,i⟩
  else if isLet c=true then⟨119,(c::r).takeWhile isLet,0,i⟩
  else if c.toNat=45 then
   (if r.takeWhile aM=[]\/9<(r.takeWhile aM).length then⟨120,[],0,i⟩ else⟨110,c::r.takeWhile aM, -(dD (r.takeWhile aM):Int),i⟩)
  else
   (if(c::r).takeWhile aM=[]\/9<((c::r).takeWhile aM).length then⟨120,[],0,i⟩ else⟨110,(c::r).takeWhile aM,(dD ((c::r).takeWhile aM):Int),i⟩)
def bl(s:List UInt8)(i:Nat):Nat:=i+((s.drop i).takeWhile dC).length
def tk(s:List UInt8)(i:Nat):Tk:=bX (s.drop (bl s i)) (bl s i)
def gP(s:List UInt8):Nat->Nat->List Tk
 |0,i=>[tk s i]
 |f+1,i=>if(tk s i).k=101\/(tk s i).k=120 then[tk s i] else tk s i::gP s f ((tk s i).pl+(tk s i).raw.length)
def eB(s:List UInt8):List Tk->Prop
 |[]=>False
 |[t]=>t.k=101\/t.k=120
 |t::u::r=>¬(t.k=101\/t.k=120)/\u=tk s (t.pl+t.raw.length)/\eB s (u::r)
theorem Lx(s:List UInt8)(i:Nat)(h:i<=s.length):i<=bl s i/\bl s i<=s.length:=by
 have:=(pO dC (l:=s.drop i)).length_le;simp only[rD] at this;unfold bl;omega
theorem adf(l:List UInt8)(i:Nat):(bX l i).pl=i:=by
 unfold bX;repeat' split
 all_goals rfl
theorem adg(l:List UInt8)(i:Nat):(bX l i).raw.length<=l.length/\((bX l i).k=101\/(bX l i).k=120\/1<=(bX l i).raw.length):=by
 unfold bX;split
 ·exact⟨ae _,Or.inl rfl⟩
 ·rename_i c r
  have h1:=(pO isLet (l:=c::r)).length_le;have h2:=(pO aM (l:=c::r)).length_le;have h3:=(pO aM (l:=r)).length_le;simp only[bO] at h1 h2 h3⊢;split
  ·exact⟨by simp,by simp⟩
  ·split
   ·rename_i hl
    refine⟨h1,Or.inr (Or.inr ?_)⟩;simp[hl]
   ·split
    ·split
     ·exact⟨by simp,Or.inr (Or.inl rfl)⟩
     ·exact⟨by simp;omega,by simp⟩
    ·split
     ·exact⟨by simp,Or.inr (Or.inl rfl)⟩
     ·rename_i h
      refine⟨h2,Or.inr (Or.inr ?_)⟩;have:¬(c::r).takeWhile aM=[]:=fun e=>h (Or.inl e)
      exact gL.2 this
theorem adh(s:List UInt8)(i:Nat):(tk s i).pl=bl s i:=adf _ _
theorem Cz(s:List UInt8)(i:Nat)(h:i<=s.length):(tk s i).pl+(tk s i).raw.length<=s.length/\((tk s i).k=101\/(tk s i).k=120\/i+1<=(tk s i).pl+(tk s i).raw.length):=by
 have h1:=adg (s.drop (bl s i)) (bl s i);have h2:=Lx s i h;rw[adh];simp only[rD] at h1;unfold tk;refine⟨by omega,?_⟩
 rcases h1.2 with h|h|h
 ·exact Or.inl h
 ·exact Or.inr (Or.inl h)
 ·exact Or.inr (Or.inr (by omega))
theorem Lz(s:List UInt8)(f i:Nat):∃r,gP s f i=tk s i::r:=by
 cases f with
 |zero=>exact⟨[],rfl⟩
 |succ f=>
  by_cases h:(tk s i).k=101\/(tk s i).k=120
  ·exact⟨[],by rw[gP,if_pos h]⟩
  ·exact⟨_,by rw[gP,if_neg h]⟩
theorem Sp(s:List UInt8):∀(f i:Nat),i<=s.length->s.length<f+i->eB s (gP s f i)
 |0,i,h,h2=>by omega
 |f+1,i,h,h2=>by
  by_cases hs:(tk s i).k=101\/(tk s i).k=120
  ·rw[gP,if_pos hs];exact hs
  ·rw[gP,if_neg hs];have hn:=Cz s i h;have xJ:i+1<=(tk s i).pl+(tk s i).raw.length:=by
    rcases hn.2 with h|h|h
    ·exact absurd (Or.inl h) hs
    ·exact absurd (Or.inr h) hs
    ·exact h
   obtain⟨r,hr⟩:=Lz s f ((tk s i).pl+(tk s i).raw.length);have ih:=Sp s f ((tk s i).pl+(tk s i).raw.length) hn.1 (by omega)
   rw[hr] at ih⊢;exact⟨hs,rfl,ih⟩
def all(s:List UInt8):List Tk:=gP s (s.length+1) 0
theorem xK(s:List UInt8):eB s (all s):=Sp s _ 0 (iz _) (by omega)
def mk(c:Nat):List Tk->Bool×List Tk
 |[]=>(false,[])
 |t::r=>if t.k=c then(true,r) else(false,t::r)
def wd(w:List UInt8):List Tk->Bool×List Tk
 |[]=>(false,[])
 |t::r=>if t.k=119/\t.raw=w then(true,r) else(false,t::r)
def cE:List Tk->Bool×List Tk×(Int×Int)
 |[]=>(false,[],(0,0))
 |[x]=>(false,[x],(0,0))
 |x::y::r=>if x.k=110 then(if y.k=110 then(true,r,(x.n,y.n)) else(false,y::r,(0,0))) else(false,x::y::r,(0,0))
def bK{α:Type}(item:List Tk->Bool×List Tk×α):Nat->List Tk->List α->Bool×List Tk×List α
  | 0,l,acc=>(false,l,acc)
  | f+1,l,acc=>
    if(item l).1=true then
      (if(mk 44 (item l).2.1).1=true then bK item f (mk 44 (item l).2.1).2 (acc++[(item l).2.2])
       else((mk 41 (item l).2.1).1,(mk 41 (item l).2.1).2,acc++[(item l).2.2]))
    else(false,(item l).2.1,acc)
def EMPTY:List UInt8:=[69,77,80,84,89]
def bp:List UInt8:=[80,79,76,89,71,79,78]
def cJ:List UInt8:=[77,85,76,84,73,80,79,76,89,71,79,78]
def di(l:List Tk):Bool×List Tk×List (Int×Int):=
 if(mk 40 l).1=true then
  (if(mk 41 (mk 40 l).2).1=true then(true,(mk 41 (mk 40 l).2).2,[]) else bK cE l.length (mk 40 l).2 [])
 else(false,l,[])
def bo(l:List Tk):Bool×List Tk×List (List (Int×Int)):=
 if(wd EMPTY l).1=true then(true,(wd EMPTY l).2,[])
 else if(mk 40 l).1=true then bK di l.length (mk 40 l).2 []
 else(false,l,[])
def eJ(l:List Tk):Bool×List Tk×List (List (List (Int×Int))):=
 if(wd EMPTY l).1=true then(true,(wd EMPTY l).2,[])
 else if(mk 40 l).1=true then bK bo l.length (mk 40 l).2 []
 else(false,l,[])
def pk(t:Tk):Int:=if t.k=101 then 1 else if t.k=119 then 2 else if t.k=110 then 3 else if t.k=40\/t.k=41\/t.k=44 then 4 else 0
def fI(t:Tk):List UInt8:=if t.k=47 then[] else t.raw
theorem extract_eq(s:ByteArray)(a b:Nat):s.extract a b=⟨((s.data.toList.drop a).take (b-a)).toArray⟩:=by
 apply ByteArray.ext;apply Array.toList_inj.1;simp[ByteArray.data_extract]
theorem drop_cons(s:ByteArray)(j:Nat)(h:j<s.size):s.data.toList.drop j=s[j]::s.data.toList.drop (j+1):=
 Kv (by simpa using h)
theorem take_takeWhile(p:UInt8->Bool)(l:List UInt8):l.take (l.takeWhile p).length=l.takeWhile p:=
 List.prefix_iff_eq_take.1 (pO p) |>.symm
theorem Sq(s:List UInt8)(t:Tk)(r:List Tk)(h:eB s (t::r))(hk:¬(t.k=101\/t.k=120)):
  ∃u r',r=u::r'/\u=tk s (t.pl+t.raw.length)/\eB s r:=by
 cases r with
 |nil=>exact absurd h hk
 |cons u r'=>exact⟨u,r',rfl,h.2.1,h.2.2⟩
theorem LA(s:List UInt8):∀(c l:List Tk),eB s (c++l)->l≠[]->eB s l
 |[],l,h,_=>h
 |t::c,l,h,hl=>by
  cases c with
  |nil=>
   cases l with
   |nil=>exact absurd rfl hl
   |cons u r=>exact h.2.2
  |cons u c'=>exact LA s (u::c') l h.2.2 hl
def Place(s:List UInt8)(t:Tk):Prop:=t.pl+t.raw.length<=s.length/\(∃i,i<=s.length/\t=tk s i)
theorem Sr(s:List UInt8):∀(l:List Tk),eB s l->(∀t r,l=t::r->Place s t)->∀t∈l,Place s t
 |[],h,_,t,ht=>by simp at ht
 |[a],h,h0,t,ht=>by
  rw[bJ] at ht;subst ht;exact h0 t [] rfl
 |a::b::r,h,h0,t,ht=>by
  have ha:=h0 a (b::r) rfl;rcases aQ.1 ht with rfl|ht
  ·exact ha
  ·refine Sr s (b::r) h.2.2 ?_ t ht;intro t' r' e;injection e with e1 e2;subst e1;exact⟨by rw[h.2.1];exact(Cz s _ ha.1).1,_,ha.1,h.2.1⟩
theorem GI(s:List UInt8):∀t∈all s,Place s t:=by
 refine Sr s _ (xK s) ?_;intro t r e;obtain⟨r',hr⟩:=Lz s (s.length+1) 0;unfold all at e;rw[hr] at e;injection e with e1 e2;subst e1;exact⟨(Cz s 0 (iz _)).1,0,iz _,rfl⟩
theorem Ss(s:List UInt8):∀(f i:Nat),(gP s f i).length<=f+1
 |0,i=>by simp[gP]
 |f+1,i=>by
  rw[gP];split
  ·simp
  ·have:=Ss s f ((tk s i).pl+(tk s i).raw.length);simp;omega
theorem xL(s:List UInt8):(all s).length<=s.length+2:=Ss s _ 0
end Pl
end Go.Proofs.YtkjhhooecopolaaGreatDoor
namespace Go.Proofs.YtkjhhooecopolaaGreatDoor
open Go.RowKit
theorem rO{a b:Bool}(h:a=b):Ending.returned (.bool a)=.returned (.bool b):=by rw[h]
theorem rP{k:IntKind}{a b:Int}(h:a=b):Ending.returned (.int k a)=.returned (.int k b):=by rw[h]
theorem LB(c:UInt8)(w:World):
  Calls Tryz.prog 90 #[.int .u8 c.toNat] w fun e w'=>e=.returned (.bool (Pl.dC c))/\w'=w:=by
 go_enter Tryz.func90,Tryz.ntmps90
 go_wp2
 go_ret
 refine⟨rO ?_,rfl⟩;unfold Pl.dC;rw[mO];simp;omega
theorem rQ(c:UInt8)(w:World):
  Calls Tryz.prog 91 #[.int .u8 c.toNat] w fun e w'=>e=.returned (.bool (Pl.isLet c))/\w'=w:=by
 go_enter Tryz.func91,Tryz.ntmps91
 go_wp2
 all_goals
  go_ret
  refine⟨rO ?_,rfl⟩;unfold Pl.isLet;rw[mO];simp;omega
theorem ui(c:UInt8)(w:World):
  Calls Tryz.prog 92 #[.int .u8 c.toNat] w fun e w'=>e=.returned (.bool (Pl.aM c))/\w'=w:=by
 go_enter Tryz.func92,Tryz.ntmps92
 go_wp2
 all_goals
  go_ret
  refine⟨rO ?_,rfl⟩;unfold Pl.aM;rw[mO];simp;omega
theorem CC(p:UInt8->Bool)(s:List UInt8)(i:Nat)(h:i<s.length)(hp:p s[i]=true):
  ((s.drop i).takeWhile p).length=((s.drop (i+1)).takeWhile p).length+1:=by
 rw[Kv h,xj,if_pos hp];rfl
theorem CD(p:UInt8->Bool)(s:List UInt8)(i:Nat)(h:i<s.length)(hp:p s[i]=false):
  ((s.drop i).takeWhile p).length=0:=by
 rw[Kv h,xj,if_neg (by simp[hp])];rfl
theorem adi(s:ByteArray)(i:Int)(w:World)(h0:0<=i)(h1:i<=s.size)(hs:s.size<=400):
  Calls Tryz.prog 89 #[.string s,.int .i64 i,.func (.func 90) #[] #[]] w fun e w'=>e=.returned (.int .i64 (i+((s.data.toList.drop i.toNat).takeWhile Pl.dC).length))/\w'=w:=by
 obtain⟨n,rfl⟩:=QZ h0;rw[zg];have hn:n<=s.size:=by omega
 clear h0 h1
 go_enter Tryz.func89,Tryz.ntmps89
 go_wp2_with fail
 go_loop [1] (fun t=>∃j:Nat,j<=s.size/\t=.int .i64 j/\j+((s.data.toList.drop j).takeWhile Pl.dC).length=n+((s.data.toList.drop n).takeWhile Pl.dC).length) (fun t=>s.size-(intOf t).toNat)
 case atStart=>exact⟨n,hn,rfl,rfl⟩
 case round=>
  obtain⟨j,hj,rfl,he⟩:=hrel;have HE:Hid (j+((s.data.toList.drop j).takeWhile Pl.dC).length=n+((s.data.toList.drop n).takeWhile Pl.dC).length):=he;clear he;by_cases hlt:j<s.size
  ·by_cases hp:Pl.dC s[j]=true
   ·have HS:Hid (j+1+((s.data.toList.drop (j+1)).takeWhile Pl.dC).length=n+((s.data.toList.drop n).takeWhile Pl.dC).length):=by
     have h1:=CC Pl.dC s.data.toList j (by simpa using hlt) hp
     have h2:=HE.out;show _=_;omega
    clear HE
    go_wp2_with (go_at_call 90;refine(LB _ _).mono ?_;rintro e w' ⟨rfl,rfl⟩)
    go_round
    case rel=>exact⟨j+1,by omega,by go_num,HS.out⟩
    case measure=>simp[intOf];omega
   ·have hp':Pl.dC s[j]=false:=by simpa using hp
    have HS:Hid (j=n+((s.data.toList.drop n).takeWhile Pl.dC).length):=by
     have h1:=CD Pl.dC s.data.toList j (by simpa using hlt) hp'
     have h2:=HE.out;show _=_;omega
    clear HE hp
    go_wp2_with (go_at_call 90;refine(LB _ _).mono ?_;rintro e w' ⟨rfl,rfl⟩)
    go_ret
    exact⟨rP (by have:=HS.out;omega),rfl⟩
  ·have HS:Hid (j=n+((s.data.toList.drop n).takeWhile Pl.dC).length):=by
    have h2:=HE.out;rw[zh (by simp;omega:s.data.toList.length<=j)] at h2
    simp at h2;exact h2
   clear HE
   go_wp2_with (go_at_call 90;refine(LB _ _).mono ?_;rintro e w' ⟨rfl,rfl⟩)
   go_ret
   exact⟨rP (by have:=HS.out;omega),rfl⟩
theorem vP(s:ByteArray)(i j:Nat)(w:World)(h1:i<=s.size)(hs:s.size<=400)(hj:j=i+((s.data.toList.drop i).takeWhile Pl.dC).length):
  Calls Tryz.prog 89 #[.string s,.int .i64 i,.func (.func 90) #[] #[]] w fun e w'=>e=.returned (.int .i64 j)/\w'=w:=by
 refine(adi s i w (by omega) (by omega) hs).mono ?_
 rintro e w' ⟨rfl,rfl⟩;exact⟨rP (by rw[hj];simp),rfl⟩
theorem adj(s:ByteArray)(i:Int)(w:World)(h0:0<=i)(h1:i<=s.size)(hs:s.size<=400):
  Calls Tryz.prog 89 #[.string s,.int .i64 i,.func (.func 91) #[] #[]] w fun e w'=>e=.returned (.int .i64 (i+((s.data.toList.drop i.toNat).takeWhile Pl.isLet).length))/\w'=w:=by
 obtain⟨n,rfl⟩:=QZ h0;rw[zg];have hn:n<=s.size:=by omega
 clear h0 h1
 go_enter Tryz.func89,Tryz.ntmps89
 go_wp2_with fail
 go_loop [1] (fun t=>∃j:Nat,j<=s.size/\t=.int .i64 j/\j+((s.data.toList.drop j).takeWhile Pl.isLet).length=n+((s.data.toList.drop n).takeWhile Pl.isLet).length) (fun t=>s.size-(intOf t).toNat)
 case atStart=>exact⟨n,hn,rfl,rfl⟩
 case round=>
  obtain⟨j,hj,rfl,he⟩:=hrel;have HE:Hid (j+((s.data.toList.drop j).takeWhile Pl.isLet).length=n+((s.data.toList.drop n).takeWhile Pl.isLet).length):=he;clear he;by_cases hlt:j<s.size
  ·by_cases hp:Pl.isLet s[j]=true
   ·have HS:Hid (j+1+((s.data.toList.drop (j+1)).takeWhile Pl.isLet).length=n+((s.data.toList.drop n).takeWhile Pl.isLet).length):=by
     have h1:=CC Pl.isLet s.data.toList j (by simpa using hlt) hp
     have h2:=HE.out;show _=_;omega
    clear HE
    go_wp2_with (go_at_call 91;refine(rQ _ _).mono ?_;rintro e w' ⟨rfl,rfl⟩)
    go_round
    case rel=>exact⟨j+1,by omega,by go_num,HS.out⟩
    case measure=>simp[intOf];omega
   ·have hp':Pl.isLet s[j]=false:=by simpa using hp
    have HS:Hid (j=n+((s.data.toList.drop n).takeWhile Pl.isLet).length):=by
     have h1:=CD Pl.isLet s.data.toList j (by simpa using hlt) hp'
     have h2:=HE.out;show _=_;omega
    clear HE hp
    go_wp2_with (go_at_call 91;refine(rQ _ _).mono ?_;rintro e w' ⟨rfl,rfl⟩)
    go_ret
    exact⟨rP (by have:=HS.out;omega),rfl⟩
  ·have HS:Hid (j=n+((s.data.toList.drop n).takeWhile Pl.isLet).length):=by
    have h2:=HE.out;rw[zh (by simp;omega:s.data.toList.length<=j)] at h2
    simp at h2;exact h2
   clear HE
   go_wp2_with (go_at_call 91;refine(rQ _ _).mono ?_;rintro e w' ⟨rfl,rfl⟩)
   go_ret
   exact⟨rP (by have:=HS.out;omega),rfl⟩
theorem adk(s:ByteArray)(i j:Nat)(w:World)(h1:i<=s.size)(hs:s.size<=400)(hj:j=i+((s.data.toList.drop i).takeWhile Pl.isLet).length):
  Calls Tryz.prog 89 #[.string s,.int .i64 i,.func (.func 91) #[] #[]] w fun e w'=>e=.returned (.int .i64 j)/\w'=w:=by
 refine(adj s i w (by omega) (by omega) hs).mono ?_
 rintro e w' ⟨rfl,rfl⟩;exact⟨rP (by rw[hj];simp),rfl⟩
theorem adl(s:ByteArray)(i:Int)(w:World)(h0:0<=i)(h1:i<=s.size)(hs:s.size<=400):
  Calls Tryz.prog 89 #[.string s,.int .i64 i,.func (.func 92) #[] #[]] w fun e w'=>e=.returned (.int .i64 (i+((s.data.toList.drop i.toNat).takeWhile Pl.aM).length))/\w'=w:=by
 obtain⟨n,rfl⟩:=QZ h0;rw[zg];have hn:n<=s.size:=by omega
 clear h0 h1
 go_enter Tryz.func89,Tryz.ntmps89
 go_wp2_with fail
 go_loop [1] (fun t=>∃j:Nat,j<=s.size/\t=.int .i64 j/\j+((s.data.toList.drop j).takeWhile Pl.aM).length=n+((s.data.toList.drop n).takeWhile Pl.aM).length) (fun t=>s.size-(intOf t).toNat)
 case atStart=>exact⟨n,hn,rfl,rfl⟩
 case round=>
  obtain⟨j,hj,rfl,he⟩:=hrel;have HE:Hid (j+((s.data.toList.drop j).takeWhile Pl.aM).length=n+((s.data.toList.drop n).takeWhile Pl.aM).length):=he;clear he;by_cases hlt:j<s.size
  ·by_cases hp:Pl.aM s[j]=true
   ·have HS:Hid (j+1+((s.data.toList.drop (j+1)).takeWhile Pl.aM).length=n+((s.data.toList.drop n).takeWhile Pl.aM).length):=by
     have h1:=CC Pl.aM s.data.toList j (by simpa using hlt) hp
     have h2:=HE.out;show _=_;omega
    clear HE
    go_wp2_with (go_at_call 92;refine(ui _ _).mono ?_;rintro e w' ⟨rfl,rfl⟩)
    go_round
    case rel=>exact⟨j+1,by omega,by go_num,HS.out⟩
    case measure=>simp[intOf];omega
   ·have hp':Pl.aM s[j]=false:=by simpa using hp
    have HS:Hid (j=n+((s.data.toList.drop n).takeWhile Pl.aM).length):=by
     have h1:=CD Pl.aM s.data.toList j (by simpa using hlt) hp'
     have h2:=HE.out;show _=_;omega
    clear HE hp
    go_wp2_with (go_at_call 92;refine(ui _ _).mono ?_;rintro e w' ⟨rfl,rfl⟩)
    go_ret
    exact⟨rP (by have:=HS.out;omega),rfl⟩
  ·have HS:Hid (j=n+((s.data.toList.drop n).takeWhile Pl.aM).length):=by
    have h2:=HE.out;rw[zh (by simp;omega:s.data.toList.length<=j)] at h2
    simp at h2;exact h2
   clear HE
   go_wp2_with (go_at_call 92;refine(ui _ _).mono ?_;rintro e w' ⟨rfl,rfl⟩)
   go_ret
   exact⟨rP (by have:=HS.out;omega),rfl⟩
theorem Su(s:ByteArray)(i j:Nat)(w:World)(h1:i<=s.size)(hs:s.size<=400)(hj:j=i+((s.data.toList.drop i).takeWhile Pl.aM).length):
  Calls Tryz.prog 89 #[.string s,.int .i64 i,.func (.func 92) #[] #[]] w fun e w'=>e=.returned (.int .i64 j)/\w'=w:=by
 refine(adl s i w (by omega) (by omega) hs).mono ?_
 rintro e w' ⟨rfl,rfl⟩;exact⟨rP (by rw[hj];simp),rfl⟩
end Go.Proofs.YtkjhhooecopolaaGreatDoor
