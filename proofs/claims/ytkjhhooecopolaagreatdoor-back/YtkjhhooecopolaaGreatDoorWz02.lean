import Derived.Test.YtkjhhooecopolaaGreatDoorWz01
set_option maxRecDepth 100000
set_option maxHeartbeats 4000000
namespace Go.Proofs.YtkjhhooecopolaaGreatDoor.Gb
open Ge Ga
def Path:Pt->List Sg->Pt->Prop
 |a,[],b=>a=b
 |a,s::T,b=>s.1=a/\Path s.2 T b
theorem Path.append:∀{L:List Sg}{a b c:Pt}{M:List Sg},Path a L c->Path c M b->Path a (L++M) b
 |[],_,_,_,_,h,k=>by
  have:_=_:=h;subst this;exact k
 |s::T,_,_,_,_,h,k=>⟨h.1,Path.append h.2 k⟩
theorem Path.split:∀{L:List Sg}{a b:Pt}{M:List Sg},Path a (L++M) b->∃c,Path a L c/\Path c M b
 |[],a,_,_,h=>⟨a,rfl,h⟩
 |s::T,_,_,_,h=>by
  obtain⟨c,h1,h2⟩:=Path.split h.2;exact⟨c,⟨h.1,h1⟩,h2⟩
theorem Path.one{s:Sg}:Path s.1 [s] s.2:=⟨rfl,rfl⟩
theorem Path.rev:∀{L:List Sg}{a b:Pt},Path a L b->Path b (L.reverse.map rv) a
 |[],_,_,h=>by
  have:_=_:=h;exact this.symm
 |s::T,a,b,h=>by
  have ih:=Path.rev h.2;rw[List.reverse_cons,ja];refine ih.append ?_;exact⟨rfl,h.1⟩
theorem Path.zip:∀(T:List Sg)(s:Sg){b:Pt},Path s.2 T b->(s.1::T.map Prod.fst).zip (T.map Prod.fst++[b])=s::T
 |[],s,b,h=>by
  have e:s.2=b:=h;subst e;rfl
 |u::T,s,b,h=>by
  have ih:=Path.zip T u h.2;have e:s=(s.1,u.1):=bX rfl h.1.symm;rw[eI,kZ,Km,ih,<-e]
theorem Cl.path{p:Pt}{L:List Sg}(h:Path p L p)(hn:∀s∈L,s.1≠s.2):Cl L:=by
 refine⟨[L.map Prod.fst],?_⟩;unfold ae;rw[po,aaM,q9];unfold dY;have e:closing (L.map Prod.fst)=L:=by
  cases L with
  |nil=>rfl
  |cons s T=>
   have:=Path.zip T s h.2;rw[<-h.1] at this;exact this
 rw[e,Kn];intro s hs;simpa using hn s hs
theorem Path.Q0:∀{L:List Sg}{a b:Pt},Path a L b->∀s∈L,s.2=b\/∃u∈L,u.1=s.2
 |[],_,_,_,s,hs=>by simp at hs
 |[t],_,_,h,s,hs=>by
  rw[bY.1 hs];exact ag h.2
 |t::u::T,_,_,h,s,hs=>by
  rcases aP.1 hs with rfl|hs
  ·exact ah ⟨u,by simp,h.2.1⟩
  ·rcases Path.Q0 h.2 s hs with k|⟨v,hv,k⟩
   ·exact ag k
   ·exact ah ⟨v,aT _ hv,k⟩
theorem Path.Cf:∀{M:List Sg}{z:Sg}{a b n:Pt},Path a (M++[z]) b->(∀s∈M++[z],s.1≠n)->∀s∈M,s.2≠n
 |[],_,_,_,_,_,_,s,hs=>by simp at hs
 |[t],z,_,_,n,h,hn,s,hs=>by
  rw[bY.1 hs];have:z.1=t.2:=h.2.1;rw[<-this];exact hn z (by simp)
 |t::u::M,z,_,_,n,h,hn,s,hs=>by
  rcases aP.1 hs with rfl|hs
  ·have:u.1=s.2:=h.2.1;rw[<-this];exact hn u (by simp)
  ·exact Path.Cf (M:=u::M) h.2 (fun v hv=>hn v (aT _ hv)) s hs
theorem zm{F:Pt->Pt->Int}{a b:List Sg}(h:a.Perm b):total F a=total F b:=by
 induction h with
 |nil=>rfl
 |cons x _ ih=>rw[dZ,dZ,ih]
 |swap x y l=>simp only[dZ];omega
 |trans _ _ h1 h2=>exact h1.trans h2
theorem abY(a b:List Sg)(n:N3):PP (a++b) n=PP a n+PP b n:=FY _ a b
theorem tV(a b:List Sg)(n:N3)(Q:Pt->Bool):AS (a++b) n Q=AS a n Q+AS b n Q:=FY _ a b
theorem abZ{a b:List Sg}(h:a.Perm b)(s:Sg):Lf a s=Lf b s:=by
 unfold Lf bH bg PP AS;rw[zm h,zm h,zm h]
def ge(n z:Pt):Prop:=0<(dr (n,z)).1\/((dr (n,z)).1=0/\0<=(dr (n,z)).2)
theorem K5(a b:Pt):ge a b\/ge b a:=by unfold ge dr;simp only;omega
theorem Gk{a b:Pt}(h:ge a b)(k:ge b a):a=b:=by
 unfold ge dr at h k;simp only at h k;exact bX (by omega) (by omega)
theorem K6{a b c:Pt}(h:ge a b)(k:ge b c):ge a c:=by
 unfold ge dr at*;simp only at*;omega
theorem Gm(a:Pt):ge a a:=by unfold ge dr;simp
theorem K7{a b:Pt}(h:ge a b)(hne:a≠b):aJ (dr (a,b)):=by
 unfold ge at h;unfold aJ;have:¬((dr (a,b)).1=0/\(dr (a,b)).2=0):=fun k=>hne (gS.1 (bX k.1 k.2))
 omega
theorem Q3{es:List Sg}{n:Pt}(h:∀e∈es,ge n e.1/\ge n e.2):PP es (n1 n)=0:=by
 refine vd fun e he=>?_
 obtain⟨h1,h2⟩:=h e he;rw[cd,cd];unfold ge at h1 h2;generalize dr (n,e.1)=u at*;generalize dr (n,e.2)=v at*;unfold right;have a1:u.1=0->cr u v= -(u.2*v.1):=fun k=>by unfold cr;rw[k];simp
 have a2:v.1=0->cr u v=u.1*v.2:=fun k=>by unfold cr;rw[k];simp
 rw[af,af]
 ·rintro⟨k1,k2,k3⟩;rcases h2 with h2|⟨h2,h2'⟩
  ·omega
  ·have:=iN (dS k1) h2';rw[a2 h2] at k3;omega
 ·rintro⟨k1,k2,k3⟩;rcases h1 with h1|⟨h1,h1'⟩
  ·omega
  ·have:=iN h1' (dS k2);rw[a1 h1] at k3;omega
theorem Cg{es:List Sg}{n:Pt}{Q:Pt->Bool}(h:∀e∈es,on (dr (n,e.1)) (dr (n,e.2))=false):AS es (n1 n) Q=0:=
 vd fun e he=>by
  unfold Ga.arm;rw[cd,cd,h e he];rfl
theorem Gn{Q:Pt->Bool}{n:Pt}{s:Sg}(h:s.2=n):Ga.arm Q (n1 n) s.1 s.2=bb (Q (0,0))-bb (Q (neg (dr s))):=by
 subst h;unfold Ga.arm;rw[cd,cd,(gS (s:=(s.2,s.2))).2 rfl,lj _ _ (ah rfl)];have e:dr (s.2,s.1)=neg (dr s):=jT s;rw[e];rfl
theorem Gp{Q:Pt->Bool}{n:Pt}{s:Sg}(h:s.1=n):Ga.arm Q (n1 n) s.1 s.2=bb (Q (dr s))-bb (Q (0,0)):=by
 subst h;unfold Ga.arm;rw[cd,cd,(gS (s:=(s.1,s.1))).2 rfl,lj _ _ (ag rfl)];rfl
section
variable{S:List Sg}{nx:Sg->Sg}
theorem Wd.ab0(h:Wd S nx){p q:Pt}{A C:List Sg}{a c:Sg}(hA:Path p (A++[a]) q)(hC:Path p (C++[c]) q)(mA:∀s∈A++[a],s∈S)(mC:∀s∈C++[c],s∈S)
  (nA:∀s∈A++[a],s.1≠q)(nC:∀s∈C++[c],s.1≠q)(hw:Ce nx a c\/Ce nx c a):a=c:=by
 have ha:a∈S:=mA a (by simp)
 have hc:c∈S:=mC c (by simp)
 have aq:a.2=q:=by obtain⟨_,_,k⟩:=hA.split;exact k.2
 have cq:c.2=q:=by obtain⟨_,_,k⟩:=hC.split;exact k.2
 have vv:=hA.Cf nA;have Gq:=hC.Cf nC;have hne:∀s∈(A++[a])++((C++[c]).reverse.map rv),s.1≠s.2:=fun s hs=>by
  rcases bQ.1 hs with hs|hs
  ·exact h.ne s (mA s hs)
  ·obtain⟨u,hu,rfl⟩:=aN.1 hs;exact(h.ne u (mC u (aaN.1 hu))).symm
 have hcl:Cl ((A++[a])++((C++[c]).reverse.map rv)):=Cl.path (hA.append hC.rev) hne;have hin:In S ((A++[a])++((C++[c]).reverse.map rv)):=fun e he=>by
  rcases bQ.1 he with he|he
  ·exact ag (mA e he)
  ·obtain⟨u,hu,rfl⟩:=aN.1 he;exact ah (mC u (aaN.1 hu))
 have hL:Lf ((A++[a])++((C++[c]).reverse.map rv)) c=Lf ((A++[a])++((C++[c]).reverse.map rv)) a:=by
  rcases hw with k|k
  ·exact h.along hcl hin ha k
  ·exact(h.along hcl hin hc k).symm
 rw[(h.at_end hcl hin ha).1,(h.at_end hcl hin hc).1,aq,cq] at hL;have tW:∀Q,AS ((A++[a])++((C++[c]).reverse.map rv)) (n1 q) Q=bb (Q (neg (dr c)))-bb (Q (neg (dr a))):=fun Q=>by
  have e1:(C++[c]).reverse.map rv=[rv c]++C.reverse.map rv:=by simp
  have z1:AS A (n1 q) Q=0:=Cg fun e he=>by
   cases ho:on (dr (q,e.1)) (dr (q,e.2))
   ·rfl
   ·rw[<-aq] at ho;rcases h.Gj a ha e (mA e (by simp[he])) ho with k|k
    ·exact absurd (k.symm.trans aq) (nA e (by simp[he]))
    ·exact absurd (k.symm.trans aq) (vv e he)
  have z2:AS (C.reverse.map rv) (n1 q) Q=0:=Cg fun e he=>by
   obtain⟨u,hu,rfl⟩:=aN.1 he;have hu:=aaN.1 hu;cases ho:on (dr (q,(rv u).1)) (dr (q,(rv u).2))
   ·rfl
   ·rw[vk,<-aq] at ho;rcases h.Gj a ha u (mC u (by simp[hu])) ho with k|k
    ·exact absurd (k.symm.trans aq) (nC u (by simp[hu]))
    ·exact absurd (k.symm.trans aq) (Gq u hu)
  rw[e1,tV,tV,tV,z1,z2];have s1:AS [a] (n1 q) Q=bb (Q (0,0))-bb (Q (neg (dr a))):=by
   unfold AS;rw[dZ,tR,Gn aq];omega
  have s2:AS [rv c] (n1 q) Q=bb (Q (neg (dr c)))-bb (Q (0,0)):=by
   unfold AS;rw[dZ,tR,Gp (s:=rv c) cq,jT];omega
  rw[s1,s2];omega
 have da:=jc (h.dK ha);have dc:=jc (h.dK hc);have na:nz (neg (dr a))=true:=by unfold nz;simpa using da
 have nc:nz (neg (dr c))=true:=by unfold nz;simpa using dc
 unfold bg at hL;rw[tW,tW] at hL;simp only[na,nc,Bv,qq] at hL;generalize PP ((A++[a])++((C++[c]).reverse.map rv)) (n1 q)=P0 at hL;have t:=gG da dc;have hs:ai (neg (dr a)) (neg (dr c))=true:=by
  cases h1:ak (neg (dr a)) (neg (dr c))<;>cases h2:ak (neg (dr c)) (neg (dr a))<;>cases h3:ai (neg (dr a)) (neg (dr c))<;>rw[h1,h2] at hL<;>rw[h1,h2,h3] at t<;>simp[bb] at hL t⊢ <;>omega
 refine h.one' a ha c hc (aq.trans cq.symm) ?_;rw[bA] at hs⊢;rw[dI,dP,lh,ju] at hs;omega
structure Rg(S:List Sg)(R:List Sg)(a:Sg)(M:List Sg)(z:Sg):Prop where
 eq:R=a::(M++[z])
 path:Path a.1 R a.1
 mem:∀s∈R,s∈S
 once:∀s∈M++[z],s.1≠a.1
 least:∀s∈R,ge a.1 s.1
variable{R M:List Sg}{a z:Sg}
theorem Rg.cl(h:Wd S nx)(k:Rg S R a M z):Cl R:=Cl.path k.path fun s hs=>h.ne s (k.mem s hs)
theorem Rg.inn(k:Rg S R a M z):In S R:=fun e he=>ag (k.mem e he)
theorem Rg.ma(k:Rg S R a M z):a∈S:=k.mem a (by rw[k.eq];simp)
theorem Rg.mz(k:Rg S R a M z):z∈S:=k.mem z (by rw[k.eq];simp)
theorem Rg.z2(k:Rg S R a M z):z.2=a.1:=by
 have h:=k.path;rw[k.eq,<-kZ] at h;obtain⟨_,_,q⟩:=h.split;exact q.2
theorem Rg.ends(k:Rg S R a M z):∀s∈R,ge a.1 s.2:=fun s hs=>by
 rcases k.path.Q0 s hs with q|⟨u,hu,q⟩
 ·rw[q];exact Gm _
 ·rw[<-q];exact k.least u hu
theorem Rg.PP(k:Rg S R a M z):Ga.PP R (n1 a.1)=0:=Q3 fun e he=>⟨k.least e he,k.ends e he⟩
theorem Rg.AS(h:Wd S nx)(k:Rg S R a M z)(Q:Pt->Bool):Ga.AS R (n1 a.1) Q=bb (Q (dr a))-bb (Q (neg (dr z))):=by
 have hp:=k.path;rw[k.eq] at hp;have hM:=Path.Cf hp.2 k.once;have z1:Ga.AS M (n1 a.1) Q=0:=Cg fun e he=>by
  cases ho:on (dr (a.1,e.1)) (dr (a.1,e.2))
  ·rfl
  ·rcases h.zk a k.ma e (k.mem e (by rw[k.eq];simp[he])) ho with q|q
   ·exact absurd q.symm (k.once e (by simp[he]))
   ·exact absurd q.symm (hM e he)
 have e:R=[a]++(M++[z]):=k.eq;have s1:Ga.AS [a] (n1 a.1) Q=bb (Q (dr a))-bb (Q (0,0)):=by
  unfold Ga.AS;rw[dZ,tR,Gp rfl];omega
 have s2:Ga.AS [z] (n1 a.1) Q=bb (Q (0,0))-bb (Q (neg (dr z))):=by
  unfold Ga.AS;rw[dZ,tR,Gn k.z2];omega
 rw[e,tV,tV,z1,s1,s2];omega
theorem Rg.Gs(h:Wd S nx)(k:Rg S R a M z):aJ (dr a):=K7 (k.ends a (by rw[k.eq];simp)) (h.ne a k.ma)
theorem Rg.Gt(h:Wd S nx)(k:Rg S R a M z):aJ (neg (dr z)):=by
 have:=K7 (k.least z (by rw[k.eq];simp)) (fun e=>h.ne z k.mz (e.symm.trans k.z2.symm))
 rw[<-k.z2] at this;rw[<-jT];exact this
theorem rH{d:Pt}(h:d≠(0,0)):nz d=true:=by unfold nz;simpa using h
theorem Rg.val(h:Wd S nx)(k:Rg S R a M z):Lf R a=if 0<cr (dr z) (dr a) then 1 else 0:=by
 have da:=h.dK k.ma;have dz:=jc (h.dK k.mz);have hs:ai (neg (dr z)) (dr a)=false:=by
  cases q:ai (neg (dr z)) (dr a)
  ·rfl
  ·have:=h.two a k.ma z k.mz k.z2.symm;rw[bA] at q;cases q2:ai (dr a) (neg (dr z))
   ·have:ai (dr a) (neg (dr z))=true:=(bA _ _).2 ⟨by rw[bT];omega,by rw[iR];omega⟩
    rw[q2] at this;cases this
   ·rw[q2] at this;cases this
 have hsa:ai (dr a) (dr a)=true:=(bA _ _).2 ⟨by unfold cr;grind,cP da⟩
 unfold Lf bH bg;rw[k.PP,k.AS h,k.AS h];simp only[rH da,rH dz,qq,hs,hsa,Bv];have Gu:=k.Gs h;have xn:=k.Gt h;have hang:ak (neg (dr z)) (dr a)=true↔0<cr (neg (dr z)) (dr a):=by
  rw[kI];constructor
  ·rintro(⟨_,q⟩|⟨_,q⟩)
   ·exact absurd Gu q
   ·exact q
  ·intro q;exact ah ⟨⟨fun _=>Gu,fun _=>xn⟩,q⟩
 rw[dI] at hang;have hcr:cr (dr z) (dr a)≠0:=fun q=>by
  have:=ko xn Gu (by rw[dI];omega)
  have:ai (neg (dr z)) (dr a)=true:=(bA _ _).2 ⟨by rw[dI];omega,this⟩
  rw[hs] at this;cases this
 cases q:ak (neg (dr z)) (dr a)
 ·have:¬0< -cr (dr z) (dr a):=fun w=>by rw[hang.2 w] at q;cases q
  rw[aj (by omega)]
  simp[bb]
 ·have:=hang.1 q;rw[af (by omega)]
  simp[bb]
theorem Rg.asym(h:Wd S nx){R' M':List Sg}{a' z':Sg}(k:Rg S R a M z)(k':Rg S R' a' M' z')(hne:a≠a')(h1:Lf R' a=1)(h2:Lf R a'=1):False:=by
 have far:∀{R R' M M':List Sg}{a z a' z':Sg},Rg S R a M z->Rg S R' a' M' z'->ge a.1 a'.1->a.1≠a'.1->Lf R' a=0:=by
  intro R R' M M' a z a' z' k k' hg hn;have hP:Ga.PP R' (n1 a.1)=0:=Q3 fun e he=>⟨K6 hg (k'.least e he),K6 hg (k'.ends e he)⟩
  have hz:∀Q,Ga.AS R' (n1 a.1) Q=0:=fun Q=>Cg fun e he=>by
   cases ho:on (dr (a.1,e.1)) (dr (a.1,e.2))
   ·rfl
   ·rcases h.zk a k.ma e (k'.mem e he) ho with q|q
    ·exact absurd (Gk hg (by rw[q];exact k'.least e he)) hn
    ·exact absurd (Gk hg (by rw[q];exact k'.ends e he)) hn
  unfold Lf bH bg;rw[hP,hz,hz];rfl
 by_cases hn:a.1=a'.1
 ·have near:∀{R R' M M':List Sg}{a z a' z':Sg},Rg S R a M z->Rg S R' a' M' z'->a.1=a'.1->a≠a'->Lf R' a=1->ak (dr a') (dr a)=true:=by
   intro R R' M M' a z a' z' k k' hn hne hL;unfold Lf bH bg at hL;rw[hn,k'.PP,k'.AS h,k'.AS h] at hL;have q1:ai (dr a') (dr a)=false:=by
    cases q:ai (dr a') (dr a)
    ·rfl
    ·exact absurd (h.one a' k'.ma a k.ma hn.symm q).symm hne
   have hc:=h.two a k.ma z' k'.mz (hn.trans k'.z2.symm);have q2:ai (neg (dr z')) (dr a)=false:=by
    cases q:ai (neg (dr z')) (dr a)
    ·rfl
    ·rw[bA] at q;have:ai (dr a) (neg (dr z'))=true:=(bA _ _).2 ⟨by rw[bT];omega,by rw[iR];omega⟩
     rw[hc] at this;cases this
   simp only[q1,q2,rH (h.dK k'.ma),rH (jc (h.dK k'.mz)),Bv] at hL;cases w:ak (dr a') (dr a)
   ·rw[w] at hL;cases w2:ak (neg (dr z')) (dr a)<;>rw[w2] at hL<;>simp[bb] at hL
   ·rfl
  have x1:=near k k' hn hne h1;have x2:=near k' k hn.symm hne.symm h2;have:=Gg (h.dK k'.ma) (h.dK k.ma) x1;rw[x2] at this;cases this
 ·rcases K5 a.1 a'.1 with g|g
  ·rw[far k k' g hn] at h1;omega
  ·rw[far k' k g (fun e=>hn e.symm)] at h2;omega
end
end Go.Proofs.YtkjhhooecopolaaGreatDoor.Gb
namespace Go.Proofs.YtkjhhooecopolaaGreatDoor.Gb
section
variable{ν:Type}{f:Nat->ν}{m:Nat}
theorem Gv{P:Nat->Prop}:∀{n:Nat},P n->∃k,k<=n/\P k/\∀j,j<k->¬P j:=by
 intro n;induction n using Nat.strongRecOn with
 |_ n ih=>
  intro h;by_cases hk:∃j,j<n/\P j
  ·obtain⟨j,hj,hp⟩:=hk;obtain⟨k,h1,h2,h3⟩:=ih j hj hp;exact⟨k,by omega,h2,h3⟩
  ·exact⟨n,ay _,h,fun j hj hp=>hk ⟨j,hj,hp⟩⟩
def NC(f:Nat->ν)(m:Nat):Prop:=∀i j k l:Nat,i<=j->j<m->k<=l->l<m->f i=f k->f (j+1)=f (l+1)->(∀t,i<=t->t<=j->f t≠f (l+1))->(∀t,k<=t->t<=l->f t≠f (l+1))->j=l
theorem inter(hN:NC f m){x t y u:Nat}(h1:x<t)(h2:t<=y)(h3:y<u)(h4:u<m)(hp:f x=f (y+1))(hq:f t=f (u+1))(hne:f x≠f t):False:=by
 obtain⟨a,ha,⟨ha1,ha2⟩,ha3⟩:=Gv (P:=fun a=>x<a/\f a=f t) (n:=t) ⟨h1,rfl⟩
 obtain⟨c,hc,⟨hc1,hc2⟩,hc3⟩:=Gv (P:=fun c=>y+1<=c/\f (c+1)=f t) (n:=u) ⟨h3,hq.symm⟩
 have:=hN x (a-1) (y+1) c (by omega) (by omega) hc1 (by omega) hp (by rw[show a-1+1=a by omega,ha2,hc2]) (fun s k1 k2=>?_) (fun s k1 k2=>?_)
 ·omega
 ·rw[hc2];by_cases e:s=x
  ·rw[e];exact hne
  ·exact fun k=>ha3 s (by omega) ⟨by omega,k⟩
 ·rw[hc2];by_cases e:s=y+1
  ·rw[e,<-hp];exact hne
  ·exact fun k=>hc3 (s-1) (by omega) ⟨by omega,by rw[show s-1+1=s by omega];exact k⟩
def ll(f:Nat->ν):ν->List Nat->ν->Prop
 |p,[],q=>p=q
 |p,x::O,q=>f x=p/\ll f (f (x+1)) O q
theorem ll.split:∀{A B:List Nat}{p q:ν},ll f p (A++B) q->∃c,ll f p A c/\ll f c B q
 |[],_,p,_,h=>⟨p,rfl,h⟩
 |x::A,_,_,_,h=>by
  obtain⟨c,h1,h2⟩:=ll.split h.2;exact⟨c,⟨h.1,h1⟩,h2⟩
theorem ll.snoc:∀{A:List Nat}{p:ν}{i:Nat},ll f p A (f i)->ll f p (A++[i]) (f (i+1))
 |[],_,_,h=>⟨Eq.symm h,rfl⟩
 |_::_,_,_,h=>⟨h.1,ll.snoc h.2⟩
theorem ll.get:∀{A:List Nat}{p q:ν},ll f p A q->∀(k x x':Nat),A[k]?=some x->A[k+1]?=some x'->f x'=f (x+1)
 |[],_,_,_,_,_,_,h,_=>by simp at h
 |[_],_,_,_,_,_,_,_,h=>by simp at h
 |a::b::A,_,_,h,0,x,x',h1,h2=>by
  simp at h1 h2;subst h1 h2;exact h.2.1
 |a::b::A,_,_,h,k+1,x,x',h1,h2=>ll.get h.2 k x x' (by simpa using h1) (by simpa using h2)
structure GD(f:Nat->ν)(m:Nat)(D:List Nat)(d:Nat):Prop where
 head:D.head?=some d
 inc:D.Pairwise (· < ·)
 lt:∀x∈D,x<m
 Ci:ll f (f d) D (f d)
 mK:D.Pairwise (fun x y=>f x≠f y)
 cls:∀z,D.getLast?=some z->∀t,d<t->t<=z->f t≠f d
 K8:∀k x x':Nat,D[k]?=some x->D[k+1]?=some x'->(∀t,t<=x->f t≠f (x+1))/\(∀t,x'<t->t<m->f t≠f (x+1))
def xp(f:Nat->ν)(i:Nat)(a b:List Nat×List (List Nat)):Prop:=
 ((∀o∈a.1++[i],f o≠f (i+1))/\b=(a.1++[i],a.2))\/
 ∃O1 d D,a.1++[i]=O1++d::D/\f d=f (i+1)/\(∀o∈O1,f o≠f (i+1))/\b=(O1,a.2++[d::D])
structure IV(f:Nat->ν)(m i:Nat)(s:List Nat×List (List Nat)):Prop where
 inc:s.1.Pairwise (· < ·)
 lt:∀o∈s.1,o<i
 Ci:ll f (f 0) s.1 (f i)
 mK:s.1.Pairwise (fun x y=>f x≠f y)
 old:∀t,t<i->t∉s.1->∃x y,x<=t/\t<=y/\y<i/\f x=f (y+1)/\∀o∈s.1,o<x\/y<o
 arr:∀o∈s.1,∀u,o<=u->u<i->f (u+1)≠f o
 per:(s.1++s.2.flatten).Perm (List.range i)
 good:∀D∈s.2,∃d,GD f m D d
theorem IV.start:IV f m 0 ([],[]):=⟨List.Pairwise.nil,by simp,rfl,List.Pairwise.nil,fun t ht=>by omega,by simp,by simp,by simp⟩
theorem IV.push{i:Nat}{s:List Nat×List (List Nat)}(h:IV f m i s):(s.1++[i]).Pairwise (· < ·)/\(s.1++[i]).Pairwise (fun x y=>f x≠f y)/\ll f (f 0) (s.1++[i]) (f (i+1)):=by
 refine⟨?_,?_,h.Ci.snoc⟩
 ·rw[FC];exact⟨h.inc,by simp,fun a ha b hb=>by rw[bY.1 hb];exact h.lt a ha⟩
 ·rw[FC];refine⟨h.mK,by simp,fun a ha b hb=>?_⟩
  rw[bY.1 hb];have hlt:=h.lt a ha;have:=h.arr a ha (i-1) (by omega) (by omega)
  rw[show i-1+1=i by omega] at this
  exact fun e=>this e.symm
theorem IV.step{i:Nat}(hN:NC f m)(hne:∀j,j<m->f j≠f (j+1))(hi:i<m){s s':List Nat×List (List Nat)}(h:IV f m i s)(hs:xp f i s s'):IV f m (i+1) s':=by
 obtain⟨K9,zn,La⟩:=h.push;have hlt:∀o∈s.1++[i],o<i+1:=fun o ho=>by
  rcases bQ.1 ho with ho|ho
  ·have:=h.lt o ho;omega
  ·rw[bY.1 ho];omega
 have hold:∀t,t<i+1->t∉s.1++[i]->∃x y,x<=t/\t<=y/\y<i/\f x=f (y+1)/\∀o∈s.1++[i],o<x\/y<o:=fun t ht hn=>by
  have h1:t∉s.1:=fun k=>hn (nr _ k)
  have h2:t≠i:=fun k=>hn (by rw[k];simp)
  obtain⟨x,y,k1,k2,k3,k4,k5⟩:=h.old t (by omega) h1
  refine⟨x,y,k1,k2,k3,k4,fun o ho=>?_⟩
  rcases bQ.1 ho with ho|ho
  ·exact k5 o ho
  ·rw[bY.1 ho];exact ah k3
 rcases hs with⟨hno,rfl⟩|⟨O1,d,D,hsp,hd,hno,rfl⟩
 ·refine⟨K9,hlt,La,zn,fun t ht hn=>?_,fun o ho u h1 h2=>?_,?_,h.good⟩
  ·obtain⟨x,y,k1,k2,k3,k4,k5⟩:=hold t ht hn;exact⟨x,y,k1,k2,by omega,k4,k5⟩
  ·by_cases e:u=i
   ·rw[e];exact fun k=>hno o ho k.symm
   ·rcases bQ.1 ho with ho|ho
    ·exact h.arr o ho u h1 (by omega)
    ·have:=bY.1 ho;omega
  ·show((s.1++[i])++s.2.flatten).Perm _;rw[FD];refine List.Perm.trans ?_ (h.per.append_right [i]);rw[fB,fB];exact FE _ FH
 ·rw[hsp] at K9 zn La hlt hold;obtain⟨ab2,Gw,ab3⟩:=FC.1 K9;obtain⟨ab4,Lb,ab5⟩:=FC.1 zn;obtain⟨c,hc1,hc2⟩:=La.split;have Gx:c=f d:=hc2.1.symm;have hlast:∀z,(d::D).getLast?=some z->z=i:=fun z hz=>by
   have:(s.1++[i]).getLast?=some z:=by rw[hsp,Qh,hz];rfl
   simpa using this.symm
  have zo:∀o∈O1,o∈s.1/\o<d:=fun o ho=>by
   have hod:o<d:=ab3 o ho d (by simp)
   have hom:o∈s.1++[i]:=by rw[hsp];exact nr _ ho
   rcases bQ.1 hom with k|k
   ·exact⟨k,hod⟩
   ·have:=bY.1 k;have:=hlt d (by simp)
    omega
  have zq:∀x∈d::D,d<=x/\x<=i:=fun x hx=>by
   have:=hlt x (q8 _ hx);rcases aP.1 hx with k|k
   ·omega
   ·have:=(fK.1 Gw).1 x k;omega
  have hdi:d<i:=by
   have:=zq d (by simp)
   by_cases e:d=i
   ·rw[e] at hd;exact absurd hd (hne i hi)
   ·omega
  have hds:d∈s.1:=by
   have:d∈s.1++[i]:=by rw[hsp];simp
   rcases bQ.1 this with k|k
   ·exact k
   ·have:=bY.1 k;omega
  refine⟨ab2,fun o ho=>?_,?_,ab4,fun t ht hn=>?_,fun o ho u h1 h2=>?_,?_,fun D' hD'=>?_⟩
  ·have:=(zo o ho).2;show o<i+1;omega
  ·show ll f (f 0) O1 (f (i+1));rw[<-hd,<-Gx];exact hc1
  ·by_cases hm:t∈d::D
   ·refine⟨d,i,(zq t hm).1,(zq t hm).2,by omega,hd,fun o ho=>ag (zo o ho).2⟩
   ·have hn':t∉O1++d::D:=fun k=>by
     rcases bQ.1 k with k|k
     ·exact hn k
     ·exact hm k
    obtain⟨x,y,k1,k2,k3,k4,k5⟩:=hold t ht hn';exact⟨x,y,k1,k2,by omega,k4,fun o ho=>k5 o (nr _ ho)⟩
  ·by_cases e:u=i
   ·rw[e];exact fun k=>hno o ho k.symm
   ·exact h.arr o (zo o ho).1 u h1 (by omega)
  ·show(O1++(s.2++[d::D]).flatten).Perm _;have e1:(s.2++[d::D]).flatten=s.2.flatten++(d::D):=by simp
   rw[e1,FD];refine List.Perm.trans ?_ (h.per.append_right [i]);have e2:(O1++(s.2.flatten++(d::D))).Perm ((O1++d::D)++s.2.flatten):=by
    rw[fB];exact FE _ FH
   refine e2.trans ?_;rw[<-hsp,fB,fB];exact FE _ FH
  ·rcases bQ.1 hD' with hD'|hD'
   ·exact h.good D' hD'
   ·rw[bY.1 hD'];refine⟨d,rfl,Gw,fun x hx=>?_,?_,Lb,fun z hz t h1 h2=>?_,fun k x x' hx hx'=>?_⟩
    ·have:=(zq x hx).2;omega
    ·rw[Gx,<-hd] at hc2;exact hc2
    ·have:=hlast z hz;have a:=h.arr d hds (t-1) (by omega) (by omega)
     rw[show t-1+1=t by omega] at a
     exact a
    ·
     have tX:x∈d::D:=aZ hx;have Gy:x'∈d::D:=aZ hx';have hq:f x'=f (x+1):=hc2.get k x x' hx hx';have hxx:x<x':=by
      have hk1:=(bZ.1 hx);have hk2:=(bZ.1 hx');have:=(kE.1 Gw) k (k+1) hk1.1 hk2.1 (by omega)
      rw[hk1.2,hk2.2] at this;exact this
     have ab8:d<x':=by have:=(zq x tX).1;omega
     have kL:f d≠f x':=by
      rcases aP.1 Gy with e|e
      ·omega
      ·exact(fK.1 Lb).1 x' e
     have ab9:=(zq x' Gy).2;have hxs:x∈s.1:=by
      have:x∈s.1++[i]:=by rw[hsp];exact q8 _ tX
      rcases bQ.1 this with q|q
      ·exact q
      ·have:=bY.1 q;omega
     constructor
     ·intro t0 ht0 hf0;obtain⟨k0,Gz,⟨hk1,hk2⟩,hk3⟩:=Gv (P:=fun j=>j<=x/\f (x-j)=f (x+1)) (n:=x-t0) ⟨by omega,by rw[show x-(x-t0)=t0 by omega];exact hf0⟩
      have htx:x-k0≠x:=fun e=>by
       rw[e] at hk2;exact hne x (by omega) hk2
      have hts:x-k0∉O1++d::D:=fun q=>by
       have hd2:∀o∈O1++d::D,o<x'->f o≠f x':=fun o ho hox=>by
        rcases bQ.1 ho with q|q
        ·exact ab5 o q x' Gy
        ·obtain⟨i1,hi1,e1⟩:=iO.1 q;have Cj:=(bZ.1 hx');have vz:i1<k+1:=by
          rcases rf i1 (k+1) with w|w|w
          ·exact w
          ·subst w;rw[Cj.2] at e1;omega
          ·have:=(kE.1 Gw) (k+1) i1 Cj.1 hi1 w;rw[Cj.2,e1] at this;omega
         have:=(kE.1 Lb) i1 (k+1) hi1 Cj.1 vz;rw[Cj.2,e1] at this;exact this
       exact hd2 _ q (by omega) (hk2.trans hq.symm)
      obtain⟨a,y,y1,y2,y3,y4,y5⟩:=hold (x-k0) (by omega) hts
      have hyx:y<x:=by
       rcases y5 x (q8 _ tX) with q|q
       ·omega
       ·exact q
      by_cases e:f a=f (x+1)
      ·refine hk3 (x-(y+1)) (by omega) ⟨by omega,?_⟩
       rw[show x-(x-(y+1))=y+1 by omega,<-y4,e]
      ·refine inter hN (x:=a) (t:=x-k0) (y:=y) (u:=x) ?_ y2 hyx (by omega) y4 hk2 (by rw[hk2];exact e)
       rcases Ko a (x-k0) with w|w
       ·exact w
       ·have:a=x-k0:=by omega
        rw[this] at e;exact absurd hk2 e
     ·intro t ht htm hft;have hu:f (t-1+1)=f x':=by rw[show t-1+1=t by omega,hft,hq]
      rcases rf (t-1) i with w|w|w
      ·have acb:x'∈s.1:=by
        have:x'∈s.1++[i]:=by rw[hsp];exact q8 _ Gy
        rcases bQ.1 this with q|q
        ·exact q
        ·have:=bY.1 q;omega
       exact h.arr x' acb (t-1) (by omega) w hu
      ·rw[w] at hu;rw[<-hd] at hu;exact kL hu
      ·exact inter hN (x:=d) (t:=x') (y:=i) (u:=t-1) ab8 ab9 w (by omega) hd hu.symm kL
theorem parted(hN:NC f m)(hne:∀j,j<m->f j≠f (j+1))(h0:f m=f 0)(st:Nat->List Nat×List (List Nat))(hs0:st 0=([],[]))(hst:∀i,i<m->xp f i (st i) (st (i+1))):
  (st m).1=[]/\(st m).2.flatten.Perm (List.range m)/\∀D∈(st m).2,∃d,GD f m D d:=by
 have key:∀i,i<=m->IV f m i (st i):=fun i=>by
  induction i with
  |zero=>intro _;rw[hs0];exact IV.start
  |succ i ih=>intro hi;exact(ih (by omega)).step hN hne (by omega) (hst i (by omega))
 have h:=key m (ay _);have he:(st m).1=[]:=by
  cases hO:(st m).1 with
  |nil=>rfl
  |cons o O=>
   exfalso;have hc:=h.Ci;rw[hO] at hc;have hlt:=h.lt o (by rw[hO];simp)
   have:=h.arr o (by rw[hO];simp) (m-1) (by omega) (by omega)
   rw[show m-1+1=m by omega,h0,hc.1] at this
   exact this rfl
 refine⟨he,?_,h.good⟩;have:=h.per;rw[he] at this;exact this
end
end Go.Proofs.YtkjhhooecopolaaGreatDoor.Gb
namespace Go.Proofs.YtkjhhooecopolaaGreatDoor.Gb
open Ge Ga
theorem mL(nx:Sg->Sg)(s:Sg):∀a b,it nx (a+b) s=it nx a (it nx b s)
 |0,b=>by rw[ki];rfl
 |a+1,b=>by
  rw[show a+1+b=(a+b)+1 by omega]
  show nx (it nx (a+b) s)=nx (it nx a (it nx b s));rw[mL nx s a b]
theorem Ck(nx:Sg->Sg)(s:Sg)(k:Nat):Ce nx s (it nx k s):=⟨k,rfl⟩
def mM(nx:Sg->Sg)(s t:Sg):Prop:=t.1=s.2/\∃k,it nx k t=s/\∀j,0<j->j<=k->(it nx j t).1≠s.2
structure eo(S:List Sg)(nx:Sg->Sg)(R:List Sg):Prop where
 ne:R≠[]
 mem:∀s∈R,s∈S
 mK:R.Pairwise (fun s t=>s.1≠t.1)
 gU:∀(k:Nat) s t,R[k]?=some s->R[k+1]?=some t->mM nx s t
 cls:∀s t,R.getLast?=some s->R.head?=some t->mM nx s t
section
variable{S:List Sg}{nx:Sg->Sg}
theorem Wd.GA(h:Wd S nx):∀(k:Nat){s t:Sg},s∈S->t∈S->it nx k s=it nx k t->s=t
 |0,_,_,_,_,e=>e
 |k+1,_,_,hs,ht,e=>h.GA k hs ht (h.inj _ (h.iG hs k) _ (h.iG ht k) e)
theorem Wd.ou(h:Wd S nx){s:Sg}(hs:s∈S)(k:Nat):(it nx (k+1) s).1=(it nx k s).2:=(h.qs _ (h.iG hs k)).2
theorem mM.uniq(h:Wd S nx){s t t':Sg}(ht:t∈S)(ht':t'∈S)(h1:mM nx s t)(h2:mM nx s t'):t=t':=by
 have key:∀{t t':Sg}{k k':Nat},t∈S->t'∈S->k<=k'->it nx k t=s->it nx k' t'=s->t.1=s.2->(∀j,0<j->j<=k'->(it nx j t').1≠s.2)->t=t':=by
  intro t t' k k' ht ht' hk e1 e2 hf hno;have e:t=it nx (k'-k) t':=by
   refine h.GA k ht (h.iG ht' _) ?_;rw[<-mL,show k+(k'-k)=k' by omega,e1,e2]
  by_cases hz:k'-k=0
  ·rw[hz] at e;exact e
  ·exact absurd (by rw[<-e];exact hf) (hno (k'-k) (by omega) (by omega))
 obtain⟨f1,k,e1,n1⟩:=h1;obtain⟨f2,k',e2,n2⟩:=h2;rcases Nat.le_total k k' with q|q
 ·exact key ht ht' q e1 e2 f1 n2
 ·exact(key ht' ht q e2 e1 f2 n1).symm
theorem GC{α:Type}(a:List α){b:List α}(h:b≠[]):(a++b).getLast?=b.getLast?:=by
 rw[Qh];cases hb:b.getLast? with
 |none=>exact absurd (yR.1 hb) h
 |some x=>rfl
theorem eo.nd{R:List Sg}(h:eo S nx R):R.Nodup:=h.mK.imp fun k e=>k (by rw[e])
theorem eo.zr{A B:List Sg}(h:eo S nx (A++B)):eo S nx (B++A):=by
 rcases A with _|⟨a,A⟩
 ·simpa using h
 rcases B with _|⟨b,B⟩
 ·simpa using h
 refine⟨by simp,fun s hs=>h.mem s (by simp at hs⊢;rcases hs with k|k|k|k<;>simp[k]),?_,fun k s t hs ht=>?_,fun s t hs ht=>?_⟩
 ·have:=h.mK;rw[FC] at this⊢;exact⟨this.2.1,this.1,fun x hx y hy=>(this.2.2 y hy x hx).symm⟩
 ·rcases rf (k+1) (b::B).length with q|q|q
  ·rw[fC (by omega)] at hs
   rw[fC q] at ht;refine h.gU ((a::A).length+k) s t ?_ ?_
   ·rw[n9 (by omega),show(a::A).length+k-(a::A).length=k by omega];exact hs
   ·rw[n9 (by omega),show(a::A).length+k+1-(a::A).length=k+1 by omega];exact ht
  ·rw[fC (by omega)] at hs
   rw[n9 (by omega),show k+1-(b::B).length=0 by omega] at ht
   refine h.cls s t ?_ ?_
   ·rw[GC _ (by simp),mH,show(b::B).length-1=k by omega];exact hs
   ·simpa using ht
  ·rw[n9 (by omega)] at hs ht
   refine h.gU (k-(b::B).length) s t ?_ ?_
   ·have:=(bZ.1 hs).1;rw[fC this];exact hs
   ·have:=(bZ.1 ht).1;rw[show k-(b::B).length+1=k+1-(b::B).length by omega,fC this];exact ht
 ·rw[GC _ (by simp)] at hs
  have ht':b=t:=by simpa using ht
  refine h.gU ((a::A).length-1) s t ?_ ?_
  ·rw[fC (by simp),<-mH];exact hs
  ·rw[n9 (by simp),show(a::A).length-1+1-(a::A).length=0 by simp];simp[ht']
theorem eo.eq(h:Wd S nx){R R':List Sg}(k:eo S nx R)(k':eo S nx R')(he:R.head?=R'.head?):R=R':=by
 have pre:∀{R R':List Sg},eo S nx R->eo S nx R'->R.head?=R'.head?->∀i,i<R.length->i<R'.length->R[i]?=R'[i]?:=by
  intro R R' k k' he i;induction i with
  |zero=>intro _ _;rw[<-uU,<-uU];exact he
  |succ i ih=>
   intro h1 h2;have e:=ih (by omega) (by omega)
   have a1:R[i]?=some R[i]:=aC (by omega)
   have a2:R[i+1]?=some R[i+1]:=aC h1;have b2:R'[i+1]?=some R'[i+1]:=aC h2;have r1:=k.gU i _ _ a1 a2;have r2:=k'.gU i _ _ (e.symm.trans a1) b2;rw[a2,b2,r1.uniq h (k.mem _ (gw h1)) (k'.mem _ (gw h2)) r2]
 have len:∀{R R':List Sg},eo S nx R->eo S nx R'->R.head?=R'.head?->¬R.length<R'.length:=by
  intro R R' k k' he hl;have hp:0<R.length:=iP.2 k.ne;have e:=pre k k' he (R.length-1) (by omega) (by omega)
  have a1:R[R.length-1]?=some R[R.length-1]:=aC (by omega)
  have hh:R.head?=some R[0]:=by rw[uU];exact aC hp
  have r1:=k.cls _ _ (by rw[mH];exact a1) hh
  have b2:R'[R.length-1+1]?=some R'[R.length]:=by rw[show R.length-1+1=R.length by omega];exact aC hl
  have r2:=k'.gU (R.length-1) _ _ (e.symm.trans a1) b2;have e3:=r1.uniq h (k.mem _ (gw hp)) (k'.mem _ (gw hl)) r2;have h0:R'[0]?=some R[0]:=by rw[<-uU,<-he];exact hh
  have h0':=bZ.1 h0;have:=(kE.1 k'.mK) 0 R.length h0'.1 hl hp;rw[h0'.2,e3] at this;exact this rfl
 refine Bw fun i=>?_
 have l1:=len k k' he;have l2:=len k' k he.symm;by_cases hi:i<R.length
 ·exact pre k k' he i hi (by omega)
 ·rw[wX (by omega),wX (by omega)]
structure Cm(nx:Sg->Sg)(s:Sg)(m:Nat):Prop where
 pos:0<m
 per:it nx m s=s
 nd:∀i j,i<m->j<m->it nx i s=it nx j s->i=j
theorem Wd.path(h:Wd S nx){s:Sg}(hs:s∈S)(i:Nat):∀n,Path (it nx i s).1 ((List.range' i n).map (fun j=>it nx j s)) (it nx (i+n) s).1
 |0=>rfl
 |n+1=>by
  rw[List.range'_concat,ja];refine(h.path hs i n).append ?_;simp only[Qi,eI,Qj];exact⟨rfl,by show(it nx (i+n) s).2=(it nx (i+(n+1)) s).1;rw[<-Nat.add_assoc,h.ou hs]⟩
theorem Wd.nc(h:Wd S nx){s:Sg}(hs:s∈S){m:Nat}(hc:Cm nx s m):NC (fun i=>(it nx i s).1) m:=by
 intro i j k l h1 h2 h3 h4 hf hq n1 n2;have Lc:∀i j,i<=j->(List.range' i (j-i)).map (fun t=>it nx t s)++[it nx j s]=(List.range' i (j-i+1)).map (fun t=>it nx t s):=fun i j hij=>by
  rw[List.range'_concat,ja];simp only[Qi,eI,Qj];rw[show i+(j-i)=j by omega]
 have hA:Path (it nx i s).1 ((List.range' i (j-i)).map (fun t=>it nx t s)++[it nx j s]) (it nx (l+1) s).1:=by
  rw[Lc i j h1];have:=h.path hs i (j-i+1);rw[show i+(j-i+1)=j+1 by omega] at this
  have hq':(it nx (j+1) s).1=(it nx (l+1) s).1:=hq;rw[<-hq'];exact this
 have hC:Path (it nx i s).1 ((List.range' k (l-k)).map (fun t=>it nx t s)++[it nx l s]) (it nx (l+1) s).1:=by
  rw[Lc k l h3];have:=h.path hs k (l-k+1);rw[show k+(l-k+1)=l+1 by omega] at this
  have hf':(it nx i s).1=(it nx k s).1:=hf;rw[hf'];exact this
 have mem:∀i j,i<=j->∀u∈(List.range' i (j-i)).map (fun t=>it nx t s)++[it nx j s],∃t,i<=t/\t<=j/\u=it nx t s:=fun i j hij u hu=>by
  rw[Lc i j hij] at hu;obtain⟨t,ht,rfl⟩:=aN.1 hu;rw[FI] at ht;exact⟨t,by omega,by omega,rfl⟩
 have e:=h.ab0 hA hC (fun u hu=>by
   obtain⟨t,_,_,rfl⟩:=mem i j h1 u hu;exact h.iG hs t) (fun u hu=>by
   obtain⟨t,_,_,rfl⟩:=mem k l h3 u hu;exact h.iG hs t) (fun u hu=>by
   obtain⟨t,a,b,rfl⟩:=mem i j h1 u hu;exact n1 t a b) (fun u hu=>by
   obtain⟨t,a,b,rfl⟩:=mem k l h3 u hu;exact n2 t a b) (by
   rcases Nat.le_total j l with q|q
   ·refine ag ?_;have:=Ck nx (it nx j s) (l-j);rw[<-mL,show l-j+j=l by omega] at this
    exact this
   ·refine ah ?_;have:=Ck nx (it nx l s) (j-l);rw[<-mL,show j-l+l=j by omega] at this
    exact this)
 exact hc.nd j l h2 h4 e
theorem Cn{α β:Type}(g:α->β)(l:List α):(l.map g).getLast?=l.getLast?.map g:=by simp
theorem GD.ring(h:Wd S nx){s:Sg}(hs:s∈S){m:Nat}(hc:Cm nx s m){D:List Nat}{d:Nat}(hD:GD (fun i=>(it nx i s).1) m D d):eo S nx (D.map fun i=>it nx i s):=by
 have per:∀j,it nx (m+j) s=it nx j s:=fun j=>by rw[Nat.add_comm,mL,hc.per]
 refine⟨fun e=>?_,fun u hu=>?_,?_,fun k u t hu ht=>?_,fun u t hu ht=>?_⟩
 ·have:=hD.head;rw[qg.1 e] at this;cases this
 ·obtain⟨t,_,rfl⟩:=aN.1 hu;exact h.iG hs t
 ·rw[lR];exact hD.mK
 ·rw[gz] at hu ht;obtain⟨x,hx,rfl⟩:=pA.1 hu;obtain⟨x',hx',rfl⟩:=pA.1 ht;have hq:(it nx x' s).1=(it nx (x+1) s).1:=hD.Ci.get k x x' hx hx';obtain⟨n1,n2⟩:=hD.K8 k x x' hx hx';rw[h.ou hs] at hq;have lx:=hD.lt x (aZ hx);have lx':=hD.lt x' (aZ hx');refine⟨hq,m-x'+x,?_,fun j j1 j2=>?_⟩
  ·rw[<-mL,show m-x'+x+x'=m+x by omega,per]
  ·rw[<-mL];by_cases hj:j+x'<m
   ·have:=n2 (j+x') (by omega) hj
    simp only[h.ou hs x] at this;exact this
   ·have:=n1 (j+x'-m) (by omega)
    simp only[h.ou hs x] at this;rw[show j+x'=m+(j+x'-m) by omega,per]
    exact this
 ·rw[Cn] at hu;rw[List.head?_map] at ht;obtain⟨x,hx,rfl⟩:=pA.1 hu;obtain⟨x',hx',rfl⟩:=pA.1 ht;rw[hD.head] at hx';obtain rfl:d=x':=gA hx';have tX:x∈D:=pB hx;have hcl:(it nx (x+1) s).1=(it nx d s).1:=by
   obtain⟨L,hL⟩:=List.getLast?_eq_some_iff.1 hx;have k:=hD.Ci;rw[hL] at k;obtain⟨c,_,k2⟩:=k.split;exact k2.2
  rw[h.ou hs] at hcl;have hdx:d<=x:=by
   have e:=hD.head;cases D with
   |nil=>cases e
   |cons a D=>
    have:a=d:=gA e;subst this;rcases aP.1 tX with k|k
    ·omega
    ·have:=(fK.1 hD.inc).1 x k;omega
  refine⟨hcl.symm,x-d,?_,fun j j1 j2=>?_⟩
  ·rw[<-mL,show x-d+d=x by omega]
  ·rw[<-mL,hcl];exact hD.cls x hx (j+d) (by omega) (by omega)
end
end Go.Proofs.YtkjhhooecopolaaGreatDoor.Gb
