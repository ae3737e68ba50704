import Derived.Test.YtkjhhooecopolaaGreatDoorMz01
set_option maxRecDepth 100000
set_option maxHeartbeats 4000000
namespace Go.Proofs.YtkjhhooecopolaaGreatDoor.Gb
open Ge Ga
abbrev Sg:=Pt×Pt
def n1(a:Pt):N3:=(a.1,a.2,1)
def dr(s:Sg):Pt:=(s.2.1-s.1.1,s.2.2-s.1.2)
def rv(s:Sg):Sg:=(s.2,s.1)
theorem dV(a z:Pt):rl (n1 a) z=dr (a,z):=by unfold rl rel n1 dr;simp
theorem mR(a b:Pt):wv (n1 a) (n1 b)=dr (a,b):=by unfold wv n1 dr;simp
theorem xE(s:Sg):dr (rv s)=neg (dr s):=by unfold dr rv neg;exact dY (by simp only;omega) (by simp only;omega)
theorem qy{s:Sg}:dr s=(0,0)↔s.1=s.2:=by
 unfold dr;constructor
 ·intro h;have h1:=congrArg Prod.fst h;have h2:=congrArg Prod.snd h;simp only at h1 h2;exact dY (by omega) (by omega)
 ·intro h;rw[h];exact dY (by simp) (by simp)
structure Pf(s u:Sg):Prop where
 fs:jK (n1 s.1) (n1 s.2) (dr s) u.1 u.2
 c1:mQ (n1 s.1) (n1 s.2) (dr s) u.1
 c2:mQ (n1 s.1) (n1 s.2) (dr s) u.2
theorem acU{f t:N3}{D u v:Pt}(h:jK f t D u v):jK f t D v u:=by
 refine⟨fun x y z=>?_,fun x y z=>?_⟩
 ·have:=h.2 x y z;rw[bU (rl f u) (rl f v),bU (rl t u) (rl t v)];omega
 ·have:=h.1 x y z;rw[bU (rl f u) (rl f v),bU (rl t u) (rl t v)];omega
theorem Pf.rv{s u:Sg}(h:Pf s u):Pf s (rv u):=⟨acU h.fs,h.c2,h.c1⟩
structure Wd(S:List Sg)(nx:Sg->Sg):Prop where
 ne:∀s∈S,s.1≠s.2
 pf:∀s∈S,∀u∈S,(aN (dr s)->Pf s u)/\(¬aN (dr s)->Pf (rv s) u)
 RX:∀s∈S,∀u∈S,on (dr (s.1,u.1)) (dr (s.1,u.2))=true->s.1=u.1\/s.1=u.2
 Lb:∀s∈S,∀u∈S,on (dr (s.2,u.1)) (dr (s.2,u.2))=true->s.2=u.1\/s.2=u.2
 one:∀s∈S,∀u∈S,s.1=u.1->ak (dr s) (dr u)=true->s=u
 one':∀s∈S,∀u∈S,s.2=u.2->ak (dr s) (dr u)=true->s=u
 two:∀s∈S,∀u∈S,s.1=u.2->ak (dr s) (neg (dr u))=false
 zK:∀s∈S,nx s∈S/\(nx s).1=s.2
 inj:∀s∈S,∀u∈S,nx s=nx u->s=u
 w1:∀s∈S,∀u∈S,u.1=s.2->cw (neg (dr s)) (dr u) (dr (nx s))=false
 w2:∀s∈S,∀u∈S,u.2=s.2->cw (neg (dr s)) (neg (dr u)) (dr (nx s))=false
def Cl(es:List Sg):Prop:=∃rg,aa rg=es
def In(S es:List Sg):Prop:=∀e∈es,e∈S\/rv e∈S
def Lf(es:List Sg)(s:Sg):Int:=eA es (n1 s.1) (dr s)
def Rt(es:List Sg)(s:Sg):Int:=dh es (n1 s.1) (dr s)
section
variable{S:List Sg}{nx:Sg->Sg}{es:List Sg}
theorem Wd.gN(h:Wd S nx){s:Sg}(hs:s∈S):dr s≠(0,0):=fun e=>h.ne s hs (qy.1 e)
theorem Wd.oP(h:Wd S nx)(hi:In S es){s:Sg}(hs:s∈S):(aN (dr s)->ud es (n1 s.1) (n1 s.2))/\(¬aN (dr s)->ud es (n1 s.2) (n1 s.1)):=by
 refine⟨fun hr=>?_,fun hr=>?_⟩
 ·have hp:∀e∈es,Pf s e:=fun e he=>by
   rcases hi e he with k|k
   ·exact(h.pf s hs e k).1 hr
   ·exact((h.pf s hs _ k).1 hr).rv
  exact⟨by show(0:Int)<1;decide,by show(0:Int)<1;decide,by rw[mR];exact hr,fun e he=>by rw[mR];exact(hp e he).fs,fun e he=>by rw[mR];exact⟨(hp e he).c1,(hp e he).c2⟩⟩
 ·have hp:∀e∈es,Pf (rv s) e:=fun e he=>by
   rcases hi e he with k|k
   ·exact(h.pf s hs e k).2 hr
   ·exact((h.pf s hs _ k).2 hr).rv
  have hr':aN (dr (rv s)):=by rw[xE];exact fT (h.gN hs) hr
  exact⟨by show(0:Int)<1;decide,by show(0:Int)<1;decide,by rw[mR];exact hr',fun e he=>by rw[mR];exact(hp e he).fs,fun e he=>by rw[mR];exact⟨(hp e he).c1,(hp e he).c2⟩⟩
theorem Wd.at_end(h:Wd S nx)(hc:Cl es)(hi:In S es){s:Sg}(hs:s∈S):Lf es s=dh es (n1 s.2) (neg (dr s))/\Rt es s=eA es (n1 s.2) (neg (dr s)):=by
 obtain⟨h1,h2⟩:=h.oP hi hs;obtain⟨rg,rfl⟩:=hc;by_cases hr:aN (dr s)
 ·have a:=vM (h1 hr);have b:=Cn (h1 hr);rw[mR] at a b;unfold Lf Rt;have e:dr (s.1,s.2)=dr s:=rfl;rw[e] at a b;exact⟨a.2.symm.trans b.2,a.1.symm.trans b.1⟩
 ·have a:=vM (h2 hr);have b:=Cn (h2 hr);rw[mR] at a b;have e:dr (s.2,s.1)=neg (dr s):=xE s;rw[e] at a b;rw[neg_neg] at b;unfold Lf Rt;exact⟨b.1.symm.trans a.1,b.2.symm.trans a.2⟩
theorem Wd.arm(h:Wd S nx)(hi:In S es){s:Sg}(hs:s∈S){z:Pt}(hz:z∈arms es (n1 s.2)):∃u∈S,(u.1=s.2/\z=dr u)\/(u.2=s.2/\z=neg (dr u)):=by
 obtain⟨hz0,e,he,ho,ue⟩:=jL.1 hz;rw[dV,dV] at ho ue;have key:∀u∈S,on (dr (s.2,u.1)) (dr (s.2,u.2))=true->(z=dr (s.2,u.1)\/z=dr (s.2,u.2))->∃u∈S,(u.1=s.2/\z=dr u)\/(u.2=s.2/\z=neg (dr u)):=fun u hu mP RY=>by
  rcases h.Lb s hs u hu mP with k|k
  ·rcases RY with q|q
   ·rw[k] at q;exact absurd (q.trans (qy.2 rfl)) hz0
   ·exact⟨u,hu,Or.inl ⟨k.symm,by rw[q,k]⟩⟩
  ·rcases RY with q|q
   ·exact⟨u,hu,Or.inr ⟨k.symm,by rw[q,k,<-xE];rfl⟩⟩
   ·rw[k] at q;exact absurd (q.trans (qy.2 rfl)) hz0
 rcases hi e he with k|k
 ·exact key e k ho ue
 ·exact key (rv e) k (by rw[vL];exact ho) ue.symm
theorem acV{n:N3}(hc:Cl es){a l:Pt}(ha:a≠(0,0))(hl:l≠(0,0))(hs:ak l a=false)(hw:∀z∈arms es n,cw a z l=false):eA es n l=dh es n a:=by
 have ht:=iA hl ha;rw[hs] at ht;by_cases lT:ah l a=true
 ·refine K8 hl ha lT fun z hz=>?_
  cases hb:lR l a z
  ·rfl
  ·have k:=hw z hz;obtain⟨k1,k2⟩:=zJ.1 hb;have:cw a z l=true:=lS.2 (Or.inl ⟨k2,lT,k1⟩);rw[this] at k;cases k
 ·have hal:ah a l=true:=by
   cases hk:ah a l
   ·cases hk2:ah l a
    ·rw[hk,hk2] at ht;simp[bb] at ht
    ·exact absurd hk2 lT
   ·rfl
  have z1:∀z∈arms es n,ah z a=false:=fun z hz=>by
   cases hb:ah z a
   ·rfl
   ·have:cw a z l=true:=lS.2 (Or.inr (Or.inl ⟨hb,hal⟩));rw[hw z hz] at this;cases this
  have z2:∀z∈arms es n,ah l z=false:=fun z hz=>by
   cases hb:ah l z
   ·rfl
   ·have:cw a z l=true:=lS.2 (Or.inr (Or.inr ⟨gM ha hl (jL.1 hz).1 hal hb,hal,hb⟩));rw[hw z hz] at this;cases this
  have e1:AS es n (fun z=>nz z&&ah z a)=0:=by
   rw[zI (Q':=fun _=>false) (by simp[nz]) (fun z hz=>by rw[z1 z hz];simp),K7]
  have e2:AS es n (fun z=>nz z&&ah z l)+AS es n (fun z=>ak z l)=0:=by
   obtain⟨rg,rfl⟩:=hc;rw[<-K4 rg n,<-Ck (Q:=fun z=>(nz z&&ah z l)||ak z l)]
   ·refine(zI ?_ fun z hz=>?_)
    ·simp[nz,zD]
    ·have hz0:=(jL.1 hz).1;have t:=iA hz0 hl;rw[z2 z hz] at t;have hn:nz z=true:=by unfold nz;simpa using hz0
     rw[hn];cases h1:ah z l<;>cases h2:ak z l<;>rw[h1,h2] at t<;>simp[bb] at t⊢
   ·intro z;by_cases hz0:z=(0,0)
    ·subst hz0;simp[nz,zD,bb]
    ·have t:=iA hz0 hl;have hn:nz z=true:=by unfold nz;simpa using hz0
     simp only[hn,FM];cases h1:ah z l<;>cases h2:ak z l<;>cases h3:ah l z<;>rw[h1,h2,h3] at t<;>simp[bb] at t⊢
  unfold eA dh;omega
theorem Wd.const(h:Wd S nx)(hc:Cl es)(hi:In S es){s:Sg}(hs:s∈S):Lf es (nx s)=Lf es s:=by
 obtain⟨hn,lU⟩:=h.zK s hs;rw[(h.at_end hc hi hs).1];show eA es (n1 (nx s).1) (dr (nx s))=_;rw[lU];refine acV hc (jy (h.gN hs)) (h.gN hn) (h.two _ hn _ hs lU) fun z hz=>?_
 obtain⟨u,hu,⟨k,rfl⟩|⟨k,rfl⟩⟩:=h.arm hi hs hz
 ·exact h.w1 s hs u hu k
 ·exact h.w2 s hs u hu k
def it(nx:Sg->Sg):Nat->Sg->Sg
 |0,s=>s
 |k+1,s=>nx (it nx k s)
def Cr(nx:Sg->Sg)(s u:Sg):Prop:=∃k,it nx k s=u
theorem Wd.nO(h:Wd S nx){s:Sg}(hs:s∈S):∀k,it nx k s∈S
 |0=>hs
 |k+1=>(h.zK _ (h.nO hs k)).1
theorem Wd.along(h:Wd S nx)(hc:Cl es)(hi:In S es){s u:Sg}(hs:s∈S)(hw:Cr nx s u):Lf es u=Lf es s:=by
 obtain⟨k,rfl⟩:=hw;induction k with
 |zero=>rfl
 |succ k ih=>exact(h.const hc hi (h.nO hs k)).trans ih
end
def Path:Pt->List Sg->Pt->Prop
 |a,[],b=>a=b
 |a,s::T,b=>s.1=a/\Path s.2 T b
theorem Path.append:∀{L:List Sg}{a b c:Pt}{M:List Sg},Path a L c->Path c M b->Path a (L++M) b
 |[],_,_,_,_,h,k=>by
  have:_=_:=h;subst this;exact k
 |s::T,_,_,_,_,h,k=>⟨h.1,Path.append h.2 k⟩
theorem Path.split:∀{L:List Sg}{a b:Pt}{M:List Sg},Path a (L++M) b->∃c,Path a L c/\Path c M b
 |[],a,_,_,h=>⟨a,rfl,h⟩
 |s::T,_,_,_,h=>by
  obtain⟨c,h1,h2⟩:=Path.split h.2;exact⟨c,⟨h.1,h1⟩,h2⟩
theorem Path.one{s:Sg}:Path s.1 [s] s.2:=⟨rfl,rfl⟩
theorem Path.rev:∀{L:List Sg}{a b:Pt},Path a L b->Path b (L.reverse.map rv) a
 |[],_,_,h=>by
  have:_=_:=h;exact this.symm
 |s::T,a,b,h=>by
  have ih:=Path.rev h.2;rw[zb,iy];refine ih.append ?_;exact⟨rfl,h.1⟩
theorem Path.zip:∀(T:List Sg)(s:Sg){b:Pt},Path s.2 T b->(s.1::T.map Prod.fst).zip (T.map Prod.fst++[b])=s::T
 |[],s,b,h=>by
  have e:s.2=b:=h;subst e;rfl
 |u::T,s,b,h=>by
  have ih:=Path.zip T u h.2;have e:s=(s.1,u.1):=dY rfl h.1.symm;rw[gK,lN,FK,ih,<-e]
theorem Cl.path{p:Pt}{L:List Sg}(h:Path p L p)(hn:∀s∈L,s.1≠s.2):Cl L:=by
 refine⟨[L.map Prod.fst],?_⟩;unfold aa;rw[tV,abK,rA];unfold fH;have e:closing (L.map Prod.fst)=L:=by
  cases L with
  |nil=>rfl
  |cons s T=>
   have:=Path.zip T s h.2;rw[<-h.1] at this;exact this
 rw[e,Kt];intro s hs;simpa using hn s hs
theorem Path.RZ:∀{L:List Sg}{a b:Pt},Path a L b->∀s∈L,s.2=b\/∃u∈L,u.1=s.2
 |[],_,_,_,s,hs=>by simp at hs
 |[t],_,_,h,s,hs=>by
  rw[bJ.1 hs];exact Or.inl h.2
 |t::u::T,_,_,h,s,hs=>by
  rcases aQ.1 hs with rfl|hs
  ·exact Or.inr ⟨u,by simp,h.2.1⟩
  ·rcases Path.RZ h.2 s hs with k|⟨v,hv,k⟩
   ·exact Or.inl k
   ·exact Or.inr ⟨v,bn _ hv,k⟩
theorem Path.Gs:∀{M:List Sg}{z:Sg}{a b n:Pt},Path a (M++[z]) b->(∀s∈M++[z],s.1≠n)->∀s∈M,s.2≠n
 |[],_,_,_,_,_,_,s,hs=>by simp at hs
 |[t],z,_,_,n,h,hn,s,hs=>by
  rw[bJ.1 hs];have:z.1=t.2:=h.2.1;rw[<-this];exact hn z (by simp)
 |t::u::M,z,_,_,n,h,hn,s,hs=>by
  rcases aQ.1 hs with rfl|hs
  ·have:u.1=s.2:=h.2.1;rw[<-this];exact hn u (by simp)
  ·exact Path.Gs (M:=u::M) h.2 (fun v hv=>hn v (bn _ hv)) s hs
theorem Lc{F:Pt->Pt->Int}{a b:List Sg}(h:a.Perm b):total F a=total F b:=by
 induction h with
 |nil=>rfl
 |cons x _ ih=>rw[fq,fq,ih]
 |swap x y l=>simp only[fq];omega
 |trans _ _ h1 h2=>exact h1.trans h2
theorem Cs(a b:List Sg)(n:N3)(Q:Pt->Bool):AS (a++b) n Q=AS a n Q+AS b n Q:=Cb _ a b
def ge(n z:Pt):Prop:=0<(dr (n,z)).1\/((dr (n,z)).1=0/\0<=(dr (n,z)).2)
theorem Ld(a b:Pt):ge a b\/ge b a:=by unfold ge dr;simp only;omega
theorem Gt{a b:Pt}(h:ge a b)(k:ge b a):a=b:=by
 unfold ge dr at h k;simp only at h k;exact dY (by omega) (by omega)
theorem Le{a b c:Pt}(h:ge a b)(k:ge b c):ge a c:=by
 unfold ge dr at*;simp only at*;omega
theorem Gu(a:Pt):ge a a:=by unfold ge dr;simp
theorem Lg{a b:Pt}(h:ge a b)(hne:a≠b):aN (dr (a,b)):=by
 unfold ge at h;unfold aN;have:¬((dr (a,b)).1=0/\(dr (a,b)).2=0):=fun k=>hne (qy.1 (dY k.1 k.2))
 omega
theorem Sa{es:List Sg}{n:Pt}(h:∀e∈es,ge n e.1/\ge n e.2):PP es (n1 n)=0:=by
 refine vI fun e he=>?_
 obtain⟨h1,h2⟩:=h e he;rw[dV,dV];unfold ge at h1 h2;generalize dr (n,e.1)=u at*;generalize dr (n,e.2)=v at*;unfold right;have a1:u.1=0->cr u v= -(u.2*v.1):=fun k=>by unfold cr;rw[k];simp
 have a2:v.1=0->cr u v=u.1*v.2:=fun k=>by unfold cr;rw[k];simp
 rw[if_neg,if_neg]
 ·rintro⟨k1,k2,k3⟩;rcases h2 with h2|⟨h2,h2'⟩
  ·omega
  ·have:=iO (dH k1) h2';rw[a2 h2] at k3;omega
 ·rintro⟨k1,k2,k3⟩;rcases h1 with h1|⟨h1,h1'⟩
  ·omega
  ·have:=iO h1' (dH k2);rw[a1 h1] at k3;omega
theorem Gv{es:List Sg}{n:Pt}{Q:Pt->Bool}(h:∀e∈es,on (dr (n,e.1)) (dr (n,e.2))=false):AS es (n1 n) Q=0:=
 vI fun e he=>by
  unfold Ga.arm;rw[dV,dV,h e he];rfl
theorem Sb{Q:Pt->Bool}{n:Pt}{s:Sg}(h:s.2=n):Ga.arm Q (n1 n) s.1 s.2=bb (Q (0,0))-bb (Q (neg (dr s))):=by
 subst h;unfold Ga.arm;rw[dV,dV,(qy (s:=(s.2,s.2))).2 rfl,rN _ _ (Or.inr rfl)];have e:dr (s.2,s.1)=neg (dr s):=xE s;rw[e];rfl
theorem Sc{Q:Pt->Bool}{n:Pt}{s:Sg}(h:s.1=n):Ga.arm Q (n1 n) s.1 s.2=bb (Q (dr s))-bb (Q (0,0)):=by
 subst h;unfold Ga.arm;rw[dV,dV,(qy (s:=(s.1,s.1))).2 rfl,rN _ _ (Or.inl rfl)];rfl
section
variable{S:List Sg}{nx:Sg->Sg}
theorem Wd.acW(h:Wd S nx){p q:Pt}{A C:List Sg}{a c:Sg}(hA:Path p (A++[a]) q)(hC:Path p (C++[c]) q)(mA:∀s∈A++[a],s∈S)(mC:∀s∈C++[c],s∈S)
  (nA:∀s∈A++[a],s.1≠q)(nC:∀s∈C++[c],s.1≠q)(hw:Cr nx a c\/Cr nx c a):a=c:=by
 have ha:a∈S:=mA a (by simp)
 have hc:c∈S:=mC c (by simp)
 have aq:a.2=q:=by obtain⟨_,_,k⟩:=hA.split;exact k.2
 have cq:c.2=q:=by obtain⟨_,_,k⟩:=hC.split;exact k.2
 have Sh:=hA.Gs nA;have Gw:=hC.Gs nC;have hne:∀s∈(A++[a])++((C++[c]).reverse.map rv),s.1≠s.2:=fun s hs=>by
  rcases bW.1 hs with hs|hs
  ·exact h.ne s (mA s hs)
  ·obtain⟨u,hu,rfl⟩:=aX.1 hs;exact(h.ne u (mC u (FN.1 hu))).symm
 have hcl:Cl ((A++[a])++((C++[c]).reverse.map rv)):=Cl.path (hA.append hC.rev) hne;have hin:In S ((A++[a])++((C++[c]).reverse.map rv)):=fun e he=>by
  rcases bW.1 he with he|he
  ·exact Or.inl (mA e he)
  ·obtain⟨u,hu,rfl⟩:=aX.1 he;exact Or.inr (mC u (FN.1 hu))
 have hL:Lf ((A++[a])++((C++[c]).reverse.map rv)) c=Lf ((A++[a])++((C++[c]).reverse.map rv)) a:=by
  rcases hw with k|k
  ·exact h.along hcl hin ha k
  ·exact(h.along hcl hin hc k).symm
 rw[(h.at_end hcl hin ha).1,(h.at_end hcl hin hc).1,aq,cq] at hL;have zL:∀Q,AS ((A++[a])++((C++[c]).reverse.map rv)) (n1 q) Q=bb (Q (neg (dr c)))-bb (Q (neg (dr a))):=fun Q=>by
  have e1:(C++[c]).reverse.map rv=[rv c]++C.reverse.map rv:=by simp
  have z1:AS A (n1 q) Q=0:=Gv fun e he=>by
   cases ho:on (dr (q,e.1)) (dr (q,e.2))
   ·rfl
   ·rw[<-aq] at ho;rcases h.Lb a ha e (mA e (by simp[he])) ho with k|k
    ·exact absurd (k.symm.trans aq) (nA e (by simp[he]))
    ·exact absurd (k.symm.trans aq) (Sh e he)
  have z2:AS (C.reverse.map rv) (n1 q) Q=0:=Gv fun e he=>by
   obtain⟨u,hu,rfl⟩:=aX.1 he;have hu:=FN.1 hu;cases ho:on (dr (q,(rv u).1)) (dr (q,(rv u).2))
   ·rfl
   ·rw[vL,<-aq] at ho;rcases h.Lb a ha u (mC u (by simp[hu])) ho with k|k
    ·exact absurd (k.symm.trans aq) (nC u (by simp[hu]))
    ·exact absurd (k.symm.trans aq) (Gw u hu)
  rw[e1,Cs,Cs,Cs,z1,z2];have s1:AS [a] (n1 q) Q=bb (Q (0,0))-bb (Q (neg (dr a))):=by
   unfold AS;rw[fq,zx,Sb aq];omega
  have s2:AS [rv c] (n1 q) Q=bb (Q (neg (dr c)))-bb (Q (0,0)):=by
   unfold AS;rw[fq,zx,Sc (s:=rv c) cq,xE];omega
  rw[s1,s2];omega
 have da:=jy (h.gN ha);have dc:=jy (h.gN hc);have na:nz (neg (dr a))=true:=by unfold nz;simpa using da
 have nc:nz (neg (dr c))=true:=by unfold nz;simpa using dc
 unfold dh at hL;rw[zL,zL] at hL;simp only[na,nc,FM,qx] at hL;generalize PP ((A++[a])++((C++[c]).reverse.map rv)) (n1 q)=P0 at hL;have t:=iA da dc;have hs:ak (neg (dr a)) (neg (dr c))=true:=by
  cases h1:ah (neg (dr a)) (neg (dr c))<;>cases h2:ah (neg (dr c)) (neg (dr a))<;>cases h3:ak (neg (dr a)) (neg (dr c))<;>rw[h1,h2] at hL<;>rw[h1,h2,h3] at t<;>simp[bb] at hL t⊢ <;>omega
 refine h.one' a ha c hc (aq.trans cq.symm) ?_;rw[cV] at hs⊢;rw[fw,fF,rM,kU] at hs;omega
structure Rg(S:List Sg)(R:List Sg)(a:Sg)(M:List Sg)(z:Sg):Prop where
 eq:R=a::(M++[z])
 path:Path a.1 R a.1
 mem:∀s∈R,s∈S
 once:∀s∈M++[z],s.1≠a.1
 least:∀s∈R,ge a.1 s.1
variable{R M:List Sg}{a z:Sg}
theorem Rg.cl(h:Wd S nx)(k:Rg S R a M z):Cl R:=Cl.path k.path fun s hs=>h.ne s (k.mem s hs)
theorem Rg.az(k:Rg S R a M z):In S R:=fun e he=>Or.inl (k.mem e he)
theorem Rg.ma(k:Rg S R a M z):a∈S:=k.mem a (by rw[k.eq];simp)
theorem Rg.mz(k:Rg S R a M z):z∈S:=k.mem z (by rw[k.eq];simp)
theorem Rg.z2(k:Rg S R a M z):z.2=a.1:=by
 have h:=k.path;rw[k.eq,<-lN] at h;obtain⟨_,_,q⟩:=h.split;exact q.2
theorem Rg.ends(k:Rg S R a M z):∀s∈R,ge a.1 s.2:=fun s hs=>by
 rcases k.path.RZ s hs with q|⟨u,hu,q⟩
 ·rw[q];exact Gu _
 ·rw[<-q];exact k.least u hu
theorem Rg.PP(k:Rg S R a M z):Ga.PP R (n1 a.1)=0:=Sa fun e he=>⟨k.least e he,k.ends e he⟩
theorem Rg.AS(h:Wd S nx)(k:Rg S R a M z)(Q:Pt->Bool):Ga.AS R (n1 a.1) Q=bb (Q (dr a))-bb (Q (neg (dr z))):=by
 have hp:=k.path;rw[k.eq] at hp;have hM:=Path.Gs hp.2 k.once;have z1:Ga.AS M (n1 a.1) Q=0:=Gv fun e he=>by
  cases ho:on (dr (a.1,e.1)) (dr (a.1,e.2))
  ·rfl
  ·rcases h.RX a k.ma e (k.mem e (by rw[k.eq];simp[he])) ho with q|q
   ·exact absurd q.symm (k.once e (by simp[he]))
   ·exact absurd q.symm (hM e he)
 have e:R=[a]++(M++[z]):=k.eq;have s1:Ga.AS [a] (n1 a.1) Q=bb (Q (dr a))-bb (Q (0,0)):=by
  unfold Ga.AS;rw[fq,zx,Sc rfl];omega
 have s2:Ga.AS [z] (n1 a.1) Q=bb (Q (0,0))-bb (Q (neg (dr z))):=by
  unfold Ga.AS;rw[fq,zx,Sb k.z2];omega
 rw[e,Cs,Cs,z1,s1,s2];omega
theorem Rg.Lh(h:Wd S nx)(k:Rg S R a M z):aN (dr a):=Lg (k.ends a (by rw[k.eq];simp)) (h.ne a k.ma)
theorem Rg.Li(h:Wd S nx)(k:Rg S R a M z):aN (neg (dr z)):=by
 have:=Lg (k.least z (by rw[k.eq];simp)) (fun e=>h.ne z k.mz (e.symm.trans k.z2.symm))
 rw[<-k.z2] at this;rw[<-xE];exact this
theorem zM{d:Pt}(h:d≠(0,0)):nz d=true:=by unfold nz;simpa using h
theorem Rg.val(h:Wd S nx)(k:Rg S R a M z):Lf R a=if 0<cr (dr z) (dr a) then 1 else 0:=by
 have da:=h.gN k.ma;have dz:=jy (h.gN k.mz);have hs:ak (neg (dr z)) (dr a)=false:=by
  cases q:ak (neg (dr z)) (dr a)
  ·rfl
  ·have:=h.two a k.ma z k.mz k.z2.symm;rw[cV] at q;cases q2:ak (dr a) (neg (dr z))
   ·have:ak (dr a) (neg (dr z))=true:=(cV _ _).2 ⟨by rw[bU];omega,by rw[iR];omega⟩
    rw[q2] at this;cases this
   ·rw[q2] at this;cases this
 have hsa:ak (dr a) (dr a)=true:=(cV _ _).2 ⟨by unfold cr;grind,ez da⟩
 unfold Lf eA dh;rw[k.PP,k.AS h,k.AS h];simp only[zM da,zM dz,qx,hs,hsa,FM];have Gx:=k.Lh h;have xG:=k.Li h;have hang:ah (neg (dr z)) (dr a)=true↔0<cr (neg (dr z)) (dr a):=by
  rw[nN];constructor
  ·rintro(⟨_,q⟩|⟨_,q⟩)
   ·exact absurd Gx q
   ·exact q
  ·intro q;exact Or.inr ⟨⟨fun _=>Gx,fun _=>xG⟩,q⟩
 rw[fw] at hang;have hcr:cr (dr z) (dr a)≠0:=fun q=>by
  have:=kf xG Gx (by rw[fw];omega)
  have:ak (neg (dr z)) (dr a)=true:=(cV _ _).2 ⟨by rw[fw];omega,this⟩
  rw[hs] at this;cases this
 cases q:ah (neg (dr z)) (dr a)
 ·have:¬0< -cr (dr z) (dr a):=fun w=>by rw[hang.2 w] at q;cases q
  rw[if_pos (by omega)]
  simp[bb]
 ·have:=hang.1 q;rw[if_neg (by omega)]
  simp[bb]
theorem Rg.asym(h:Wd S nx){R' M':List Sg}{a' z':Sg}(k:Rg S R a M z)(k':Rg S R' a' M' z')(hne:a≠a')(h1:Lf R' a=1)(h2:Lf R a'=1):False:=by
 have far:∀{R R' M M':List Sg}{a z a' z':Sg},Rg S R a M z->Rg S R' a' M' z'->ge a.1 a'.1->a.1≠a'.1->Lf R' a=0:=by
  intro R R' M M' a z a' z' k k' hg hn;have hP:Ga.PP R' (n1 a.1)=0:=Sa fun e he=>⟨Le hg (k'.least e he),Le hg (k'.ends e he)⟩
  have hz:∀Q,Ga.AS R' (n1 a.1) Q=0:=fun Q=>Gv fun e he=>by
   cases ho:on (dr (a.1,e.1)) (dr (a.1,e.2))
   ·rfl
   ·rcases h.RX a k.ma e (k'.mem e he) ho with q|q
    ·exact absurd (Gt hg (by rw[q];exact k'.least e he)) hn
    ·exact absurd (Gt hg (by rw[q];exact k'.ends e he)) hn
  unfold Lf eA dh;rw[hP,hz,hz];rfl
 by_cases hn:a.1=a'.1
 ·have near:∀{R R' M M':List Sg}{a z a' z':Sg},Rg S R a M z->Rg S R' a' M' z'->a.1=a'.1->a≠a'->Lf R' a=1->ah (dr a') (dr a)=true:=by
   intro R R' M M' a z a' z' k k' hn hne hL;unfold Lf eA dh at hL;rw[hn,k'.PP,k'.AS h,k'.AS h] at hL;have q1:ak (dr a') (dr a)=false:=by
    cases q:ak (dr a') (dr a)
    ·rfl
    ·exact absurd (h.one a' k'.ma a k.ma hn.symm q).symm hne
   have hc:=h.two a k.ma z' k'.mz (hn.trans k'.z2.symm);have q2:ak (neg (dr z')) (dr a)=false:=by
    cases q:ak (neg (dr z')) (dr a)
    ·rfl
    ·rw[cV] at q;have:ak (dr a) (neg (dr z'))=true:=(cV _ _).2 ⟨by rw[bU];omega,by rw[iR];omega⟩
     rw[hc] at this;cases this
   simp only[q1,q2,zM (h.gN k'.ma),zM (jy (h.gN k'.mz)),FM] at hL;cases w:ah (dr a') (dr a)
   ·rw[w] at hL;cases w2:ah (neg (dr z')) (dr a)<;>rw[w2] at hL<;>simp[bb] at hL
   ·rfl
  have x1:=near k k' hn hne h1;have x2:=near k' k hn.symm hne.symm h2;have:=Gn (h.gN k'.ma) (h.gN k.ma) x1;rw[x2] at this;cases this
 ·rcases Ld a.1 a'.1 with g|g
  ·rw[far k k' g hn] at h1;omega
  ·rw[far k' k g (fun e=>hn e.symm)] at h2;omega
end
end Go.Proofs.YtkjhhooecopolaaGreatDoor.Gb
namespace Go.Proofs.YtkjhhooecopolaaGreatDoor.Gb
section
variable{ν:Type}{f:Nat->ν}{m:Nat}
theorem Lj{P:Nat->Prop}:∀{n:Nat},P n->∃k,k<=n/\P k/\∀j,j<k->¬P j:=by
 intro n;induction n using Nat.strongRecOn with
 |_ n ih=>
  intro h;by_cases hk:∃j,j<n/\P j
  ·obtain⟨j,hj,hp⟩:=hk;obtain⟨k,h1,h2,h3⟩:=ih j hj hp;exact⟨k,by omega,h2,h3⟩
  ·exact⟨n,ae _,h,fun j hj hp=>hk ⟨j,hj,hp⟩⟩
def NC(f:Nat->ν)(m:Nat):Prop:=∀i j k l:Nat,i<=j->j<m->k<=l->l<m->f i=f k->f (j+1)=f (l+1)->(∀t,i<=t->t<=j->f t≠f (l+1))->(∀t,k<=t->t<=l->f t≠f (l+1))->j=l
theorem inter(hN:NC f m){x t y u:Nat}(h1:x<t)(h2:t<=y)(h3:y<u)(h4:u<m)(hp:f x=f (y+1))(hq:f t=f (u+1))(hne:f x≠f t):False:=by
 obtain⟨a,ha,⟨ha1,ha2⟩,ha3⟩:=Lj (P:=fun a=>x<a/\f a=f t) (n:=t) ⟨h1,rfl⟩
 obtain⟨c,hc,⟨hc1,hc2⟩,hc3⟩:=Lj (P:=fun c=>y+1<=c/\f (c+1)=f t) (n:=u) ⟨h3,hq.symm⟩
 have:=hN x (a-1) (y+1) c (by omega) (by omega) hc1 (by omega) hp (by rw[show a-1+1=a by omega,ha2,hc2]) (fun s k1 k2=>?_) (fun s k1 k2=>?_)
 ·omega
 ·rw[hc2];by_cases e:s=x
  ·rw[e];exact hne
  ·exact fun k=>ha3 s (by omega) ⟨by omega,k⟩
 ·rw[hc2];by_cases e:s=y+1
  ·rw[e,<-hp];exact hne
  ·exact fun k=>hc3 (s-1) (by omega) ⟨by omega,by rw[show s-1+1=s by omega];exact k⟩
def kV(f:Nat->ν):ν->List Nat->ν->Prop
 |p,[],q=>p=q
 |p,x::O,q=>f x=p/\kV f (f (x+1)) O q
theorem kV.split:∀{A B:List Nat}{p q:ν},kV f p (A++B) q->∃c,kV f p A c/\kV f c B q
 |[],_,p,_,h=>⟨p,rfl,h⟩
 |x::A,_,_,_,h=>by
  obtain⟨c,h1,h2⟩:=kV.split h.2;exact⟨c,⟨h.1,h1⟩,h2⟩
theorem kV.snoc:∀{A:List Nat}{p:ν}{i:Nat},kV f p A (f i)->kV f p (A++[i]) (f (i+1))
 |[],_,_,h=>⟨Eq.symm h,rfl⟩
 |_::_,_,_,h=>⟨h.1,kV.snoc h.2⟩
theorem kV.get:∀{A:List Nat}{p q:ν},kV f p A q->∀(k x x':Nat),A[k]?=some x->A[k+1]?=some x'->f x'=f (x+1)
 |[],_,_,_,_,_,_,h,_=>by simp at h
 |[_],_,_,_,_,_,_,_,h=>by simp at h
 |a::b::A,_,_,h,0,x,x',h1,h2=>by
  simp at h1 h2;subst h1 h2;exact h.2.1
 |a::b::A,_,_,h,k+1,x,x',h1,h2=>kV.get h.2 k x x' (by simpa using h1) (by simpa using h2)
structure GD(f:Nat->ν)(m:Nat)(D:List Nat)(d:Nat):Prop where
 head:D.head?=some d
 inc:D.Pairwise (· < ·)
 lt:∀x∈D,x<m
 Ct:kV f (f d) D (f d)
 pQ:D.Pairwise (fun x y=>f x≠f y)
 cls:∀z,D.getLast?=some z->∀t,d<t->t<=z->f t≠f d
 Ll:∀k x x':Nat,D[k]?=some x->D[k+1]?=some x'->(∀t,t<=x->f t≠f (x+1))/\(∀t,x'<t->t<m->f t≠f (x+1))
def xH(f:Nat->ν)(i:Nat)(a b:List Nat×List (List Nat)):Prop:=
 ((∀o∈a.1++[i],f o≠f (i+1))/\b=(a.1++[i],a.2))\/
 ∃O1 d D,a.1++[i]=O1++d::D/\f d=f (i+1)/\(∀o∈O1,f o≠f (i+1))/\b=(O1,a.2++[d::D])
structure IV(f:Nat->ν)(m i:Nat)(s:List Nat×List (List Nat)):Prop where
 inc:s.1.Pairwise (· < ·)
 lt:∀o∈s.1,o<i
 Ct:kV f (f 0) s.1 (f i)
 pQ:s.1.Pairwise (fun x y=>f x≠f y)
 old:∀t,t<i->t∉s.1->∃x y,x<=t/\t<=y/\y<i/\f x=f (y+1)/\∀o∈s.1,o<x\/y<o
 arr:∀o∈s.1,∀u,o<=u->u<i->f (u+1)≠f o
 per:(s.1++s.2.flatten).Perm (List.range i)
 good:∀D∈s.2,∃d,GD f m D d
theorem IV.start:IV f m 0 ([],[]):=⟨List.Pairwise.nil,by simp,rfl,List.Pairwise.nil,fun t ht=>by omega,by simp,by simp,by simp⟩
theorem IV.push{i:Nat}{s:List Nat×List (List Nat)}(h:IV f m i s):(s.1++[i]).Pairwise (· < ·)/\(s.1++[i]).Pairwise (fun x y=>f x≠f y)/\kV f (f 0) (s.1++[i]) (f (i+1)):=by
 refine⟨?_,?_,h.Ct.snoc⟩
 ·rw[FO];exact⟨h.inc,by simp,fun a ha b hb=>by rw[bJ.1 hb];exact h.lt a ha⟩
 ·rw[FO];refine⟨h.pQ,by simp,fun a ha b hb=>?_⟩
  rw[bJ.1 hb];have hlt:=h.lt a ha;have:=h.arr a ha (i-1) (by omega) (by omega)
  rw[show i-1+1=i by omega] at this
  exact fun e=>this e.symm
theorem IV.step{i:Nat}(hN:NC f m)(hne:∀j,j<m->f j≠f (j+1))(hi:i<m){s s':List Nat×List (List Nat)}(h:IV f m i s)(hs:xH f i s s'):IV f m (i+1) s':=by
 obtain⟨Lm,zN,Lp⟩:=h.push;have hlt:∀o∈s.1++[i],o<i+1:=fun o ho=>by
  rcases bW.1 ho with ho|ho
  ·have:=h.lt o ho;omega
  ·rw[bJ.1 ho];omega
 have hold:∀t,t<i+1->t∉s.1++[i]->∃x y,x<=t/\t<=y/\y<i/\f x=f (y+1)/\∀o∈s.1++[i],o<x\/y<o:=fun t ht hn=>by
  have h1:t∉s.1:=fun k=>hn (vB _ k)
  have h2:t≠i:=fun k=>hn (by rw[k];simp)
  obtain⟨x,y,k1,k2,k3,k4,k5⟩:=h.old t (by omega) h1
  refine⟨x,y,k1,k2,k3,k4,fun o ho=>?_⟩
  rcases bW.1 ho with ho|ho
  ·exact k5 o ho
  ·rw[bJ.1 ho];exact Or.inr k3
 rcases hs with⟨hno,rfl⟩|⟨O1,d,D,hsp,hd,hno,rfl⟩
 ·refine⟨Lm,hlt,Lp,zN,fun t ht hn=>?_,fun o ho u h1 h2=>?_,?_,h.good⟩
  ·obtain⟨x,y,k1,k2,k3,k4,k5⟩:=hold t ht hn;exact⟨x,y,k1,k2,by omega,k4,k5⟩
  ·by_cases e:u=i
   ·rw[e];exact fun k=>hno o ho k.symm
   ·rcases bW.1 ho with ho|ho
    ·exact h.arr o ho u h1 (by omega)
    ·have:=bJ.1 ho;omega
  ·show((s.1++[i])++s.2.flatten).Perm _;rw[FP];refine List.Perm.trans ?_ (h.per.append_right [i]);rw[fD,fD];exact FT _ FU
 ·rw[hsp] at Lm zN Lp hlt hold;obtain⟨acY,Gy,acZ⟩:=FO.1 Lm;obtain⟨ac0,Lq,ac1⟩:=FO.1 zN;obtain⟨c,hc1,hc2⟩:=Lp.split;have Gz:c=f d:=hc2.1.symm;have hlast:∀z,(d::D).getLast?=some z->z=i:=fun z hz=>by
   have:(s.1++[i]).getLast?=some z:=by rw[hsp,abL,hz];rfl
   simpa using this.symm
  have zO:∀o∈O1,o∈s.1/\o<d:=fun o ho=>by
   have hod:o<d:=acZ o ho d (by simp)
   have hom:o∈s.1++[i]:=by rw[hsp];exact vB _ ho
   rcases bW.1 hom with k|k
   ·exact⟨k,hod⟩
   ·have:=bJ.1 k;have:=hlt d (by simp)
    omega
  have zP:∀x∈d::D,d<=x/\x<=i:=fun x hx=>by
   have:=hlt x (BH _ hx);rcases aQ.1 hx with k|k
   ·omega
   ·have:=(fZ.1 Gy).1 x k;omega
  have hdi:d<i:=by
   have:=zP d (by simp)
   by_cases e:d=i
   ·rw[e] at hd;exact absurd hd (hne i hi)
   ·omega
  have hds:d∈s.1:=by
   have:d∈s.1++[i]:=by rw[hsp];simp
   rcases bW.1 this with k|k
   ·exact k
   ·have:=bJ.1 k;omega
  refine⟨acY,fun o ho=>?_,?_,ac0,fun t ht hn=>?_,fun o ho u h1 h2=>?_,?_,fun D' hD'=>?_⟩
  ·have:=(zO o ho).2;show o<i+1;omega
  ·show kV f (f 0) O1 (f (i+1));rw[<-hd,<-Gz];exact hc1
  ·by_cases hm:t∈d::D
   ·refine⟨d,i,(zP t hm).1,(zP t hm).2,by omega,hd,fun o ho=>Or.inl (zO o ho).2⟩
   ·have hn':t∉O1++d::D:=fun k=>by
     rcases bW.1 k with k|k
     ·exact hn k
     ·exact hm k
    obtain⟨x,y,k1,k2,k3,k4,k5⟩:=hold t ht hn';exact⟨x,y,k1,k2,by omega,k4,fun o ho=>k5 o (vB _ ho)⟩
  ·by_cases e:u=i
   ·rw[e];exact fun k=>hno o ho k.symm
   ·exact h.arr o (zO o ho).1 u h1 (by omega)
  ·show(O1++(s.2++[d::D]).flatten).Perm _;have e1:(s.2++[d::D]).flatten=s.2.flatten++(d::D):=by simp
   rw[e1,FP];refine List.Perm.trans ?_ (h.per.append_right [i]);have e2:(O1++(s.2.flatten++(d::D))).Perm ((O1++d::D)++s.2.flatten):=by
    rw[fD];exact FT _ FU
   refine e2.trans ?_;rw[<-hsp,fD,fD];exact FT _ FU
  ·rcases bW.1 hD' with hD'|hD'
   ·exact h.good D' hD'
   ·rw[bJ.1 hD'];refine⟨d,rfl,Gy,fun x hx=>?_,?_,Lq,fun z hz t h1 h2=>?_,fun k x x' hx hx'=>?_⟩
    ·have:=(zP x hx).2;omega
    ·rw[Gz,<-hd] at hc2;exact hc2
    ·have:=hlast z hz;have a:=h.arr d hds (t-1) (by omega) (by omega)
     rw[show t-1+1=t by omega] at a
     exact a
    ·
     have uf:x∈d::D:=aY hx;have GA:x'∈d::D:=aY hx';have hq:f x'=f (x+1):=hc2.get k x x' hx hx';have GC:x<x':=by
      have hk1:=(bT.1 hx);have hk2:=(bT.1 hx');have:=(mM.1 Gy) k (k+1) hk1.1 hk2.1 (by omega)
      rw[hk1.2,hk2.2] at this;exact this
     have ac4:d<x':=by have:=(zP x uf).1;omega
     have kD:f d≠f x':=by
      rcases aQ.1 GA with e|e
      ·omega
      ·exact(fZ.1 Lq).1 x' e
     have ac5:=(zP x' GA).2;have hxs:x∈s.1:=by
      have:x∈s.1++[i]:=by rw[hsp];exact BH _ uf
      rcases bW.1 this with q|q
      ·exact q
      ·have:=bJ.1 q;omega
     constructor
     ·intro t0 ht0 hf0;obtain⟨k0,mS,⟨hk1,hk2⟩,hk3⟩:=Lj (P:=fun j=>j<=x/\f (x-j)=f (x+1)) (n:=x-t0) ⟨by omega,by rw[show x-(x-t0)=t0 by omega];exact hf0⟩
      have htx:x-k0≠x:=fun e=>by
       rw[e] at hk2;exact hne x (by omega) hk2
      have hts:x-k0∉O1++d::D:=fun q=>by
       have hd2:∀o∈O1++d::D,o<x'->f o≠f x':=fun o ho hox=>by
        rcases bW.1 ho with q|q
        ·exact ac1 o q x' GA
        ·obtain⟨i1,hi1,e1⟩:=j5.1 q;have Cu:=(bT.1 hx');have vO:i1<k+1:=by
          rcases FV i1 (k+1) with w|w|w
          ·exact w
          ·subst w;rw[Cu.2] at e1;omega
          ·have:=(mM.1 Gy) (k+1) i1 Cu.1 hi1 w;rw[Cu.2,e1] at this;omega
         have:=(mM.1 Lq) i1 (k+1) hi1 Cu.1 vO;rw[Cu.2,e1] at this;exact this
       exact hd2 _ q (by omega) (hk2.trans hq.symm)
      obtain⟨a,y,y1,y2,y3,y4,y5⟩:=hold (x-k0) (by omega) hts
      have hyx:y<x:=by
       rcases y5 x (BH _ uf) with q|q
       ·omega
       ·exact q
      by_cases e:f a=f (x+1)
      ·refine hk3 (x-(y+1)) (by omega) ⟨by omega,?_⟩
       rw[show x-(x-(y+1))=y+1 by omega,<-y4,e]
      ·refine inter hN (x:=a) (t:=x-k0) (y:=y) (u:=x) ?_ y2 hyx (by omega) y4 hk2 (by rw[hk2];exact e)
       rcases Ku a (x-k0) with w|w
       ·exact w
       ·have:a=x-k0:=by omega
        rw[this] at e;exact absurd hk2 e
     ·intro t ht htm hft;have hu:f (t-1+1)=f x':=by rw[show t-1+1=t by omega,hft,hq]
      rcases FV (t-1) i with w|w|w
      ·have ac7:x'∈s.1:=by
        have:x'∈s.1++[i]:=by rw[hsp];exact BH _ GA
        rcases bW.1 this with q|q
        ·exact q
        ·have:=bJ.1 q;omega
       exact h.arr x' ac7 (t-1) (by omega) w hu
      ·rw[w] at hu;rw[<-hd] at hu;exact kD hu
      ·exact inter hN (x:=d) (t:=x') (y:=i) (u:=t-1) ac4 ac5 w (by omega) hd hu.symm kD
theorem parted(hN:NC f m)(hne:∀j,j<m->f j≠f (j+1))(h0:f m=f 0)(st:Nat->List Nat×List (List Nat))(hs0:st 0=([],[]))(hst:∀i,i<m->xH f i (st i) (st (i+1))):
  (st m).1=[]/\(st m).2.flatten.Perm (List.range m)/\∀D∈(st m).2,∃d,GD f m D d:=by
 have key:∀i,i<=m->IV f m i (st i):=fun i=>by
  induction i with
  |zero=>intro _;rw[hs0];exact IV.start
  |succ i ih=>intro hi;exact(ih (by omega)).step hN hne (by omega) (hst i (by omega))
 have h:=key m (ae _);have he:(st m).1=[]:=by
  cases hO:(st m).1 with
  |nil=>rfl
  |cons o O=>
   exfalso;have hc:=h.Ct;rw[hO] at hc;have hlt:=h.lt o (by rw[hO];simp)
   have:=h.arr o (by rw[hO];simp) (m-1) (by omega) (by omega)
   rw[show m-1+1=m by omega,h0,hc.1] at this
   exact this rfl
 refine⟨he,?_,h.good⟩;have:=h.per;rw[he] at this;exact this
end
end Go.Proofs.YtkjhhooecopolaaGreatDoor.Gb
