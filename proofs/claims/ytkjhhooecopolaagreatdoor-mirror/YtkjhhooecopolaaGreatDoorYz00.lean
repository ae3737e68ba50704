import Derived.Test.YtkjhhooecopolaaGreatDoorYza
set_option maxRecDepth 100000
set_option maxHeartbeats 4000000
namespace Go.Proofs.YtkjhhooecopolaaGreatDoor.Ge
abbrev Pt:=Int×Int
def rel(n:Pt)(d:Int)(a:Pt):Pt:=(d*a.1-n.1,d*a.2-n.2)
def cr(u v:Pt):Int:=u.1*v.2-u.2*v.1
def dt(u v:Pt):Int:=u.1*v.1+u.2*v.2
def on(u v:Pt):Bool:=decide (cr u v=0)&&decide (dt u v<=0)
def right(u v:Pt):Int:=if u.1<=0/\0<v.1/\0<cr u v then 1 else if 0<u.1/\v.1<=0/\cr u v<0 then -1 else 0
def up(u v:Pt):Int:=if u.1<=0/\0<v.1/\cr u v<0 then -1 else if v.1<=0/\0<u.1/\0<cr u v then 1 else 0
def q(u:Pt):Int:=if 0<u.1 then 1 else 0
theorem acY{a b:Int}(ha:0<a)(hb:0<b):0<a*b:=aU ha hb
theorem Sj{a b:Int}(ha:a<=0)(hb:0<b):a*b<=0:=Gi ha (dM hb)
theorem Sk{a b c d:Int}(h:a*d-b*c=0)(ha:a<=0)(hc:0<c):a*c+b*d<=0:=by
 have e:c*(a*c+b*d)=a*(c*c+d*d):=by
  have e1:b*c=a*d:=by omega
  calc c*(a*c+b*d)=a*(c*c)+d*(b*c):=by grind
   _=a*(c*c+d*d):=by rw[e1];grind
 have hq:0<c*c+d*d:=by
  have h1:=aU hc hc;have h2:0<=d*d:=by
   rcases Gj 0 d with h|h
   ·exact iY h h
   ·exact ui h h
  omega
 have h3:=Sj ha hq;rw[<-e] at h3;rcases(show a*c+b*d<=0\/0<a*c+b*d by omega) with h4|h4
 ·exact h4
 ·have:=acY hc h4;omega
theorem step(u v:Pt)(h:on u v=false):right u v-up u v=q v-q u:=by
 obtain⟨a,b⟩:=u;obtain⟨c,d⟩:=v;have nr:¬(a*d-b*c=0/\a*c+b*d<=0):=by
  rintro⟨h1,h2⟩;have:on (a,b) (c,d)=true:=by simp only[on,cr,dt,h1,h2,decide_true,Bool.and_self]
  rw[this] at h;cases h
 have k1:∀(_:a<=0)(_:0<c),a*d-b*c≠0:=fun ha hc e=>nr ⟨e,Sk e ha hc⟩
 have k2:∀(_:0<a)(_:c<=0),a*d-b*c≠0:=fun ha hc e=>nr ⟨e,by
  have:=Sk (a:=c) (b:=d) (c:=a) (d:=b) (by grind) hc ha
  rw[eA c a,eA d b] at this;exact this⟩
 simp only[right,up,q,cr];clear nr;rcases(show a<=0\/0<a by omega) with ha|ha<;>rcases(show c<=0\/0<c by omega) with hc|hc
 ·repeat' split
  all_goals omega
 ·have:=k1 ha hc
  repeat' split
  all_goals omega
 ·have:=k2 ha hc
  repeat' split
  all_goals omega
 ·repeat' split
  all_goals omega
def closing:List Pt->List (Pt×Pt)
 |[]=>[]
 |a::r=>(a::r).zip (r++[a])
def fN(g:List Pt):List (Pt×Pt):=(closing g).filter fun e=>decide (e.1≠e.2)
def ag(rg:List (List Pt)):List (Pt×Pt):=rg.flatMap fN
def total(f:Pt->Pt->Int)(l:List (Pt×Pt)):Int:=(l.map fun e=>f e.1 e.2).sum
theorem zV(f:Pt->Pt->Int):total f []=0:=rfl
theorem fE(f:Pt->Pt->Int)(e:Pt×Pt)(l:List (Pt×Pt)):total f (e::l)=f e.1 e.2+total f l:=by simp[total]
theorem CJ(f:Pt->Pt->Int)(l k:List (Pt×Pt)):total f (l++k)=total f l+total f k:=by
 induction l with
 |nil=>simp[total]
 |cons e l ih=>rw[lY,fE,fE,ih];omega
theorem Lm(f g:Pt->Pt->Int)(k:Pt->Int):∀(r:List Pt)(a z:Pt),(∀p,p∈(a::r).zip (r++[z])->f p.1 p.2-g p.1 p.2=k p.2-k p.1)->
  total f ((a::r).zip (r++[z]))-total g ((a::r).zip (r++[z]))=k z-k a
 |[],a,z,h=>by
  have h1:=h (a,z) (by simp)
  simp only[vT,Gk,List.zip_nil_left,fE,zV];simp only at h1;omega
 |b::r,a,z,h=>by
  have h1:=h (a,b) (by simp)
  have h2:=Lm f g k r b z (fun p hp=>h p (by
   rw[lY,Gk];exact bz _ hp))
  rw[lY,Gk,fE,fE];simp only at h1⊢;omega
theorem Lp(f:Pt->Pt->Int)(hf:∀a,f a a=0)(l:List (Pt×Pt)):total f (l.filter fun e=>decide (e.1≠e.2))=total f l:=by
 induction l with
 |nil=>rfl
 |cons e l ih=>
  rw[acd];by_cases h:e.1=e.2
  ·rw[aa (by simp[h]),ih,fE,h,hf];omega
  ·rw[ah (by simp[h]),fE,fE,ih]
def fr(n:Pt)(d:Int)(a b:Pt):Int:=right (rel n d a) (rel n d b)
def fu(n:Pt)(d:Int)(a b:Pt):Int:=up (rel n d a) (rel n d b)
def fo(n:Pt)(d:Int)(e:Pt×Pt):Bool:=on (rel n d e.1) (rel n d e.2)
theorem Sl(n:Pt)(d:Int)(a:Pt):fr n d a a=0:=by
 unfold fr right;rw[aa (by omega),aa (by omega)]
theorem Sm(n:Pt)(d:Int)(a:Pt):fu n d a a=0:=by
 unfold fu up;rw[aa (by omega),aa (by omega)]
theorem acZ(n:Pt)(d:Int)(g:List Pt)(h:∀e,e∈fN g->fo n d e=false):total (fr n d) (fN g)=total (fu n d) (fN g):=by
 unfold fN at*;rw[Lp _ (Sl n d),Lp _ (Sm n d)];cases g with
 |nil=>rfl
 |cons a r=>
  have key:=Lm (fr n d) (fu n d) (fun p=>q (rel n d p)) r a a (fun p hp=>by
   by_cases he:p.1=p.2
   ·rw[he,Sl,Sm];omega
   ·exact step _ _ (h p (jF.2 ⟨hp,by simp[he]⟩)))
  have e:closing (a::r)=(a::r).zip (r++[a]):=rfl;rw[e];omega
theorem Sn(n:Pt)(d:Int):∀(rg:List (List Pt)),(∀e,e∈ag rg->fo n d e=false)->total (fr n d) (ag rg)=total (fu n d) (ag rg)
 |[],_=>rfl
 |g::rg,h=>by
  have e:ag (g::rg)=fN g++ag rg:=uj;rw[e] at h⊢;rw[CJ,CJ,acZ n d g (fun e he=>h e (vU _ he)),
   Sn n d rg (fun e he=>h e (Cq _ he))]
end Go.Proofs.YtkjhhooecopolaaGreatDoor.Ge
namespace Go.Proofs.YtkjhhooecopolaaGreatDoor.Ga
open Ge
def oZ(u v:Pt):Int:=if cr u v=0/\0<v.1/\v.2<0/\0<=u.2 then 1 else if cr u v=0/\0<u.1/\u.2<0/\0<=v.2 then -1 else 0
def o6(u v:Pt):Int:=if cr u v=0/\u.1<=0/\u.2<0/\0<=v.2 then 1 else if cr u v=0/\v.1<=0/\v.2<0/\0<=u.2 then -1 else 0
def rY(w:Int)(u:Pt):Int:=if 0<u.1/\u.1<=w/\u.2<0 then 1 else 0
def sh(w:Int)(u:Pt):Pt:=(u.1-w,u.2)
def bi(p:Prop)[Decidable p]:Int:=if p then 1 else 0
def CK(w:Int)(u v:Pt):Prop:=
 (u.2<0->0<=v.2->cr u v<=0\/0<=cr (sh w u) (sh w v))/\(v.2<0->0<=u.2->0<=cr u v\/cr (sh w u) (sh w v)<=0)
theorem bZ(u v:Pt):cr v u= -cr u v:=by unfold cr;grind
theorem GJ(u v:Pt):right v u= -right u v:=by
 unfold right;rw[bZ u v]
 repeat' split
 all_goals omega
theorem ac0(u v:Pt):oZ v u= -oZ u v:=by
 unfold oZ;rw[bZ u v]
 repeat' split
 all_goals omega
theorem ac1(u v:Pt):o6 v u= -o6 u v:=by
 unfold o6;rw[bZ u v]
 repeat' split
 all_goals omega
theorem upA{u v:Pt}(h1:u.2<0)(h2:0<=v.2):right u v+oZ u v=bi (u.1<=0)-bi (cr u v<=0):=by
 have f1:u.1<=0->0<cr u v->0<v.1:=fun a b=>by
  apply Int.not_le.1;intro h;have k1:u.1*v.2<=0:=Gi a h2;have k2:0<=u.2*v.1:=ui (by omega) h
  unfold cr at b;omega
 have f2:0<u.1->cr u v<=0->v.1<=0:=fun a b=>by
  apply Cr.1;intro h;have k1:0<=u.1*v.2:=iY (by omega) h2
  have k2:u.2*v.1<0:=KV h1 h;unfold cr at b;omega
 unfold right oZ bi
 repeat' split
 all_goals omega
theorem upB{u v:Pt}(h1:u.2<0)(h2:0<=v.2):right u v+o6 u v=bi (u.1<=0)-bi (cr u v<0):=by
 have f1:u.1<=0->0<cr u v->0<v.1:=fun a b=>by
  apply Int.not_le.1;intro h;have k1:u.1*v.2<=0:=Gi a h2;have k2:0<=u.2*v.1:=ui (by omega) h
  unfold cr at b;omega
 have f2:0<u.1->cr u v<=0->v.1<=0:=fun a b=>by
  apply Cr.1;intro h;have k1:0<=u.1*v.2:=iY (by omega) h2
  have k2:u.2*v.1<0:=KV h1 h;unfold cr at b;omega
 unfold right o6 bi
 repeat' split
 all_goals omega
theorem Sp{w:Int}(hw:0<w){u v:Pt}(h:CK w u v)(h1:u.2<0)(h2:0<=v.2):right (sh w u) (sh w v)+o6 (sh w u) (sh w v)-right u v-oZ u v=rY w u-rY w v:=by
 have a:=upA h1 h2;have b:=upB (u:=sh w u) (v:=sh w v) h1 h2;have c:=h.1 h1 h2;have e1:rY w u=bi (u.1<=w)-bi (u.1<=0):=by
  unfold rY bi
  repeat' split
  all_goals omega
 have e2:rY w v=0:=aa (by omega)
 have e3:bi ((sh w u).1<=0)=bi (u.1<=w):=by
  have:(sh w u).1=u.1-w:=rfl;unfold bi
  repeat' split
  all_goals omega
 have e4:bi (cr u v<=0)=bi (cr (sh w u) (sh w v)<0):=by
  have:cr (sh w u) (sh w v)=cr u v-w*(v.2-u.2):=by unfold cr sh;grind
  have k:0<w*(v.2-u.2):=aU hw (by omega)
  unfold bi
  repeat' split
  all_goals omega
 rw[e1,e2];omega
theorem ac4{w:Int}(hw:0<w){u v:Pt}(h:CK w u v):right (sh w u) (sh w v)+o6 (sh w u) (sh w v)-right u v-oZ u v=rY w u-rY w v:=by
 by_cases h1:u.2<0
 ·by_cases h2:v.2<0
  ·have key:∀t:Int,right (sh t u) (sh t v)=bi (u.1<=t)-bi (v.1<=t):=fun t=>by
    have a1:u.1<=t->t<v.1->0<cr (sh t u) (sh t v):=fun a b=>by
     have k1:0<=(u.1-t)*v.2:=ui (by omega) (by omega)
     have k2:u.2*(v.1-t)<0:=KV h1 (by omega)
     show 0<(u.1-t)*v.2-u.2*(v.1-t);omega
    have a2:t<u.1->v.1<=t->cr (sh t u) (sh t v)<0:=fun a b=>by
     have k1:(u.1-t)*v.2<0:=vV (by omega) h2
     have k2:0<=u.2*(v.1-t):=ui (by omega) (by omega)
     show(u.1-t)*v.2-u.2*(v.1-t)<0;omega
    have b1:(sh t u).1=u.1-t:=rfl;have b2:(sh t v).1=v.1-t:=rfl;unfold right bi
    repeat' split
    all_goals omega
   have s0:∀z:Pt,sh 0 z=z:=fun z=>by unfold sh;rw[zH]
   have k0:=key 0;rw[s0,s0] at k0;have e1:o6 (sh w u) (sh w v)=0:=by
    have b1:(sh w u).2=u.2:=rfl;have b2:(sh w v).2=v.2:=rfl;unfold o6;rw[aa (by omega),aa (by omega)]
   have e2:oZ u v=0:=by
    unfold oZ;rw[aa (by omega),aa (by omega)]
   rw[key w,k0,e1,e2];unfold rY bi
   repeat' split
   all_goals omega
  ·exact Sp hw h h1 (by omega)
 ·by_cases h2:v.2<0
  ·have h':CK w v u:=by
    refine⟨fun a b=>?_,fun a b=>?_⟩
    ·have:=h.2 a b;rw[bZ u v,bZ (sh w u) (sh w v)];omega
    ·have:=h.1 a b;rw[bZ u v,bZ (sh w u) (sh w v)];omega
   have:=Sp hw h' h2 (by omega)
   rw[GJ u v,ac0 u v,GJ (sh w u) (sh w v),ac1 (sh w u) (sh w v)] at this;omega
  ·have key:∀t:Int,right (sh t u) (sh t v)=0:=fun t=>by
    have a1:u.1<=t->t<v.1->¬0<cr (sh t u) (sh t v):=fun a b=>by
     have k1:(u.1-t)*v.2<=0:=Gi (by omega) (by omega)
     have k2:0<=u.2*(v.1-t):=iY (by omega) (by omega)
     show ¬0<(u.1-t)*v.2-u.2*(v.1-t);omega
    have a2:t<u.1->v.1<=t->¬cr (sh t u) (sh t v)<0:=fun a b=>by
     have k1:0<=(u.1-t)*v.2:=iY (by omega) (by omega)
     have k2:u.2*(v.1-t)<=0:=anI (by omega) (by omega)
     show ¬(u.1-t)*v.2-u.2*(v.1-t)<0;omega
    have b1:(sh t u).1=u.1-t:=rfl;have b2:(sh t v).1=v.1-t:=rfl;unfold right
    repeat' split
    all_goals omega
   have s0:∀z:Pt,sh 0 z=z:=fun z=>by unfold sh;rw[zH]
   have k0:=key 0;rw[s0,s0] at k0;have e1:o6 (sh w u) (sh w v)=0:=by
    have b1:(sh w u).2=u.2:=rfl;have b2:(sh w v).2=v.2:=rfl;unfold o6;rw[aa (by omega),aa (by omega)]
   have e2:oZ u v=0:=by
    unfold oZ;rw[aa (by omega),aa (by omega)]
   rw[key w,k0,e1,e2];unfold rY;rw[aa (by omega),aa (by omega)]
   omega
def rl(n:Int×Int×Int)(z:Pt):Pt:=rel (n.1,n.2.1) n.2.2 z
def wv(a b:Int×Int×Int):Pt:=(a.2.2*b.1-b.2.2*a.1,a.2.2*b.2.1-b.2.2*a.2.1)
def aS(D:Pt):Prop:=0<D.1\/(D.1=0/\0<D.2)
def cA(n:Int×Int×Int)(D:Pt)(u v:Pt):Int:=
 if cr (rl n u) (rl n v)=0/\0<(rl n v).1/\cr D (rl n v)<0/\0<=cr D (rl n u) then 1
 else if cr (rl n u) (rl n v)=0/\0<(rl n u).1/\cr D (rl n u)<0/\0<=cr D (rl n v) then -1 else 0
def cB(n:Int×Int×Int)(D:Pt)(u v:Pt):Int:=
 if cr (rl n u) (rl n v)=0/\(rl n u).1<=0/\cr D (rl n u)<0/\0<=cr D (rl n v) then 1
 else if cr (rl n u) (rl n v)=0/\(rl n v).1<=0/\cr D (rl n v)<0/\0<=cr D (rl n u) then -1 else 0
def Lq(a b:Int×Int×Int)(D u v:Pt):Prop:=
 (cr D (rl a u)<0->0<=cr D (rl a v)->cr (rl a u) (rl a v)<=0\/0<=cr (rl b u) (rl b v))/\(cr D (rl a v)<0->0<=cr D (rl a u)->0<=cr (rl a u) (rl a v)\/cr (rl b u) (rl b v)<=0)
def Behind(a b:Int×Int×Int)(D:Pt):Prop:=(0<D.1/\0<(wv a b).1/\cr D (wv a b)=0)\/(D.1=0/\0<D.2/\(wv a b).1=0/\0<(wv a b).2)
def tr(D r:Pt):Pt:=(r.1,cr D r)
def sc(k:Int)(u:Pt):Pt:=(k*u.1,k*u.2)
theorem CL(D r s:Pt):cr (tr D r) (tr D s)=D.1*cr r s:=by unfold tr cr;grind
theorem CM(k:Int)(r s:Pt):cr (sc k r) (sc k s)=k*k*cr r s:=by unfold sc cr;grind
theorem aT{k z:Int}(hk:0<k):0<k*z↔0<z:=by
 constructor
 ·intro h;exact Int.pos_of_mul_pos_right (a:=k) h |> fun h=>by
   rcases fD z 0 with h1|h1|h1
   ·have:=vV hk h1;omega
   ·subst h1;simp at*
   ·exact h1
 ·exact aU hk
theorem neg_mul{k z:Int}(hk:0<k):k*z<0↔z<0:=by
 have:=aT (z:= -z) hk;rw[xL] at this;omega
theorem dZ{k z:Int}(hk:0<k):k*z=0↔z=0:=by
 have h1:=aT (z:=z) hk;have h2:=neg_mul (z:=z) hk;omega
theorem kL(a b:Int×Int×Int)(z:Pt):a.2.2*(rl b z).1=b.2.2*(rl a z).1-(wv a b).1/\a.2.2*(rl b z).2=b.2.2*(rl a z).2-(wv a b).2:=by
 unfold rl rel wv;constructor<;>grind
theorem Sq{D:Pt}(hD:0<D.1)(r s:Pt):right (tr D r) (tr D s)=right r s:=by
 have h1:=aT (z:=cr r s) hD;have h2:=neg_mul (z:=cr r s) hD;unfold right;rw[CL];have e1:(tr D r).1=r.1:=rfl;have e2:(tr D s).1=s.1:=rfl;rw[e1,e2]
 repeat' split
 all_goals omega
theorem zW{k:Int}(hk:0<k)(r s:Pt):right (sc k r) (sc k s)=right r s:=by
 have hkk:=aU hk hk;have h1:=aT (z:=cr r s) hkk;have h2:=neg_mul (z:=cr r s) hkk;have a1:=aT (z:=r.1) hk;have a2:=aT (z:=s.1) hk;unfold right;rw[CM];have e1:(sc k r).1=k*r.1:=rfl;have e2:(sc k s).1=k*s.1:=rfl;rw[e1,e2]
 repeat' split
 all_goals omega
theorem ac5{n:Int×Int×Int}{D:Pt}(hD:0<D.1){k:Int}(hk:0<k)(u v:Pt):oZ (sc k (tr D (rl n u))) (sc k (tr D (rl n v)))=cA n D u v:=by
 have hkk:=aU (aU hk hk) hD;have h1:=dZ (z:=cr (rl n u) (rl n v)) hkk;have a1:=aT (z:=(rl n u).1) hk;have a2:=aT (z:=(rl n v).1) hk;have b1:=neg_mul (z:=cr D (rl n u)) hk;have b2:=neg_mul (z:=cr D (rl n v)) hk;unfold oZ cA;rw[CM,CL];have e0:k*k*(D.1*cr (rl n u) (rl n v))=k*k*D.1*cr (rl n u) (rl n v):=by grind
 have e1:(sc k (tr D (rl n u))).1=k*(rl n u).1:=rfl;have e2:(sc k (tr D (rl n v))).1=k*(rl n v).1:=rfl;have e3:(sc k (tr D (rl n u))).2=k*cr D (rl n u):=rfl;have e4:(sc k (tr D (rl n v))).2=k*cr D (rl n v):=rfl;rw[e0,e1,e2,e3,e4]
 repeat' split
 all_goals omega
theorem ac6{n:Int×Int×Int}{D:Pt}(hD:0<D.1){k:Int}(hk:0<k)(u v:Pt):o6 (sc k (tr D (rl n u))) (sc k (tr D (rl n v)))=cB n D u v:=by
 have hkk:=aU (aU hk hk) hD;have h1:=dZ (z:=cr (rl n u) (rl n v)) hkk;have a1:=aT (z:=(rl n u).1) hk;have a2:=aT (z:=(rl n v).1) hk;have b1:=neg_mul (z:=cr D (rl n u)) hk;have b2:=neg_mul (z:=cr D (rl n v)) hk;unfold o6 cB;rw[CM,CL];have e0:k*k*(D.1*cr (rl n u) (rl n v))=k*k*D.1*cr (rl n u) (rl n v):=by grind
 have e1:(sc k (tr D (rl n u))).1=k*(rl n u).1:=rfl;have e2:(sc k (tr D (rl n v))).1=k*(rl n v).1:=rfl;have e3:(sc k (tr D (rl n u))).2=k*cr D (rl n u):=rfl;have e4:(sc k (tr D (rl n v))).2=k*cr D (rl n v):=rfl;rw[e0,e1,e2,e3,e4]
 repeat' split
 all_goals omega
def CN(a b:Int×Int×Int)(D z:Pt):Int:=if D.1=0 then 0 else rY (wv a b).1 (sc b.2.2 (tr D (rl a z)))
theorem ac7{a b:Int×Int×Int}{D:Pt}(ha:0<a.2.2)(hb:0<b.2.2)(hB:Behind a b D){u v:Pt}(hF:Lq a b D u v):
  right (rl b u) (rl b v)+cB b D u v-right (rl a u) (rl a v)-cA a D u v=CN a b D u-CN a b D v:=by
 rcases hB with⟨hD,hW,hp⟩|⟨hD,wq,hW,hW2⟩
 ·have hs:∀z,sh (wv a b).1 (sc b.2.2 (tr D (rl a z)))=sc a.2.2 (tr D (rl b z)):=fun z=>by
   obtain⟨e1,e2⟩:=kL a b z;refine eB ?_ ?_
   ·show b.2.2*(rl a z).1-(wv a b).1=a.2.2*(rl b z).1;omega
   ·show b.2.2*(D.1*(rl a z).2-D.2*(rl a z).1)=a.2.2*(D.1*(rl b z).2-D.2*(rl b z).1);unfold cr at hp;have k1:a.2.2*(D.1*(rl b z).2-D.2*(rl b z).1)=D.1*(a.2.2*(rl b z).2)-D.2*(a.2.2*(rl b z).1):=by grind
    rw[k1,e1,e2]
    grind
  have c1:cr (sc b.2.2 (tr D (rl a u))) (sc b.2.2 (tr D (rl a v)))=b.2.2*b.2.2*D.1*cr (rl a u) (rl a v):=by rw[CM,CL];grind
  have c2:cr (sc a.2.2 (tr D (rl b u))) (sc a.2.2 (tr D (rl b v)))=a.2.2*a.2.2*D.1*cr (rl b u) (rl b v):=by rw[CM,CL];grind
  have p1:=aU (aU hb hb) hD;have p2:=aU (aU ha ha) hD;have q1:=aT (z:=cr (rl a u) (rl a v)) p1;have q2:=neg_mul (z:=cr (rl a u) (rl a v)) p1;have q3:=aT (z:=cr (rl b u) (rl b v)) p2;have q4:=neg_mul (z:=cr (rl b u) (rl b v)) p2;have s1:=neg_mul (z:=cr D (rl a u)) hb;have s2:=neg_mul (z:=cr D (rl a v)) hb;have hfree:CK (wv a b).1 (sc b.2.2 (tr D (rl a u))) (sc b.2.2 (tr D (rl a v))):=by
   unfold CK;rw[hs,hs,c1,c2];have e3:(sc b.2.2 (tr D (rl a u))).2=b.2.2*cr D (rl a u):=rfl;have e4:(sc b.2.2 (tr D (rl a v))).2=b.2.2*cr D (rl a v):=rfl;rw[e3,e4];obtain⟨f1,f2⟩:=hF;constructor
   ·intro x y;have:=f1 (by omega) (by omega)
    omega
   ·intro x y;have:=f2 (by omega) (by omega)
    omega
  have key:=ac4 hW hfree;rw[hs,hs,zW ha,Sq hD,zW hb,Sq hD,ac5 hD hb,ac6 hD ha] at key;unfold CN;rw[aa (by omega),aa (by omega)]
  exact key
 ·unfold CN;rw[ah hD,ah hD];obtain⟨e1,e2⟩:=kL a b u;obtain⟨e3,e4⟩:=kL a b v;rw[hW] at e1 e3;have x1:=aT (z:=(rl b u).1) ha;have x2:=aT (z:=(rl b v).1) ha;have x3:=aT (z:=(rl a u).1) hb;have x4:=aT (z:=(rl a v).1) hb;have l1:cr D (rl a u)= -(D.2*(rl a u).1):=by unfold cr;rw[hD];omega
  have l2:cr D (rl a v)= -(D.2*(rl a v).1):=by unfold cr;rw[hD];omega
  have l3:cr D (rl b u)= -(D.2*(rl b u).1):=by unfold cr;rw[hD];omega
  have l4:cr D (rl b v)= -(D.2*(rl b v).1):=by unfold cr;rw[hD];omega
  have y1:=aT (z:=(rl a u).1) wq;have y2:=aT (z:=(rl a v).1) wq;have y3:=aT (z:=(rl b u).1) wq;have y4:=aT (z:=(rl b v).1) wq;have ec:a.2.2*a.2.2*cr (rl b u) (rl b v)=b.2.2*b.2.2*cr (rl a u) (rl a v)+b.2.2*(wv a b).2*((rl a v).1-(rl a u).1):=by
   have k:a.2.2*a.2.2*cr (rl b u) (rl b v)=(a.2.2*(rl b u).1)*(a.2.2*(rl b v).2)-(a.2.2*(rl b u).2)*(a.2.2*(rl b v).1):=by unfold cr;grind
   rw[k,e1,e2,e3,e4];unfold cr
   grind
  have p1:=aU ha ha;have p2:=aU hb hb;have p3:=aU hb hW2;have q1:=aT (z:=cr (rl a u) (rl a v)) p2;have q2:=neg_mul (z:=cr (rl a u) (rl a v)) p2;have q3:=aT (z:=cr (rl b u) (rl b v)) p1;have q4:=neg_mul (z:=cr (rl b u) (rl b v)) p1;have r1:=aT (z:=(rl a v).1-(rl a u).1) p3;have r2:=neg_mul (z:=(rl a v).1-(rl a u).1) p3;obtain⟨f1,f2⟩:=hF;rw[l1,l2] at f1 f2;unfold right cA cB;rw[l1,l2,l3,l4];generalize cr (rl a u) (rl a v)=ca at*;generalize cr (rl b u) (rl b v)=cb at*;generalize(rl a u).1=xu at*;generalize(rl a v).1=xv at*;generalize(rl b u).1=zX at*;generalize(rl b v).1=zY at*;generalize D.2*xu=lu at*;generalize D.2*xv=lv at*;generalize D.2*zX=Sr at*;generalize D.2*zY=wu at*;generalize b.2.2*(wv a b).2*(xv-xu)=K at*;generalize a.2.2*a.2.2*cb=CB at*;generalize b.2.2*b.2.2*ca=CA at*;generalize a.2.2*zX=AU at*;generalize a.2.2*zY=AV at*;generalize b.2.2*xu=BU at*;generalize b.2.2*xv=BV at*;clear e2 e4 l1 l2 l3 l4 p1 p2 p3 hW hW2 hD wq;have hx1:0<xu↔0<zX:=by omega
  have hx2:0<xv↔0<zY:=by omega
  clear x1 x2 x3 x4 e1 e3;rw[aa (show ¬(cb=0/\zX<=0/\ -Sr<0/\0<= -wu) by omega),aa (show ¬(cb=0/\zY<=0/\ -wu<0/\0<= -Sr) by omega)]
  by_cases h1:0<xu<;>by_cases h2:0<xv
  ·rw[aa (by omega),aa (by omega),aa (by omega),aa (by omega),aa (by omega),aa (by omega)]
   rfl
  ·rw[aa (show ¬(zX<=0/\0<zY/\0<cb) by omega),aa (show ¬(xu<=0/\0<xv/\0<ca) by omega),aa (show ¬(ca=0/\0<xv/\ -lv<0/\0<= -lu) by omega)]
   clear y3 y4
   repeat' split
   all_goals omega
  ·rw[aa (show ¬(0<zX/\zY<=0/\cb<0) by omega),aa (show ¬(0<xu/\xv<=0/\ca<0) by omega),aa (show ¬(ca=0/\0<xu/\ -lu<0/\0<= -lv) by omega)]
   clear y3 y4
   repeat' split
   all_goals omega
  ·rw[aa (by omega),aa (by omega),aa (by omega),aa (by omega),aa (by omega),aa (by omega)]
   rfl
theorem Lr(F:Pt->Pt->Int)(k:Pt->Int)(hs:∀a,F a a=0):∀(rg:List (List Pt)),(∀e∈ag rg,F e.1 e.2=k e.1-k e.2)->total F (ag rg)=0
 |[],_=>rfl
 |g::rg,h=>by
  have e:ag (g::rg)=fN g++ag rg:=uj;rw[e] at h⊢;rw[CJ,Lr F k hs rg (fun e he=>h e (Cq _ he))]
  have h':∀e∈fN g,F e.1 e.2=k e.1-k e.2:=fun e he=>h e (vU _ he)
  unfold fN at*;rw[Lp _ hs];cases g with
  |nil=>rfl
  |cons a r=>
   have key:=Lm (fun _ _=>0) F k r a a (fun p hp=>by
    by_cases he:p.1=p.2
    ·rw[he,hs];omega
    ·have:=h' p (jF.2 ⟨hp,by simp[he]⟩)
     omega)
   have e0:∀l:List (Pt×Pt),total (fun _ _=>0) l=0:=fun l=>by
    induction l with
    |nil=>rfl
    |cons x l ih=>rw[fE,ih];rfl
   rw[e0] at key;have e:closing (a::r)=(a::r).zip (r++[a]):=rfl;rw[e];omega
theorem GK(F G:Pt->Pt->Int):∀l:List (Pt×Pt),total (fun u v=>F u v+G u v) l=total F l+total G l
 |[]=>rfl
 |e::l=>by rw[fE,fE,fE,GK F G l];omega
theorem Ls(F G:Pt->Pt->Int):∀l:List (Pt×Pt),total (fun u v=>F u v-G u v) l=total F l-total G l
 |[]=>rfl
 |e::l=>by rw[fE,fE,fE,Ls F G l];omega
def PP(es:List (Pt×Pt))(n:Int×Int×Int):Int:=total (fun u v=>right (rl n u) (rl n v)) es
theorem Ss(u:Pt):right u u=0:=by
 unfold right;rw[aa (by omega),aa (by omega)]
theorem ac8(n:Int×Int×Int)(D u:Pt):cA n D u u=0:=by
 unfold cA;rw[aa (by omega),aa (by omega)]
theorem ac9(n:Int×Int×Int)(D u:Pt):cB n D u u=0:=by
 unfold cB;rw[aa (by omega),aa (by omega)]
theorem along{rg:List (List Pt)}{a b:Int×Int×Int}{D:Pt}(ha:0<a.2.2)(hb:0<b.2.2)(hB:Behind a b D)(hF:∀e∈ag rg,Lq a b D e.1 e.2):
  PP (ag rg) b+total (cB b D) (ag rg)=PP (ag rg) a+total (cA a D) (ag rg):=by
 have h:=Lr (fun u v=>right (rl b u) (rl b v)+cB b D u v-right (rl a u) (rl a v)-cA a D u v) (CN a b D) (fun z=>by rw[Ss,Ss,ac8,ac9];rfl) rg (fun e he=>ac7 ha hb hB (hF e he))
 rw[Ls,Ls,GK] at h;unfold PP;omega
abbrev N3:=Int×Int×Int
def lam(D:Pt)(n:N3)(z:Pt):Int:=cr D (rl n z)
theorem Su{a b:N3}{D:Pt}(h:Behind a b D):cr D (wv a b)=0:=by
 rcases h with⟨_,_,h⟩|⟨h1,_,h2,_⟩
 ·exact h
 ·unfold cr;rw[h1,h2];omega
theorem Lt{a b:N3}{D:Pt}(h:Behind a b D)(z:Pt):a.2.2*lam D b z=b.2.2*lam D a z:=by
 have hp:=Su h;obtain⟨e1,e2⟩:=kL a b z;unfold lam cr at*;have k1:a.2.2*(D.1*(rl b z).2-D.2*(rl b z).1)=D.1*(a.2.2*(rl b z).2)-D.2*(a.2.2*(rl b z).1):=by grind
 rw[k1,e1,e2]
 grind
theorem o8{a b:N3}{D:Pt}(ha:0<a.2.2)(hb:0<b.2.2)(h:Behind a b D)(z:Pt):(lam D b z<0↔lam D a z<0)/\(0<lam D b z↔0<lam D a z):=by
 have k:=Lt h z;have h1:=aT (z:=lam D b z) ha;have h2:=neg_mul (z:=lam D b z) ha;have h3:=aT (z:=lam D a z) hb;have h4:=neg_mul (z:=lam D a z) hb;omega
theorem ada{a b:N3}{D:Pt}(h:Behind a b D)(u v:Pt):∃k m:Int,0<k/\0<m/\k*(a.2.2*a.2.2*cr (rl b u) (rl b v))=k*(b.2.2*b.2.2*cr (rl a u) (rl a v))-b.2.2*(m*(lam D a v-lam D a u)):=by
 obtain⟨e1,e2⟩:=kL a b u;obtain⟨e3,e4⟩:=kL a b v;have k:a.2.2*a.2.2*cr (rl b u) (rl b v)=(a.2.2*(rl b u).1)*(a.2.2*(rl b v).2)-(a.2.2*(rl b u).2)*(a.2.2*(rl b v).1):=by unfold cr;grind
 rw[e1,e2,e3,e4] at k;rcases h with⟨h1,h2,h3⟩|⟨h1,h2,h3,h4⟩
 ·refine⟨D.1,(wv a b).1,h1,h2,?_⟩;rw[k];unfold lam;unfold cr at*;generalize(rl a u).1=p1 at*;generalize(rl a u).2=p2 at*;generalize(rl a v).1=q1 at*;generalize(rl a v).2=q2 at*;generalize(wv a b).1=w1 at*;generalize(wv a b).2=w2 at*;have h3':D.1*w2=D.2*w1:=by omega
  clear e1 e2 e3 e4 k h3
  grind
 ·refine⟨D.2,(wv a b).2,h2,h4,?_⟩;rw[k];unfold lam;unfold cr at*;rw[h1,h3]
  grind
theorem GL{a b:N3}{D:Pt}(ha:0<a.2.2)(hb:0<b.2.2)(h:Behind a b D){u v:Pt}(hl:lam D a u<lam D a v):(0<=cr (rl b u) (rl b v)->0<cr (rl a u) (rl a v))/\(cr (rl a u) (rl a v)<=0->cr (rl b u) (rl b v)<0):=by
 obtain⟨k,m,hk,hm,e⟩:=ada h u v;have p1:=aU hk (aU ha ha);have p2:=aU hk (aU hb hb);have q1:=aT (z:=cr (rl a u) (rl a v)) p2;have q2:=neg_mul (z:=cr (rl a u) (rl a v)) p2;have q3:=aT (z:=cr (rl b u) (rl b v)) p1;have q4:=neg_mul (z:=cr (rl b u) (rl b v)) p1;have r:=aU hb (aU hm (show 0<lam D a v-lam D a u by omega))
 rw[Ro] at q1 q2 q3 q4;omega
theorem Lu{a b:N3}{D:Pt}(ha:0<a.2.2)(hb:0<b.2.2)(h:Behind a b D){u v:Pt}(hl:lam D a v<lam D a u):(cr (rl b u) (rl b v)<=0->cr (rl a u) (rl a v)<0)/\(0<=cr (rl a u) (rl a v)->0<cr (rl b u) (rl b v)):=by
 have:=GL ha hb h hl;rw[bZ (rl b u) (rl b v),bZ (rl a u) (rl a v)] at this;omega
def jU(f t:N3)(D u v:Pt):Prop:=
 (lam D f u<=0->0<=lam D f v->lam D f u<lam D f v->cr (rl f u) (rl f v)<=0\/0<=cr (rl t u) (rl t v))/\
 (lam D f v<=0->0<=lam D f u->lam D f v<lam D f u->0<=cr (rl f u) (rl f v)\/cr (rl t u) (rl t v)<=0)
def nu(f t:N3)(D z:Pt):Prop:=lam D f z=0->dt D (rl f z)<=0\/0<=dt D (rl t z)
def CO(a b:N3)(D:Pt):Prop:=a=b\/Behind a b D
theorem Sv{a b:N3}{D:Pt}(ha:0<a.2.2)(hb:0<b.2.2)(h:CO a b D){u v:Pt}(hl:lam D a u<lam D a v):(0<=cr (rl b u) (rl b v)->0<=cr (rl a u) (rl a v))/\(cr (rl a u) (rl a v)<=0->cr (rl b u) (rl b v)<=0):=by
 rcases h with rfl|h
 ·exact⟨id,id⟩
 ·have:=GL ha hb h hl;omega
theorem Sw{a b:N3}{D:Pt}(ha:0<a.2.2)(hb:0<b.2.2)(h:CO a b D){u v:Pt}(hl:lam D a v<lam D a u):(cr (rl b u) (rl b v)<=0->cr (rl a u) (rl a v)<=0)/\(0<=cr (rl a u) (rl a v)->0<=cr (rl b u) (rl b v)):=by
 rcases h with rfl|h
 ·exact⟨id,id⟩
 ·have:=Lu ha hb h hl;omega
theorem Sy{a b:N3}{D:Pt}(ha:0<a.2.2)(hb:0<b.2.2)(h:CO a b D)(z:Pt):(lam D b z<0↔lam D a z<0)/\(0<lam D b z↔0<lam D a z):=by
 rcases h with rfl|h
 ·exact⟨Iff.rfl,Iff.rfl⟩
 ·exact o8 ha hb h z
theorem Lv{f t a b:N3}{D u v:Pt}(hf:0<f.2.2)(ht:0<t.2.2)(ha:0<a.2.2)(hb:0<b.2.2)(h:jU f t D u v)(h1:CO f a D)(h2:Behind a b D)(h3:CO b t D):Lq a b D u v:=by
 have su:=Sy hf ha h1 u;have sv:=Sy hf ha h1 v;have tu:=o8 ha hb h2 u;have tv:=o8 ha hb h2 v;refine⟨fun x y=>?_,fun x y=>?_⟩
 ·change lam D a u<0 at x
  change 0<=lam D a v at y
  rcases h.1 (by omega) (by omega) (by omega) with k|k
  ·exact ae ((Sv hf ha h1 (by omega)).2 k)
  ·exact af ((Sv hb ht h3 (by omega)).1 k)
 ·change lam D a v<0 at x
  change 0<=lam D a u at y
  rcases h.2 (by omega) (by omega) (by omega) with k|k
  ·exact ae ((Sw hf ha h1 (by omega)).2 k)
  ·exact af ((Sw hb ht h3 (by omega)).1 k)
theorem CP{f t q:N3}{D u v:Pt}(hf:0<f.2.2)(ht:0<t.2.2)(hq:0<q.2.2)(h:jU f t D u v)(h1:Behind f q D)(h2:Behind q t D):
  (lam D q u<=0->0<=lam D q v->lam D q u<lam D q v->cr (rl q u) (rl q v)≠0)/\(lam D q v<=0->0<=lam D q u->lam D q v<lam D q u->cr (rl q u) (rl q v)≠0):=by
 have su:=o8 hf hq h1 u;have sv:=o8 hf hq h1 v;refine⟨fun x y z=>?_,fun x y z=>?_⟩
 ·rcases h.1 (by omega) (by omega) (by omega) with k|k
  ·have:=(GL hf hq h1 (u:=u) (v:=v) (by omega)).2 k
   omega
  ·have:=(GL hq ht h2 (u:=u) (v:=v) (by omega)).1 k
   omega
 ·rcases h.2 (by omega) (by omega) (by omega) with k|k
  ·have:=(Lu hf hq h1 (u:=u) (v:=v) (by omega)).2 k
   omega
  ·have:=(Lu hq ht h2 (u:=u) (v:=v) (by omega)).1 k
   omega
def aZ(f t:N3):N3:=(f.1+t.1,f.2.1+t.2.1,f.2.2+t.2.2)
theorem Sz(f t:N3):wv f (aZ f t)=wv f t:=by unfold wv aZ;exact eB (by simp only;grind) (by simp only;grind)
theorem adb(f t:N3):wv (aZ f t) t=wv f t:=by unfold wv aZ;exact eB (by simp only;grind) (by simp only;grind)
theorem x8{f t:N3}(h:aS (wv f t)):Behind f t (wv f t):=by
 rcases h with h|⟨h1,h2⟩
 ·exact ae ⟨h,h,by unfold cr;grind⟩
 ·exact af ⟨h1,h2,h1,h2⟩
theorem GM{f t:N3}(h:aS (wv f t)):Behind f (aZ f t) (wv f t):=by
 unfold Behind;rw[Sz];exact x8 h
theorem Lx{f t:N3}(h:aS (wv f t)):Behind (aZ f t) t (wv f t):=by
 unfold Behind;rw[adb];exact x8 h
theorem wz{F:Pt->Pt->Int}:∀{l:List (Pt×Pt)},(∀e∈l,F e.1 e.2=0)->total F l=0
 |[],_=>rfl
 |e::l,h=>by rw[fE,h e (by simp),wz fun x hx=>h x (bz _ hx)];rfl
theorem o9{F G:Pt->Pt->Int}:∀{l:List (Pt×Pt)},(∀e∈l,F e.1 e.2=G e.1 e.2)->total F l=total G l
 |[],_=>rfl
 |e::l,h=>by rw[fE,fE,h e (by simp),o9 fun x hx=>h x (bz _ hx)]
theorem SA{rg:List (List Pt)}{f t:N3}(hf:0<f.2.2)(ht:0<t.2.2)(hr:aS (wv f t))(hF:∀e∈ag rg,jU f t (wv f t) e.1 e.2):
  PP (ag rg) (aZ f t)=PP (ag rg) f+total (cA f (wv f t)) (ag rg):=by
 have hq:0<(aZ f t).2.2:=by show 0<f.2.2+t.2.2;omega
 have b1:=GM hr;have b2:=Lx hr;have h:=along hf hq b1 (rg:=rg) fun e he=>Lv hf ht hf hq (hF e he) (ae rfl) b1 (af b2)
 have h0:total (cB (aZ f t) (wv f t)) (ag rg)=0:=wz fun e he=>by
  obtain⟨k1,k2⟩:=CP hf ht hq (hF e he) b1 b2;unfold cB;rw[aa (fun⟨x1,_,x2,x3⟩=>k1 (dM x2) x3 (by unfold lam;omega) x1),aa (fun⟨x1,_,x2,x3⟩=>k2 (dM x2) x3 (by unfold lam;omega) x1)]
 omega
theorem ade{rg:List (List Pt)}{f t:N3}(hf:0<f.2.2)(ht:0<t.2.2)(hr:aS (wv f t))(hF:∀e∈ag rg,jU f t (wv f t) e.1 e.2):
  PP (ag rg) (aZ f t)=PP (ag rg) t+total (cB t (wv f t)) (ag rg):=by
 have hq:0<(aZ f t).2.2:=by show 0<f.2.2+t.2.2;omega
 have b1:=GM hr;have b2:=Lx hr;have h:=along hq ht b2 (rg:=rg) fun e he=>Lv hf ht hq ht (hF e he) (af b1) b2 (ae rfl)
 have h0:total (cA (aZ f t) (wv f t)) (ag rg)=0:=wz fun e he=>by
  obtain⟨k1,k2⟩:=CP hf ht hq (hF e he) b1 b2;unfold cA;rw[aa (fun⟨x1,_,x2,x3⟩=>k2 (dM x2) x3 (by unfold lam;omega) x1),aa (fun⟨x1,_,x2,x3⟩=>k1 (dM x2) x3 (by unfold lam;omega) x1)]
 omega
def iA(z:Pt):Bool:=decide (0<z.1\/(z.1=0/\0<z.2))
def au(z w:Pt):Bool:=(iA z&& !iA w)||((iA z == iA w)&&decide (0<cr z w))
def az(z w:Pt):Bool:=decide (cr z w=0)&&decide (0<dt z w)
def neg(D:Pt):Pt:=(-D.1, -D.2)
def bb(b:Bool):Int:=if b then 1 else 0
def arm(Q:Pt->Bool)(n:N3)(u v:Pt):Int:=if on (rl n u) (rl n v) then bb (Q (rl n v))-bb (Q (rl n u)) else 0
def AS(es:List (Pt×Pt))(n:N3)(Q:Pt->Bool):Int:=total (arm Q n) es
def fb(q:N3)(D u v:Pt):Int:=if on (rl q u) (rl q v) then(D.1*(v.1-u.1)+D.2*(v.2-u.2)).sign else 0
theorem lD(r s:Pt):on r s=true↔cr r s=0/\dt r s<=0:=by unfold on;simp
theorem sq_pos{a b:Int}(h:a≠0\/b≠0):0<a*a+b*b:=by
 have k:∀x:Int,0<=x*x:=fun x=>by
  rcases Gj 0 x with h|h
  ·exact iY h h
  ·exact ui h h
 have k':∀x:Int,x≠0->0<x*x:=fun x hx=>by
  rcases fD x 0 with h|h|h
  ·exact Rp h h
  ·exact absurd h hx
  ·exact aU h h
 have a1:=k a;have b1:=k b;rcases h with h|h
 ·have:=k' a h;omega
 ·have:=k' b h;omega
theorem eG{r:Pt}(h:r≠(0,0)):0<dt r r:=by
 refine sq_pos ?_;rcases Classical.em (r.1=0) with h1|h1
 ·exact af fun h2=>h (eB h1 h2)
 ·exact ae h1
theorem Lz{D r:Pt}(h:cr D r≠0):r≠(0,0):=fun e=>h (by rw[e];unfold cr;simp)
theorem uz{D r:Pt}(h:dt D r≠0):r≠(0,0):=fun e=>h (by rw[e];unfold dt;simp)
theorem kM{D:Pt}(h:aS D):D≠(0,0):=fun e=>by
 rw[e] at h;rcases h with h|⟨_,h⟩
 ·exact absurd h (by decide)
 ·exact absurd h (by decide)
theorem uA{D r s:Pt}(h:cr r s=0):cr D s*dt r r=cr D r*dt r s:=by
 unfold cr dt at*
 grind
theorem jb(r s:Pt):dt r s=dt s r:=by unfold dt;grind
theorem zZ{D r s:Pt}(h:cr r s=0)(hl:cr D r<0):dt r s<=0↔0<=cr D s:=by
 have p:=eG (Lz (D:=D) (r:=r) (by omega))
 have e:=uA (D:=D) h;have a1:=neg_mul (z:=cr D s) p;rw[eA] at a1;have a2:=aT (z:=dt r s) (k:= -cr D r) (by omega)
 rw[iG] at a2;omega
theorem SB{D r s:Pt}(h:cr r s=0)(hl:0<cr D r):dt r s<=0↔cr D s<=0:=by
 have p:=eG (Lz (D:=D) (r:=r) (by omega))
 have e:=uA (D:=D) h;have a1:=aT (z:=cr D s) p;rw[eA] at a1;have a2:=aT (z:=dt r s) hl;omega
theorem rZ{r s:Pt}(h:cr r s=0):cr s r=0:=by rw[bZ];omega
theorem GP{D:Pt}(hD:aS D)(z:Pt):au z D=true↔0<z.1/\cr D z<0:=by
 have hd:iA D=true:=by unfold iA;exact iu hD
 have e:cr z D= -cr D z:=bZ D z;unfold au;rw[hd,e];by_cases hz:iA z=true
 ·rw[hz];simp;have hz':=eW (by unfold iA at hz;exact hz)
  intro h;rcases hz' with h1|⟨h1,h2⟩
  ·exact h1
  ·exfalso;rcases hD with h3|⟨h3,h4⟩
   ·have:=aU h3 h2;unfold cr at h;rw[h1] at h;omega
   ·unfold cr at h;rw[h1,h3] at h;omega
 ·have hz0:iA z=false:=by simpa using hz
  rw[hz0];simp;intro h;exfalso;apply hz;unfold iA;exact iu (ae h)
theorem LA{D:Pt}(hD:aS D)(z:Pt):au (neg D) z=true↔z.1<=0/\cr D z<0:=by
 have hd:iA (neg D)=false:=by
  unfold iA neg;refine lZ fun h=>?_
  rcases hD with h3|⟨h3,h4⟩<;>simp only at h<;>omega
 have e:cr (neg D) z= -cr D z:=by unfold cr neg;grind
 unfold au;rw[hd,e];by_cases hz:iA z=true
 ·rw[hz];simp;have hz':=eW (by unfold iA at hz;exact hz)
  intro h1;rcases hz' with h2|⟨h2,h3⟩
  ·omega
  ·unfold cr;rw[h2];rcases hD with h4|⟨h4,h5⟩
   ·have:=aU h4 h3;omega
   ·rw[h4];omega
 ·have hz0:iA z=false:=by simpa using hz
  rw[hz0];simp;have hz':=of_decide_eq_false (by unfold iA at hz0;exact hz0)
  intro h;omega
theorem adf{D:Pt}(hD:aS D)(n:N3)(u v:Pt):cA n D u v=arm (fun z=>au z D) n u v:=by
 unfold cA arm;generalize rl n u=r;generalize rl n v=s;have ar:=GP hD r;have apI:=GP hD s;by_cases hc:cr r s=0
 ·have nr:=lD r s;have k1:cr D s<0->(dt r s<=0↔0<=cr D r):=fun h=>by
   have:=zZ (rZ hc) h;rw[jb] at this;exact this
  have k2:cr D r<0->(dt r s<=0↔0<=cr D s):=fun h=>zZ hc h
  unfold bb;cases h1:au r D<;>cases h2:au s D<;>cases h3:on r s<;>rw[h1] at ar<;>rw[h2] at apI<;>rw[h3] at nr<;>simp only[iZ,reduceIte,false_iff,true_iff] at* <;>repeat' split
  all_goals first |omega |simp_all
 ·have nr:on r s=false:=by
   cases h:on r s
   ·rfl
   ·exact absurd ((lD r s).1 h).1 hc
  rw[nr,aa (by omega),aa (by omega)]
  rfl
theorem adg{D:Pt}(hD:aS D)(n:N3)(u v:Pt):cB n D u v= -arm (fun z=>au (neg D) z) n u v:=by
 unfold cB arm;generalize rl n u=r;generalize rl n v=s;have ar:=LA hD r;have apI:=LA hD s;by_cases hc:cr r s=0
 ·have nr:=lD r s;have k1:cr D s<0->(dt r s<=0↔0<=cr D r):=fun h=>by
   have:=zZ (rZ hc) h;rw[jb] at this;exact this
  have k2:cr D r<0->(dt r s<=0↔0<=cr D s):=fun h=>zZ hc h
  unfold bb;cases h1:au (neg D) r<;>cases h2:au (neg D) s<;>cases h3:on r s<;>rw[h1] at ar<;>rw[h2] at apI<;>rw[h3] at nr<;>simp only[iZ,reduceIte,false_iff,true_iff] at* <;>repeat' split
  all_goals first |omega |simp_all
 ·have nr:on r s=false:=by
   cases h:on r s
   ·rfl
   ·exact absurd ((lD r s).1 h).1 hc
  rw[nr,aa (by omega),aa (by omega)]
  rfl
theorem LB(F:Pt->Pt->Int):∀l:List (Pt×Pt),total (fun u v=> -F u v) l= -total F l
 |[]=>rfl
 |e::l=>by rw[fE,fE,LB F l];omega
theorem adh{rg:List (List Pt)}{f t:N3}(hf:0<f.2.2)(ht:0<t.2.2)(hr:aS (wv f t))(hF:∀e∈ag rg,jU f t (wv f t) e.1 e.2):
  PP (ag rg) (aZ f t)=PP (ag rg) f+AS (ag rg) f (fun z=>au z (wv f t)):=by
 rw[SA hf ht hr hF];unfold AS;rw[o9 fun e _=>adf hr f e.1 e.2]
theorem adi{rg:List (List Pt)}{f t:N3}(hf:0<f.2.2)(ht:0<t.2.2)(hr:aS (wv f t))(hF:∀e∈ag rg,jU f t (wv f t) e.1 e.2):
  PP (ag rg) (aZ f t)=PP (ag rg) t-AS (ag rg) t (fun z=>au (neg (wv f t)) z):=by
 rw[ade hf ht hr hF];unfold AS;have e1:total (cB t (wv f t)) (ag rg)=total (fun u v=> -arm (fun z=>au (neg (wv f t)) z) t u v) (ag rg):=o9 fun e _=>adg hr t e.1 e.2
 rw[e1,LB];omega
theorem kE{z d:Pt}(hz:aS z)(hd:aS d)(h:cr z d=0):0<dt z d:=by
 rcases hz with h1|⟨h1,h2⟩
 ·rcases hd with h3|⟨h3,h4⟩
  ·have e:dt z d*z.1=d.1*dt z z:=by unfold cr at h;unfold dt;grind
   have p:=aU h3 (eG (r:=z) (kM (ae h1)));have k:=aT (z:=dt z d) h1;rw[eA] at k;omega
  ·exfalso;unfold cr at h;rw[h3] at h;have:=aU h1 h4;omega
 ·rcases hd with h3|⟨h3,h4⟩
  ·exfalso;unfold cr at h;rw[h1] at h;have:=aU h2 h3;omega
  ·unfold dt;rw[h1];have:=aU h2 h4;omega
theorem wC(z:Pt):iA z=true↔aS z:=by unfold iA aS;simp
theorem gb{z:Pt}(hz:z≠(0,0))(h:¬aS z):aS (neg z):=by
 unfold aS neg at*;simp only;have:¬(z.1=0/\z.2=0):=fun k=>hz (eB k.1 k.2)
 omega
theorem jI{D:Pt}(h:D≠(0,0)):neg D≠(0,0):=fun e=>h (by
 unfold neg at e;have e1:=aw Prod.fst e;have e2:=aw Prod.snd e;simp only at e1 e2;exact eB (by omega) (by omega))
theorem neg_neg(D:Pt):neg (neg D)=D:=by unfold neg;exact eB (by simp) (by simp)
theorem fF(z d:Pt):cr (neg z) d= -cr z d:=by unfold cr neg;grind
theorem fK(z d:Pt):cr z (neg d)= -cr z d:=by unfold cr neg;grind
theorem r7(z d:Pt):dt (neg z) d= -dt z d:=by unfold dt neg;grind
theorem lF(z d:Pt):dt z (neg d)= -dt z d:=by unfold dt neg;grind
theorem iJ{z d:Pt}(hz:z≠(0,0))(hd:d≠(0,0)):bb (au z d)+bb (az z d)+bb (au d z)=1:=by
 have hs:az z d=true↔cr z d=0/\0<dt z d:=by unfold az;simp
 have e:=bZ z d;by_cases h1:aS z
 ·have r1:=(wC z).2 h1;by_cases h2:aS d
  ·have r2:=(wC d).2 h2;have k:=kE h1 h2;have a1:au z d=decide (0<cr z d):=by unfold au;rw[r1,r2];simp
   have a2:au d z=decide (0<cr d z):=by unfold au;rw[r1,r2];simp
   rw[a1,a2];cases h3:az z d<;>rw[h3] at hs<;>unfold bb<;>simp at* <;>repeat' split
   all_goals omega
  ·have r2:iA d=false:=by cases h:iA d;rfl;exact absurd ((wC d).1 h) h2
   have k:=kE h1 (gb hd h2);rw[fK,lF] at k;have a1:au z d=true:=by unfold au;rw[r1,r2];rfl
   have a2:au d z=false:=by unfold au;rw[r1,r2];rfl
   have a3:az z d=false:=by
    cases h3:az z d
    ·rfl
    ·have:=hs.1 h3;have:=k (by omega)
     omega
   rw[a1,a2,a3];rfl
 ·have r1:iA z=false:=by cases h:iA z;rfl;exact absurd ((wC z).1 h) h1
  by_cases h2:aS d
  ·have r2:=(wC d).2 h2;have k:=kE (gb hz h1) h2;rw[fF,r7] at k;have a1:au z d=false:=by unfold au;rw[r1,r2];rfl
   have a2:au d z=true:=by unfold au;rw[r1,r2];rfl
   have a3:az z d=false:=by
    cases h3:az z d
    ·rfl
    ·have:=hs.1 h3;have:=k (by omega)
     omega
   rw[a1,a2,a3];rfl
  ·have r2:iA d=false:=by cases h:iA d;rfl;exact absurd ((wC d).1 h) h2
   have k:=kE (gb hz h1) (gb hd h2);rw[fF,r7,fK,lF] at k;have a1:au z d=decide (0<cr z d):=by unfold au;rw[r1,r2];simp
   have a2:au d z=decide (0<cr d z):=by unfold au;rw[r1,r2];simp
   rw[a1,a2];cases h3:az z d<;>rw[h3] at hs<;>unfold bb<;>simp at* <;>repeat' split
   all_goals omega
def nz(z:Pt):Bool:=decide (z≠(0,0))
theorem z8(z:Pt):cr (0,0) z=0/\cr z (0,0)=0/\dt (0,0) z=0/\dt z (0,0)=0:=by unfold cr dt;simp
theorem r8(r s:Pt)(h:r=(0,0)\/s=(0,0)):on r s=true:=by
 rw[lD];rcases h with h|h<;>rw[h]
 ·have:=z8 s;omega
 ·have:=z8 r;omega
theorem LC(rg:List (List Pt))(n:N3):AS (ag rg) n nz=0:=by
 refine Lr _ (fun z=> -bb (nz (rl n z))) (fun a=>?_) rg fun e _=>?_
 ·unfold arm;split<;>omega
 ·unfold arm;cases h:on (rl n e.1) (rl n e.2)
  ·have h1:nz (rl n e.1)=true:=iu fun k=>by rw[r8 _ _ (ae k)] at h;cases h
   have h2:nz (rl n e.2)=true:=iu fun k=>by rw[r8 _ _ (af k)] at h;cases h
   rw[h1,h2];simp
  ·simp only[reduceIte];omega
theorem CQ{es:List (Pt×Pt)}{n:N3}{Q Q1 Q2:Pt->Bool}(h:∀z,bb (Q z)=bb (Q1 z)+bb (Q2 z)):AS es n Q=AS es n Q1+AS es n Q2:=by
 unfold AS;rw[<-GK];refine o9 fun e _=>?_
 unfold arm;rw[h,h];split<;>omega
theorem GQ{es:List (Pt×Pt)}{n:N3}{Q Q':Pt->Bool}(h:∀e∈es,on (rl n e.1) (rl n e.2)=true->Q (rl n e.1)=Q' (rl n e.1)/\Q (rl n e.2)=Q' (rl n e.2)):AS es n Q=AS es n Q':=by
 refine o9 fun e he=>?_
 unfold arm;cases h1:on (rl n e.1) (rl n e.2)
 ·rfl
 ·obtain⟨k1,k2⟩:=h e he h1;rw[k1,k2]
def dA(es:List (Pt×Pt))(n:N3)(d:Pt):Int:=PP es n+AS es n (fun z=>nz z&&au z d)
def eI(es:List (Pt×Pt))(n:N3)(d:Pt):Int:=dA es n d+AS es n (fun z=>az z d)
theorem SC{z d:Pt}(h:aS d):(nz z&&au z d)=au z d:=by
 unfold nz;by_cases hz:z=(0,0)
 ·have:au z d=false:=by
   cases hk:au z d
   ·rfl
   ·have:=(GP h z).1 hk;rw[hz] at this;simp at this
  rw[this];simp
 ·simp[hz]
theorem Aa(d:Pt):az (0,0) d=false:=by
 unfold az;rw[(z8 d).2.2.1];simp
theorem adj{d:Pt}(h:aS d):au (neg d) (0,0)=false:=by
 cases hk:au (neg d) (0,0)
 ·rfl
 ·have:=(LA h (0,0)).1 hk;have:=(z8 d).2.1;omega
theorem adk{rg:List (List Pt)}{n:N3}{d:Pt}(h:aS d):
  AS (ag rg) n (fun z=>nz z&&au z (neg d))+AS (ag rg) n (fun z=>az z (neg d))= -AS (ag rg) n (fun z=>au (neg d) z):=by
 have e1:AS (ag rg) n nz=AS (ag rg) n (fun z=>nz z&&(au z (neg d)||az z (neg d)))+AS (ag rg) n (fun z=>au (neg d) z):=by
  refine CQ fun z=>?_
  by_cases hz:z=(0,0)
  ·rw[hz,adj h];rfl
  ·have k:=iJ hz (jI (kM h));have:nz z=true:=iu hz;rw[this];unfold bb at*;revert k;cases au z (neg d)<;>cases az z (neg d)<;>cases au (neg d) z<;>decide
 have e2:AS (ag rg) n (fun z=>nz z&&(au z (neg d)||az z (neg d)))=AS (ag rg) n (fun z=>nz z&&au z (neg d))+AS (ag rg) n (fun z=>az z (neg d)):=by
  refine CQ fun z=>?_
  by_cases hz:z=(0,0)
  ·rw[hz,Aa];rfl
  ·have k:=iJ hz (jI (kM h));have:nz z=true:=iu hz;rw[this];unfold bb at*;revert k;cases au z (neg d)<;>cases az z (neg d)<;>cases au (neg d) z<;>decide
 have:=LC rg n;omega
end Go.Proofs.YtkjhhooecopolaaGreatDoor.Ga
