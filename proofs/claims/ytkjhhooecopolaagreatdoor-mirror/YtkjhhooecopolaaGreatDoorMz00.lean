import Derived.Test.YtkjhhooecopolaaGreatDoorMza
import Derived.Laws.ComplexArith
set_option maxRecDepth 100000
set_option maxHeartbeats 4000000
namespace Go.Proofs.YtkjhhooecopolaaGreatDoor.Ge
abbrev Pt:=Int×Int
def rel(n:Pt)(d:Int)(a:Pt):Pt:=(d*a.1-n.1,d*a.2-n.2)
def cr(u v:Pt):Int:=u.1*v.2-u.2*v.1
def dt(u v:Pt):Int:=u.1*v.1+u.2*v.2
def on(u v:Pt):Bool:=decide (cr u v=0)&&decide (dt u v<=0)
def right(u v:Pt):Int:=if u.1<=0/\0<v.1/\0<cr u v then 1 else if 0<u.1/\v.1<=0/\cr u v<0 then -1 else 0
def up(u v:Pt):Int:=if u.1<=0/\0<v.1/\cr u v<0 then -1 else if v.1<=0/\0<u.1/\0<cr u v then 1 else 0
def q(u:Pt):Int:=if 0<u.1 then 1 else 0
theorem acv{a b:Int}(ha:0<a)(hb:0<b):0<a*b:=aP ha hb
theorem Rn{a b:Int}(ha:a<=0)(hb:0<b):a*b<=0:=FI ha (dH hb)
theorem Ro{a b c d:Int}(h:a*d-b*c=0)(ha:a<=0)(hc:0<c):a*c+b*d<=0:=by
 have e:c*(a*c+b*d)=a*(c*c+d*d):=by
  have e1:b*c=a*d:=by omega
  calc c*(a*c+b*d)=a*(c*c)+d*(b*c):=by grind
   _=a*(c*c+d*d):=by rw[e1];grind
 have hq:0<c*c+d*d:=by
  have h1:=aP hc hc;have h2:0<=d*d:=by
   rcases FJ 0 d with h|h
   ·exact iO h h
   ·exact tU h h
  omega
 have h3:=Rn ha hq;rw[<-e] at h3;rcases(show a*c+b*d<=0\/0<a*c+b*d by omega) with h4|h4
 ·exact h4
 ·have:=acv hc h4;omega
theorem step(u v:Pt)(h:on u v=false):right u v-up u v=q v-q u:=by
 obtain⟨a,b⟩:=u;obtain⟨c,d⟩:=v;have mP:¬(a*d-b*c=0/\a*c+b*d<=0):=by
  rintro⟨h1,h2⟩;have:on (a,b) (c,d)=true:=by simp only[on,cr,dt,h1,h2,decide_true,Bool.and_self]
  rw[this] at h;cases h
 have k1:∀(_:a<=0)(_:0<c),a*d-b*c≠0:=fun ha hc e=>mP ⟨e,Ro e ha hc⟩
 have k2:∀(_:0<a)(_:c<=0),a*d-b*c≠0:=fun ha hc e=>mP ⟨e,by
  have:=Ro (a:=c) (b:=d) (c:=a) (d:=b) (by grind) hc ha
  rw[dX c a,dX d b] at this;exact this⟩
 simp only[right,up,q,cr];clear mP;rcases(show a<=0\/0<a by omega) with ha|ha<;>rcases(show c<=0\/0<c by omega) with hc|hc
 ·repeat' split
  all_goals omega
 ·have:=k1 ha hc
  repeat' split
  all_goals omega
 ·have:=k2 ha hc
  repeat' split
  all_goals omega
 ·repeat' split
  all_goals omega
def closing:List Pt->List (Pt×Pt)
 |[]=>[]
 |a::r=>(a::r).zip (r++[a])
def fH(g:List Pt):List (Pt×Pt):=(closing g).filter fun e=>decide (e.1≠e.2)
def aa(rg:List (List Pt)):List (Pt×Pt):=rg.flatMap fH
def total(f:Pt->Pt->Int)(l:List (Pt×Pt)):Int:=(l.map fun e=>f e.1 e.2).sum
theorem zx(f:Pt->Pt->Int):total f []=0:=rfl
theorem fq(f:Pt->Pt->Int)(e:Pt×Pt)(l:List (Pt×Pt)):total f (e::l)=f e.1 e.2+total f l:=by simp[total]
theorem Cb(f:Pt->Pt->Int)(l k:List (Pt×Pt)):total f (l++k)=total f l+total f k:=by
 induction l with
 |nil=>simp[total]
 |cons e l ih=>rw[lN,fq,fq,ih];omega
theorem KS(f g:Pt->Pt->Int)(k:Pt->Int):∀(r:List Pt)(a z:Pt),(∀p,p∈(a::r).zip (r++[z])->f p.1 p.2-g p.1 p.2=k p.2-k p.1)->
  total f ((a::r).zip (r++[z]))-total g ((a::r).zip (r++[z]))=k z-k a
 |[],a,z,h=>by
  have h1:=h (a,z) (by simp)
  simp only[vA,FK,List.zip_nil_left,fq,zx];simp only at h1;omega
 |b::r,a,z,h=>by
  have h1:=h (a,b) (by simp)
  have h2:=KS f g k r b z (fun p hp=>h p (by
   rw[lN,FK];exact bn _ hp))
  rw[lN,FK,fq,fq];simp only at h1⊢;omega
theorem KT(f:Pt->Pt->Int)(hf:∀a,f a a=0)(l:List (Pt×Pt)):total f (l.filter fun e=>decide (e.1≠e.2))=total f l:=by
 induction l with
 |nil=>rfl
 |cons e l ih=>
  rw[abJ];by_cases h:e.1=e.2
  ·rw[if_neg (by simp[h]),ih,fq,h,hf];omega
  ·rw[if_pos (by simp[h]),fq,fq,ih]
def fr(n:Pt)(d:Int)(a b:Pt):Int:=right (rel n d a) (rel n d b)
def fu(n:Pt)(d:Int)(a b:Pt):Int:=up (rel n d a) (rel n d b)
def fo(n:Pt)(d:Int)(e:Pt×Pt):Bool:=on (rel n d e.1) (rel n d e.2)
theorem Rp(n:Pt)(d:Int)(a:Pt):fr n d a a=0:=by
 unfold fr right;rw[if_neg (by omega),if_neg (by omega)]
theorem Rq(n:Pt)(d:Int)(a:Pt):fu n d a a=0:=by
 unfold fu up;rw[if_neg (by omega),if_neg (by omega)]
theorem acw(n:Pt)(d:Int)(g:List Pt)(h:∀e,e∈fH g->fo n d e=false):total (fr n d) (fH g)=total (fu n d) (fH g):=by
 unfold fH at*;rw[KT _ (Rp n d),KT _ (Rq n d)];cases g with
 |nil=>rfl
 |cons a r=>
  have key:=KS (fr n d) (fu n d) (fun p=>q (rel n d p)) r a a (fun p hp=>by
   by_cases he:p.1=p.2
   ·rw[he,Rp,Rq];omega
   ·exact step _ _ (h p (jw.2 ⟨hp,by simp[he]⟩)))
  have e:closing (a::r)=(a::r).zip (r++[a]):=rfl;rw[e];omega
theorem Ru(n:Pt)(d:Int):∀(rg:List (List Pt)),(∀e,e∈aa rg->fo n d e=false)->total (fr n d) (aa rg)=total (fu n d) (aa rg)
 |[],_=>rfl
 |g::rg,h=>by
  have e:aa (g::rg)=fH g++aa rg:=tV;rw[e] at h⊢;rw[Cb,Cb,acw n d g (fun e he=>h e (vB _ he)),
   Ru n d rg (fun e he=>h e (BH _ he))]
end Go.Proofs.YtkjhhooecopolaaGreatDoor.Ge
namespace Go.Proofs.YtkjhhooecopolaaGreatDoor.Ga
open Ge
def oL(u v:Pt):Int:=if cr u v=0/\0<v.1/\v.2<0/\0<=u.2 then 1 else if cr u v=0/\0<u.1/\u.2<0/\0<=v.2 then -1 else 0
def oM(u v:Pt):Int:=if cr u v=0/\u.1<=0/\u.2<0/\0<=v.2 then 1 else if cr u v=0/\v.1<=0/\v.2<0/\0<=u.2 then -1 else 0
def rK(w:Int)(u:Pt):Int:=if 0<u.1/\u.1<=w/\u.2<0 then 1 else 0
def sh(w:Int)(u:Pt):Pt:=(u.1-w,u.2)
def bi(p:Prop)[Decidable p]:Int:=if p then 1 else 0
def Cc(w:Int)(u v:Pt):Prop:=
 (u.2<0->0<=v.2->cr u v<=0\/0<=cr (sh w u) (sh w v))/\(v.2<0->0<=u.2->0<=cr u v\/cr (sh w u) (sh w v)<=0)
theorem bU(u v:Pt):cr v u= -cr u v:=by unfold cr;grind
theorem F9(u v:Pt):right v u= -right u v:=by
 unfold right;rw[bU u v]
 repeat' split
 all_goals omega
theorem acx(u v:Pt):oL v u= -oL u v:=by
 unfold oL;rw[bU u v]
 repeat' split
 all_goals omega
theorem acy(u v:Pt):oM v u= -oM u v:=by
 unfold oM;rw[bU u v]
 repeat' split
 all_goals omega
theorem upA{u v:Pt}(h1:u.2<0)(h2:0<=v.2):right u v+oL u v=bi (u.1<=0)-bi (cr u v<=0):=by
 have f1:u.1<=0->0<cr u v->0<v.1:=fun a b=>by
  apply Int.not_le.1;intro h;have k1:u.1*v.2<=0:=FI a h2;have k2:0<=u.2*v.1:=tU (by omega) h
  unfold cr at b;omega
 have f2:0<u.1->cr u v<=0->v.1<=0:=fun a b=>by
  apply BI.1;intro h;have k1:0<=u.1*v.2:=iO (by omega) h2
  have k2:u.2*v.1<0:=Kq h1 h;unfold cr at b;omega
 unfold right oL bi
 repeat' split
 all_goals omega
theorem upB{u v:Pt}(h1:u.2<0)(h2:0<=v.2):right u v+oM u v=bi (u.1<=0)-bi (cr u v<0):=by
 have f1:u.1<=0->0<cr u v->0<v.1:=fun a b=>by
  apply Int.not_le.1;intro h;have k1:u.1*v.2<=0:=FI a h2;have k2:0<=u.2*v.1:=tU (by omega) h
  unfold cr at b;omega
 have f2:0<u.1->cr u v<=0->v.1<=0:=fun a b=>by
  apply BI.1;intro h;have k1:0<=u.1*v.2:=iO (by omega) h2
  have k2:u.2*v.1<0:=Kq h1 h;unfold cr at b;omega
 unfold right oM bi
 repeat' split
 all_goals omega
theorem Rv{w:Int}(hw:0<w){u v:Pt}(h:Cc w u v)(h1:u.2<0)(h2:0<=v.2):right (sh w u) (sh w v)+oM (sh w u) (sh w v)-right u v-oL u v=rK w u-rK w v:=by
 have a:=upA h1 h2;have b:=upB (u:=sh w u) (v:=sh w v) h1 h2;have c:=h.1 h1 h2;have e1:rK w u=bi (u.1<=w)-bi (u.1<=0):=by
  unfold rK bi
  repeat' split
  all_goals omega
 have e2:rK w v=0:=if_neg (by omega)
 have e3:bi ((sh w u).1<=0)=bi (u.1<=w):=by
  have:(sh w u).1=u.1-w:=rfl;unfold bi
  repeat' split
  all_goals omega
 have e4:bi (cr u v<=0)=bi (cr (sh w u) (sh w v)<0):=by
  have:cr (sh w u) (sh w v)=cr u v-w*(v.2-u.2):=by unfold cr sh;grind
  have k:0<w*(v.2-u.2):=aP hw (by omega)
  unfold bi
  repeat' split
  all_goals omega
 rw[e1,e2];omega
theorem acB{w:Int}(hw:0<w){u v:Pt}(h:Cc w u v):right (sh w u) (sh w v)+oM (sh w u) (sh w v)-right u v-oL u v=rK w u-rK w v:=by
 by_cases h1:u.2<0
 ·by_cases h2:v.2<0
  ·have key:∀t:Int,right (sh t u) (sh t v)=bi (u.1<=t)-bi (v.1<=t):=fun t=>by
    have a1:u.1<=t->t<v.1->0<cr (sh t u) (sh t v):=fun a b=>by
     have k1:0<=(u.1-t)*v.2:=tU (by omega) (by omega)
     have k2:u.2*(v.1-t)<0:=Kq h1 (by omega)
     show 0<(u.1-t)*v.2-u.2*(v.1-t);omega
    have a2:t<u.1->v.1<=t->cr (sh t u) (sh t v)<0:=fun a b=>by
     have k1:(u.1-t)*v.2<0:=vC (by omega) h2
     have k2:0<=u.2*(v.1-t):=tU (by omega) (by omega)
     show(u.1-t)*v.2-u.2*(v.1-t)<0;omega
    have b1:(sh t u).1=u.1-t:=rfl;have b2:(sh t v).1=v.1-t:=rfl;unfold right bi
    repeat' split
    all_goals omega
   have s0:∀z:Pt,sh 0 z=z:=fun z=>by unfold sh;rw[za]
   have k0:=key 0;rw[s0,s0] at k0;have e1:oM (sh w u) (sh w v)=0:=by
    have b1:(sh w u).2=u.2:=rfl;have b2:(sh w v).2=v.2:=rfl;unfold oM;rw[if_neg (by omega),if_neg (by omega)]
   have e2:oL u v=0:=by
    unfold oL;rw[if_neg (by omega),if_neg (by omega)]
   rw[key w,k0,e1,e2];unfold rK bi
   repeat' split
   all_goals omega
  ·exact Rv hw h h1 (by omega)
 ·by_cases h2:v.2<0
  ·have h':Cc w v u:=by
    refine⟨fun a b=>?_,fun a b=>?_⟩
    ·have:=h.2 a b;rw[bU u v,bU (sh w u) (sh w v)];omega
    ·have:=h.1 a b;rw[bU u v,bU (sh w u) (sh w v)];omega
   have:=Rv hw h' h2 (by omega)
   rw[F9 u v,acx u v,F9 (sh w u) (sh w v),acy (sh w u) (sh w v)] at this;omega
  ·have key:∀t:Int,right (sh t u) (sh t v)=0:=fun t=>by
    have a1:u.1<=t->t<v.1->¬0<cr (sh t u) (sh t v):=fun a b=>by
     have k1:(u.1-t)*v.2<=0:=FI (by omega) (by omega)
     have k2:0<=u.2*(v.1-t):=iO (by omega) (by omega)
     show ¬0<(u.1-t)*v.2-u.2*(v.1-t);omega
    have a2:t<u.1->v.1<=t->¬cr (sh t u) (sh t v)<0:=fun a b=>by
     have k1:0<=(u.1-t)*v.2:=iO (by omega) (by omega)
     have k2:u.2*(v.1-t)<=0:=ane (by omega) (by omega)
     show ¬(u.1-t)*v.2-u.2*(v.1-t)<0;omega
    have b1:(sh t u).1=u.1-t:=rfl;have b2:(sh t v).1=v.1-t:=rfl;unfold right
    repeat' split
    all_goals omega
   have s0:∀z:Pt,sh 0 z=z:=fun z=>by unfold sh;rw[za]
   have k0:=key 0;rw[s0,s0] at k0;have e1:oM (sh w u) (sh w v)=0:=by
    have b1:(sh w u).2=u.2:=rfl;have b2:(sh w v).2=v.2:=rfl;unfold oM;rw[if_neg (by omega),if_neg (by omega)]
   have e2:oL u v=0:=by
    unfold oL;rw[if_neg (by omega),if_neg (by omega)]
   rw[key w,k0,e1,e2];unfold rK;rw[if_neg (by omega),if_neg (by omega)]
   omega
def rl(n:Int×Int×Int)(z:Pt):Pt:=rel (n.1,n.2.1) n.2.2 z
def wv(a b:Int×Int×Int):Pt:=(a.2.2*b.1-b.2.2*a.1,a.2.2*b.2.1-b.2.2*a.2.1)
def aN(D:Pt):Prop:=0<D.1\/(D.1=0/\0<D.2)
def cA(n:Int×Int×Int)(D:Pt)(u v:Pt):Int:=
 if cr (rl n u) (rl n v)=0/\0<(rl n v).1/\cr D (rl n v)<0/\0<=cr D (rl n u) then 1
 else if cr (rl n u) (rl n v)=0/\0<(rl n u).1/\cr D (rl n u)<0/\0<=cr D (rl n v) then -1 else 0
def cB(n:Int×Int×Int)(D:Pt)(u v:Pt):Int:=
 if cr (rl n u) (rl n v)=0/\(rl n u).1<=0/\cr D (rl n u)<0/\0<=cr D (rl n v) then 1
 else if cr (rl n u) (rl n v)=0/\(rl n v).1<=0/\cr D (rl n v)<0/\0<=cr D (rl n u) then -1 else 0
def KU(a b:Int×Int×Int)(D u v:Pt):Prop:=
 (cr D (rl a u)<0->0<=cr D (rl a v)->cr (rl a u) (rl a v)<=0\/0<=cr (rl b u) (rl b v))/\(cr D (rl a v)<0->0<=cr D (rl a u)->0<=cr (rl a u) (rl a v)\/cr (rl b u) (rl b v)<=0)
def Behind(a b:Int×Int×Int)(D:Pt):Prop:=(0<D.1/\0<(wv a b).1/\cr D (wv a b)=0)\/(D.1=0/\0<D.2/\(wv a b).1=0/\0<(wv a b).2)
def tr(D r:Pt):Pt:=(r.1,cr D r)
def sc(k:Int)(u:Pt):Pt:=(k*u.1,k*u.2)
theorem Ce(D r s:Pt):cr (tr D r) (tr D s)=D.1*cr r s:=by unfold tr cr;grind
theorem Cf(k:Int)(r s:Pt):cr (sc k r) (sc k s)=k*k*cr r s:=by unfold sc cr;grind
theorem aO{k z:Int}(hk:0<k):0<k*z↔0<z:=by
 constructor
 ·intro h;exact Int.pos_of_mul_pos_right (a:=k) h |> fun h=>by
   rcases fk z 0 with h1|h1|h1
   ·have:=vC hk h1;omega
   ·subst h1;simp at*
   ·exact h1
 ·exact aP hk
theorem neg_mul{k z:Int}(hk:0<k):k*z<0↔z<0:=by
 have:=aO (z:= -z) hk;rw[xg] at this;omega
theorem dU{k z:Int}(hk:0<k):k*z=0↔z=0:=by
 have h1:=aO (z:=z) hk;have h2:=neg_mul (z:=z) hk;omega
theorem kB(a b:Int×Int×Int)(z:Pt):a.2.2*(rl b z).1=b.2.2*(rl a z).1-(wv a b).1/\a.2.2*(rl b z).2=b.2.2*(rl a z).2-(wv a b).2:=by
 unfold rl rel wv;constructor<;>grind
theorem Rw{D:Pt}(hD:0<D.1)(r s:Pt):right (tr D r) (tr D s)=right r s:=by
 have h1:=aO (z:=cr r s) hD;have h2:=neg_mul (z:=cr r s) hD;unfold right;rw[Ce];have e1:(tr D r).1=r.1:=rfl;have e2:(tr D s).1=s.1:=rfl;rw[e1,e2]
 repeat' split
 all_goals omega
theorem zy{k:Int}(hk:0<k)(r s:Pt):right (sc k r) (sc k s)=right r s:=by
 have hkk:=aP hk hk;have h1:=aO (z:=cr r s) hkk;have h2:=neg_mul (z:=cr r s) hkk;have a1:=aO (z:=r.1) hk;have a2:=aO (z:=s.1) hk;unfold right;rw[Cf];have e1:(sc k r).1=k*r.1:=rfl;have e2:(sc k s).1=k*s.1:=rfl;rw[e1,e2]
 repeat' split
 all_goals omega
theorem acC{n:Int×Int×Int}{D:Pt}(hD:0<D.1){k:Int}(hk:0<k)(u v:Pt):oL (sc k (tr D (rl n u))) (sc k (tr D (rl n v)))=cA n D u v:=by
 have hkk:=aP (aP hk hk) hD;have h1:=dU (z:=cr (rl n u) (rl n v)) hkk;have a1:=aO (z:=(rl n u).1) hk;have a2:=aO (z:=(rl n v).1) hk;have b1:=neg_mul (z:=cr D (rl n u)) hk;have b2:=neg_mul (z:=cr D (rl n v)) hk;unfold oL cA;rw[Cf,Ce];have e0:k*k*(D.1*cr (rl n u) (rl n v))=k*k*D.1*cr (rl n u) (rl n v):=by grind
 have e1:(sc k (tr D (rl n u))).1=k*(rl n u).1:=rfl;have e2:(sc k (tr D (rl n v))).1=k*(rl n v).1:=rfl;have e3:(sc k (tr D (rl n u))).2=k*cr D (rl n u):=rfl;have e4:(sc k (tr D (rl n v))).2=k*cr D (rl n v):=rfl;rw[e0,e1,e2,e3,e4]
 repeat' split
 all_goals omega
theorem acD{n:Int×Int×Int}{D:Pt}(hD:0<D.1){k:Int}(hk:0<k)(u v:Pt):oM (sc k (tr D (rl n u))) (sc k (tr D (rl n v)))=cB n D u v:=by
 have hkk:=aP (aP hk hk) hD;have h1:=dU (z:=cr (rl n u) (rl n v)) hkk;have a1:=aO (z:=(rl n u).1) hk;have a2:=aO (z:=(rl n v).1) hk;have b1:=neg_mul (z:=cr D (rl n u)) hk;have b2:=neg_mul (z:=cr D (rl n v)) hk;unfold oM cB;rw[Cf,Ce];have e0:k*k*(D.1*cr (rl n u) (rl n v))=k*k*D.1*cr (rl n u) (rl n v):=by grind
 have e1:(sc k (tr D (rl n u))).1=k*(rl n u).1:=rfl;have e2:(sc k (tr D (rl n v))).1=k*(rl n v).1:=rfl;have e3:(sc k (tr D (rl n u))).2=k*cr D (rl n u):=rfl;have e4:(sc k (tr D (rl n v))).2=k*cr D (rl n v):=rfl;rw[e0,e1,e2,e3,e4]
 repeat' split
 all_goals omega
def Cg(a b:Int×Int×Int)(D z:Pt):Int:=if D.1=0 then 0 else rK (wv a b).1 (sc b.2.2 (tr D (rl a z)))
theorem acE{a b:Int×Int×Int}{D:Pt}(ha:0<a.2.2)(hb:0<b.2.2)(hB:Behind a b D){u v:Pt}(hF:KU a b D u v):
  right (rl b u) (rl b v)+cB b D u v-right (rl a u) (rl a v)-cA a D u v=Cg a b D u-Cg a b D v:=by
 rcases hB with⟨hD,hW,hp⟩|⟨hD,vG,hW,hW2⟩
 ·have hs:∀z,sh (wv a b).1 (sc b.2.2 (tr D (rl a z)))=sc a.2.2 (tr D (rl b z)):=fun z=>by
   obtain⟨e1,e2⟩:=kB a b z;refine dY ?_ ?_
   ·show b.2.2*(rl a z).1-(wv a b).1=a.2.2*(rl b z).1;omega
   ·show b.2.2*(D.1*(rl a z).2-D.2*(rl a z).1)=a.2.2*(D.1*(rl b z).2-D.2*(rl b z).1);unfold cr at hp;have k1:a.2.2*(D.1*(rl b z).2-D.2*(rl b z).1)=D.1*(a.2.2*(rl b z).2)-D.2*(a.2.2*(rl b z).1):=by grind
    rw[k1,e1,e2]
    grind
  have c1:cr (sc b.2.2 (tr D (rl a u))) (sc b.2.2 (tr D (rl a v)))=b.2.2*b.2.2*D.1*cr (rl a u) (rl a v):=by rw[Cf,Ce];grind
  have c2:cr (sc a.2.2 (tr D (rl b u))) (sc a.2.2 (tr D (rl b v)))=a.2.2*a.2.2*D.1*cr (rl b u) (rl b v):=by rw[Cf,Ce];grind
  have p1:=aP (aP hb hb) hD;have p2:=aP (aP ha ha) hD;have q1:=aO (z:=cr (rl a u) (rl a v)) p1;have q2:=neg_mul (z:=cr (rl a u) (rl a v)) p1;have q3:=aO (z:=cr (rl b u) (rl b v)) p2;have q4:=neg_mul (z:=cr (rl b u) (rl b v)) p2;have s1:=neg_mul (z:=cr D (rl a u)) hb;have s2:=neg_mul (z:=cr D (rl a v)) hb;have hfree:Cc (wv a b).1 (sc b.2.2 (tr D (rl a u))) (sc b.2.2 (tr D (rl a v))):=by
   unfold Cc;rw[hs,hs,c1,c2];have e3:(sc b.2.2 (tr D (rl a u))).2=b.2.2*cr D (rl a u):=rfl;have e4:(sc b.2.2 (tr D (rl a v))).2=b.2.2*cr D (rl a v):=rfl;rw[e3,e4];obtain⟨f1,f2⟩:=hF;constructor
   ·intro x y;have:=f1 (by omega) (by omega)
    omega
   ·intro x y;have:=f2 (by omega) (by omega)
    omega
  have key:=acB hW hfree;rw[hs,hs,zy ha,Rw hD,zy hb,Rw hD,acC hD hb,acD hD ha] at key;unfold Cg;rw[if_neg (by omega),if_neg (by omega)]
  exact key
 ·unfold Cg;rw[if_pos hD,if_pos hD];obtain⟨e1,e2⟩:=kB a b u;obtain⟨e3,e4⟩:=kB a b v;rw[hW] at e1 e3;have x1:=aO (z:=(rl b u).1) ha;have x2:=aO (z:=(rl b v).1) ha;have x3:=aO (z:=(rl a u).1) hb;have x4:=aO (z:=(rl a v).1) hb;have l1:cr D (rl a u)= -(D.2*(rl a u).1):=by unfold cr;rw[hD];omega
  have l2:cr D (rl a v)= -(D.2*(rl a v).1):=by unfold cr;rw[hD];omega
  have l3:cr D (rl b u)= -(D.2*(rl b u).1):=by unfold cr;rw[hD];omega
  have l4:cr D (rl b v)= -(D.2*(rl b v).1):=by unfold cr;rw[hD];omega
  have y1:=aO (z:=(rl a u).1) vG;have y2:=aO (z:=(rl a v).1) vG;have y3:=aO (z:=(rl b u).1) vG;have y4:=aO (z:=(rl b v).1) vG;have ec:a.2.2*a.2.2*cr (rl b u) (rl b v)=b.2.2*b.2.2*cr (rl a u) (rl a v)+b.2.2*(wv a b).2*((rl a v).1-(rl a u).1):=by
   have k:a.2.2*a.2.2*cr (rl b u) (rl b v)=(a.2.2*(rl b u).1)*(a.2.2*(rl b v).2)-(a.2.2*(rl b u).2)*(a.2.2*(rl b v).1):=by unfold cr;grind
   rw[k,e1,e2,e3,e4];unfold cr
   grind
  have p1:=aP ha ha;have p2:=aP hb hb;have p3:=aP hb hW2;have q1:=aO (z:=cr (rl a u) (rl a v)) p2;have q2:=neg_mul (z:=cr (rl a u) (rl a v)) p2;have q3:=aO (z:=cr (rl b u) (rl b v)) p1;have q4:=neg_mul (z:=cr (rl b u) (rl b v)) p1;have r1:=aO (z:=(rl a v).1-(rl a u).1) p3;have r2:=neg_mul (z:=(rl a v).1-(rl a u).1) p3;obtain⟨f1,f2⟩:=hF;rw[l1,l2] at f1 f2;unfold right cA cB;rw[l1,l2,l3,l4];generalize cr (rl a u) (rl a v)=ca at*;generalize cr (rl b u) (rl b v)=cb at*;generalize(rl a u).1=xu at*;generalize(rl a v).1=xv at*;generalize(rl b u).1=zz at*;generalize(rl b v).1=zA at*;generalize D.2*xu=lu at*;generalize D.2*xv=lv at*;generalize D.2*zz=Rx at*;generalize D.2*zA=vH at*;generalize b.2.2*(wv a b).2*(xv-xu)=K at*;generalize a.2.2*a.2.2*cb=CB at*;generalize b.2.2*b.2.2*ca=CA at*;generalize a.2.2*zz=AU at*;generalize a.2.2*zA=AV at*;generalize b.2.2*xu=BU at*;generalize b.2.2*xv=BV at*;clear e2 e4 l1 l2 l3 l4 p1 p2 p3 hW hW2 hD vG;have hx1:0<xu↔0<zz:=by omega
  have hx2:0<xv↔0<zA:=by omega
  clear x1 x2 x3 x4 e1 e3;rw[if_neg (show ¬(cb=0/\zz<=0/\ -Rx<0/\0<= -vH) by omega),if_neg (show ¬(cb=0/\zA<=0/\ -vH<0/\0<= -Rx) by omega)]
  by_cases h1:0<xu<;>by_cases h2:0<xv
  ·rw[if_neg (by omega),if_neg (by omega),if_neg (by omega),if_neg (by omega),if_neg (by omega),if_neg (by omega)]
   rfl
  ·rw[if_neg (show ¬(zz<=0/\0<zA/\0<cb) by omega),if_neg (show ¬(xu<=0/\0<xv/\0<ca) by omega),if_neg (show ¬(ca=0/\0<xv/\ -lv<0/\0<= -lu) by omega)]
   clear y3 y4
   repeat' split
   all_goals omega
  ·rw[if_neg (show ¬(0<zz/\zA<=0/\cb<0) by omega),if_neg (show ¬(0<xu/\xv<=0/\ca<0) by omega),if_neg (show ¬(ca=0/\0<xu/\ -lu<0/\0<= -lv) by omega)]
   clear y3 y4
   repeat' split
   all_goals omega
  ·rw[if_neg (by omega),if_neg (by omega),if_neg (by omega),if_neg (by omega),if_neg (by omega),if_neg (by omega)]
   rfl
theorem KV(F:Pt->Pt->Int)(k:Pt->Int)(hs:∀a,F a a=0):∀(rg:List (List Pt)),(∀e∈aa rg,F e.1 e.2=k e.1-k e.2)->total F (aa rg)=0
 |[],_=>rfl
 |g::rg,h=>by
  have e:aa (g::rg)=fH g++aa rg:=tV;rw[e] at h⊢;rw[Cb,KV F k hs rg (fun e he=>h e (BH _ he))]
  have h':∀e∈fH g,F e.1 e.2=k e.1-k e.2:=fun e he=>h e (vB _ he)
  unfold fH at*;rw[KT _ hs];cases g with
  |nil=>rfl
  |cons a r=>
   have key:=KS (fun _ _=>0) F k r a a (fun p hp=>by
    by_cases he:p.1=p.2
    ·rw[he,hs];omega
    ·have:=h' p (jw.2 ⟨hp,by simp[he]⟩)
     omega)
   have e0:∀l:List (Pt×Pt),total (fun _ _=>0) l=0:=fun l=>by
    induction l with
    |nil=>rfl
    |cons x l ih=>rw[fq,ih];rfl
   rw[e0] at key;have e:closing (a::r)=(a::r).zip (r++[a]):=rfl;rw[e];omega
theorem Gc(F G:Pt->Pt->Int):∀l:List (Pt×Pt),total (fun u v=>F u v+G u v) l=total F l+total G l
 |[]=>rfl
 |e::l=>by rw[fq,fq,fq,Gc F G l];omega
theorem KW(F G:Pt->Pt->Int):∀l:List (Pt×Pt),total (fun u v=>F u v-G u v) l=total F l-total G l
 |[]=>rfl
 |e::l=>by rw[fq,fq,fq,KW F G l];omega
def PP(es:List (Pt×Pt))(n:Int×Int×Int):Int:=total (fun u v=>right (rl n u) (rl n v)) es
theorem Ry(u:Pt):right u u=0:=by
 unfold right;rw[if_neg (by omega),if_neg (by omega)]
theorem acF(n:Int×Int×Int)(D u:Pt):cA n D u u=0:=by
 unfold cA;rw[if_neg (by omega),if_neg (by omega)]
theorem acG(n:Int×Int×Int)(D u:Pt):cB n D u u=0:=by
 unfold cB;rw[if_neg (by omega),if_neg (by omega)]
theorem along{rg:List (List Pt)}{a b:Int×Int×Int}{D:Pt}(ha:0<a.2.2)(hb:0<b.2.2)(hB:Behind a b D)(hF:∀e∈aa rg,KU a b D e.1 e.2):
  PP (aa rg) b+total (cB b D) (aa rg)=PP (aa rg) a+total (cA a D) (aa rg):=by
 have h:=KV (fun u v=>right (rl b u) (rl b v)+cB b D u v-right (rl a u) (rl a v)-cA a D u v) (Cg a b D) (fun z=>by rw[Ry,Ry,acF,acG];rfl) rg (fun e he=>acE ha hb hB (hF e he))
 rw[KW,KW,Gc] at h;unfold PP;omega
abbrev N3:=Int×Int×Int
def lam(D:Pt)(n:N3)(z:Pt):Int:=cr D (rl n z)
theorem Rz{a b:N3}{D:Pt}(h:Behind a b D):cr D (wv a b)=0:=by
 rcases h with⟨_,_,h⟩|⟨h1,_,h2,_⟩
 ·exact h
 ·unfold cr;rw[h1,h2];omega
theorem KX{a b:N3}{D:Pt}(h:Behind a b D)(z:Pt):a.2.2*lam D b z=b.2.2*lam D a z:=by
 have hp:=Rz h;obtain⟨e1,e2⟩:=kB a b z;unfold lam cr at*;have k1:a.2.2*(D.1*(rl b z).2-D.2*(rl b z).1)=D.1*(a.2.2*(rl b z).2)-D.2*(a.2.2*(rl b z).1):=by grind
 rw[k1,e1,e2]
 grind
theorem oN{a b:N3}{D:Pt}(ha:0<a.2.2)(hb:0<b.2.2)(h:Behind a b D)(z:Pt):(lam D b z<0↔lam D a z<0)/\(0<lam D b z↔0<lam D a z):=by
 have k:=KX h z;have h1:=aO (z:=lam D b z) ha;have h2:=neg_mul (z:=lam D b z) ha;have h3:=aO (z:=lam D a z) hb;have h4:=neg_mul (z:=lam D a z) hb;omega
theorem acH{a b:N3}{D:Pt}(h:Behind a b D)(u v:Pt):∃k m:Int,0<k/\0<m/\k*(a.2.2*a.2.2*cr (rl b u) (rl b v))=k*(b.2.2*b.2.2*cr (rl a u) (rl a v))-b.2.2*(m*(lam D a v-lam D a u)):=by
 obtain⟨e1,e2⟩:=kB a b u;obtain⟨e3,e4⟩:=kB a b v;have k:a.2.2*a.2.2*cr (rl b u) (rl b v)=(a.2.2*(rl b u).1)*(a.2.2*(rl b v).2)-(a.2.2*(rl b u).2)*(a.2.2*(rl b v).1):=by unfold cr;grind
 rw[e1,e2,e3,e4] at k;rcases h with⟨h1,h2,h3⟩|⟨h1,h2,h3,h4⟩
 ·refine⟨D.1,(wv a b).1,h1,h2,?_⟩;rw[k];unfold lam;unfold cr at*;generalize(rl a u).1=p1 at*;generalize(rl a u).2=p2 at*;generalize(rl a v).1=q1 at*;generalize(rl a v).2=q2 at*;generalize(wv a b).1=w1 at*;generalize(wv a b).2=w2 at*;have h3':D.1*w2=D.2*w1:=by omega
  clear e1 e2 e3 e4 k h3
  grind
 ·refine⟨D.2,(wv a b).2,h2,h4,?_⟩;rw[k];unfold lam;unfold cr at*;rw[h1,h3]
  grind
theorem Gd{a b:N3}{D:Pt}(ha:0<a.2.2)(hb:0<b.2.2)(h:Behind a b D){u v:Pt}(hl:lam D a u<lam D a v):(0<=cr (rl b u) (rl b v)->0<cr (rl a u) (rl a v))/\(cr (rl a u) (rl a v)<=0->cr (rl b u) (rl b v)<0):=by
 obtain⟨k,m,hk,hm,e⟩:=acH h u v;have p1:=aP hk (aP ha ha);have p2:=aP hk (aP hb hb);have q1:=aO (z:=cr (rl a u) (rl a v)) p2;have q2:=neg_mul (z:=cr (rl a u) (rl a v)) p2;have q3:=aO (z:=cr (rl b u) (rl b v)) p1;have q4:=neg_mul (z:=cr (rl b u) (rl b v)) p1;have r:=aP hb (aP hm (show 0<lam D a v-lam D a u by omega))
 rw[QS] at q1 q2 q3 q4;omega
theorem KY{a b:N3}{D:Pt}(ha:0<a.2.2)(hb:0<b.2.2)(h:Behind a b D){u v:Pt}(hl:lam D a v<lam D a u):(cr (rl b u) (rl b v)<=0->cr (rl a u) (rl a v)<0)/\(0<=cr (rl a u) (rl a v)->0<cr (rl b u) (rl b v)):=by
 have:=Gd ha hb h hl;rw[bU (rl b u) (rl b v),bU (rl a u) (rl a v)] at this;omega
def jK(f t:N3)(D u v:Pt):Prop:=
 (lam D f u<=0->0<=lam D f v->lam D f u<lam D f v->cr (rl f u) (rl f v)<=0\/0<=cr (rl t u) (rl t v))/\
 (lam D f v<=0->0<=lam D f u->lam D f v<lam D f u->0<=cr (rl f u) (rl f v)\/cr (rl t u) (rl t v)<=0)
def mQ(f t:N3)(D z:Pt):Prop:=lam D f z=0->dt D (rl f z)<=0\/0<=dt D (rl t z)
def Ci(a b:N3)(D:Pt):Prop:=a=b\/Behind a b D
theorem RA{a b:N3}{D:Pt}(ha:0<a.2.2)(hb:0<b.2.2)(h:Ci a b D){u v:Pt}(hl:lam D a u<lam D a v):(0<=cr (rl b u) (rl b v)->0<=cr (rl a u) (rl a v))/\(cr (rl a u) (rl a v)<=0->cr (rl b u) (rl b v)<=0):=by
 rcases h with rfl|h
 ·exact⟨id,id⟩
 ·have:=Gd ha hb h hl;omega
theorem RF{a b:N3}{D:Pt}(ha:0<a.2.2)(hb:0<b.2.2)(h:Ci a b D){u v:Pt}(hl:lam D a v<lam D a u):(cr (rl b u) (rl b v)<=0->cr (rl a u) (rl a v)<=0)/\(0<=cr (rl a u) (rl a v)->0<=cr (rl b u) (rl b v)):=by
 rcases h with rfl|h
 ·exact⟨id,id⟩
 ·have:=KY ha hb h hl;omega
theorem RH{a b:N3}{D:Pt}(ha:0<a.2.2)(hb:0<b.2.2)(h:Ci a b D)(z:Pt):(lam D b z<0↔lam D a z<0)/\(0<lam D b z↔0<lam D a z):=by
 rcases h with rfl|h
 ·exact⟨Iff.rfl,Iff.rfl⟩
 ·exact oN ha hb h z
theorem KZ{f t a b:N3}{D u v:Pt}(hf:0<f.2.2)(ht:0<t.2.2)(ha:0<a.2.2)(hb:0<b.2.2)(h:jK f t D u v)(h1:Ci f a D)(h2:Behind a b D)(h3:Ci b t D):KU a b D u v:=by
 have su:=RH hf ha h1 u;have sv:=RH hf ha h1 v;have tu:=oN ha hb h2 u;have tv:=oN ha hb h2 v;refine⟨fun x y=>?_,fun x y=>?_⟩
 ·change lam D a u<0 at x
  change 0<=lam D a v at y
  rcases h.1 (by omega) (by omega) (by omega) with k|k
  ·exact Or.inl ((RA hf ha h1 (by omega)).2 k)
  ·exact Or.inr ((RA hb ht h3 (by omega)).1 k)
 ·change lam D a v<0 at x
  change 0<=lam D a u at y
  rcases h.2 (by omega) (by omega) (by omega) with k|k
  ·exact Or.inl ((RF hf ha h1 (by omega)).2 k)
  ·exact Or.inr ((RF hb ht h3 (by omega)).1 k)
theorem Cj{f t q:N3}{D u v:Pt}(hf:0<f.2.2)(ht:0<t.2.2)(hq:0<q.2.2)(h:jK f t D u v)(h1:Behind f q D)(h2:Behind q t D):
  (lam D q u<=0->0<=lam D q v->lam D q u<lam D q v->cr (rl q u) (rl q v)≠0)/\(lam D q v<=0->0<=lam D q u->lam D q v<lam D q u->cr (rl q u) (rl q v)≠0):=by
 have su:=oN hf hq h1 u;have sv:=oN hf hq h1 v;refine⟨fun x y z=>?_,fun x y z=>?_⟩
 ·rcases h.1 (by omega) (by omega) (by omega) with k|k
  ·have:=(Gd hf hq h1 (u:=u) (v:=v) (by omega)).2 k
   omega
  ·have:=(Gd hq ht h2 (u:=u) (v:=v) (by omega)).1 k
   omega
 ·rcases h.2 (by omega) (by omega) (by omega) with k|k
  ·have:=(KY hf hq h1 (u:=u) (v:=v) (by omega)).2 k
   omega
  ·have:=(KY hq ht h2 (u:=u) (v:=v) (by omega)).1 k
   omega
def aU(f t:N3):N3:=(f.1+t.1,f.2.1+t.2.1,f.2.2+t.2.2)
theorem RJ(f t:N3):wv f (aU f t)=wv f t:=by unfold wv aU;exact dY (by simp only;grind) (by simp only;grind)
theorem acI(f t:N3):wv (aU f t) t=wv f t:=by unfold wv aU;exact dY (by simp only;grind) (by simp only;grind)
theorem xA{f t:N3}(h:aN (wv f t)):Behind f t (wv f t):=by
 rcases h with h|⟨h1,h2⟩
 ·exact Or.inl ⟨h,h,by unfold cr;grind⟩
 ·exact Or.inr ⟨h1,h2,h1,h2⟩
theorem Gf{f t:N3}(h:aN (wv f t)):Behind f (aU f t) (wv f t):=by
 unfold Behind;rw[RJ];exact xA h
theorem K0{f t:N3}(h:aN (wv f t)):Behind (aU f t) t (wv f t):=by
 unfold Behind;rw[acI];exact xA h
theorem vI{F:Pt->Pt->Int}:∀{l:List (Pt×Pt)},(∀e∈l,F e.1 e.2=0)->total F l=0
 |[],_=>rfl
 |e::l,h=>by rw[fq,h e (by simp),vI fun x hx=>h x (bn _ hx)];rfl
theorem oO{F G:Pt->Pt->Int}:∀{l:List (Pt×Pt)},(∀e∈l,F e.1 e.2=G e.1 e.2)->total F l=total G l
 |[],_=>rfl
 |e::l,h=>by rw[fq,fq,h e (by simp),oO fun x hx=>h x (bn _ hx)]
theorem RL{rg:List (List Pt)}{f t:N3}(hf:0<f.2.2)(ht:0<t.2.2)(hr:aN (wv f t))(hF:∀e∈aa rg,jK f t (wv f t) e.1 e.2):
  PP (aa rg) (aU f t)=PP (aa rg) f+total (cA f (wv f t)) (aa rg):=by
 have hq:0<(aU f t).2.2:=by show 0<f.2.2+t.2.2;omega
 have b1:=Gf hr;have b2:=K0 hr;have h:=along hf hq b1 (rg:=rg) fun e he=>KZ hf ht hf hq (hF e he) (Or.inl rfl) b1 (Or.inr b2)
 have h0:total (cB (aU f t) (wv f t)) (aa rg)=0:=vI fun e he=>by
  obtain⟨k1,k2⟩:=Cj hf ht hq (hF e he) b1 b2;unfold cB;rw[if_neg (fun⟨x1,_,x2,x3⟩=>k1 (dH x2) x3 (by unfold lam;omega) x1),if_neg (fun⟨x1,_,x2,x3⟩=>k2 (dH x2) x3 (by unfold lam;omega) x1)]
 omega
theorem acJ{rg:List (List Pt)}{f t:N3}(hf:0<f.2.2)(ht:0<t.2.2)(hr:aN (wv f t))(hF:∀e∈aa rg,jK f t (wv f t) e.1 e.2):
  PP (aa rg) (aU f t)=PP (aa rg) t+total (cB t (wv f t)) (aa rg):=by
 have hq:0<(aU f t).2.2:=by show 0<f.2.2+t.2.2;omega
 have b1:=Gf hr;have b2:=K0 hr;have h:=along hq ht b2 (rg:=rg) fun e he=>KZ hf ht hq ht (hF e he) (Or.inr b1) b2 (Or.inl rfl)
 have h0:total (cA (aU f t) (wv f t)) (aa rg)=0:=vI fun e he=>by
  obtain⟨k1,k2⟩:=Cj hf ht hq (hF e he) b1 b2;unfold cA;rw[if_neg (fun⟨x1,_,x2,x3⟩=>k2 (dH x2) x3 (by unfold lam;omega) x1),if_neg (fun⟨x1,_,x2,x3⟩=>k1 (dH x2) x3 (by unfold lam;omega) x1)]
 omega
def ij(z:Pt):Bool:=decide (0<z.1\/(z.1=0/\0<z.2))
def ah(z w:Pt):Bool:=(ij z&& !ij w)||((ij z == ij w)&&decide (0<cr z w))
def ak(z w:Pt):Bool:=decide (cr z w=0)&&decide (0<dt z w)
def neg(D:Pt):Pt:=(-D.1, -D.2)
def bb(b:Bool):Int:=if b then 1 else 0
def arm(Q:Pt->Bool)(n:N3)(u v:Pt):Int:=if on (rl n u) (rl n v) then bb (Q (rl n v))-bb (Q (rl n u)) else 0
def AS(es:List (Pt×Pt))(n:N3)(Q:Pt->Bool):Int:=total (arm Q n) es
def fb(q:N3)(D u v:Pt):Int:=if on (rl q u) (rl q v) then(D.1*(v.1-u.1)+D.2*(v.2-u.2)).sign else 0
theorem kT(r s:Pt):on r s=true↔cr r s=0/\dt r s<=0:=by unfold on;simp
theorem sq_pos{a b:Int}(h:a≠0\/b≠0):0<a*a+b*b:=by
 have k:∀x:Int,0<=x*x:=fun x=>by
  rcases FJ 0 x with h|h
  ·exact iO h h
  ·exact tU h h
 have k':∀x:Int,x≠0->0<x*x:=fun x hx=>by
  rcases fk x 0 with h|h|h
  ·exact QT h h
  ·exact absurd h hx
  ·exact aP h h
 have a1:=k a;have b1:=k b;rcases h with h|h
 ·have:=k' a h;omega
 ·have:=k' b h;omega
theorem ez{r:Pt}(h:r≠(0,0)):0<dt r r:=by
 refine sq_pos ?_;rcases Classical.em (r.1=0) with h1|h1
 ·exact Or.inr fun h2=>h (dY h1 h2)
 ·exact Or.inl h1
theorem K1{D r:Pt}(h:cr D r≠0):r≠(0,0):=fun e=>h (by rw[e];unfold cr;simp)
theorem ua{D r:Pt}(h:dt D r≠0):r≠(0,0):=fun e=>h (by rw[e];unfold dt;simp)
theorem kC{D:Pt}(h:aN D):D≠(0,0):=fun e=>by
 rw[e] at h;rcases h with h|⟨_,h⟩
 ·exact absurd h (by decide)
 ·exact absurd h (by decide)
theorem ub{D r s:Pt}(h:cr r s=0):cr D s*dt r r=cr D r*dt r s:=by
 unfold cr dt at*
 grind
theorem iR(r s:Pt):dt r s=dt s r:=by unfold dt;grind
theorem zB{D r s:Pt}(h:cr r s=0)(hl:cr D r<0):dt r s<=0↔0<=cr D s:=by
 have p:=ez (K1 (D:=D) (r:=r) (by omega))
 have e:=ub (D:=D) h;have a1:=neg_mul (z:=cr D s) p;rw[dX] at a1;have a2:=aO (z:=dt r s) (k:= -cr D r) (by omega)
 rw[iw] at a2;omega
theorem RM{D r s:Pt}(h:cr r s=0)(hl:0<cr D r):dt r s<=0↔cr D s<=0:=by
 have p:=ez (K1 (D:=D) (r:=r) (by omega))
 have e:=ub (D:=D) h;have a1:=aO (z:=cr D s) p;rw[dX] at a1;have a2:=aO (z:=dt r s) hl;omega
theorem rL{r s:Pt}(h:cr r s=0):cr s r=0:=by rw[bU];omega
theorem Gg{D:Pt}(hD:aN D)(z:Pt):ah z D=true↔0<z.1/\cr D z<0:=by
 have hd:ij D=true:=by unfold ij;exact decide_eq_true hD
 have e:cr z D= -cr D z:=bU D z;unfold ah;rw[hd,e];by_cases hz:ij z=true
 ·rw[hz];simp;have hz':=of_decide_eq_true (by unfold ij at hz;exact hz)
  intro h;rcases hz' with h1|⟨h1,h2⟩
  ·exact h1
  ·exfalso;rcases hD with h3|⟨h3,h4⟩
   ·have:=aP h3 h2;unfold cr at h;rw[h1] at h;omega
   ·unfold cr at h;rw[h1,h3] at h;omega
 ·have hz0:ij z=false:=by simpa using hz
  rw[hz0];simp;intro h;exfalso;apply hz;unfold ij;exact decide_eq_true (Or.inl h)
theorem K2{D:Pt}(hD:aN D)(z:Pt):ah (neg D) z=true↔z.1<=0/\cr D z<0:=by
 have hd:ij (neg D)=false:=by
  unfold ij neg;refine decide_eq_false fun h=>?_
  rcases hD with h3|⟨h3,h4⟩<;>simp only at h<;>omega
 have e:cr (neg D) z= -cr D z:=by unfold cr neg;grind
 unfold ah;rw[hd,e];by_cases hz:ij z=true
 ·rw[hz];simp;have hz':=of_decide_eq_true (by unfold ij at hz;exact hz)
  intro h1;rcases hz' with h2|⟨h2,h3⟩
  ·omega
  ·unfold cr;rw[h2];rcases hD with h4|⟨h4,h5⟩
   ·have:=aP h4 h3;omega
   ·rw[h4];omega
 ·have hz0:ij z=false:=by simpa using hz
  rw[hz0];simp;have hz':=of_decide_eq_false (by unfold ij at hz0;exact hz0)
  intro h;omega
theorem acK{D:Pt}(hD:aN D)(n:N3)(u v:Pt):cA n D u v=arm (fun z=>ah z D) n u v:=by
 unfold cA arm;generalize rl n u=r;generalize rl n v=s;have ar:=Gg hD r;have apj:=Gg hD s;by_cases hc:cr r s=0
 ·have mP:=kT r s;have k1:cr D s<0->(dt r s<=0↔0<=cr D r):=fun h=>by
   have:=zB (rL hc) h;rw[iR] at this;exact this
  have k2:cr D r<0->(dt r s<=0↔0<=cr D s):=fun h=>zB hc h
  unfold bb;cases h1:ah r D<;>cases h2:ah s D<;>cases h3:on r s<;>rw[h1] at ar<;>rw[h2] at apj<;>rw[h3] at mP<;>simp only[iP,reduceIte,false_iff,true_iff] at* <;>repeat' split
  all_goals first |omega |simp_all
 ·have mP:on r s=false:=by
   cases h:on r s
   ·rfl
   ·exact absurd ((kT r s).1 h).1 hc
  rw[mP,if_neg (by omega),if_neg (by omega)]
  rfl
theorem acL{D:Pt}(hD:aN D)(n:N3)(u v:Pt):cB n D u v= -arm (fun z=>ah (neg D) z) n u v:=by
 unfold cB arm;generalize rl n u=r;generalize rl n v=s;have ar:=K2 hD r;have apj:=K2 hD s;by_cases hc:cr r s=0
 ·have mP:=kT r s;have k1:cr D s<0->(dt r s<=0↔0<=cr D r):=fun h=>by
   have:=zB (rL hc) h;rw[iR] at this;exact this
  have k2:cr D r<0->(dt r s<=0↔0<=cr D s):=fun h=>zB hc h
  unfold bb;cases h1:ah (neg D) r<;>cases h2:ah (neg D) s<;>cases h3:on r s<;>rw[h1] at ar<;>rw[h2] at apj<;>rw[h3] at mP<;>simp only[iP,reduceIte,false_iff,true_iff] at* <;>repeat' split
  all_goals first |omega |simp_all
 ·have mP:on r s=false:=by
   cases h:on r s
   ·rfl
   ·exact absurd ((kT r s).1 h).1 hc
  rw[mP,if_neg (by omega),if_neg (by omega)]
  rfl
theorem K3(F:Pt->Pt->Int):∀l:List (Pt×Pt),total (fun u v=> -F u v) l= -total F l
 |[]=>rfl
 |e::l=>by rw[fq,fq,K3 F l];omega
theorem acM{rg:List (List Pt)}{f t:N3}(hf:0<f.2.2)(ht:0<t.2.2)(hr:aN (wv f t))(hF:∀e∈aa rg,jK f t (wv f t) e.1 e.2):
  PP (aa rg) (aU f t)=PP (aa rg) f+AS (aa rg) f (fun z=>ah z (wv f t)):=by
 rw[RL hf ht hr hF];unfold AS;rw[oO fun e _=>acK hr f e.1 e.2]
theorem acN{rg:List (List Pt)}{f t:N3}(hf:0<f.2.2)(ht:0<t.2.2)(hr:aN (wv f t))(hF:∀e∈aa rg,jK f t (wv f t) e.1 e.2):
  PP (aa rg) (aU f t)=PP (aa rg) t-AS (aa rg) t (fun z=>ah (neg (wv f t)) z):=by
 rw[acJ hf ht hr hF];unfold AS;have e1:total (cB t (wv f t)) (aa rg)=total (fun u v=> -arm (fun z=>ah (neg (wv f t)) z) t u v) (aa rg):=oO fun e _=>acL hr t e.1 e.2
 rw[e1,K3];omega
end Go.Proofs.YtkjhhooecopolaaGreatDoor.Ga
