import Derived.Test.YtkjhhooecopolaaGreatDoorZza
set_option maxRecDepth 100000
set_option maxHeartbeats 4000000
namespace Go.Proofs.YtkjhhooecopolaaGreatDoor.Ge
abbrev Pt:=Int×Int
def rel(n:Pt)(d:Int)(a:Pt):Pt:=(d*a.1-n.1,d*a.2-n.2)
def cr(u v:Pt):Int:=u.1*v.2-u.2*v.1
def dt(u v:Pt):Int:=u.1*v.1+u.2*v.2
def on(u v:Pt):Bool:=decide (cr u v=0)&&decide (dt u v<=0)
def right(u v:Pt):Int:=if u.1<=0/\0<v.1/\0<cr u v then 1 else if 0<u.1/\v.1<=0/\cr u v<0 then -1 else 0
def up(u v:Pt):Int:=if u.1<=0/\0<v.1/\cr u v<0 then -1 else if v.1<=0/\0<u.1/\0<cr u v then 1 else 0
def q(u:Pt):Int:=if 0<u.1 then 1 else 0
theorem ZW{a b:Int}(ha:0<a)(hb:0<b):0<a*b:=aR ha hb
theorem O8{a b:Int}(ha:a<=0)(hb:0<b):a*b<=0:=Ea ha (dB hb)
theorem O9{a b c d:Int}(h:a*d-b*c=0)(ha:a<=0)(hc:0<c):a*c+b*d<=0:=by
 have e:c*(a*c+b*d)=a*(c*c+d*d):=by
  have e1:b*c=a*d:=by omega
  calc c*(a*c+b*d)=a*(c*c)+d*(b*c):=by grind
   _=a*(c*c+d*d):=by rw[e1];grind
 have hq:0<c*c+d*d:=by
  have h1:=aR hc hc;have h2:0<=d*d:=by
   rcases Eb 0 d with h|h
   ·exact iB h h
   ·exact rN h h
  omega
 have h3:=O8 ha hq;rw[<-e] at h3;rcases(show a*c+b*d<=0\/0<a*c+b*d by omega) with h4|h4
 ·exact h4
 ·have:=ZW hc h4;omega
theorem step(u v:Pt)(h:on u v=false):right u v-up u v=q v-q u:=by
 obtain⟨a,b⟩:=u;obtain⟨c,d⟩:=v;have lH:¬(a*d-b*c=0/\a*c+b*d<=0):=by
  rintro⟨h1,h2⟩;have:on (a,b) (c,d)=true:=by simp only[on,cr,dt,h1,h2,decide_true,Bool.and_self]
  rw[this] at h;cases h
 have k1:∀(_:a<=0)(_:0<c),a*d-b*c≠0:=fun ha hc e=>lH ⟨e,O9 e ha hc⟩
 have k2:∀(_:0<a)(_:c<=0),a*d-b*c≠0:=fun ha hc e=>lH ⟨e,by
  have:=O9 (a:=c) (b:=d) (c:=a) (d:=b) (by grind) hc ha
  rw[dM c a,dM d b] at this;exact this⟩
 simp only[right,up,q,cr];clear lH;rcases(show a<=0\/0<a by omega) with ha|ha<;>rcases(show c<=0\/0<c by omega) with hc|hc
 ·repeat' split
  all_goals omega
 ·have:=k1 ha hc
  repeat' split
  all_goals omega
 ·have:=k2 ha hc
  repeat' split
  all_goals omega
 ·repeat' split
  all_goals omega
def closing:List Pt->List (Pt×Pt)
 |[]=>[]
 |a::r=>(a::r).zip (r++[a])
def gH(g:List Pt):List (Pt×Pt):=(closing g).filter fun e=>decide (e.1≠e.2)
def ag(rg:List (List Pt)):List (Pt×Pt):=rg.flatMap gH
def total(f:Pt->Pt->Int)(l:List (Pt×Pt)):Int:=(l.map fun e=>f e.1 e.2).sum
theorem xU(f:Pt->Pt->Int):total f []=0:=rfl
theorem gb(f:Pt->Pt->Int)(e:Pt×Pt)(l:List (Pt×Pt)):total f (e::l)=f e.1 e.2+total f l:=by simp[total]
theorem Am(f:Pt->Pt->Int)(l k:List (Pt×Pt)):total f (l++k)=total f l+total f k:=by
 induction l with
 |nil=>simp[total]
 |cons e l ih=>rw[kG,gb,gb,ih];omega
theorem Jv(f g:Pt->Pt->Int)(k:Pt->Int):∀(r:List Pt)(a z:Pt),(∀p,p∈(a::r).zip (r++[z])->f p.1 p.2-g p.1 p.2=k p.2-k p.1)->
  total f ((a::r).zip (r++[z]))-total g ((a::r).zip (r++[z]))=k z-k a
 |[],a,z,h=>by
  have h1:=h (a,z) (by simp)
  simp only[oP,I8,List.zip_nil_left,gb,xU];simp only at h1;omega
 |b::r,a,z,h=>by
  have h1:=h (a,b) (by simp)
  have h2:=Jv f g k r b z (fun p hp=>h p (by
   rw[kG,I8];exact bo _ hp))
  rw[kG,I8,gb,gb];simp only at h1⊢;omega
theorem Jw(f:Pt->Pt->Int)(hf:∀a,f a a=0)(l:List (Pt×Pt)):total f (l.filter fun e=>decide (e.1≠e.2))=total f l:=by
 induction l with
 |nil=>rfl
 |cons e l ih=>
  rw[Y8];by_cases h:e.1=e.2
  ·rw[aa (by simp[h]),ih,gb,h,hf];omega
  ·rw[ah (by simp[h]),gb,gb,ih]
def fr(n:Pt)(d:Int)(a b:Pt):Int:=right (rel n d a) (rel n d b)
def fu(n:Pt)(d:Int)(a b:Pt):Int:=up (rel n d a) (rel n d b)
def fo(n:Pt)(d:Int)(e:Pt×Pt):Bool:=on (rel n d e.1) (rel n d e.2)
theorem Pb(n:Pt)(d:Int)(a:Pt):fr n d a a=0:=by
 unfold fr right;rw[aa (by omega),aa (by omega)]
theorem Pc(n:Pt)(d:Int)(a:Pt):fu n d a a=0:=by
 unfold fu up;rw[aa (by omega),aa (by omega)]
theorem ZX(n:Pt)(d:Int)(g:List Pt)(h:∀e,e∈gH g->fo n d e=false):total (fr n d) (gH g)=total (fu n d) (gH g):=by
 unfold gH at*;rw[Jw _ (Pb n d),Jw _ (Pc n d)];cases g with
 |nil=>rfl
 |cons a r=>
  have key:=Jv (fr n d) (fu n d) (fun p=>q (rel n d p)) r a a (fun p hp=>by
   by_cases he:p.1=p.2
   ·rw[he,Pb,Pc];omega
   ·exact step _ _ (h p (ik.2 ⟨hp,by simp[he]⟩)))
  have e:closing (a::r)=(a::r).zip (r++[a]):=rfl;rw[e];omega
theorem Pd(n:Pt)(d:Int):∀(rg:List (List Pt)),(∀e,e∈ag rg->fo n d e=false)->total (fr n d) (ag rg)=total (fu n d) (ag rg)
 |[],_=>rfl
 |g::rg,h=>by
  have e:ag (g::rg)=gH g++ag rg:=vw;rw[e] at h⊢;rw[Am,Am,ZX n d g (fun e he=>h e (tY _ he)),
   Pd n d rg (fun e he=>h e (zU _ he))]
end Go.Proofs.YtkjhhooecopolaaGreatDoor.Ge
namespace Go.Proofs.YtkjhhooecopolaaGreatDoor.Ga
open Ge
def ni(u v:Pt):Int:=if cr u v=0/\0<v.1/\v.2<0/\0<=u.2 then 1 else if cr u v=0/\0<u.1/\u.2<0/\0<=v.2 then -1 else 0
def nj(u v:Pt):Int:=if cr u v=0/\u.1<=0/\u.2<0/\0<=v.2 then 1 else if cr u v=0/\v.1<=0/\v.2<0/\0<=u.2 then -1 else 0
def qs(w:Int)(u:Pt):Int:=if 0<u.1/\u.1<=w/\u.2<0 then 1 else 0
def sh(w:Int)(u:Pt):Pt:=(u.1-w,u.2)
def bi(p:Prop)[Decidable p]:Int:=if p then 1 else 0
def Ao(w:Int)(u v:Pt):Prop:=
 (u.2<0->0<=v.2->cr u v<=0\/0<=cr (sh w u) (sh w v))/\(v.2<0->0<=u.2->0<=cr u v\/cr (sh w u) (sh w v)<=0)
theorem bV(u v:Pt):cr v u= -cr u v:=by unfold cr;grind
theorem Jx(u v:Pt):right v u= -right u v:=by
 unfold right;rw[bV u v]
 repeat' split
 all_goals omega
theorem ZY(u v:Pt):ni v u= -ni u v:=by
 unfold ni;rw[bV u v]
 repeat' split
 all_goals omega
theorem ZZ(u v:Pt):nj v u= -nj u v:=by
 unfold nj;rw[bV u v]
 repeat' split
 all_goals omega
theorem Z0{u v:Pt}(h1:u.2<0)(h2:0<=v.2):right u v+ni u v=bi (u.1<=0)-bi (cr u v<=0):=by
 have f1:u.1<=0->0<cr u v->0<v.1:=fun a b=>by
  apply Int.not_le.1;intro h;have k1:u.1*v.2<=0:=Ea a h2;have k2:0<=u.2*v.1:=rN (by omega) h
  unfold cr at b;omega
 have f2:0<u.1->cr u v<=0->v.1<=0:=fun a b=>by
  apply zV.1;intro h;have k1:0<=u.1*v.2:=iB (by omega) h2
  have k2:u.2*v.1<0:=I9 h1 h;unfold cr at b;omega
 unfold right ni bi
 repeat' split
 all_goals omega
theorem Z3{u v:Pt}(h1:u.2<0)(h2:0<=v.2):right u v+nj u v=bi (u.1<=0)-bi (cr u v<0):=by
 have f1:u.1<=0->0<cr u v->0<v.1:=fun a b=>by
  apply Int.not_le.1;intro h;have k1:u.1*v.2<=0:=Ea a h2;have k2:0<=u.2*v.1:=rN (by omega) h
  unfold cr at b;omega
 have f2:0<u.1->cr u v<=0->v.1<=0:=fun a b=>by
  apply zV.1;intro h;have k1:0<=u.1*v.2:=iB (by omega) h2
  have k2:u.2*v.1<0:=I9 h1 h;unfold cr at b;omega
 unfold right nj bi
 repeat' split
 all_goals omega
theorem Pe{w:Int}(hw:0<w){u v:Pt}(h:Ao w u v)(h1:u.2<0)(h2:0<=v.2):right (sh w u) (sh w v)+nj (sh w u) (sh w v)-right u v-ni u v=qs w u-qs w v:=by
 have a:=Z0 h1 h2;have b:=Z3 (u:=sh w u) (v:=sh w v) h1 h2;have c:=h.1 h1 h2;have e1:qs w u=bi (u.1<=w)-bi (u.1<=0):=by
  unfold qs bi
  repeat' split
  all_goals omega
 have e2:qs w v=0:=aa (by omega)
 have e3:bi ((sh w u).1<=0)=bi (u.1<=w):=by
  have:(sh w u).1=u.1-w:=rfl;unfold bi
  repeat' split
  all_goals omega
 have e4:bi (cr u v<=0)=bi (cr (sh w u) (sh w v)<0):=by
  have:cr (sh w u) (sh w v)=cr u v-w*(v.2-u.2):=by unfold cr sh;grind
  have k:0<w*(v.2-u.2):=aR hw (by omega)
  unfold bi
  repeat' split
  all_goals omega
 rw[e1,e2];omega
theorem Z4{w:Int}(hw:0<w){u v:Pt}(h:Ao w u v):right (sh w u) (sh w v)+nj (sh w u) (sh w v)-right u v-ni u v=qs w u-qs w v:=by
 by_cases h1:u.2<0
 ·by_cases h2:v.2<0
  ·have key:∀t:Int,right (sh t u) (sh t v)=bi (u.1<=t)-bi (v.1<=t):=fun t=>by
    have a1:u.1<=t->t<v.1->0<cr (sh t u) (sh t v):=fun a b=>by
     have k1:0<=(u.1-t)*v.2:=rN (by omega) (by omega)
     have k2:u.2*(v.1-t)<0:=I9 h1 (by omega)
     show 0<(u.1-t)*v.2-u.2*(v.1-t);omega
    have a2:t<u.1->v.1<=t->cr (sh t u) (sh t v)<0:=fun a b=>by
     have k1:(u.1-t)*v.2<0:=tZ (by omega) h2
     have k2:0<=u.2*(v.1-t):=rN (by omega) (by omega)
     show(u.1-t)*v.2-u.2*(v.1-t)<0;omega
    have b1:(sh t u).1=u.1-t:=rfl;have b2:(sh t v).1=v.1-t:=rfl;unfold right bi
    repeat' split
    all_goals omega
   have s0:∀z:Pt,sh 0 z=z:=fun z=>by unfold sh;rw[xI]
   have k0:=key 0;rw[s0,s0] at k0;have e1:nj (sh w u) (sh w v)=0:=by
    have b1:(sh w u).2=u.2:=rfl;have b2:(sh w v).2=v.2:=rfl;unfold nj;rw[aa (by omega),aa (by omega)]
   have e2:ni u v=0:=by
    unfold ni;rw[aa (by omega),aa (by omega)]
   rw[key w,k0,e1,e2];unfold qs bi
   repeat' split
   all_goals omega
  ·exact Pe hw h h1 (by omega)
 ·by_cases h2:v.2<0
  ·have h':Ao w v u:=by
    refine⟨fun a b=>?_,fun a b=>?_⟩
    ·have:=h.2 a b;rw[bV u v,bV (sh w u) (sh w v)];omega
    ·have:=h.1 a b;rw[bV u v,bV (sh w u) (sh w v)];omega
   have:=Pe hw h' h2 (by omega)
   rw[Jx u v,ZY u v,Jx (sh w u) (sh w v),ZZ (sh w u) (sh w v)] at this;omega
  ·have key:∀t:Int,right (sh t u) (sh t v)=0:=fun t=>by
    have a1:u.1<=t->t<v.1->¬0<cr (sh t u) (sh t v):=fun a b=>by
     have k1:(u.1-t)*v.2<=0:=Ea (by omega) (by omega)
     have k2:0<=u.2*(v.1-t):=iB (by omega) (by omega)
     show ¬0<(u.1-t)*v.2-u.2*(v.1-t);omega
    have a2:t<u.1->v.1<=t->¬cr (sh t u) (sh t v)<0:=fun a b=>by
     have k1:0<=(u.1-t)*v.2:=iB (by omega) (by omega)
     have k2:u.2*(v.1-t)<=0:=akb (by omega) (by omega)
     show ¬(u.1-t)*v.2-u.2*(v.1-t)<0;omega
    have b1:(sh t u).1=u.1-t:=rfl;have b2:(sh t v).1=v.1-t:=rfl;unfold right
    repeat' split
    all_goals omega
   have s0:∀z:Pt,sh 0 z=z:=fun z=>by unfold sh;rw[xI]
   have k0:=key 0;rw[s0,s0] at k0;have e1:nj (sh w u) (sh w v)=0:=by
    have b1:(sh w u).2=u.2:=rfl;have b2:(sh w v).2=v.2:=rfl;unfold nj;rw[aa (by omega),aa (by omega)]
   have e2:ni u v=0:=by
    unfold ni;rw[aa (by omega),aa (by omega)]
   rw[key w,k0,e1,e2];unfold qs;rw[aa (by omega),aa (by omega)]
   omega
def rl(n:Int×Int×Int)(z:Pt):Pt:=rel (n.1,n.2.1) n.2.2 z
def wv(a b:Int×Int×Int):Pt:=(a.2.2*b.1-b.2.2*a.1,a.2.2*b.2.1-b.2.2*a.2.1)
def aM(D:Pt):Prop:=0<D.1\/(D.1=0/\0<D.2)
def cA(n:Int×Int×Int)(D:Pt)(u v:Pt):Int:=
 if cr (rl n u) (rl n v)=0/\0<(rl n v).1/\cr D (rl n v)<0/\0<=cr D (rl n u) then 1
 else if cr (rl n u) (rl n v)=0/\0<(rl n u).1/\cr D (rl n u)<0/\0<=cr D (rl n v) then -1 else 0
def cB(n:Int×Int×Int)(D:Pt)(u v:Pt):Int:=
 if cr (rl n u) (rl n v)=0/\(rl n u).1<=0/\cr D (rl n u)<0/\0<=cr D (rl n v) then 1
 else if cr (rl n u) (rl n v)=0/\(rl n v).1<=0/\cr D (rl n v)<0/\0<=cr D (rl n u) then -1 else 0
def Jy(a b:Int×Int×Int)(D u v:Pt):Prop:=
 (cr D (rl a u)<0->0<=cr D (rl a v)->cr (rl a u) (rl a v)<=0\/0<=cr (rl b u) (rl b v))/\(cr D (rl a v)<0->0<=cr D (rl a u)->0<=cr (rl a u) (rl a v)\/cr (rl b u) (rl b v)<=0)
def Behind(a b:Int×Int×Int)(D:Pt):Prop:=(0<D.1/\0<(wv a b).1/\cr D (wv a b)=0)\/(D.1=0/\0<D.2/\(wv a b).1=0/\0<(wv a b).2)
def tr(D r:Pt):Pt:=(r.1,cr D r)
def sc(k:Int)(u:Pt):Pt:=(k*u.1,k*u.2)
theorem Ap(D r s:Pt):cr (tr D r) (tr D s)=D.1*cr r s:=by unfold tr cr;grind
theorem Aq(k:Int)(r s:Pt):cr (sc k r) (sc k s)=k*k*cr r s:=by unfold sc cr;grind
theorem aN{k z:Int}(hk:0<k):0<k*z↔0<z:=by
 constructor
 ·intro h;exact Int.pos_of_mul_pos_right (a:=k) h |> fun h=>by
   rcases eD z 0 with h1|h1|h1
   ·have:=tZ hk h1;omega
   ·subst h1;simp at*
   ·exact h1
 ·exact aR hk
theorem neg_mul{k z:Int}(hk:0<k):k*z<0↔z<0:=by
 have:=aN (z:= -z) hk;rw[vz] at this;omega
theorem dJ{k z:Int}(hk:0<k):k*z=0↔z=0:=by
 have h1:=aN (z:=z) hk;have h2:=neg_mul (z:=z) hk;omega
theorem jR(a b:Int×Int×Int)(z:Pt):a.2.2*(rl b z).1=b.2.2*(rl a z).1-(wv a b).1/\a.2.2*(rl b z).2=b.2.2*(rl a z).2-(wv a b).2:=by
 unfold rl rel wv;constructor<;>grind
theorem Ph{D:Pt}(hD:0<D.1)(r s:Pt):right (tr D r) (tr D s)=right r s:=by
 have h1:=aN (z:=cr r s) hD;have h2:=neg_mul (z:=cr r s) hD;unfold right;rw[Ap];have e1:(tr D r).1=r.1:=rfl;have e2:(tr D s).1=s.1:=rfl;rw[e1,e2]
 repeat' split
 all_goals omega
theorem xV{k:Int}(hk:0<k)(r s:Pt):right (sc k r) (sc k s)=right r s:=by
 have hkk:=aR hk hk;have h1:=aN (z:=cr r s) hkk;have h2:=neg_mul (z:=cr r s) hkk;have a1:=aN (z:=r.1) hk;have a2:=aN (z:=s.1) hk;unfold right;rw[Aq];have e1:(sc k r).1=k*r.1:=rfl;have e2:(sc k s).1=k*s.1:=rfl;rw[e1,e2]
 repeat' split
 all_goals omega
theorem Z5{n:Int×Int×Int}{D:Pt}(hD:0<D.1){k:Int}(hk:0<k)(u v:Pt):ni (sc k (tr D (rl n u))) (sc k (tr D (rl n v)))=cA n D u v:=by
 have hkk:=aR (aR hk hk) hD;have h1:=dJ (z:=cr (rl n u) (rl n v)) hkk;have a1:=aN (z:=(rl n u).1) hk;have a2:=aN (z:=(rl n v).1) hk;have b1:=neg_mul (z:=cr D (rl n u)) hk;have b2:=neg_mul (z:=cr D (rl n v)) hk;unfold ni cA;rw[Aq,Ap];have e0:k*k*(D.1*cr (rl n u) (rl n v))=k*k*D.1*cr (rl n u) (rl n v):=by grind
 have e1:(sc k (tr D (rl n u))).1=k*(rl n u).1:=rfl;have e2:(sc k (tr D (rl n v))).1=k*(rl n v).1:=rfl;have e3:(sc k (tr D (rl n u))).2=k*cr D (rl n u):=rfl;have e4:(sc k (tr D (rl n v))).2=k*cr D (rl n v):=rfl;rw[e0,e1,e2,e3,e4]
 repeat' split
 all_goals omega
theorem Z6{n:Int×Int×Int}{D:Pt}(hD:0<D.1){k:Int}(hk:0<k)(u v:Pt):nj (sc k (tr D (rl n u))) (sc k (tr D (rl n v)))=cB n D u v:=by
 have hkk:=aR (aR hk hk) hD;have h1:=dJ (z:=cr (rl n u) (rl n v)) hkk;have a1:=aN (z:=(rl n u).1) hk;have a2:=aN (z:=(rl n v).1) hk;have b1:=neg_mul (z:=cr D (rl n u)) hk;have b2:=neg_mul (z:=cr D (rl n v)) hk;unfold nj cB;rw[Aq,Ap];have e0:k*k*(D.1*cr (rl n u) (rl n v))=k*k*D.1*cr (rl n u) (rl n v):=by grind
 have e1:(sc k (tr D (rl n u))).1=k*(rl n u).1:=rfl;have e2:(sc k (tr D (rl n v))).1=k*(rl n v).1:=rfl;have e3:(sc k (tr D (rl n u))).2=k*cr D (rl n u):=rfl;have e4:(sc k (tr D (rl n v))).2=k*cr D (rl n v):=rfl;rw[e0,e1,e2,e3,e4]
 repeat' split
 all_goals omega
def Ar(a b:Int×Int×Int)(D z:Pt):Int:=if D.1=0 then 0 else qs (wv a b).1 (sc b.2.2 (tr D (rl a z)))
theorem Z7{a b:Int×Int×Int}{D:Pt}(ha:0<a.2.2)(hb:0<b.2.2)(hB:Behind a b D){u v:Pt}(hF:Jy a b D u v):
  right (rl b u) (rl b v)+cB b D u v-right (rl a u) (rl a v)-cA a D u v=Ar a b D u-Ar a b D v:=by
 rcases hB with⟨hD,hW,hp⟩|⟨hD,ui,hW,hW2⟩
 ·have hs:∀z,sh (wv a b).1 (sc b.2.2 (tr D (rl a z)))=sc a.2.2 (tr D (rl b z)):=fun z=>by
   obtain⟨e1,e2⟩:=jR a b z;refine dC ?_ ?_
   ·show b.2.2*(rl a z).1-(wv a b).1=a.2.2*(rl b z).1;omega
   ·show b.2.2*(D.1*(rl a z).2-D.2*(rl a z).1)=a.2.2*(D.1*(rl b z).2-D.2*(rl b z).1);unfold cr at hp;have k1:a.2.2*(D.1*(rl b z).2-D.2*(rl b z).1)=D.1*(a.2.2*(rl b z).2)-D.2*(a.2.2*(rl b z).1):=by grind
    rw[k1,e1,e2]
    grind
  have c1:cr (sc b.2.2 (tr D (rl a u))) (sc b.2.2 (tr D (rl a v)))=b.2.2*b.2.2*D.1*cr (rl a u) (rl a v):=by rw[Aq,Ap];grind
  have c2:cr (sc a.2.2 (tr D (rl b u))) (sc a.2.2 (tr D (rl b v)))=a.2.2*a.2.2*D.1*cr (rl b u) (rl b v):=by rw[Aq,Ap];grind
  have p1:=aR (aR hb hb) hD;have p2:=aR (aR ha ha) hD;have q1:=aN (z:=cr (rl a u) (rl a v)) p1;have q2:=neg_mul (z:=cr (rl a u) (rl a v)) p1;have q3:=aN (z:=cr (rl b u) (rl b v)) p2;have q4:=neg_mul (z:=cr (rl b u) (rl b v)) p2;have s1:=neg_mul (z:=cr D (rl a u)) hb;have s2:=neg_mul (z:=cr D (rl a v)) hb;have hfree:Ao (wv a b).1 (sc b.2.2 (tr D (rl a u))) (sc b.2.2 (tr D (rl a v))):=by
   unfold Ao;rw[hs,hs,c1,c2];have e3:(sc b.2.2 (tr D (rl a u))).2=b.2.2*cr D (rl a u):=rfl;have e4:(sc b.2.2 (tr D (rl a v))).2=b.2.2*cr D (rl a v):=rfl;rw[e3,e4];obtain⟨f1,f2⟩:=hF;constructor
   ·intro x y;have:=f1 (by omega) (by omega)
    omega
   ·intro x y;have:=f2 (by omega) (by omega)
    omega
  have key:=Z4 hW hfree;rw[hs,hs,xV ha,Ph hD,xV hb,Ph hD,Z5 hD hb,Z6 hD ha] at key;unfold Ar;rw[aa (by omega),aa (by omega)]
  exact key
 ·unfold Ar;rw[ah hD,ah hD];obtain⟨e1,e2⟩:=jR a b u;obtain⟨e3,e4⟩:=jR a b v;rw[hW] at e1 e3;have x1:=aN (z:=(rl b u).1) ha;have x2:=aN (z:=(rl b v).1) ha;have x3:=aN (z:=(rl a u).1) hb;have x4:=aN (z:=(rl a v).1) hb;have l1:cr D (rl a u)= -(D.2*(rl a u).1):=by unfold cr;rw[hD];omega
  have l2:cr D (rl a v)= -(D.2*(rl a v).1):=by unfold cr;rw[hD];omega
  have l3:cr D (rl b u)= -(D.2*(rl b u).1):=by unfold cr;rw[hD];omega
  have l4:cr D (rl b v)= -(D.2*(rl b v).1):=by unfold cr;rw[hD];omega
  have y1:=aN (z:=(rl a u).1) ui;have y2:=aN (z:=(rl a v).1) ui;have y3:=aN (z:=(rl b u).1) ui;have y4:=aN (z:=(rl b v).1) ui;have ec:a.2.2*a.2.2*cr (rl b u) (rl b v)=b.2.2*b.2.2*cr (rl a u) (rl a v)+b.2.2*(wv a b).2*((rl a v).1-(rl a u).1):=by
   have k:a.2.2*a.2.2*cr (rl b u) (rl b v)=(a.2.2*(rl b u).1)*(a.2.2*(rl b v).2)-(a.2.2*(rl b u).2)*(a.2.2*(rl b v).1):=by unfold cr;grind
   rw[k,e1,e2,e3,e4];unfold cr
   grind
  have p1:=aR ha ha;have p2:=aR hb hb;have p3:=aR hb hW2;have q1:=aN (z:=cr (rl a u) (rl a v)) p2;have q2:=neg_mul (z:=cr (rl a u) (rl a v)) p2;have q3:=aN (z:=cr (rl b u) (rl b v)) p1;have q4:=neg_mul (z:=cr (rl b u) (rl b v)) p1;have r1:=aN (z:=(rl a v).1-(rl a u).1) p3;have r2:=neg_mul (z:=(rl a v).1-(rl a u).1) p3;obtain⟨f1,f2⟩:=hF;rw[l1,l2] at f1 f2;unfold right cA cB;rw[l1,l2,l3,l4];generalize cr (rl a u) (rl a v)=ca at*;generalize cr (rl b u) (rl b v)=cb at*;generalize(rl a u).1=xu at*;generalize(rl a v).1=xv at*;generalize(rl b u).1=xW at*;generalize(rl b v).1=xX at*;generalize D.2*xu=lu at*;generalize D.2*xv=lv at*;generalize D.2*xW=Pj at*;generalize D.2*xX=Au at*;generalize b.2.2*(wv a b).2*(xv-xu)=K at*;generalize a.2.2*a.2.2*cb=CB at*;generalize b.2.2*b.2.2*ca=CA at*;generalize a.2.2*xW=AU at*;generalize a.2.2*xX=AV at*;generalize b.2.2*xu=BU at*;generalize b.2.2*xv=BV at*;clear e2 e4 l1 l2 l3 l4 p1 p2 p3 hW hW2 hD ui;have hx1:0<xu↔0<xW:=by omega
  have hx2:0<xv↔0<xX:=by omega
  clear x1 x2 x3 x4 e1 e3;rw[aa (show ¬(cb=0/\xW<=0/\ -Pj<0/\0<= -Au) by omega),aa (show ¬(cb=0/\xX<=0/\ -Au<0/\0<= -Pj) by omega)]
  by_cases h1:0<xu<;>by_cases h2:0<xv
  ·rw[aa (by omega),aa (by omega),aa (by omega),aa (by omega),aa (by omega),aa (by omega)]
   rfl
  ·rw[aa (show ¬(xW<=0/\0<xX/\0<cb) by omega),aa (show ¬(xu<=0/\0<xv/\0<ca) by omega),aa (show ¬(ca=0/\0<xv/\ -lv<0/\0<= -lu) by omega)]
   clear y3 y4
   repeat' split
   all_goals omega
  ·rw[aa (show ¬(0<xW/\xX<=0/\cb<0) by omega),aa (show ¬(0<xu/\xv<=0/\ca<0) by omega),aa (show ¬(ca=0/\0<xu/\ -lu<0/\0<= -lv) by omega)]
   clear y3 y4
   repeat' split
   all_goals omega
  ·rw[aa (by omega),aa (by omega),aa (by omega),aa (by omega),aa (by omega),aa (by omega)]
   rfl
theorem Jz(F:Pt->Pt->Int)(k:Pt->Int)(hs:∀a,F a a=0):∀(rg:List (List Pt)),(∀e∈ag rg,F e.1 e.2=k e.1-k e.2)->total F (ag rg)=0
 |[],_=>rfl
 |g::rg,h=>by
  have e:ag (g::rg)=gH g++ag rg:=vw;rw[e] at h⊢;rw[Am,Jz F k hs rg (fun e he=>h e (zU _ he))]
  have h':∀e∈gH g,F e.1 e.2=k e.1-k e.2:=fun e he=>h e (tY _ he)
  unfold gH at*;rw[Jw _ hs];cases g with
  |nil=>rfl
  |cons a r=>
   have key:=Jv (fun _ _=>0) F k r a a (fun p hp=>by
    by_cases he:p.1=p.2
    ·rw[he,hs];omega
    ·have:=h' p (ik.2 ⟨hp,by simp[he]⟩)
     omega)
   have e0:∀l:List (Pt×Pt),total (fun _ _=>0) l=0:=fun l=>by
    induction l with
    |nil=>rfl
    |cons x l ih=>rw[gb,ih];rfl
   rw[e0] at key;have e:closing (a::r)=(a::r).zip (r++[a]):=rfl;rw[e];omega
theorem Ex(F G:Pt->Pt->Int):∀l:List (Pt×Pt),total (fun u v=>F u v+G u v) l=total F l+total G l
 |[]=>rfl
 |e::l=>by rw[gb,gb,gb,Ex F G l];omega
theorem JA(F G:Pt->Pt->Int):∀l:List (Pt×Pt),total (fun u v=>F u v-G u v) l=total F l-total G l
 |[]=>rfl
 |e::l=>by rw[gb,gb,gb,JA F G l];omega
def PP(es:List (Pt×Pt))(n:Int×Int×Int):Int:=total (fun u v=>right (rl n u) (rl n v)) es
theorem Pk(u:Pt):right u u=0:=by
 unfold right;rw[aa (by omega),aa (by omega)]
theorem Z8(n:Int×Int×Int)(D u:Pt):cA n D u u=0:=by
 unfold cA;rw[aa (by omega),aa (by omega)]
theorem Z9(n:Int×Int×Int)(D u:Pt):cB n D u u=0:=by
 unfold cB;rw[aa (by omega),aa (by omega)]
theorem along{rg:List (List Pt)}{a b:Int×Int×Int}{D:Pt}(ha:0<a.2.2)(hb:0<b.2.2)(hB:Behind a b D)(hF:∀e∈ag rg,Jy a b D e.1 e.2):
  PP (ag rg) b+total (cB b D) (ag rg)=PP (ag rg) a+total (cA a D) (ag rg):=by
 have h:=Jz (fun u v=>right (rl b u) (rl b v)+cB b D u v-right (rl a u) (rl a v)-cA a D u v) (Ar a b D) (fun z=>by rw[Pk,Pk,Z8,Z9];rfl) rg (fun e he=>Z7 ha hb hB (hF e he))
 rw[JA,JA,Ex] at h;unfold PP;omega
abbrev N3:=Int×Int×Int
def lam(D:Pt)(n:N3)(z:Pt):Int:=cr D (rl n z)
theorem Pn{a b:N3}{D:Pt}(h:Behind a b D):cr D (wv a b)=0:=by
 rcases h with⟨_,_,h⟩|⟨h1,_,h2,_⟩
 ·exact h
 ·unfold cr;rw[h1,h2];omega
theorem JB{a b:N3}{D:Pt}(h:Behind a b D)(z:Pt):a.2.2*lam D b z=b.2.2*lam D a z:=by
 have hp:=Pn h;obtain⟨e1,e2⟩:=jR a b z;unfold lam cr at*;have k1:a.2.2*(D.1*(rl b z).2-D.2*(rl b z).1)=D.1*(a.2.2*(rl b z).2)-D.2*(a.2.2*(rl b z).1):=by grind
 rw[k1,e1,e2]
 grind
theorem nr{a b:N3}{D:Pt}(ha:0<a.2.2)(hb:0<b.2.2)(h:Behind a b D)(z:Pt):(lam D b z<0↔lam D a z<0)/\(0<lam D b z↔0<lam D a z):=by
 have k:=JB h z;have h1:=aN (z:=lam D b z) ha;have h2:=neg_mul (z:=lam D b z) ha;have h3:=aN (z:=lam D a z) hb;have h4:=neg_mul (z:=lam D a z) hb;omega
theorem aaa{a b:N3}{D:Pt}(h:Behind a b D)(u v:Pt):∃k m:Int,0<k/\0<m/\k*(a.2.2*a.2.2*cr (rl b u) (rl b v))=k*(b.2.2*b.2.2*cr (rl a u) (rl a v))-b.2.2*(m*(lam D a v-lam D a u)):=by
 obtain⟨e1,e2⟩:=jR a b u;obtain⟨e3,e4⟩:=jR a b v;have k:a.2.2*a.2.2*cr (rl b u) (rl b v)=(a.2.2*(rl b u).1)*(a.2.2*(rl b v).2)-(a.2.2*(rl b u).2)*(a.2.2*(rl b v).1):=by unfold cr;grind
 rw[e1,e2,e3,e4] at k;rcases h with⟨h1,h2,h3⟩|⟨h1,h2,h3,h4⟩
 ·refine⟨D.1,(wv a b).1,h1,h2,?_⟩;rw[k];unfold lam;unfold cr at*;generalize(rl a u).1=p1 at*;generalize(rl a u).2=p2 at*;generalize(rl a v).1=q1 at*;generalize(rl a v).2=q2 at*;generalize(wv a b).1=w1 at*;generalize(wv a b).2=w2 at*;have h3':D.1*w2=D.2*w1:=by omega
  clear e1 e2 e3 e4 k h3
  grind
 ·refine⟨D.2,(wv a b).2,h2,h4,?_⟩;rw[k];unfold lam;unfold cr at*;rw[h1,h3]
  grind
theorem Ey{a b:N3}{D:Pt}(ha:0<a.2.2)(hb:0<b.2.2)(h:Behind a b D){u v:Pt}(hl:lam D a u<lam D a v):(0<=cr (rl b u) (rl b v)->0<cr (rl a u) (rl a v))/\(cr (rl a u) (rl a v)<=0->cr (rl b u) (rl b v)<0):=by
 obtain⟨k,m,hk,hm,e⟩:=aaa h u v;have p1:=aR hk (aR ha ha);have p2:=aR hk (aR hb hb);have q1:=aN (z:=cr (rl a u) (rl a v)) p2;have q2:=neg_mul (z:=cr (rl a u) (rl a v)) p2;have q3:=aN (z:=cr (rl b u) (rl b v)) p1;have q4:=neg_mul (z:=cr (rl b u) (rl b v)) p1;have r:=aR hb (aR hm (show 0<lam D a v-lam D a u by omega))
 rw[OE] at q1 q2 q3 q4;omega
theorem JC{a b:N3}{D:Pt}(ha:0<a.2.2)(hb:0<b.2.2)(h:Behind a b D){u v:Pt}(hl:lam D a v<lam D a u):(cr (rl b u) (rl b v)<=0->cr (rl a u) (rl a v)<0)/\(0<=cr (rl a u) (rl a v)->0<cr (rl b u) (rl b v)):=by
 have:=Ey ha hb h hl;rw[bV (rl b u) (rl b v),bV (rl a u) (rl a v)] at this;omega
def ju(f t:N3)(D u v:Pt):Prop:=
 (lam D f u<=0->0<=lam D f v->lam D f u<lam D f v->cr (rl f u) (rl f v)<=0\/0<=cr (rl t u) (rl t v))/\
 (lam D f v<=0->0<=lam D f u->lam D f v<lam D f u->0<=cr (rl f u) (rl f v)\/cr (rl t u) (rl t v)<=0)
def lI(f t:N3)(D z:Pt):Prop:=lam D f z=0->dt D (rl f z)<=0\/0<=dt D (rl t z)
def Av(a b:N3)(D:Pt):Prop:=a=b\/Behind a b D
theorem Po{a b:N3}{D:Pt}(ha:0<a.2.2)(hb:0<b.2.2)(h:Av a b D){u v:Pt}(hl:lam D a u<lam D a v):(0<=cr (rl b u) (rl b v)->0<=cr (rl a u) (rl a v))/\(cr (rl a u) (rl a v)<=0->cr (rl b u) (rl b v)<=0):=by
 rcases h with rfl|h
 ·exact⟨id,id⟩
 ·have:=Ey ha hb h hl;omega
theorem Pq{a b:N3}{D:Pt}(ha:0<a.2.2)(hb:0<b.2.2)(h:Av a b D){u v:Pt}(hl:lam D a v<lam D a u):(cr (rl b u) (rl b v)<=0->cr (rl a u) (rl a v)<=0)/\(0<=cr (rl a u) (rl a v)->0<=cr (rl b u) (rl b v)):=by
 rcases h with rfl|h
 ·exact⟨id,id⟩
 ·have:=JC ha hb h hl;omega
theorem Pr{a b:N3}{D:Pt}(ha:0<a.2.2)(hb:0<b.2.2)(h:Av a b D)(z:Pt):(lam D b z<0↔lam D a z<0)/\(0<lam D b z↔0<lam D a z):=by
 rcases h with rfl|h
 ·exact⟨zW,zW⟩
 ·exact nr ha hb h z
theorem JD{f t a b:N3}{D u v:Pt}(hf:0<f.2.2)(ht:0<t.2.2)(ha:0<a.2.2)(hb:0<b.2.2)(h:ju f t D u v)(h1:Av f a D)(h2:Behind a b D)(h3:Av b t D):Jy a b D u v:=by
 have su:=Pr hf ha h1 u;have sv:=Pr hf ha h1 v;have tu:=nr ha hb h2 u;have tv:=nr ha hb h2 v;refine⟨fun x y=>?_,fun x y=>?_⟩
 ·change lam D a u<0 at x
  change 0<=lam D a v at y
  rcases h.1 (by omega) (by omega) (by omega) with k|k
  ·exact ae ((Po hf ha h1 (by omega)).2 k)
  ·exact af ((Po hb ht h3 (by omega)).1 k)
 ·change lam D a v<0 at x
  change 0<=lam D a u at y
  rcases h.2 (by omega) (by omega) (by omega) with k|k
  ·exact ae ((Pq hf ha h1 (by omega)).2 k)
  ·exact af ((Pq hb ht h3 (by omega)).1 k)
theorem Aw{f t q:N3}{D u v:Pt}(hf:0<f.2.2)(ht:0<t.2.2)(hq:0<q.2.2)(h:ju f t D u v)(h1:Behind f q D)(h2:Behind q t D):
  (lam D q u<=0->0<=lam D q v->lam D q u<lam D q v->cr (rl q u) (rl q v)≠0)/\(lam D q v<=0->0<=lam D q u->lam D q v<lam D q u->cr (rl q u) (rl q v)≠0):=by
 have su:=nr hf hq h1 u;have sv:=nr hf hq h1 v;refine⟨fun x y z=>?_,fun x y z=>?_⟩
 ·rcases h.1 (by omega) (by omega) (by omega) with k|k
  ·have:=(Ey hf hq h1 (u:=u) (v:=v) (by omega)).2 k
   omega
  ·have:=(Ey hq ht h2 (u:=u) (v:=v) (by omega)).1 k
   omega
 ·rcases h.2 (by omega) (by omega) (by omega) with k|k
  ·have:=(JC hf hq h1 (u:=u) (v:=v) (by omega)).2 k
   omega
  ·have:=(JC hq ht h2 (u:=u) (v:=v) (by omega)).1 k
   omega
def aW(f t:N3):N3:=(f.1+t.1,f.2.1+t.2.1,f.2.2+t.2.2)
theorem Pv(f t:N3):wv f (aW f t)=wv f t:=by unfold wv aW;exact dC (by simp only;grind) (by simp only;grind)
theorem aab(f t:N3):wv (aW f t) t=wv f t:=by unfold wv aW;exact dC (by simp only;grind) (by simp only;grind)
theorem vN{f t:N3}(h:aM (wv f t)):Behind f t (wv f t):=by
 rcases h with h|⟨h1,h2⟩
 ·exact ae ⟨h,h,by unfold cr;grind⟩
 ·exact af ⟨h1,h2,h1,h2⟩
theorem Ez{f t:N3}(h:aM (wv f t)):Behind f (aW f t) (wv f t):=by
 unfold Behind;rw[Pv];exact vN h
theorem JE{f t:N3}(h:aM (wv f t)):Behind (aW f t) t (wv f t):=by
 unfold Behind;rw[aab];exact vN h
theorem uj{F:Pt->Pt->Int}:∀{l:List (Pt×Pt)},(∀e∈l,F e.1 e.2=0)->total F l=0
 |[],_=>rfl
 |e::l,h=>by rw[gb,h e (by simp),uj fun x hx=>h x (bo _ hx)];rfl
theorem ny{F G:Pt->Pt->Int}:∀{l:List (Pt×Pt)},(∀e∈l,F e.1 e.2=G e.1 e.2)->total F l=total G l
 |[],_=>rfl
 |e::l,h=>by rw[gb,gb,h e (by simp),ny fun x hx=>h x (bo _ hx)]
theorem Pw{rg:List (List Pt)}{f t:N3}(hf:0<f.2.2)(ht:0<t.2.2)(hr:aM (wv f t))(hF:∀e∈ag rg,ju f t (wv f t) e.1 e.2):
  PP (ag rg) (aW f t)=PP (ag rg) f+total (cA f (wv f t)) (ag rg):=by
 have hq:0<(aW f t).2.2:=by show 0<f.2.2+t.2.2;omega
 have b1:=Ez hr;have b2:=JE hr;have h:=along hf hq b1 (rg:=rg) fun e he=>JD hf ht hf hq (hF e he) (ae rfl) b1 (af b2)
 have h0:total (cB (aW f t) (wv f t)) (ag rg)=0:=uj fun e he=>by
  obtain⟨k1,k2⟩:=Aw hf ht hq (hF e he) b1 b2;unfold cB;rw[aa (fun⟨x1,_,x2,x3⟩=>k1 (dB x2) x3 (by unfold lam;omega) x1),aa (fun⟨x1,_,x2,x3⟩=>k2 (dB x2) x3 (by unfold lam;omega) x1)]
 omega
theorem aac{rg:List (List Pt)}{f t:N3}(hf:0<f.2.2)(ht:0<t.2.2)(hr:aM (wv f t))(hF:∀e∈ag rg,ju f t (wv f t) e.1 e.2):
  PP (ag rg) (aW f t)=PP (ag rg) t+total (cB t (wv f t)) (ag rg):=by
 have hq:0<(aW f t).2.2:=by show 0<f.2.2+t.2.2;omega
 have b1:=Ez hr;have b2:=JE hr;have h:=along hq ht b2 (rg:=rg) fun e he=>JD hf ht hq ht (hF e he) (af b1) b2 (ae rfl)
 have h0:total (cA (aW f t) (wv f t)) (ag rg)=0:=uj fun e he=>by
  obtain⟨k1,k2⟩:=Aw hf ht hq (hF e he) b1 b2;unfold cA;rw[aa (fun⟨x1,_,x2,x3⟩=>k2 (dB x2) x3 (by unfold lam;omega) x1),aa (fun⟨x1,_,x2,x3⟩=>k1 (dB x2) x3 (by unfold lam;omega) x1)]
 omega
def gI(z:Pt):Bool:=decide (0<z.1\/(z.1=0/\0<z.2))
def ak(z w:Pt):Bool:=(gI z&& !gI w)||((gI z == gI w)&&decide (0<cr z w))
def ay(z w:Pt):Bool:=decide (cr z w=0)&&decide (0<dt z w)
def neg(D:Pt):Pt:=(-D.1, -D.2)
def bb(b:Bool):Int:=if b then 1 else 0
def arm(Q:Pt->Bool)(n:N3)(u v:Pt):Int:=if on (rl n u) (rl n v) then bb (Q (rl n v))-bb (Q (rl n u)) else 0
def AS(es:List (Pt×Pt))(n:N3)(Q:Pt->Bool):Int:=total (arm Q n) es
def fb(q:N3)(D u v:Pt):Int:=if on (rl q u) (rl q v) then(D.1*(v.1-u.1)+D.2*(v.2-u.2)).sign else 0
theorem j5(r s:Pt):on r s=true↔cr r s=0/\dt r s<=0:=by unfold on;simp
theorem sq_pos{a b:Int}(h:a≠0\/b≠0):0<a*a+b*b:=by
 have k:∀x:Int,0<=x*x:=fun x=>by
  rcases Eb 0 x with h|h
  ·exact iB h h
  ·exact rN h h
 have k':∀x:Int,x≠0->0<x*x:=fun x hx=>by
  rcases eD x 0 with h|h|h
  ·exact OG h h
  ·exact absurd h hx
  ·exact aR h h
 have a1:=k a;have b1:=k b;rcases h with h|h
 ·have:=k' a h;omega
 ·have:=k' b h;omega
theorem dO{r:Pt}(h:r≠(0,0)):0<dt r r:=by
 refine sq_pos ?_;rcases Classical.em (r.1=0) with h1|h1
 ·exact af fun h2=>h (dC h1 h2)
 ·exact ae h1
theorem JF{D r:Pt}(h:cr D r≠0):r≠(0,0):=fun e=>h (by rw[e];unfold cr;simp)
theorem rX{D r:Pt}(h:dt D r≠0):r≠(0,0):=fun e=>h (by rw[e];unfold dt;simp)
theorem jS{D:Pt}(h:aM D):D≠(0,0):=fun e=>by
 rw[e] at h;rcases h with h|⟨_,h⟩
 ·exact absurd h (by decide)
 ·exact absurd h (by decide)
theorem rY{D r s:Pt}(h:cr r s=0):cr D s*dt r r=cr D r*dt r s:=by
 unfold cr dt at*
 grind
theorem iF(r s:Pt):dt r s=dt s r:=by unfold dt;grind
theorem xY{D r s:Pt}(h:cr r s=0)(hl:cr D r<0):dt r s<=0↔0<=cr D s:=by
 have p:=dO (JF (D:=D) (r:=r) (by omega))
 have e:=rY (D:=D) h;have a1:=neg_mul (z:=cr D s) p;rw[dM] at a1;have a2:=aN (z:=dt r s) (k:= -cr D r) (by omega)
 rw[gS] at a2;omega
theorem Px{D r s:Pt}(h:cr r s=0)(hl:0<cr D r):dt r s<=0↔cr D s<=0:=by
 have p:=dO (JF (D:=D) (r:=r) (by omega))
 have e:=rY (D:=D) h;have a1:=aN (z:=cr D s) p;rw[dM] at a1;have a2:=aN (z:=dt r s) hl;omega
theorem qu{r s:Pt}(h:cr r s=0):cr s r=0:=by rw[bV];omega
theorem EA{D:Pt}(hD:aM D)(z:Pt):ak z D=true↔0<z.1/\cr D z<0:=by
 have hd:gI D=true:=by unfold gI;exact gD hD
 have e:cr z D= -cr D z:=bV D z;unfold ak;rw[hd,e];by_cases hz:gI z=true
 ·rw[hz];simp;have hz':=fO (by unfold gI at hz;exact hz)
  intro h;rcases hz' with h1|⟨h1,h2⟩
  ·exact h1
  ·exfalso;rcases hD with h3|⟨h3,h4⟩
   ·have:=aR h3 h2;unfold cr at h;rw[h1] at h;omega
   ·unfold cr at h;rw[h1,h3] at h;omega
 ·have hz0:gI z=false:=by simpa using hz
  rw[hz0];simp;intro h;exfalso;apply hz;unfold gI;exact gD (ae h)
theorem JG{D:Pt}(hD:aM D)(z:Pt):ak (neg D) z=true↔z.1<=0/\cr D z<0:=by
 have hd:gI (neg D)=false:=by
  unfold gI neg;refine kH fun h=>?_
  rcases hD with h3|⟨h3,h4⟩<;>simp only at h<;>omega
 have e:cr (neg D) z= -cr D z:=by unfold cr neg;grind
 unfold ak;rw[hd,e];by_cases hz:gI z=true
 ·rw[hz];simp;have hz':=fO (by unfold gI at hz;exact hz)
  intro h1;rcases hz' with h2|⟨h2,h3⟩
  ·omega
  ·unfold cr;rw[h2];rcases hD with h4|⟨h4,h5⟩
   ·have:=aR h4 h3;omega
   ·rw[h4];omega
 ·have hz0:gI z=false:=by simpa using hz
  rw[hz0];simp;have hz':=of_decide_eq_false (by unfold gI at hz0;exact hz0)
  intro h;omega
theorem aad{D:Pt}(hD:aM D)(n:N3)(u v:Pt):cA n D u v=arm (fun z=>ak z D) n u v:=by
 unfold cA arm;generalize rl n u=r;generalize rl n v=s;have ar:=EA hD r;have al3:=EA hD s;by_cases hc:cr r s=0
 ·have lH:=j5 r s;have k1:cr D s<0->(dt r s<=0↔0<=cr D r):=fun h=>by
   have:=xY (qu hc) h;rw[iF] at this;exact this
  have k2:cr D r<0->(dt r s<=0↔0<=cr D s):=fun h=>xY hc h
  unfold bb;cases h1:ak r D<;>cases h2:ak s D<;>cases h3:on r s<;>rw[h1] at ar<;>rw[h2] at al3<;>rw[h3] at lH<;>simp only[iC,reduceIte,false_iff,true_iff] at* <;>repeat' split
  all_goals first |omega |simp_all
 ·have lH:on r s=false:=by
   cases h:on r s
   ·rfl
   ·exact absurd ((j5 r s).1 h).1 hc
  rw[lH,aa (by omega),aa (by omega)]
  rfl
theorem aae{D:Pt}(hD:aM D)(n:N3)(u v:Pt):cB n D u v= -arm (fun z=>ak (neg D) z) n u v:=by
 unfold cB arm;generalize rl n u=r;generalize rl n v=s;have ar:=JG hD r;have al3:=JG hD s;by_cases hc:cr r s=0
 ·have lH:=j5 r s;have k1:cr D s<0->(dt r s<=0↔0<=cr D r):=fun h=>by
   have:=xY (qu hc) h;rw[iF] at this;exact this
  have k2:cr D r<0->(dt r s<=0↔0<=cr D s):=fun h=>xY hc h
  unfold bb;cases h1:ak (neg D) r<;>cases h2:ak (neg D) s<;>cases h3:on r s<;>rw[h1] at ar<;>rw[h2] at al3<;>rw[h3] at lH<;>simp only[iC,reduceIte,false_iff,true_iff] at* <;>repeat' split
  all_goals first |omega |simp_all
 ·have lH:on r s=false:=by
   cases h:on r s
   ·rfl
   ·exact absurd ((j5 r s).1 h).1 hc
  rw[lH,aa (by omega),aa (by omega)]
  rfl
theorem JH(F:Pt->Pt->Int):∀l:List (Pt×Pt),total (fun u v=> -F u v) l= -total F l
 |[]=>rfl
 |e::l=>by rw[gb,gb,JH F l];omega
theorem aaf{rg:List (List Pt)}{f t:N3}(hf:0<f.2.2)(ht:0<t.2.2)(hr:aM (wv f t))(hF:∀e∈ag rg,ju f t (wv f t) e.1 e.2):
  PP (ag rg) (aW f t)=PP (ag rg) f+AS (ag rg) f (fun z=>ak z (wv f t)):=by
 rw[Pw hf ht hr hF];unfold AS;rw[ny fun e _=>aad hr f e.1 e.2]
theorem aag{rg:List (List Pt)}{f t:N3}(hf:0<f.2.2)(ht:0<t.2.2)(hr:aM (wv f t))(hF:∀e∈ag rg,ju f t (wv f t) e.1 e.2):
  PP (ag rg) (aW f t)=PP (ag rg) t-AS (ag rg) t (fun z=>ak (neg (wv f t)) z):=by
 rw[aac hf ht hr hF];unfold AS;have e1:total (cB t (wv f t)) (ag rg)=total (fun u v=> -arm (fun z=>ak (neg (wv f t)) z) t u v) (ag rg):=ny fun e _=>aae hr t e.1 e.2
 rw[e1,JH];omega
theorem jN{z d:Pt}(hz:aM z)(hd:aM d)(h:cr z d=0):0<dt z d:=by
 rcases hz with h1|⟨h1,h2⟩
 ·rcases hd with h3|⟨h3,h4⟩
  ·have e:dt z d*z.1=d.1*dt z z:=by unfold cr at h;unfold dt;grind
   have p:=aR h3 (dO (r:=z) (jS (ae h1)));have k:=aN (z:=dt z d) h1;rw[dM] at k;omega
  ·exfalso;unfold cr at h;rw[h3] at h;have:=aR h1 h4;omega
 ·rcases hd with h3|⟨h3,h4⟩
  ·exfalso;unfold cr at h;rw[h1] at h;have:=aR h2 h3;omega
  ·unfold dt;rw[h1];have:=aR h2 h4;omega
theorem uk(z:Pt):gI z=true↔aM z:=by unfold gI aM;simp
theorem fF{z:Pt}(hz:z≠(0,0))(h:¬aM z):aM (neg z):=by
 unfold aM neg at*;simp only;have:¬(z.1=0/\z.2=0):=fun k=>hz (dC k.1 k.2)
 omega
theorem ji{D:Pt}(h:D≠(0,0)):neg D≠(0,0):=fun e=>h (by
 unfold neg at e;have e1:=aw Prod.fst e;have e2:=aw Prod.snd e;simp only at e1 e2;exact dC (by omega) (by omega))
theorem neg_neg(D:Pt):neg (neg D)=D:=by unfold neg;exact dC (by simp) (by simp)
theorem eI(z d:Pt):cr (neg z) d= -cr z d:=by unfold cr neg;grind
theorem fh(z d:Pt):cr z (neg d)= -cr z d:=by unfold cr neg;grind
theorem qw(z d:Pt):dt (neg z) d= -dt z d:=by unfold dt neg;grind
theorem j6(z d:Pt):dt z (neg d)= -dt z d:=by unfold dt neg;grind
theorem gZ{z d:Pt}(hz:z≠(0,0))(hd:d≠(0,0)):bb (ak z d)+bb (ay z d)+bb (ak d z)=1:=by
 have hs:ay z d=true↔cr z d=0/\0<dt z d:=by unfold ay;simp
 have e:=bV z d;by_cases h1:aM z
 ·have r1:=(uk z).2 h1;by_cases h2:aM d
  ·have r2:=(uk d).2 h2;have k:=jN h1 h2;have a1:ak z d=decide (0<cr z d):=by unfold ak;rw[r1,r2];simp
   have a2:ak d z=decide (0<cr d z):=by unfold ak;rw[r1,r2];simp
   rw[a1,a2];cases h3:ay z d<;>rw[h3] at hs<;>unfold bb<;>simp at* <;>repeat' split
   all_goals omega
  ·have r2:gI d=false:=by cases h:gI d;rfl;exact absurd ((uk d).1 h) h2
   have k:=jN h1 (fF hd h2);rw[fh,j6] at k;have a1:ak z d=true:=by unfold ak;rw[r1,r2];rfl
   have a2:ak d z=false:=by unfold ak;rw[r1,r2];rfl
   have a3:ay z d=false:=by
    cases h3:ay z d
    ·rfl
    ·have:=hs.1 h3;have:=k (by omega)
     omega
   rw[a1,a2,a3];rfl
 ·have r1:gI z=false:=by cases h:gI z;rfl;exact absurd ((uk z).1 h) h1
  by_cases h2:aM d
  ·have r2:=(uk d).2 h2;have k:=jN (fF hz h1) h2;rw[eI,qw] at k;have a1:ak z d=false:=by unfold ak;rw[r1,r2];rfl
   have a2:ak d z=true:=by unfold ak;rw[r1,r2];rfl
   have a3:ay z d=false:=by
    cases h3:ay z d
    ·rfl
    ·have:=hs.1 h3;have:=k (by omega)
     omega
   rw[a1,a2,a3];rfl
  ·have r2:gI d=false:=by cases h:gI d;rfl;exact absurd ((uk d).1 h) h2
   have k:=jN (fF hz h1) (fF hd h2);rw[eI,qw,fh,j6] at k;have a1:ak z d=decide (0<cr z d):=by unfold ak;rw[r1,r2];simp
   have a2:ak d z=decide (0<cr d z):=by unfold ak;rw[r1,r2];simp
   rw[a1,a2];cases h3:ay z d<;>rw[h3] at hs<;>unfold bb<;>simp at* <;>repeat' split
   all_goals omega
def nz(z:Pt):Bool:=decide (z≠(0,0))
theorem xZ(z:Pt):cr (0,0) z=0/\cr z (0,0)=0/\dt (0,0) z=0/\dt z (0,0)=0:=by unfold cr dt;simp
theorem qy(r s:Pt)(h:r=(0,0)\/s=(0,0)):on r s=true:=by
 rw[j5];rcases h with h|h<;>rw[h]
 ·have:=xZ s;omega
 ·have:=xZ r;omega
theorem JI(rg:List (List Pt))(n:N3):AS (ag rg) n nz=0:=by
 refine Jz _ (fun z=> -bb (nz (rl n z))) (fun a=>?_) rg fun e _=>?_
 ·unfold arm;split<;>omega
 ·unfold arm;cases h:on (rl n e.1) (rl n e.2)
  ·have h1:nz (rl n e.1)=true:=gD fun k=>by rw[qy _ _ (ae k)] at h;cases h
   have h2:nz (rl n e.2)=true:=gD fun k=>by rw[qy _ _ (af k)] at h;cases h
   rw[h1,h2];simp
  ·simp only[reduceIte];omega
theorem Ax{es:List (Pt×Pt)}{n:N3}{Q Q1 Q2:Pt->Bool}(h:∀z,bb (Q z)=bb (Q1 z)+bb (Q2 z)):AS es n Q=AS es n Q1+AS es n Q2:=by
 unfold AS;rw[<-Ex];refine ny fun e _=>?_
 unfold arm;rw[h,h];split<;>omega
theorem EC{es:List (Pt×Pt)}{n:N3}{Q Q':Pt->Bool}(h:∀e∈es,on (rl n e.1) (rl n e.2)=true->Q (rl n e.1)=Q' (rl n e.1)/\Q (rl n e.2)=Q' (rl n e.2)):AS es n Q=AS es n Q':=by
 refine ny fun e he=>?_
 unfold arm;cases h1:on (rl n e.1) (rl n e.2)
 ·rfl
 ·obtain⟨k1,k2⟩:=h e he h1;rw[k1,k2]
def cV(es:List (Pt×Pt))(n:N3)(d:Pt):Int:=PP es n+AS es n (fun z=>nz z&&ak z d)
def dP(es:List (Pt×Pt))(n:N3)(d:Pt):Int:=cV es n d+AS es n (fun z=>ay z d)
theorem Py{z d:Pt}(h:aM d):(nz z&&ak z d)=ak z d:=by
 unfold nz;by_cases hz:z=(0,0)
 ·have:ak z d=false:=by
   cases hk:ak z d
   ·rfl
   ·have:=(EA h z).1 hk;rw[hz] at this;simp at this
  rw[this];simp
 ·simp[hz]
theorem x7(d:Pt):ay (0,0) d=false:=by
 unfold ay;rw[(xZ d).2.2.1];simp
theorem aah{d:Pt}(h:aM d):ak (neg d) (0,0)=false:=by
 cases hk:ak (neg d) (0,0)
 ·rfl
 ·have:=(JG h (0,0)).1 hk;have:=(xZ d).2.1;omega
theorem aai{rg:List (List Pt)}{n:N3}{d:Pt}(h:aM d):
  AS (ag rg) n (fun z=>nz z&&ak z (neg d))+AS (ag rg) n (fun z=>ay z (neg d))= -AS (ag rg) n (fun z=>ak (neg d) z):=by
 have e1:AS (ag rg) n nz=AS (ag rg) n (fun z=>nz z&&(ak z (neg d)||ay z (neg d)))+AS (ag rg) n (fun z=>ak (neg d) z):=by
  refine Ax fun z=>?_
  by_cases hz:z=(0,0)
  ·rw[hz,aah h];rfl
  ·have k:=gZ hz (ji (jS h));have:nz z=true:=gD hz;rw[this];unfold bb at*;revert k;cases ak z (neg d)<;>cases ay z (neg d)<;>cases ak (neg d) z<;>decide
 have e2:AS (ag rg) n (fun z=>nz z&&(ak z (neg d)||ay z (neg d)))=AS (ag rg) n (fun z=>nz z&&ak z (neg d))+AS (ag rg) n (fun z=>ay z (neg d)):=by
  refine Ax fun z=>?_
  by_cases hz:z=(0,0)
  ·rw[hz,x7];rfl
  ·have k:=gZ hz (ji (jS h));have:nz z=true:=gD hz;rw[this];unfold bb at*;revert k;cases ak z (neg d)<;>cases ay z (neg d)<;>cases ak (neg d) z<;>decide
 have:=JI rg n;omega
end Go.Proofs.YtkjhhooecopolaaGreatDoor.Ga
