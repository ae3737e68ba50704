import Derived.Test.YtkjhhooecopolaaGreatDoorWza
set_option maxRecDepth 100000
set_option maxHeartbeats 4000000
namespace Go.Proofs.YtkjhhooecopolaaGreatDoor.Ge
abbrev Pt:=Int×Int
def rel(n:Pt)(d:Int)(a:Pt):Pt:=(d*a.1-n.1,d*a.2-n.2)
def cr(u v:Pt):Int:=u.1*v.2-u.2*v.1
def dt(u v:Pt):Int:=u.1*v.1+u.2*v.2
def on(u v:Pt):Bool:=decide (cr u v=0)&&decide (dt u v<=0)
def right(u v:Pt):Int:=if u.1<=0/\0<v.1/\0<cr u v then 1 else if 0<u.1/\v.1<=0/\cr u v<0 then -1 else 0
theorem amJ{a b:Int}(ha:0<a)(hb:0<b):0<a*b:=aR ha hb
theorem KM{a b:Int}(ha:a<=0)(hb:0<b):a*b<=0:=Fv ha (dS hb)
theorem amI{a b c d:Int}(h:a*d-b*c=0)(ha:a<=0)(hc:0<c):a*c+b*d<=0:=by
 have e:c*(a*c+b*d)=a*(c*c+d*d):=by
  have e1:b*c=a*d:=by omega
  calc c*(a*c+b*d)=a*(c*c)+d*(b*c):=by grind
   _=a*(c*c+d*d):=by rw[e1];grind
 have hq:0<c*c+d*d:=by
  have h1:=aR hc hc;have h2:0<=d*d:=by
   rcases Bq 0 d with h|h
   ·exact iN h h
   ·exact qZ h h
  omega
 have h3:=KM ha hq;rw[<-e] at h3;rcases(show a*c+b*d<=0\/0<a*c+b*d by omega) with h4|h4
 ·exact h4
 ·have:=amJ hc h4;omega
theorem abx(u v:Pt):(on u v=true)↔cr u v=0/\u.1*v.1<=0/\u.2*v.2<=0:=by
 obtain⟨a,b⟩:=u;obtain⟨c,d⟩:=v;simp only[on,cr,dt,pj];constructor
 ·rintro⟨h1',h2'⟩;have h1:a*d-b*c=0:=gh h1';have h2:a*c+b*d<=0:=gh h2';clear h1' h2';refine⟨h1,?_⟩;have hsq:(a*c)*(b*d)=(a*d)*(a*d):=by
   have e:b*c=a*d:=by omega
   calc (a*c)*(b*d)=(a*d)*(b*c):=by ac_rfl
    _=(a*d)*(a*d):=by rw[e]
  have hnn:0<=(a*c)*(b*d):=by
   rw[hsq];rcases Bq 0 (a*d) with h|h
   ·exact iN h h
   ·exact qZ h h
  generalize a*c=x at*;generalize b*d=y at*;rcases eK x 0 with hx|hx|hx
  ·refine⟨by omega,?_⟩
   rcases(show y<=0\/0<y by omega) with hy|hy
   ·exact hy
   ·have:=Br hx hy;omega
  ·subst hx;omega
  ·exfalso;have hy:y<0:=by omega
   have:=Br hy hx;rw[dX] at this;omega
 ·rintro⟨h1,h2,h3⟩;have h4:a*c+b*d<=0:=Int.add_nonpos h2 h3;exact⟨eN h1,eN h4⟩
def closing:List Pt->List (Pt×Pt)
 |[]=>[]
 |a::r=>(a::r).zip (r++[a])
def dY(g:List Pt):List (Pt×Pt):=(closing g).filter fun e=>decide (e.1≠e.2)
def ae(rg:List (List Pt)):List (Pt×Pt):=rg.flatMap dY
def total(f:Pt->Pt->Int)(l:List (Pt×Pt)):Int:=(l.map fun e=>f e.1 e.2).sum
theorem tR(f:Pt->Pt->Int):total f []=0:=rfl
theorem dZ(f:Pt->Pt->Int)(e:Pt×Pt)(l:List (Pt×Pt)):total f (e::l)=f e.1 e.2+total f l:=by simp[total]
theorem FY(f:Pt->Pt->Int)(l k:List (Pt×Pt)):total f (l++k)=total f l+total f k:=by
 induction l with
 |nil=>simp[total]
 |cons e l ih=>rw[kZ,dZ,dZ,ih];omega
theorem QK(f g:Pt->Pt->Int)(k:Pt->Int):∀(r:List Pt)(a z:Pt),(∀p,p∈(a::r).zip (r++[z])->f p.1 p.2-g p.1 p.2=k p.2-k p.1)->
  total f ((a::r).zip (r++[z]))-total g ((a::r).zip (r++[z]))=k z-k a
 |[],a,z,h=>by
  have h1:=h (a,z) (by simp)
  simp only[qd,Km,List.zip_nil_left,dZ,tR];simp only at h1;omega
 |b::r,a,z,h=>by
  have h1:=h (a,b) (by simp)
  have h2:=QK f g k r b z (fun p hp=>h p (by
   rw[kZ,Km];exact aT _ hp))
  rw[kZ,Km,dZ,dZ];simp only at h1⊢;omega
theorem KN(f:Pt->Pt->Int)(hf:∀a,f a a=0)(l:List (Pt×Pt)):total f (l.filter fun e=>decide (e.1≠e.2))=total f l:=by
 induction l with
 |nil=>rfl
 |cons e l ih=>
  rw[aaK];by_cases h:e.1=e.2
  ·rw[af (by simp[h]),ih,dZ,h,hf];omega
  ·rw[aj (by simp[h]),dZ,dZ,ih]
def fr(n:Pt)(d:Int)(a b:Pt):Int:=right (rel n d a) (rel n d b)
def fo(n:Pt)(d:Int)(e:Pt×Pt):Bool:=on (rel n d e.1) (rel n d e.2)
end Go.Proofs.YtkjhhooecopolaaGreatDoor.Ge
namespace Go.Proofs.YtkjhhooecopolaaGreatDoor.Ga
open Ge
def od(u v:Pt):Int:=if cr u v=0/\0<v.1/\v.2<0/\0<=u.2 then 1 else if cr u v=0/\0<u.1/\u.2<0/\0<=v.2 then -1 else 0
def og(u v:Pt):Int:=if cr u v=0/\u.1<=0/\u.2<0/\0<=v.2 then 1 else if cr u v=0/\v.1<=0/\v.2<0/\0<=u.2 then -1 else 0
def rD(w:Int)(u:Pt):Int:=if 0<u.1/\u.1<=w/\u.2<0 then 1 else 0
def sh(w:Int)(u:Pt):Pt:=(u.1-w,u.2)
def bi(p:Prop)[Decidable p]:Int:=if p then 1 else 0
def BN(w:Int)(u v:Pt):Prop:=
 (u.2<0->0<=v.2->cr u v<=0\/0<=cr (sh w u) (sh w v))/\(v.2<0->0<=u.2->0<=cr u v\/cr (sh w u) (sh w v)<=0)
theorem bT(u v:Pt):cr v u= -cr u v:=by unfold cr;grind
theorem KO(u v:Pt):right v u= -right u v:=by
 unfold right;rw[bT u v]
 repeat' split
 all_goals omega
theorem abz(u v:Pt):od v u= -od u v:=by
 unfold od;rw[bT u v]
 repeat' split
 all_goals omega
theorem abA(u v:Pt):og v u= -og u v:=by
 unfold og;rw[bT u v]
 repeat' split
 all_goals omega
theorem upA{u v:Pt}(h1:u.2<0)(h2:0<=v.2):right u v+od u v=bi (u.1<=0)-bi (cr u v<=0):=by
 have f1:u.1<=0->0<cr u v->0<v.1:=fun a b=>by
  apply Int.not_le.1;intro h;have k1:u.1*v.2<=0:=Fv a h2;have k2:0<=u.2*v.1:=qZ (by omega) h
  unfold cr at b;omega
 have f2:0<u.1->cr u v<=0->v.1<=0:=fun a b=>by
  apply Bt.1;intro h;have k1:0<=u.1*v.2:=iN (by omega) h2
  have k2:u.2*v.1<0:=Br h1 h;unfold cr at b;omega
 unfold right od bi
 repeat' split
 all_goals omega
theorem upB{u v:Pt}(h1:u.2<0)(h2:0<=v.2):right u v+og u v=bi (u.1<=0)-bi (cr u v<0):=by
 have f1:u.1<=0->0<cr u v->0<v.1:=fun a b=>by
  apply Int.not_le.1;intro h;have k1:u.1*v.2<=0:=Fv a h2;have k2:0<=u.2*v.1:=qZ (by omega) h
  unfold cr at b;omega
 have f2:0<u.1->cr u v<=0->v.1<=0:=fun a b=>by
  apply Bt.1;intro h;have k1:0<=u.1*v.2:=iN (by omega) h2
  have k2:u.2*v.1<0:=Br h1 h;unfold cr at b;omega
 unfold right og bi
 repeat' split
 all_goals omega
theorem QL{w:Int}(hw:0<w){u v:Pt}(h:BN w u v)(h1:u.2<0)(h2:0<=v.2):right (sh w u) (sh w v)+og (sh w u) (sh w v)-right u v-od u v=rD w u-rD w v:=by
 have a:=upA h1 h2;have b:=upB (u:=sh w u) (v:=sh w v) h1 h2;have c:=h.1 h1 h2;have e1:rD w u=bi (u.1<=w)-bi (u.1<=0):=by
  unfold rD bi
  repeat' split
  all_goals omega
 have e2:rD w v=0:=af (by omega)
 have e3:bi ((sh w u).1<=0)=bi (u.1<=w):=by
  have:(sh w u).1=u.1-w:=rfl;unfold bi
  repeat' split
  all_goals omega
 have e4:bi (cr u v<=0)=bi (cr (sh w u) (sh w v)<0):=by
  have:cr (sh w u) (sh w v)=cr u v-w*(v.2-u.2):=by unfold cr sh;grind
  have k:0<w*(v.2-u.2):=aR hw (by omega)
  unfold bi
  repeat' split
  all_goals omega
 rw[e1,e2];omega
theorem abD{w:Int}(hw:0<w){u v:Pt}(h:BN w u v):right (sh w u) (sh w v)+og (sh w u) (sh w v)-right u v-od u v=rD w u-rD w v:=by
 by_cases h1:u.2<0
 ·by_cases h2:v.2<0
  ·have key:∀t:Int,right (sh t u) (sh t v)=bi (u.1<=t)-bi (v.1<=t):=fun t=>by
    have a1:u.1<=t->t<v.1->0<cr (sh t u) (sh t v):=fun a b=>by
     have k1:0<=(u.1-t)*v.2:=qZ (by omega) (by omega)
     have k2:u.2*(v.1-t)<0:=Br h1 (by omega)
     show 0<(u.1-t)*v.2-u.2*(v.1-t);omega
    have a2:t<u.1->v.1<=t->cr (sh t u) (sh t v)<0:=fun a b=>by
     have k1:(u.1-t)*v.2<0:=wT (by omega) h2
     have k2:0<=u.2*(v.1-t):=qZ (by omega) (by omega)
     show(u.1-t)*v.2-u.2*(v.1-t)<0;omega
    have b1:(sh t u).1=u.1-t:=rfl;have b2:(sh t v).1=v.1-t:=rfl;unfold right bi
    repeat' split
    all_goals omega
   have s0:∀z:Pt,sh 0 z=z:=fun z=>by unfold sh;rw[yQ]
   have k0:=key 0;rw[s0,s0] at k0;have e1:og (sh w u) (sh w v)=0:=by
    have b1:(sh w u).2=u.2:=rfl;have b2:(sh w v).2=v.2:=rfl;unfold og;rw[af (by omega),af (by omega)]
   have e2:od u v=0:=by
    unfold od;rw[af (by omega),af (by omega)]
   rw[key w,k0,e1,e2];unfold rD bi
   repeat' split
   all_goals omega
  ·exact QL hw h h1 (by omega)
 ·by_cases h2:v.2<0
  ·have h':BN w v u:=by
    refine⟨fun a b=>?_,fun a b=>?_⟩
    ·have:=h.2 a b;rw[bT u v,bT (sh w u) (sh w v)];omega
    ·have:=h.1 a b;rw[bT u v,bT (sh w u) (sh w v)];omega
   have:=QL hw h' h2 (by omega)
   rw[KO u v,abz u v,KO (sh w u) (sh w v),abA (sh w u) (sh w v)] at this;omega
  ·have key:∀t:Int,right (sh t u) (sh t v)=0:=fun t=>by
    have a1:u.1<=t->t<v.1->¬0<cr (sh t u) (sh t v):=fun a b=>by
     have k1:(u.1-t)*v.2<=0:=Fv (by omega) (by omega)
     have k2:0<=u.2*(v.1-t):=iN (by omega) (by omega)
     show ¬0<(u.1-t)*v.2-u.2*(v.1-t);omega
    have a2:t<u.1->v.1<=t->¬cr (sh t u) (sh t v)<0:=fun a b=>by
     have k1:0<=(u.1-t)*v.2:=iN (by omega) (by omega)
     have k2:u.2*(v.1-t)<=0:=amk (by omega) (by omega)
     show ¬(u.1-t)*v.2-u.2*(v.1-t)<0;omega
    have b1:(sh t u).1=u.1-t:=rfl;have b2:(sh t v).1=v.1-t:=rfl;unfold right
    repeat' split
    all_goals omega
   have s0:∀z:Pt,sh 0 z=z:=fun z=>by unfold sh;rw[yQ]
   have k0:=key 0;rw[s0,s0] at k0;have e1:og (sh w u) (sh w v)=0:=by
    have b1:(sh w u).2=u.2:=rfl;have b2:(sh w v).2=v.2:=rfl;unfold og;rw[af (by omega),af (by omega)]
   have e2:od u v=0:=by
    unfold od;rw[af (by omega),af (by omega)]
   rw[key w,k0,e1,e2];unfold rD;rw[af (by omega),af (by omega)]
   omega
def rl(n:Int×Int×Int)(z:Pt):Pt:=rel (n.1,n.2.1) n.2.2 z
def wv(a b:Int×Int×Int):Pt:=(a.2.2*b.1-b.2.2*a.1,a.2.2*b.2.1-b.2.2*a.2.1)
def aJ(D:Pt):Prop:=0<D.1\/(D.1=0/\0<D.2)
def cA(n:Int×Int×Int)(D:Pt)(u v:Pt):Int:=
 if cr (rl n u) (rl n v)=0/\0<(rl n v).1/\cr D (rl n v)<0/\0<=cr D (rl n u) then 1
 else if cr (rl n u) (rl n v)=0/\0<(rl n u).1/\cr D (rl n u)<0/\0<=cr D (rl n v) then -1 else 0
def cB(n:Int×Int×Int)(D:Pt)(u v:Pt):Int:=
 if cr (rl n u) (rl n v)=0/\(rl n u).1<=0/\cr D (rl n u)<0/\0<=cr D (rl n v) then 1
 else if cr (rl n u) (rl n v)=0/\(rl n v).1<=0/\cr D (rl n v)<0/\0<=cr D (rl n u) then -1 else 0
def KP(a b:Int×Int×Int)(D u v:Pt):Prop:=
 (cr D (rl a u)<0->0<=cr D (rl a v)->cr (rl a u) (rl a v)<=0\/0<=cr (rl b u) (rl b v))/\(cr D (rl a v)<0->0<=cr D (rl a u)->0<=cr (rl a u) (rl a v)\/cr (rl b u) (rl b v)<=0)
def Behind(a b:Int×Int×Int)(D:Pt):Prop:=(0<D.1/\0<(wv a b).1/\cr D (wv a b)=0)\/(D.1=0/\0<D.2/\(wv a b).1=0/\0<(wv a b).2)
def tr(D r:Pt):Pt:=(r.1,cr D r)
def sc(k:Int)(u:Pt):Pt:=(k*u.1,k*u.2)
theorem BO(D r s:Pt):cr (tr D r) (tr D s)=D.1*cr r s:=by unfold tr cr;grind
theorem BP(k:Int)(r s:Pt):cr (sc k r) (sc k s)=k*k*cr r s:=by unfold sc cr;grind
theorem aQ{k z:Int}(hk:0<k):0<k*z↔0<z:=by
 constructor
 ·intro h;exact Int.pos_of_mul_pos_right (a:=k) h |> fun h=>by
   rcases eK z 0 with h1|h1|h1
   ·have:=wT hk h1;omega
   ·subst h1;simp at*
   ·exact h1
 ·exact aR hk
theorem neg_mul{k z:Int}(hk:0<k):k*z<0↔z<0:=by
 have:=aQ (z:= -z) hk;rw[wU] at this;omega
theorem dE{k z:Int}(hk:0<k):k*z=0↔z=0:=by
 have h1:=aQ (z:=z) hk;have h2:=neg_mul (z:=z) hk;omega
theorem kF(a b:Int×Int×Int)(z:Pt):a.2.2*(rl b z).1=b.2.2*(rl a z).1-(wv a b).1/\a.2.2*(rl b z).2=b.2.2*(rl a z).2-(wv a b).2:=by
 unfold rl rel wv;constructor<;>grind
theorem QM{D:Pt}(hD:0<D.1)(r s:Pt):right (tr D r) (tr D s)=right r s:=by
 have h1:=aQ (z:=cr r s) hD;have h2:=neg_mul (z:=cr r s) hD;unfold right;rw[BO];have e1:(tr D r).1=r.1:=rfl;have e2:(tr D s).1=s.1:=rfl;rw[e1,e2]
 repeat' split
 all_goals omega
theorem y9{k:Int}(hk:0<k)(r s:Pt):right (sc k r) (sc k s)=right r s:=by
 have hkk:=aR hk hk;have h1:=aQ (z:=cr r s) hkk;have h2:=neg_mul (z:=cr r s) hkk;have a1:=aQ (z:=r.1) hk;have a2:=aQ (z:=s.1) hk;unfold right;rw[BP];have e1:(sc k r).1=k*r.1:=rfl;have e2:(sc k s).1=k*s.1:=rfl;rw[e1,e2]
 repeat' split
 all_goals omega
theorem abE{n:Int×Int×Int}{D:Pt}(hD:0<D.1){k:Int}(hk:0<k)(u v:Pt):od (sc k (tr D (rl n u))) (sc k (tr D (rl n v)))=cA n D u v:=by
 have hkk:=aR (aR hk hk) hD;have h1:=dE (z:=cr (rl n u) (rl n v)) hkk;have a1:=aQ (z:=(rl n u).1) hk;have a2:=aQ (z:=(rl n v).1) hk;have b1:=neg_mul (z:=cr D (rl n u)) hk;have b2:=neg_mul (z:=cr D (rl n v)) hk;unfold od cA;rw[BP,BO];have e0:k*k*(D.1*cr (rl n u) (rl n v))=k*k*D.1*cr (rl n u) (rl n v):=by grind
 have e1:(sc k (tr D (rl n u))).1=k*(rl n u).1:=rfl;have e2:(sc k (tr D (rl n v))).1=k*(rl n v).1:=rfl;have e3:(sc k (tr D (rl n u))).2=k*cr D (rl n u):=rfl;have e4:(sc k (tr D (rl n v))).2=k*cr D (rl n v):=rfl;rw[e0,e1,e2,e3,e4]
 repeat' split
 all_goals omega
theorem abF{n:Int×Int×Int}{D:Pt}(hD:0<D.1){k:Int}(hk:0<k)(u v:Pt):og (sc k (tr D (rl n u))) (sc k (tr D (rl n v)))=cB n D u v:=by
 have hkk:=aR (aR hk hk) hD;have h1:=dE (z:=cr (rl n u) (rl n v)) hkk;have a1:=aQ (z:=(rl n u).1) hk;have a2:=aQ (z:=(rl n v).1) hk;have b1:=neg_mul (z:=cr D (rl n u)) hk;have b2:=neg_mul (z:=cr D (rl n v)) hk;unfold og cB;rw[BP,BO];have e0:k*k*(D.1*cr (rl n u) (rl n v))=k*k*D.1*cr (rl n u) (rl n v):=by grind
 have e1:(sc k (tr D (rl n u))).1=k*(rl n u).1:=rfl;have e2:(sc k (tr D (rl n v))).1=k*(rl n v).1:=rfl;have e3:(sc k (tr D (rl n u))).2=k*cr D (rl n u):=rfl;have e4:(sc k (tr D (rl n v))).2=k*cr D (rl n v):=rfl;rw[e0,e1,e2,e3,e4]
 repeat' split
 all_goals omega
def BR(a b:Int×Int×Int)(D z:Pt):Int:=if D.1=0 then 0 else rD (wv a b).1 (sc b.2.2 (tr D (rl a z)))
theorem abG{a b:Int×Int×Int}{D:Pt}(ha:0<a.2.2)(hb:0<b.2.2)(hB:Behind a b D){u v:Pt}(hF:KP a b D u v):
  right (rl b u) (rl b v)+cB b D u v-right (rl a u) (rl a v)-cA a D u v=BR a b D u-BR a b D v:=by
 rcases hB with⟨hD,hW,hp⟩|⟨hD,u9,hW,hW2⟩
 ·have hs:∀z,sh (wv a b).1 (sc b.2.2 (tr D (rl a z)))=sc a.2.2 (tr D (rl b z)):=fun z=>by
   obtain⟨e1,e2⟩:=kF a b z;refine bX ?_ ?_
   ·show b.2.2*(rl a z).1-(wv a b).1=a.2.2*(rl b z).1;omega
   ·show b.2.2*(D.1*(rl a z).2-D.2*(rl a z).1)=a.2.2*(D.1*(rl b z).2-D.2*(rl b z).1);unfold cr at hp;have k1:a.2.2*(D.1*(rl b z).2-D.2*(rl b z).1)=D.1*(a.2.2*(rl b z).2)-D.2*(a.2.2*(rl b z).1):=by grind
    rw[k1,e1,e2]
    grind
  have c1:cr (sc b.2.2 (tr D (rl a u))) (sc b.2.2 (tr D (rl a v)))=b.2.2*b.2.2*D.1*cr (rl a u) (rl a v):=by rw[BP,BO];grind
  have c2:cr (sc a.2.2 (tr D (rl b u))) (sc a.2.2 (tr D (rl b v)))=a.2.2*a.2.2*D.1*cr (rl b u) (rl b v):=by rw[BP,BO];grind
  have p1:=aR (aR hb hb) hD;have p2:=aR (aR ha ha) hD;have q1:=aQ (z:=cr (rl a u) (rl a v)) p1;have q2:=neg_mul (z:=cr (rl a u) (rl a v)) p1;have q3:=aQ (z:=cr (rl b u) (rl b v)) p2;have q4:=neg_mul (z:=cr (rl b u) (rl b v)) p2;have s1:=neg_mul (z:=cr D (rl a u)) hb;have s2:=neg_mul (z:=cr D (rl a v)) hb;have hfree:BN (wv a b).1 (sc b.2.2 (tr D (rl a u))) (sc b.2.2 (tr D (rl a v))):=by
   unfold BN;rw[hs,hs,c1,c2];have e3:(sc b.2.2 (tr D (rl a u))).2=b.2.2*cr D (rl a u):=rfl;have e4:(sc b.2.2 (tr D (rl a v))).2=b.2.2*cr D (rl a v):=rfl;rw[e3,e4];obtain⟨f1,f2⟩:=hF;constructor
   ·intro x y;have:=f1 (by omega) (by omega)
    omega
   ·intro x y;have:=f2 (by omega) (by omega)
    omega
  have key:=abD hW hfree;rw[hs,hs,y9 ha,QM hD,y9 hb,QM hD,abE hD hb,abF hD ha] at key;unfold BR;rw[af (by omega),af (by omega)]
  exact key
 ·unfold BR;rw[aj hD,aj hD];obtain⟨e1,e2⟩:=kF a b u;obtain⟨e3,e4⟩:=kF a b v;rw[hW] at e1 e3;have x1:=aQ (z:=(rl b u).1) ha;have x2:=aQ (z:=(rl b v).1) ha;have x3:=aQ (z:=(rl a u).1) hb;have x4:=aQ (z:=(rl a v).1) hb;have l1:cr D (rl a u)= -(D.2*(rl a u).1):=by unfold cr;rw[hD];omega
  have l2:cr D (rl a v)= -(D.2*(rl a v).1):=by unfold cr;rw[hD];omega
  have l3:cr D (rl b u)= -(D.2*(rl b u).1):=by unfold cr;rw[hD];omega
  have l4:cr D (rl b v)= -(D.2*(rl b v).1):=by unfold cr;rw[hD];omega
  have y1:=aQ (z:=(rl a u).1) u9;have y2:=aQ (z:=(rl a v).1) u9;have y3:=aQ (z:=(rl b u).1) u9;have y4:=aQ (z:=(rl b v).1) u9;have ec:a.2.2*a.2.2*cr (rl b u) (rl b v)=b.2.2*b.2.2*cr (rl a u) (rl a v)+b.2.2*(wv a b).2*((rl a v).1-(rl a u).1):=by
   have k:a.2.2*a.2.2*cr (rl b u) (rl b v)=(a.2.2*(rl b u).1)*(a.2.2*(rl b v).2)-(a.2.2*(rl b u).2)*(a.2.2*(rl b v).1):=by unfold cr;grind
   rw[k,e1,e2,e3,e4];unfold cr
   grind
  have p1:=aR ha ha;have p2:=aR hb hb;have p3:=aR hb hW2;have q1:=aQ (z:=cr (rl a u) (rl a v)) p2;have q2:=neg_mul (z:=cr (rl a u) (rl a v)) p2;have q3:=aQ (z:=cr (rl b u) (rl b v)) p1;have q4:=neg_mul (z:=cr (rl b u) (rl b v)) p1;have r1:=aQ (z:=(rl a v).1-(rl a u).1) p3;have r2:=neg_mul (z:=(rl a v).1-(rl a u).1) p3;obtain⟨f1,f2⟩:=hF;rw[l1,l2] at f1 f2;unfold right cA cB;rw[l1,l2,l3,l4];generalize cr (rl a u) (rl a v)=ca at*;generalize cr (rl b u) (rl b v)=cb at*;generalize(rl a u).1=xu at*;generalize(rl a v).1=xv at*;generalize(rl b u).1=za at*;generalize(rl b v).1=zb at*;generalize D.2*xu=lu at*;generalize D.2*xv=lv at*;generalize D.2*za=QN at*;generalize D.2*zb=BW at*;generalize b.2.2*(wv a b).2*(xv-xu)=K at*;generalize a.2.2*a.2.2*cb=CB at*;generalize b.2.2*b.2.2*ca=CA at*;generalize a.2.2*za=AU at*;generalize a.2.2*zb=AV at*;generalize b.2.2*xu=BU at*;generalize b.2.2*xv=BV at*;clear e2 e4 l1 l2 l3 l4 p1 p2 p3 hW hW2 hD u9;have hx1:0<xu↔0<za:=by omega
  have hx2:0<xv↔0<zb:=by omega
  clear x1 x2 x3 x4 e1 e3;rw[af (show ¬(cb=0/\za<=0/\ -QN<0/\0<= -BW) by omega),af (show ¬(cb=0/\zb<=0/\ -BW<0/\0<= -QN) by omega)]
  by_cases h1:0<xu<;>by_cases h2:0<xv
  ·rw[af (by omega),af (by omega),af (by omega),af (by omega),af (by omega),af (by omega)]
   rfl
  ·rw[af (show ¬(za<=0/\0<zb/\0<cb) by omega),af (show ¬(xu<=0/\0<xv/\0<ca) by omega),af (show ¬(ca=0/\0<xv/\ -lv<0/\0<= -lu) by omega)]
   clear y3 y4
   repeat' split
   all_goals omega
  ·rw[af (show ¬(0<za/\zb<=0/\cb<0) by omega),af (show ¬(0<xu/\xv<=0/\ca<0) by omega),af (show ¬(ca=0/\0<xu/\ -lu<0/\0<= -lv) by omega)]
   clear y3 y4
   repeat' split
   all_goals omega
  ·rw[af (by omega),af (by omega),af (by omega),af (by omega),af (by omega),af (by omega)]
   rfl
theorem KQ(F:Pt->Pt->Int)(k:Pt->Int)(hs:∀a,F a a=0):∀(rg:List (List Pt)),(∀e∈ae rg,F e.1 e.2=k e.1-k e.2)->total F (ae rg)=0
 |[],_=>rfl
 |g::rg,h=>by
  have e:ae (g::rg)=dY g++ae rg:=po;rw[e] at h⊢;rw[FY,KQ F k hs rg (fun e he=>h e (q8 _ he))]
  have h':∀e∈dY g,F e.1 e.2=k e.1-k e.2:=fun e he=>h e (nr _ he)
  unfold dY at*;rw[KN _ hs];cases g with
  |nil=>rfl
  |cons a r=>
   have key:=QK (fun _ _=>0) F k r a a (fun p hp=>by
    by_cases he:p.1=p.2
    ·rw[he,hs];omega
    ·have:=h' p (eY.2 ⟨hp,by simp[he]⟩)
     omega)
   have e0:∀l:List (Pt×Pt),total (fun _ _=>0) l=0:=fun l=>by
    induction l with
    |nil=>rfl
    |cons x l ih=>rw[dZ,ih];rfl
   rw[e0] at key;have e:closing (a::r)=(a::r).zip (r++[a]):=rfl;rw[e];omega
theorem FZ(F G:Pt->Pt->Int):∀l:List (Pt×Pt),total (fun u v=>F u v+G u v) l=total F l+total G l
 |[]=>rfl
 |e::l=>by rw[dZ,dZ,dZ,FZ F G l];omega
theorem F4(F G:Pt->Pt->Int):∀l:List (Pt×Pt),total (fun u v=>F u v-G u v) l=total F l-total G l
 |[]=>rfl
 |e::l=>by rw[dZ,dZ,dZ,F4 F G l];omega
def PP(es:List (Pt×Pt))(n:Int×Int×Int):Int:=total (fun u v=>right (rl n u) (rl n v)) es
theorem KR(u:Pt):right u u=0:=by
 unfold right;rw[af (by omega),af (by omega)]
theorem abH(n:Int×Int×Int)(D u:Pt):cA n D u u=0:=by
 unfold cA;rw[af (by omega),af (by omega)]
theorem abI(n:Int×Int×Int)(D u:Pt):cB n D u u=0:=by
 unfold cB;rw[af (by omega),af (by omega)]
theorem along{rg:List (List Pt)}{a b:Int×Int×Int}{D:Pt}(ha:0<a.2.2)(hb:0<b.2.2)(hB:Behind a b D)(hF:∀e∈ae rg,KP a b D e.1 e.2):
  PP (ae rg) b+total (cB b D) (ae rg)=PP (ae rg) a+total (cA a D) (ae rg):=by
 have h:=KQ (fun u v=>right (rl b u) (rl b v)+cB b D u v-right (rl a u) (rl a v)-cA a D u v) (BR a b D) (fun z=>by rw[KR,KR,abH,abI];rfl) rg (fun e he=>abG ha hb hB (hF e he))
 rw[F4,F4,FZ] at h;unfold PP;omega
abbrev N3:=Int×Int×Int
def lam(D:Pt)(n:N3)(z:Pt):Int:=cr D (rl n z)
theorem QO{a b:N3}{D:Pt}(h:Behind a b D):cr D (wv a b)=0:=by
 rcases h with⟨_,_,h⟩|⟨h1,_,h2,_⟩
 ·exact h
 ·unfold cr;rw[h1,h2];omega
theorem KS{a b:N3}{D:Pt}(h:Behind a b D)(z:Pt):a.2.2*lam D b z=b.2.2*lam D a z:=by
 have hp:=QO h;obtain⟨e1,e2⟩:=kF a b z;unfold lam cr at*;have k1:a.2.2*(D.1*(rl b z).2-D.2*(rl b z).1)=D.1*(a.2.2*(rl b z).2)-D.2*(a.2.2*(rl b z).1):=by grind
 rw[k1,e1,e2]
 grind
theorem oh{a b:N3}{D:Pt}(ha:0<a.2.2)(hb:0<b.2.2)(h:Behind a b D)(z:Pt):(lam D b z<0↔lam D a z<0)/\(0<lam D b z↔0<lam D a z):=by
 have k:=KS h z;have h1:=aQ (z:=lam D b z) ha;have h2:=neg_mul (z:=lam D b z) ha;have h3:=aQ (z:=lam D a z) hb;have h4:=neg_mul (z:=lam D a z) hb;omega
theorem abJ{a b:N3}{D:Pt}(h:Behind a b D)(u v:Pt):∃k m:Int,0<k/\0<m/\k*(a.2.2*a.2.2*cr (rl b u) (rl b v))=k*(b.2.2*b.2.2*cr (rl a u) (rl a v))-b.2.2*(m*(lam D a v-lam D a u)):=by
 obtain⟨e1,e2⟩:=kF a b u;obtain⟨e3,e4⟩:=kF a b v;have k:a.2.2*a.2.2*cr (rl b u) (rl b v)=(a.2.2*(rl b u).1)*(a.2.2*(rl b v).2)-(a.2.2*(rl b u).2)*(a.2.2*(rl b v).1):=by unfold cr;grind
 rw[e1,e2,e3,e4] at k;rcases h with⟨h1,h2,h3⟩|⟨h1,h2,h3,h4⟩
 ·refine⟨D.1,(wv a b).1,h1,h2,?_⟩;rw[k];unfold lam;unfold cr at*;generalize(rl a u).1=p1 at*;generalize(rl a u).2=p2 at*;generalize(rl a v).1=q1 at*;generalize(rl a v).2=q2 at*;generalize(wv a b).1=w1 at*;generalize(wv a b).2=w2 at*;have h3':D.1*w2=D.2*w1:=by omega
  clear e1 e2 e3 e4 k h3
  grind
 ·refine⟨D.2,(wv a b).2,h2,h4,?_⟩;rw[k];unfold lam;unfold cr at*;rw[h1,h3]
  grind
theorem F5{a b:N3}{D:Pt}(ha:0<a.2.2)(hb:0<b.2.2)(h:Behind a b D){u v:Pt}(hl:lam D a u<lam D a v):(0<=cr (rl b u) (rl b v)->0<cr (rl a u) (rl a v))/\(cr (rl a u) (rl a v)<=0->cr (rl b u) (rl b v)<0):=by
 obtain⟨k,m,hk,hm,e⟩:=abJ h u v;have p1:=aR hk (aR ha ha);have p2:=aR hk (aR hb hb);have q1:=aQ (z:=cr (rl a u) (rl a v)) p2;have q2:=neg_mul (z:=cr (rl a u) (rl a v)) p2;have q3:=aQ (z:=cr (rl b u) (rl b v)) p1;have q4:=neg_mul (z:=cr (rl b u) (rl b v)) p1;have r:=aR hb (aR hm (show 0<lam D a v-lam D a u by omega))
 rw[Qf] at q1 q2 q3 q4;omega
theorem KT{a b:N3}{D:Pt}(ha:0<a.2.2)(hb:0<b.2.2)(h:Behind a b D){u v:Pt}(hl:lam D a v<lam D a u):(cr (rl b u) (rl b v)<=0->cr (rl a u) (rl a v)<0)/\(0<=cr (rl a u) (rl a v)->0<cr (rl b u) (rl b v)):=by
 have:=F5 ha hb h hl;rw[bT (rl b u) (rl b v),bT (rl a u) (rl a v)] at this;omega
def jS(f t:N3)(D u v:Pt):Prop:=
 (lam D f u<=0->0<=lam D f v->lam D f u<lam D f v->cr (rl f u) (rl f v)<=0\/0<=cr (rl t u) (rl t v))/\
 (lam D f v<=0->0<=lam D f u->lam D f v<lam D f u->0<=cr (rl f u) (rl f v)\/cr (rl t u) (rl t v)<=0)
def mJ(f t:N3)(D z:Pt):Prop:=lam D f z=0->dt D (rl f z)<=0\/0<=dt D (rl t z)
def BX(a b:N3)(D:Pt):Prop:=a=b\/Behind a b D
theorem QP{a b:N3}{D:Pt}(ha:0<a.2.2)(hb:0<b.2.2)(h:BX a b D){u v:Pt}(hl:lam D a u<lam D a v):(0<=cr (rl b u) (rl b v)->0<=cr (rl a u) (rl a v))/\(cr (rl a u) (rl a v)<=0->cr (rl b u) (rl b v)<=0):=by
 rcases h with rfl|h
 ·exact⟨id,id⟩
 ·have:=F5 ha hb h hl;omega
theorem QQ{a b:N3}{D:Pt}(ha:0<a.2.2)(hb:0<b.2.2)(h:BX a b D){u v:Pt}(hl:lam D a v<lam D a u):(cr (rl b u) (rl b v)<=0->cr (rl a u) (rl a v)<=0)/\(0<=cr (rl a u) (rl a v)->0<=cr (rl b u) (rl b v)):=by
 rcases h with rfl|h
 ·exact⟨id,id⟩
 ·have:=KT ha hb h hl;omega
theorem QR{a b:N3}{D:Pt}(ha:0<a.2.2)(hb:0<b.2.2)(h:BX a b D)(z:Pt):(lam D b z<0↔lam D a z<0)/\(0<lam D b z↔0<lam D a z):=by
 rcases h with rfl|h
 ·exact⟨Fw,Fw⟩
 ·exact oh ha hb h z
theorem KU{f t a b:N3}{D u v:Pt}(hf:0<f.2.2)(ht:0<t.2.2)(ha:0<a.2.2)(hb:0<b.2.2)(h:jS f t D u v)(h1:BX f a D)(h2:Behind a b D)(h3:BX b t D):KP a b D u v:=by
 have su:=QR hf ha h1 u;have sv:=QR hf ha h1 v;have tu:=oh ha hb h2 u;have tv:=oh ha hb h2 v;refine⟨fun x y=>?_,fun x y=>?_⟩
 ·change lam D a u<0 at x
  change 0<=lam D a v at y
  rcases h.1 (by omega) (by omega) (by omega) with k|k
  ·exact ag ((QP hf ha h1 (by omega)).2 k)
  ·exact ah ((QP hb ht h3 (by omega)).1 k)
 ·change lam D a v<0 at x
  change 0<=lam D a u at y
  rcases h.2 (by omega) (by omega) (by omega) with k|k
  ·exact ag ((QQ hf ha h1 (by omega)).2 k)
  ·exact ah ((QQ hb ht h3 (by omega)).1 k)
theorem ze{f t q:N3}{D u v:Pt}(hf:0<f.2.2)(ht:0<t.2.2)(hq:0<q.2.2)(h:jS f t D u v)(h1:Behind f q D)(h2:Behind q t D):
  (lam D q u<=0->0<=lam D q v->lam D q u<lam D q v->cr (rl q u) (rl q v)≠0)/\(lam D q v<=0->0<=lam D q u->lam D q v<lam D q u->cr (rl q u) (rl q v)≠0):=by
 have su:=oh hf hq h1 u;have sv:=oh hf hq h1 v;refine⟨fun x y z=>?_,fun x y z=>?_⟩
 ·rcases h.1 (by omega) (by omega) (by omega) with k|k
  ·have:=(F5 hf hq h1 (u:=u) (v:=v) (by omega)).2 k
   omega
  ·have:=(F5 hq ht h2 (u:=u) (v:=v) (by omega)).1 k
   omega
 ·rcases h.2 (by omega) (by omega) (by omega) with k|k
  ·have:=(KT hf hq h1 (u:=u) (v:=v) (by omega)).2 k
   omega
  ·have:=(KT hq ht h2 (u:=u) (v:=v) (by omega)).1 k
   omega
def bf(f t:N3):N3:=(f.1+t.1,f.2.1+t.2.1,f.2.2+t.2.2)
theorem QS(f t:N3):wv f (bf f t)=wv f t:=by unfold wv bf;exact bX (by simp only;grind) (by simp only;grind)
theorem abK(f t:N3):wv (bf f t) t=wv f t:=by unfold wv bf;exact bX (by simp only;grind) (by simp only;grind)
theorem xh{f t:N3}(h:aJ (wv f t)):Behind f t (wv f t):=by
 rcases h with h|⟨h1,h2⟩
 ·exact ag ⟨h,h,by unfold cr;grind⟩
 ·exact ah ⟨h1,h2,h1,h2⟩
theorem F6{f t:N3}(h:aJ (wv f t)):Behind f (bf f t) (wv f t):=by
 unfold Behind;rw[QS];exact xh h
theorem KV{f t:N3}(h:aJ (wv f t)):Behind (bf f t) t (wv f t):=by
 unfold Behind;rw[abK];exact xh h
theorem vd{F:Pt->Pt->Int}:∀{l:List (Pt×Pt)},(∀e∈l,F e.1 e.2=0)->total F l=0
 |[],_=>rfl
 |e::l,h=>by rw[dZ,h e (by simp),vd fun x hx=>h x (aT _ hx)];rfl
theorem nD{F G:Pt->Pt->Int}:∀{l:List (Pt×Pt)},(∀e∈l,F e.1 e.2=G e.1 e.2)->total F l=total G l
 |[],_=>rfl
 |e::l,h=>by rw[dZ,dZ,h e (by simp),nD fun x hx=>h x (aT _ hx)]
theorem QT{rg:List (List Pt)}{f t:N3}(hf:0<f.2.2)(ht:0<t.2.2)(hr:aJ (wv f t))(hF:∀e∈ae rg,jS f t (wv f t) e.1 e.2):
  PP (ae rg) (bf f t)=PP (ae rg) f+total (cA f (wv f t)) (ae rg):=by
 have hq:0<(bf f t).2.2:=by show 0<f.2.2+t.2.2;omega
 have b1:=F6 hr;have b2:=KV hr;have h:=along hf hq b1 (rg:=rg) fun e he=>KU hf ht hf hq (hF e he) (ag rfl) b1 (ah b2)
 have h0:total (cB (bf f t) (wv f t)) (ae rg)=0:=vd fun e he=>by
  obtain⟨k1,k2⟩:=ze hf ht hq (hF e he) b1 b2;unfold cB;rw[af (fun⟨x1,_,x2,x3⟩=>k1 (dS x2) x3 (by unfold lam;omega) x1),af (fun⟨x1,_,x2,x3⟩=>k2 (dS x2) x3 (by unfold lam;omega) x1)]
 omega
theorem abL{rg:List (List Pt)}{f t:N3}(hf:0<f.2.2)(ht:0<t.2.2)(hr:aJ (wv f t))(hF:∀e∈ae rg,jS f t (wv f t) e.1 e.2):
  PP (ae rg) (bf f t)=PP (ae rg) t+total (cB t (wv f t)) (ae rg):=by
 have hq:0<(bf f t).2.2:=by show 0<f.2.2+t.2.2;omega
 have b1:=F6 hr;have b2:=KV hr;have h:=along hq ht b2 (rg:=rg) fun e he=>KU hf ht hq ht (hF e he) (ah b1) b2 (ag rfl)
 have h0:total (cA (bf f t) (wv f t)) (ae rg)=0:=vd fun e he=>by
  obtain⟨k1,k2⟩:=ze hf ht hq (hF e he) b1 b2;unfold cA;rw[af (fun⟨x1,_,x2,x3⟩=>k2 (dS x2) x3 (by unfold lam;omega) x1),af (fun⟨x1,_,x2,x3⟩=>k1 (dS x2) x3 (by unfold lam;omega) x1)]
 omega
def il(z:Pt):Bool:=decide (0<z.1\/(z.1=0/\0<z.2))
def ak(z w:Pt):Bool:=(il z&& !il w)||((il z == il w)&&decide (0<cr z w))
def ai(z w:Pt):Bool:=decide (cr z w=0)&&decide (0<dt z w)
def neg(D:Pt):Pt:=(-D.1, -D.2)
def bb(b:Bool):Int:=if b then 1 else 0
def arm(Q:Pt->Bool)(n:N3)(u v:Pt):Int:=if on (rl n u) (rl n v) then bb (Q (rl n v))-bb (Q (rl n u)) else 0
def AS(es:List (Pt×Pt))(n:N3)(Q:Pt->Bool):Int:=total (arm Q n) es
def fb(q:N3)(D u v:Pt):Int:=if on (rl q u) (rl q v) then(D.1*(v.1-u.1)+D.2*(v.2-u.2)).sign else 0
theorem jt(r s:Pt):on r s=true↔cr r s=0/\dt r s<=0:=by unfold on;simp
theorem sq_pos{a b:Int}(h:a≠0\/b≠0):0<a*a+b*b:=by
 have k:∀x:Int,0<=x*x:=fun x=>by
  rcases Bq 0 x with h|h
  ·exact iN h h
  ·exact qZ h h
 have k':∀x:Int,x≠0->0<x*x:=fun x hx=>by
  rcases eK x 0 with h|h|h
  ·exact Fx h h
  ·exact absurd h hx
  ·exact aR h h
 have a1:=k a;have b1:=k b;rcases h with h|h
 ·have:=k' a h;omega
 ·have:=k' b h;omega
theorem cP{r:Pt}(h:r≠(0,0)):0<dt r r:=by
 refine sq_pos ?_;rcases Classical.em (r.1=0) with h1|h1
 ·exact ah fun h2=>h (bX h1 h2)
 ·exact ag h1
theorem KW{D r:Pt}(h:cr D r≠0):r≠(0,0):=fun e=>h (by rw[e];unfold cr;simp)
theorem tS{D r:Pt}(h:dt D r≠0):r≠(0,0):=fun e=>h (by rw[e];unfold dt;simp)
theorem kG{D:Pt}(h:aJ D):D≠(0,0):=fun e=>by
 rw[e] at h;rcases h with h|⟨_,h⟩
 ·exact absurd h (by decide)
 ·exact absurd h (by decide)
theorem pG{D r s:Pt}(h:cr r s=0):cr D s*dt r r=cr D r*dt r s:=by
 unfold cr dt at*
 grind
theorem iR(r s:Pt):dt r s=dt s r:=by unfold dt;grind
theorem ve{D r s:Pt}(h:cr r s=0)(hl:cr D r<0):dt r s<=0↔0<=cr D s:=by
 have p:=cP (KW (D:=D) (r:=r) (by omega))
 have e:=pG (D:=D) h;have a1:=neg_mul (z:=cr D s) p;rw[dX] at a1;have a2:=aQ (z:=dt r s) (k:= -cr D r) (by omega)
 rw[iC] at a2;omega
theorem F7{D r s:Pt}(h:cr r s=0)(hl:0<cr D r):dt r s<=0↔cr D s<=0:=by
 have p:=cP (KW (D:=D) (r:=r) (by omega))
 have e:=pG (D:=D) h;have a1:=aQ (z:=cr D s) p;rw[dX] at a1;have a2:=aQ (z:=dt r s) hl;omega
theorem ql{r s:Pt}(h:cr r s=0):cr s r=0:=by rw[bT];omega
theorem F8{D:Pt}(hD:aJ D)(z:Pt):ak z D=true↔0<z.1/\cr D z<0:=by
 have hd:il D=true:=by unfold il;exact eN hD
 have e:cr z D= -cr D z:=bT D z;unfold ak;rw[hd,e];by_cases hz:il z=true
 ·rw[hz];simp;have hz':=gh (by unfold il at hz;exact hz)
  intro h;rcases hz' with h1|⟨h1,h2⟩
  ·exact h1
  ·exfalso;rcases hD with h3|⟨h3,h4⟩
   ·have:=aR h3 h2;unfold cr at h;rw[h1] at h;omega
   ·unfold cr at h;rw[h1,h3] at h;omega
 ·have hz0:il z=false:=by simpa using hz
  rw[hz0];simp;intro h;exfalso;apply hz;unfold il;exact eN (ag h)
theorem KX{D:Pt}(hD:aJ D)(z:Pt):ak (neg D) z=true↔z.1<=0/\cr D z<0:=by
 have hd:il (neg D)=false:=by
  unfold il neg;refine gv fun h=>?_
  rcases hD with h3|⟨h3,h4⟩<;>simp only at h<;>omega
 have e:cr (neg D) z= -cr D z:=by unfold cr neg;grind
 unfold ak;rw[hd,e];by_cases hz:il z=true
 ·rw[hz];simp;have hz':=gh (by unfold il at hz;exact hz)
  intro h1;rcases hz' with h2|⟨h2,h3⟩
  ·omega
  ·unfold cr;rw[h2];rcases hD with h4|⟨h4,h5⟩
   ·have:=aR h4 h3;omega
   ·rw[h4];omega
 ·have hz0:il z=false:=by simpa using hz
  rw[hz0];simp;have hz':=of_decide_eq_false (by unfold il at hz0;exact hz0)
  intro h;omega
theorem abM{D:Pt}(hD:aJ D)(n:N3)(u v:Pt):cA n D u v=arm (fun z=>ak z D) n u v:=by
 unfold cA arm;generalize rl n u=r;generalize rl n v=s;have ar:=F8 hD r;have aos:=F8 hD s;by_cases hc:cr r s=0
 ·have qm:=jt r s;have k1:cr D s<0->(dt r s<=0↔0<=cr D r):=fun h=>by
   have:=ve (ql hc) h;rw[iR] at this;exact this
  have k2:cr D r<0->(dt r s<=0↔0<=cr D s):=fun h=>ve hc h
  unfold bb;cases h1:ak r D<;>cases h2:ak s D<;>cases h3:on r s<;>rw[h1] at ar<;>rw[h2] at aos<;>rw[h3] at qm<;>simp only[js,reduceIte,false_iff,true_iff] at* <;>repeat' split
  all_goals first |omega |simp_all
 ·have qm:on r s=false:=by
   cases h:on r s
   ·rfl
   ·exact absurd ((jt r s).1 h).1 hc
  rw[qm,af (by omega),af (by omega)]
  rfl
theorem abN{D:Pt}(hD:aJ D)(n:N3)(u v:Pt):cB n D u v= -arm (fun z=>ak (neg D) z) n u v:=by
 unfold cB arm;generalize rl n u=r;generalize rl n v=s;have ar:=KX hD r;have aos:=KX hD s;by_cases hc:cr r s=0
 ·have qm:=jt r s;have k1:cr D s<0->(dt r s<=0↔0<=cr D r):=fun h=>by
   have:=ve (ql hc) h;rw[iR] at this;exact this
  have k2:cr D r<0->(dt r s<=0↔0<=cr D s):=fun h=>ve hc h
  unfold bb;cases h1:ak (neg D) r<;>cases h2:ak (neg D) s<;>cases h3:on r s<;>rw[h1] at ar<;>rw[h2] at aos<;>rw[h3] at qm<;>simp only[js,reduceIte,false_iff,true_iff] at* <;>repeat' split
  all_goals first |omega |simp_all
 ·have qm:on r s=false:=by
   cases h:on r s
   ·rfl
   ·exact absurd ((jt r s).1 h).1 hc
  rw[qm,af (by omega),af (by omega)]
  rfl
theorem KY(F:Pt->Pt->Int):∀l:List (Pt×Pt),total (fun u v=> -F u v) l= -total F l
 |[]=>rfl
 |e::l=>by rw[dZ,dZ,KY F l];omega
theorem abO{rg:List (List Pt)}{f t:N3}(hf:0<f.2.2)(ht:0<t.2.2)(hr:aJ (wv f t))(hF:∀e∈ae rg,jS f t (wv f t) e.1 e.2):
  PP (ae rg) (bf f t)=PP (ae rg) f+AS (ae rg) f (fun z=>ak z (wv f t)):=by
 rw[QT hf ht hr hF];unfold AS;rw[nD fun e _=>abM hr f e.1 e.2]
theorem abP{rg:List (List Pt)}{f t:N3}(hf:0<f.2.2)(ht:0<t.2.2)(hr:aJ (wv f t))(hF:∀e∈ae rg,jS f t (wv f t) e.1 e.2):
  PP (ae rg) (bf f t)=PP (ae rg) t-AS (ae rg) t (fun z=>ak (neg (wv f t)) z):=by
 rw[abL hf ht hr hF];unfold AS;have e1:total (cB t (wv f t)) (ae rg)=total (fun u v=> -arm (fun z=>ak (neg (wv f t)) z) t u v) (ae rg):=nD fun e _=>abN hr t e.1 e.2
 rw[e1,KY];omega
theorem ko{z d:Pt}(hz:aJ z)(hd:aJ d)(h:cr z d=0):0<dt z d:=by
 rcases hz with h1|⟨h1,h2⟩
 ·rcases hd with h3|⟨h3,h4⟩
  ·have e:dt z d*z.1=d.1*dt z z:=by unfold cr at h;unfold dt;grind
   have p:=aR h3 (cP (r:=z) (kG (ag h1)));have k:=aQ (z:=dt z d) h1;rw[dX] at k;omega
  ·exfalso;unfold cr at h;rw[h3] at h;have:=aR h1 h4;omega
 ·rcases hd with h3|⟨h3,h4⟩
  ·exfalso;unfold cr at h;rw[h1] at h;have:=aR h2 h3;omega
  ·unfold dt;rw[h1];have:=aR h2 h4;omega
theorem vg(z:Pt):il z=true↔aJ z:=by unfold il aJ;simp
theorem fM{z:Pt}(hz:z≠(0,0))(h:¬aJ z):aJ (neg z):=by
 unfold aJ neg at*;simp only;have:¬(z.1=0/\z.2=0):=fun k=>hz (bX k.1 k.2)
 omega
theorem jc{D:Pt}(h:D≠(0,0)):neg D≠(0,0):=fun e=>h (by
 unfold neg at e;have e1:=au Prod.fst e;have e2:=au Prod.snd e;simp only at e1 e2;exact bX (by omega) (by omega))
theorem neg_neg(D:Pt):neg (neg D)=D:=by unfold neg;exact bX (by simp) (by simp)
theorem dI(z d:Pt):cr (neg z) d= -cr z d:=by unfold cr neg;grind
theorem dP(z d:Pt):cr z (neg d)= -cr z d:=by unfold cr neg;grind
theorem lh(z d:Pt):dt (neg z) d= -dt z d:=by unfold dt neg;grind
theorem ju(z d:Pt):dt z (neg d)= -dt z d:=by unfold dt neg;grind
theorem gG{z d:Pt}(hz:z≠(0,0))(hd:d≠(0,0)):bb (ak z d)+bb (ai z d)+bb (ak d z)=1:=by
 have hs:ai z d=true↔cr z d=0/\0<dt z d:=by unfold ai;simp
 have e:=bT z d;by_cases h1:aJ z
 ·have r1:=(vg z).2 h1;by_cases h2:aJ d
  ·have r2:=(vg d).2 h2;have k:=ko h1 h2;have a1:ak z d=decide (0<cr z d):=by unfold ak;rw[r1,r2];simp
   have a2:ak d z=decide (0<cr d z):=by unfold ak;rw[r1,r2];simp
   rw[a1,a2];cases h3:ai z d<;>rw[h3] at hs<;>unfold bb<;>simp at* <;>repeat' split
   all_goals omega
  ·have r2:il d=false:=by cases h:il d;rfl;exact absurd ((vg d).1 h) h2
   have k:=ko h1 (fM hd h2);rw[dP,ju] at k;have a1:ak z d=true:=by unfold ak;rw[r1,r2];rfl
   have a2:ak d z=false:=by unfold ak;rw[r1,r2];rfl
   have a3:ai z d=false:=by
    cases h3:ai z d
    ·rfl
    ·have:=hs.1 h3;have:=k (by omega)
     omega
   rw[a1,a2,a3];rfl
 ·have r1:il z=false:=by cases h:il z;rfl;exact absurd ((vg z).1 h) h1
  by_cases h2:aJ d
  ·have r2:=(vg d).2 h2;have k:=ko (fM hz h1) h2;rw[dI,lh] at k;have a1:ak z d=false:=by unfold ak;rw[r1,r2];rfl
   have a2:ak d z=true:=by unfold ak;rw[r1,r2];rfl
   have a3:ai z d=false:=by
    cases h3:ai z d
    ·rfl
    ·have:=hs.1 h3;have:=k (by omega)
     omega
   rw[a1,a2,a3];rfl
  ·have r2:il d=false:=by cases h:il d;rfl;exact absurd ((vg d).1 h) h2
   have k:=ko (fM hz h1) (fM hd h2);rw[dI,lh,dP,ju] at k;have a1:ak z d=decide (0<cr z d):=by unfold ak;rw[r1,r2];simp
   have a2:ak d z=decide (0<cr d z):=by unfold ak;rw[r1,r2];simp
   rw[a1,a2];cases h3:ai z d<;>rw[h3] at hs<;>unfold bb<;>simp at* <;>repeat' split
   all_goals omega
def nz(z:Pt):Bool:=decide (z≠(0,0))
theorem zg(z:Pt):cr (0,0) z=0/\cr z (0,0)=0/\dt (0,0) z=0/\dt z (0,0)=0:=by unfold cr dt;simp
theorem lj(r s:Pt)(h:r=(0,0)\/s=(0,0)):on r s=true:=by
 rw[jt];rcases h with h|h<;>rw[h]
 ·have:=zg s;omega
 ·have:=zg r;omega
theorem KZ(rg:List (List Pt))(n:N3):AS (ae rg) n nz=0:=by
 refine KQ _ (fun z=> -bb (nz (rl n z))) (fun a=>?_) rg fun e _=>?_
 ·unfold arm;split<;>omega
 ·unfold arm;cases h:on (rl n e.1) (rl n e.2)
  ·have h1:nz (rl n e.1)=true:=eN fun k=>by rw[lj _ _ (ag k)] at h;cases h
   have h2:nz (rl n e.2)=true:=eN fun k=>by rw[lj _ _ (ah k)] at h;cases h
   rw[h1,h2];simp
  ·simp only[reduceIte];omega
theorem BZ{es:List (Pt×Pt)}{n:N3}{Q Q1 Q2:Pt->Bool}(h:∀z,bb (Q z)=bb (Q1 z)+bb (Q2 z)):AS es n Q=AS es n Q1+AS es n Q2:=by
 unfold AS;rw[<-FZ];refine nD fun e _=>?_
 unfold arm;rw[h,h];split<;>omega
theorem F9{es:List (Pt×Pt)}{n:N3}{Q Q':Pt->Bool}(h:∀e∈es,on (rl n e.1) (rl n e.2)=true->Q (rl n e.1)=Q' (rl n e.1)/\Q (rl n e.2)=Q' (rl n e.2)):AS es n Q=AS es n Q':=by
 refine nD fun e he=>?_
 unfold arm;cases h1:on (rl n e.1) (rl n e.2)
 ·rfl
 ·obtain⟨k1,k2⟩:=h e he h1;rw[k1,k2]
def bg(es:List (Pt×Pt))(n:N3)(d:Pt):Int:=PP es n+AS es n (fun z=>nz z&&ak z d)
def bH(es:List (Pt×Pt))(n:N3)(d:Pt):Int:=bg es n d+AS es n (fun z=>ai z d)
theorem QU{z d:Pt}(h:aJ d):(nz z&&ak z d)=ak z d:=by
 unfold nz;by_cases hz:z=(0,0)
 ·have:ak z d=false:=by
   cases hk:ak z d
   ·rfl
   ·have:=(F8 h z).1 hk;rw[hz] at this;simp at this
  rw[this];simp
 ·simp[hz]
theorem tT(d:Pt):ai (0,0) d=false:=by
 unfold ai;rw[(zg d).2.2.1];simp
theorem abQ{d:Pt}(h:aJ d):ak (neg d) (0,0)=false:=by
 cases hk:ak (neg d) (0,0)
 ·rfl
 ·have:=(KX h (0,0)).1 hk;have:=(zg d).2.1;omega
theorem abR{rg:List (List Pt)}{n:N3}{d:Pt}(h:aJ d):
  AS (ae rg) n (fun z=>nz z&&ak z (neg d))+AS (ae rg) n (fun z=>ai z (neg d))= -AS (ae rg) n (fun z=>ak (neg d) z):=by
 have e1:AS (ae rg) n nz=AS (ae rg) n (fun z=>nz z&&(ak z (neg d)||ai z (neg d)))+AS (ae rg) n (fun z=>ak (neg d) z):=by
  refine BZ fun z=>?_
  by_cases hz:z=(0,0)
  ·rw[hz,abQ h];rfl
  ·have k:=gG hz (jc (kG h));have:nz z=true:=eN hz;rw[this];unfold bb at*;revert k;cases ak z (neg d)<;>cases ai z (neg d)<;>cases ak (neg d) z<;>decide
 have e2:AS (ae rg) n (fun z=>nz z&&(ak z (neg d)||ai z (neg d)))=AS (ae rg) n (fun z=>nz z&&ak z (neg d))+AS (ae rg) n (fun z=>ai z (neg d)):=by
  refine BZ fun z=>?_
  by_cases hz:z=(0,0)
  ·rw[hz,tT];rfl
  ·have k:=gG hz (jc (kG h));have:nz z=true:=eN hz;rw[this];unfold bb at*;revert k;cases ak z (neg d)<;>cases ai z (neg d)<;>cases ak (neg d) z<;>decide
 have:=KZ rg n;omega
end Go.Proofs.YtkjhhooecopolaaGreatDoor.Ga
