import Derived.Test.YtkjhhooecopolaaGreatDoorRza
set_option maxRecDepth 100000
set_option maxHeartbeats 4000000
namespace Go.Proofs.YtkjhhooecopolaaGreatDoor
open Tryz
open Value renaming int->az,complex->aA,float->aB,agg->aC,bool->aD,string->aF,slice->aG,pointer->aH,tuple->aI
open IntKind renaming i64->aJ
open FloatKind renaming f64->aK
open Ending renaming returned->aL
open Go renaming World->aM,Value->aN,floatOfInt->aO
section
open Go.RowKit
variable{l:List aN}{i fuel b:Nat}{T:TypeId}{w:aM}{a0 a1 a2 a3 a4 a5:aN}
theorem lV{P:Program}{ops:Array Oper}{Q:Exit->Act->aM->Prop}{md:Region.Mode}{S:aM->Prop}{oi:Oper}{v:aN}{listed:Array Bool}{a:Act}(_hn:listed.toList.findIdx? (λb=> !b)=some i)(hi:ops[i]?=some oi)(hw:Region.wanted oi (yielded ops a.tmps)=true)(hS:S w)(hv:∀w,S w->(execOp a.eval oi).run P w=.ok (.value v) w)(h:wpAnyH P md ops Q S fuel (listed.setIfInBounds i true) (a.put oi.dst v) w)(hs:Region.noSelect ops=true:=by kernel_rfl)(hf:Region.free md ops listed i=true:=by kernel_rfl)(hr:(Region.ready md ops listed).contains i=true:=by kernel_rfl)(hQ:∀c a w,Q (.panic c) (a.put oi.dst v) w->Q (.panic c) a w:=by intro _ _ _ h;exact h):wpAnyH P md ops Q S (fuel+1) listed a w:=
 wpAnyH_take hi hs hf hr hQ (aU ⟨hw,hv⟩) hS h
theorem C7{P:Program}{ops:Array Oper}{Q:Exit->Act->aM->Prop}{md:Region.Mode}{S:aM->Prop}{oi:Oper}{listed:Array Bool}{a:Act}(_hn:listed.toList.findIdx? (λb=> !b)=some i)(hi:ops[i]?=some oi)(hS:S w)(h:wpAnyH P md ops Q S fuel (listed.setIfInBounds i true) (a.put oi.dst undef) w)(hw:Region.wanted oi (yielded ops a.tmps)=false:=by kernel_rfl)(hs:Region.noSelect ops=true:=by kernel_rfl)(hf:Region.free md ops listed i=true:=by kernel_rfl)(hr:(Region.ready md ops listed).contains i=true:=by kernel_rfl)(hQ:∀c a w,Q (.panic c) (a.put oi.dst undef) w->Q (.panic c) a w:=by intro _ _ _ h;exact h):wpAnyH P md ops Q S (fuel+1) listed a w:=
 wpAnyH_take hi hs hf hr hQ (aT ⟨hw,rfl⟩) hS h
theorem cH(h:w.heap[b]?=some (.cells (a0::l).toArray T (0,0))):w.cell? ⟨b,0,none⟩=some a0:=by simp[World.cell?,h]
theorem cD(h:w.heap[b]?=some (.cells (a0::a1::l).toArray T (0,0))):w.cell? ⟨b,1,none⟩=some a1:=by simp[World.cell?,h]
theorem dU(h:w.heap[b]?=some (.cells (a0::a1::a2::l).toArray T (0,0))):w.cell? ⟨b,2,none⟩=some a2:=by simp[World.cell?,h]
theorem jG(h:w.heap[b]?=some (.cells (a0::a1::a2::a3::l).toArray T (0,0))):w.cell? ⟨b,3,none⟩=some a3:=by simp[World.cell?,h]
theorem sW(h:w.heap[b]?=some (.cells (a0::a1::a2::a3::a4::l).toArray T (0,0))):w.cell? ⟨b,4,none⟩=some a4:=by simp[World.cell?,h]
theorem wF(h:w.heap[b]?=some (.cells (a0::a1::a2::a3::a4::a5::l).toArray T (0,0))):w.cell? ⟨b,5,none⟩=some a5:=by simp[World.cell?,h]
theorem FC{a6:aN}(h:w.heap[b]?=some (.cells (a0::a1::a2::a3::a4::a5::a6::l).toArray T (0,0))):w.cell? ⟨b,6,none⟩=some a6:=by simp[World.cell?,h]
theorem aS{n:Nat}{w':aM}{p:Addr}{v:Option aN}(hb:Below n w w')(h:w.cell? p=v)(hz:p.block<n):w'.cell? p=v:=(hb.cell hz).trans h
end
namespace Ge
variable{a b:Int}
abbrev Pt:=Int×Int
def rel(n:Pt)(d:Int)(a:Pt):Pt:=(d*a.1-n.1,d*a.2-n.2)
def cr(u v:Pt):Int:=u.1*v.2-u.2*v.1
def dt(u v:Pt):Int:=u.1*v.1+u.2*v.2
def on(u v:Pt):Bool:=decide (cr u v=0)&&decide (dt u v<=0)
def right(u v:Pt):Int:=if u.1<=0/\0<v.1/\0<cr u v then 1 else if 0<u.1/\v.1<=0/\cr u v<0 then -1 else 0
def up(u v:Pt):Int:=if u.1<=0/\0<v.1/\cr u v<0 then -1 else if v.1<=0/\0<u.1/\0<cr u v then 1 else 0
def q(u:Pt):Int:=if 0<u.1 then 1 else 0
theorem agX(ha:0<a)(hb:0<b):0<a*b:=bJ ha hb
theorem JZ(ha:a<=0)(hb:0<b):a*b<=0:=Fg ha (eY hb)
theorem Wc{c d:Int}(h:a*d-b*c=0)(ha:a<=0)(hc:0<c):a*c+b*d<=0:=by
 have e:c*(a*c+b*d)=a*(c*c+d*d):=by
  have e1:b*c=a*d:=aa
  calc c*(a*c+b*d)=a*(c*c)+d*(b*c):=by grind
   _=a*(c*c+d*d):=by rw[e1];grind
 have hq:0<c*c+d*d:=by
  have h1:=bJ hc hc;have h2:0<=d*d:=by
   rcases JC 0 d with h|h
   .exact jo h h
   .exact uz h h
  omega
 have h3:=JZ ha hq;rw[<-e] at h3;rcases(show a*c+b*d<=0\/0<a*c+b*d by omega) with h4|h4
 .exact h4
 .have:=agX hc h4;omega
theorem step(u v:Pt)(h:on u v=false):right u v-up u v=q v-q u:=by
 obtain⟨a,b⟩:=u;obtain⟨c,d⟩:=v;have oN:¬(a*d-b*c=0/\a*c+b*d<=0):=by
  rintro⟨h1,h2⟩;have:on (a,b) (c,d)=true:=by simp only[on,cr,dt,h1,h2,decide_true,Bool.and_self]
  rw[this] at h;cases h
 have k1:∀(_:a<=0)(_:0<c),a*d-b*c≠0:=λha hc e=>oN ⟨e,Wc e ha hc⟩
 have k2:∀(_:0<a)(_:c<=0),a*d-b*c≠0:=λha hc e=>oN ⟨e,by
  have:=Wc (a:=c) (b:=d) (c:=a) (d:=b) (by grind) hc ha
  rw[fg c a,fg d b] at this;exact this⟩
 simp only[right,up,q,cr];clear oN;rcases(show a<=0\/0<a by omega) with ha|ha<;>rcases(show c<=0\/0<c by omega) with hc|hc
 .repeat' split
  all_goals omega
 .have:=k1 ha hc
  repeat' split
  all_goals omega
 .have:=k2 ha hc
  repeat' split
  all_goals omega
 .repeat' split
  all_goals omega
def closing:List Pt->List (Pt×Pt)
 |[]=>[]
 |a::r=>(a::r).zip (r++[a])
def fZ(g:List Pt):List (Pt×Pt):=(closing g).filter λe=>decide (e.1≠e.2)
def aR(rg:List (List Pt)):List (Pt×Pt):=rg.flatMap fZ
def total(f:Pt->Pt->Int)(l:List (Pt×Pt)):Int:=(l.map λe=>f e.1 e.2).sum
theorem Az(f:Pt->Pt->Int):total f []=0:=rfl
theorem fJ(f:Pt->Pt->Int)(e:Pt×Pt)(l:List (Pt×Pt)):total f (e::l)=f e.1 e.2+total f l:=by simp[total]
theorem AA(f:Pt->Pt->Int)(l k:List (Pt×Pt)):total f (l++k)=total f l+total f k:=by
 induction l with
 |nil=>simp[total]
 |cons e l ih=>rw[lU,fJ,fJ,ih];omega
theorem J0(f g:Pt->Pt->Int)(k:Pt->Int):∀(r:List Pt)(a z:Pt),(∀p,p∈(a::r).zip (r++[z])->f p.1 p.2-g p.1 p.2=k p.2-k p.1)->
  total f ((a::r).zip (r++[z]))-total g ((a::r).zip (r++[z]))=k z-k a
 |[],a,z,h=>by
  have h1:=h (a,z) af
  simp only[sI,Oz,List.zip_nil_left,fJ,Az];simp only at h1;omega
 |b::r,a,z,h=>by
  have h1:=h (a,b) af
  have h2:=J0 f g k r b z (λp hp=>h p (by
   rw[lU,Oz];exact bX _ hp))
  rw[lU,Oz,fJ,fJ];simp only at h1⊢;omega
theorem C8(f:Pt->Pt->Int)(hf:∀a,f a a=0)(l:List (Pt×Pt)):total f (l.filter λe=>decide (e.1≠e.2))=total f l:=by
 induction l with
 |nil=>rfl
 |cons e l ih=>
  rw[agd];by_cases h:e.1=e.2
  .rw[aQ (by simp[h]),ih,fJ,h,hf];omega
  .rw[aV (by simp[h]),fJ,fJ,ih]
def fr(n:Pt)(d:Int)(a b:Pt):Int:=right (rel n d a) (rel n d b)
def fu(n:Pt)(d:Int)(a b:Pt):Int:=up (rel n d a) (rel n d b)
def fo(n:Pt)(d:Int)(e:Pt×Pt):Bool:=on (rel n d e.1) (rel n d e.2)
theorem Wf(n:Pt)(d:Int)(a:Pt):fr n d a a=0:=by
 unfold fr right;rw[aQ aa,aQ aa]
theorem Wh(n:Pt)(d:Int)(a:Pt):fu n d a a=0:=by
 unfold fu up;rw[aQ aa,aQ aa]
theorem agY(n:Pt)(d:Int)(g:List Pt)(h:∀e,e∈fZ g->fo n d e=false):total (fr n d) (fZ g)=total (fu n d) (fZ g):=by
 unfold fZ at*;rw[C8 _ (Wf n d),C8 _ (Wh n d)];cases g with
 |nil=>rfl
 |cons a r=>
  have key:=J0 (fr n d) (fu n d) (λp=>q (rel n d p)) r a a (λp hp=>by
   by_cases he:p.1=p.2
   .rw[he,Wf,Wh];omega
   .exact step _ _ (h p (iz.2 ⟨hp,by simp[he]⟩)))
  have e:closing (a::r)=(a::r).zip (r++[a]):=rfl;rw[e];omega
theorem Wi(n:Pt)(d:Int):∀(rg:List (List Pt)),(∀e,e∈aR rg->fo n d e=false)->total (fr n d) (aR rg)=total (fu n d) (aR rg)
 |[],_=>rfl
 |g::rg,h=>by
  have e:aR (g::rg)=fZ g++aR rg:=nI;rw[e] at h⊢;rw[AA,AA,agY n d g (λe he=>h e (vX _ he)),
   Wi n d rg (λe he=>h e (CQ _ he))]
end Ge
namespace Ga
open Ge
variable{w k a b:Int}{rg:List (List Pt)}{es:List (Pt×Pt)}{u v z D r s d x y d' l l':Pt}
def qx(u v:Pt):Int:=if cr u v=0/\0<v.1/\v.2<0/\0<=u.2 then 1 else if cr u v=0/\0<u.1/\u.2<0/\0<=v.2 then -1 else 0
def qy(u v:Pt):Int:=if cr u v=0/\u.1<=0/\u.2<0/\0<=v.2 then 1 else if cr u v=0/\v.1<=0/\v.2<0/\0<=u.2 then -1 else 0
def uF(w:Int)(u:Pt):Int:=if 0<u.1/\u.1<=w/\u.2<0 then 1 else 0
def sh(w:Int)(u:Pt):Pt:=(u.1-w,u.2)
def bi(p:Prop)[Decidable p]:Int:=if p then 1 else 0
def FD(w:Int)(u v:Pt):Prop:=
 (u.2<0->0<=v.2->cr u v<=0\/0<=cr (sh w u) (sh w v))/\(v.2<0->0<=u.2->0<=cr u v\/cr (sh w u) (sh w v)<=0)
theorem di(u v:Pt):cr v u= -cr u v:=by unfold cr;grind
theorem OZ(u v:Pt):right v u= -right u v:=by
 unfold right;rw[di u v]
 repeat' split
 all_goals omega
theorem agZ(u v:Pt):qx v u= -qx u v:=by
 unfold qx;rw[di u v]
 repeat' split
 all_goals omega
theorem ag0(u v:Pt):qy v u= -qy u v:=by
 unfold qy;rw[di u v]
 repeat' split
 all_goals omega
theorem upA(h1:u.2<0)(h2:0<=v.2):right u v+qx u v=bi (u.1<=0)-bi (cr u v<=0):=by
 have f1:u.1<=0->0<cr u v->0<v.1:=λa b=>by
  apply Int.not_le.1;intro h;have k1:u.1*v.2<=0:=Fg a h2;have k2:0<=u.2*v.1:=uz aa h
  unfold cr at b;omega
 have f2:0<u.1->cr u v<=0->v.1<=0:=λa b=>by
  apply Fh.1;intro h;have k1:0<=u.1*v.2:=jo aa h2
  have k2:u.2*v.1<0:=OA h1 h;unfold cr at b;omega
 unfold right qx bi
 repeat' split
 all_goals omega
theorem upB(h1:u.2<0)(h2:0<=v.2):right u v+qy u v=bi (u.1<=0)-bi (cr u v<0):=by
 have f1:u.1<=0->0<cr u v->0<v.1:=λa b=>by
  apply Int.not_le.1;intro h;have k1:u.1*v.2<=0:=Fg a h2;have k2:0<=u.2*v.1:=uz aa h
  unfold cr at b;omega
 have f2:0<u.1->cr u v<=0->v.1<=0:=λa b=>by
  apply Fh.1;intro h;have k1:0<=u.1*v.2:=jo aa h2
  have k2:u.2*v.1<0:=OA h1 h;unfold cr at b;omega
 unfold right qy bi
 repeat' split
 all_goals omega
theorem Wj(hw:0<w)(h:FD w u v)(h1:u.2<0)(h2:0<=v.2):right (sh w u) (sh w v)+qy (sh w u) (sh w v)-right u v-qx u v=uF w u-uF w v:=by
 have a:=upA h1 h2;have b:=upB (u:=sh w u) (v:=sh w v) h1 h2;have c:=h.1 h1 h2;have e1:uF w u=bi (u.1<=w)-bi (u.1<=0):=by
  unfold uF bi
  repeat' split
  all_goals omega
 have e2:uF w v=0:=aQ aa
 have e3:bi ((sh w u).1<=0)=bi (u.1<=w):=by
  have:(sh w u).1=u.1-w:=rfl;unfold bi
  repeat' split
  all_goals omega
 have e4:bi (cr u v<=0)=bi (cr (sh w u) (sh w v)<0):=by
  have:cr (sh w u) (sh w v)=cr u v-w*(v.2-u.2):=by unfold cr sh;grind
  have k:0<w*(v.2-u.2):=bJ hw aa
  unfold bi
  repeat' split
  all_goals omega
 rw[e1,e2];omega
theorem ag3(hw:0<w)(h:FD w u v):right (sh w u) (sh w v)+qy (sh w u) (sh w v)-right u v-qx u v=uF w u-uF w v:=by
 by_cases h1:u.2<0
 .by_cases h2:v.2<0
  .have key:∀t:Int,right (sh t u) (sh t v)=bi (u.1<=t)-bi (v.1<=t):=λt=>by
    have a1:u.1<=t->t<v.1->0<cr (sh t u) (sh t v):=λa b=>by
     have k1:0<=(u.1-t)*v.2:=uz aa aa
     have k2:u.2*(v.1-t)<0:=OA h1 aa
     show 0<(u.1-t)*v.2-u.2*(v.1-t);omega
    have a2:t<u.1->v.1<=t->cr (sh t u) (sh t v)<0:=λa b=>by
     have k1:(u.1-t)*v.2<0:=yt aa h2
     have k2:0<=u.2*(v.1-t):=uz aa aa
     show(u.1-t)*v.2-u.2*(v.1-t)<0;omega
    have b1:(sh t u).1=u.1-t:=rfl;have b2:(sh t v).1=v.1-t:=rfl;unfold right bi
    repeat' split
    all_goals omega
   have s0:∀z:Pt,sh 0 z=z:=λz=>by unfold sh;rw[CR]
   have k0:=key 0;rw[s0,s0] at k0;have e1:qy (sh w u) (sh w v)=0:=by
    have b1:(sh w u).2=u.2:=rfl;have b2:(sh w v).2=v.2:=rfl;unfold qy;rw[aQ aa,aQ aa]
   have e2:qx u v=0:=by
    unfold qx;rw[aQ aa,aQ aa]
   rw[key w,k0,e1,e2];unfold uF bi
   repeat' split
   all_goals omega
  .exact Wj hw h h1 aa
 .by_cases h2:v.2<0
  .have h':FD w v u:=by
    refine⟨λa b=>?_,λa b=>?_⟩
    .have:=h.2 a b;rw[di u v,di (sh w u) (sh w v)];omega
    .have:=h.1 a b;rw[di u v,di (sh w u) (sh w v)];omega
   have:=Wj hw h' h2 aa
   rw[OZ u v,agZ u v,OZ (sh w u) (sh w v),ag0 (sh w u) (sh w v)] at this;omega
  .have key:∀t:Int,right (sh t u) (sh t v)=0:=λt=>by
    have a1:u.1<=t->t<v.1->¬0<cr (sh t u) (sh t v):=λa b=>by
     have k1:(u.1-t)*v.2<=0:=Fg aa aa
     have k2:0<=u.2*(v.1-t):=jo aa aa
     show ¬0<(u.1-t)*v.2-u.2*(v.1-t);omega
    have a2:t<u.1->v.1<=t->¬cr (sh t u) (sh t v)<0:=λa b=>by
     have k1:0<=(u.1-t)*v.2:=jo aa aa
     have k2:u.2*(v.1-t)<=0:=age aa aa
     show ¬(u.1-t)*v.2-u.2*(v.1-t)<0;omega
    have b1:(sh t u).1=u.1-t:=rfl;have b2:(sh t v).1=v.1-t:=rfl;unfold right
    repeat' split
    all_goals omega
   have s0:∀z:Pt,sh 0 z=z:=λz=>by unfold sh;rw[CR]
   have k0:=key 0;rw[s0,s0] at k0;have e1:qy (sh w u) (sh w v)=0:=by
    have b1:(sh w u).2=u.2:=rfl;have b2:(sh w v).2=v.2:=rfl;unfold qy;rw[aQ aa,aQ aa]
   have e2:qx u v=0:=by
    unfold qx;rw[aQ aa,aQ aa]
   rw[key w,k0,e1,e2];unfold uF;rw[aQ aa,aQ aa]
   omega
def rl(n:Int×Int×Int)(z:Pt):Pt:=rel (n.1,n.2.1) n.2.2 z
def wv(a b:Int×Int×Int):Pt:=(a.2.2*b.1-b.2.2*a.1,a.2.2*b.2.1-b.2.2*a.2.1)
def bV(D:Pt):Prop:=0<D.1\/(D.1=0/\0<D.2)
def cA(n:Int×Int×Int)(D:Pt)(u v:Pt):Int:=
 if cr (rl n u) (rl n v)=0/\0<(rl n v).1/\cr D (rl n v)<0/\0<=cr D (rl n u) then 1
 else if cr (rl n u) (rl n v)=0/\0<(rl n u).1/\cr D (rl n u)<0/\0<=cr D (rl n v) then -1 else 0
def cB(n:Int×Int×Int)(D:Pt)(u v:Pt):Int:=
 if cr (rl n u) (rl n v)=0/\(rl n u).1<=0/\cr D (rl n u)<0/\0<=cr D (rl n v) then 1
 else if cr (rl n u) (rl n v)=0/\(rl n v).1<=0/\cr D (rl n v)<0/\0<=cr D (rl n u) then -1 else 0
def O0(a b:Int×Int×Int)(D u v:Pt):Prop:=
 (cr D (rl a u)<0->0<=cr D (rl a v)->cr (rl a u) (rl a v)<=0\/0<=cr (rl b u) (rl b v))/\(cr D (rl a v)<0->0<=cr D (rl a u)->0<=cr (rl a u) (rl a v)\/cr (rl b u) (rl b v)<=0)
def Behind(a b:Int×Int×Int)(D:Pt):Prop:=(0<D.1/\0<(wv a b).1/\cr D (wv a b)=0)\/(D.1=0/\0<D.2/\(wv a b).1=0/\0<(wv a b).2)
def tr(D r:Pt):Pt:=(r.1,cr D r)
def sc(k:Int)(u:Pt):Pt:=(k*u.1,k*u.2)
theorem FE(D r s:Pt):cr (tr D r) (tr D s)=D.1*cr r s:=by unfold tr cr;grind
theorem FH(k:Int)(r s:Pt):cr (sc k r) (sc k s)=k*k*cr r s:=by unfold sc cr;grind
theorem bO{z:Int}(hk:0<k):0<k*z↔0<z:=by
 constructor
 .intro h;exact Int.pos_of_mul_pos_right (a:=k) h |> λh=>by
   rcases fX z 0 with h1|h1|h1
   .have:=yt hk h1;omega
   .subst h1;simp at*
   .exact h1
 .exact bJ hk
theorem neg_mul{z:Int}(hk:0<k):k*z<0↔z<0:=by
 have:=bO (z:= -z) hk;rw[vY] at this;omega
theorem fR{z:Int}(hk:0<k):k*z=0↔z=0:=by
 have h1:=bO (z:=z) hk;have h2:=neg_mul (z:=z) hk;omega
theorem mr(a b:Int×Int×Int)(z:Pt):a.2.2*(rl b z).1=b.2.2*(rl a z).1-(wv a b).1/\a.2.2*(rl b z).2=b.2.2*(rl a z).2-(wv a b).2:=by
 unfold rl rel wv;constructor<;>grind
theorem Wm(hD:0<D.1)(r s:Pt):right (tr D r) (tr D s)=right r s:=by
 have h1:=bO (z:=cr r s) hD;have h2:=neg_mul (z:=cr r s) hD;unfold right;rw[FE];have e1:(tr D r).1=r.1:=rfl;have e2:(tr D s).1=s.1:=rfl;rw[e1,e2]
 repeat' split
 all_goals omega
theorem C9(hk:0<k)(r s:Pt):right (sc k r) (sc k s)=right r s:=by
 have hkk:=bJ hk hk;have h1:=bO (z:=cr r s) hkk;have h2:=neg_mul (z:=cr r s) hkk;have a1:=bO (z:=r.1) hk;have a2:=bO (z:=s.1) hk;unfold right;rw[FH];have e1:(sc k r).1=k*r.1:=rfl;have e2:(sc k s).1=k*s.1:=rfl;rw[e1,e2]
 repeat' split
 all_goals omega
theorem ag4{n:Int×Int×Int}(hD:0<D.1)(hk:0<k)(u v:Pt):qx (sc k (tr D (rl n u))) (sc k (tr D (rl n v)))=cA n D u v:=by
 have hkk:=bJ (bJ hk hk) hD;have h1:=fR (z:=cr (rl n u) (rl n v)) hkk;have a1:=bO (z:=(rl n u).1) hk;have a2:=bO (z:=(rl n v).1) hk;have b1:=neg_mul (z:=cr D (rl n u)) hk;have b2:=neg_mul (z:=cr D (rl n v)) hk;unfold qx cA;rw[FH,FE];have e0:k*k*(D.1*cr (rl n u) (rl n v))=k*k*D.1*cr (rl n u) (rl n v):=by grind
 have e1:(sc k (tr D (rl n u))).1=k*(rl n u).1:=rfl;have e2:(sc k (tr D (rl n v))).1=k*(rl n v).1:=rfl;have e3:(sc k (tr D (rl n u))).2=k*cr D (rl n u):=rfl;have e4:(sc k (tr D (rl n v))).2=k*cr D (rl n v):=rfl;rw[e0,e1,e2,e3,e4]
 repeat' split
 all_goals omega
theorem ag5{n:Int×Int×Int}(hD:0<D.1)(hk:0<k)(u v:Pt):qy (sc k (tr D (rl n u))) (sc k (tr D (rl n v)))=cB n D u v:=by
 have hkk:=bJ (bJ hk hk) hD;have h1:=fR (z:=cr (rl n u) (rl n v)) hkk;have a1:=bO (z:=(rl n u).1) hk;have a2:=bO (z:=(rl n v).1) hk;have b1:=neg_mul (z:=cr D (rl n u)) hk;have b2:=neg_mul (z:=cr D (rl n v)) hk;unfold qy cB;rw[FH,FE];have e0:k*k*(D.1*cr (rl n u) (rl n v))=k*k*D.1*cr (rl n u) (rl n v):=by grind
 have e1:(sc k (tr D (rl n u))).1=k*(rl n u).1:=rfl;have e2:(sc k (tr D (rl n v))).1=k*(rl n v).1:=rfl;have e3:(sc k (tr D (rl n u))).2=k*cr D (rl n u):=rfl;have e4:(sc k (tr D (rl n v))).2=k*cr D (rl n v):=rfl;rw[e0,e1,e2,e3,e4]
 repeat' split
 all_goals omega
def FI(a b:Int×Int×Int)(D z:Pt):Int:=if D.1=0 then 0 else uF (wv a b).1 (sc b.2.2 (tr D (rl a z)))
theorem ag6{a b:Int×Int×Int}(ha:0<a.2.2)(hb:0<b.2.2)(hB:Behind a b D)(hF:O0 a b D u v):
  right (rl b u) (rl b v)+cB b D u v-right (rl a u) (rl a v)-cA a D u v=FI a b D u-FI a b D v:=by
 rcases hB with⟨hD,hW,hp⟩|⟨hD,uG,hW,hW2⟩
 .have hs:∀z,sh (wv a b).1 (sc b.2.2 (tr D (rl a z)))=sc a.2.2 (tr D (rl b z)):=λz=>by
   obtain⟨e1,e2⟩:=mr a b z;refine eB ?_ ?_
   .show b.2.2*(rl a z).1-(wv a b).1=a.2.2*(rl b z).1;omega
   .show b.2.2*(D.1*(rl a z).2-D.2*(rl a z).1)=a.2.2*(D.1*(rl b z).2-D.2*(rl b z).1);unfold cr at hp;have k1:a.2.2*(D.1*(rl b z).2-D.2*(rl b z).1)=D.1*(a.2.2*(rl b z).2)-D.2*(a.2.2*(rl b z).1):=by grind
    rw[k1,e1,e2]
    grind
  have c1:cr (sc b.2.2 (tr D (rl a u))) (sc b.2.2 (tr D (rl a v)))=b.2.2*b.2.2*D.1*cr (rl a u) (rl a v):=by rw[FH,FE];grind
  have c2:cr (sc a.2.2 (tr D (rl b u))) (sc a.2.2 (tr D (rl b v)))=a.2.2*a.2.2*D.1*cr (rl b u) (rl b v):=by rw[FH,FE];grind
  have p1:=bJ (bJ hb hb) hD;have p2:=bJ (bJ ha ha) hD;have q1:=bO (z:=cr (rl a u) (rl a v)) p1;have q2:=neg_mul (z:=cr (rl a u) (rl a v)) p1;have q3:=bO (z:=cr (rl b u) (rl b v)) p2;have q4:=neg_mul (z:=cr (rl b u) (rl b v)) p2;have s1:=neg_mul (z:=cr D (rl a u)) hb;have s2:=neg_mul (z:=cr D (rl a v)) hb;have hfree:FD (wv a b).1 (sc b.2.2 (tr D (rl a u))) (sc b.2.2 (tr D (rl a v))):=by
   unfold FD;rw[hs,hs,c1,c2];have e3:(sc b.2.2 (tr D (rl a u))).2=b.2.2*cr D (rl a u):=rfl;have e4:(sc b.2.2 (tr D (rl a v))).2=b.2.2*cr D (rl a v):=rfl;rw[e3,e4];obtain⟨f1,f2⟩:=hF;constructor
   .intro x y;have:=f1 aa aa
    omega
   .intro x y;have:=f2 aa aa
    omega
  have key:=ag3 hW hfree;rw[hs,hs,C9 ha,Wm hD,C9 hb,Wm hD,ag4 hD hb,ag5 hD ha] at key;unfold FI;rw[aQ aa,aQ aa]
  exact key
 .unfold FI;rw[aV hD,aV hD];obtain⟨e1,e2⟩:=mr a b u;obtain⟨e3,e4⟩:=mr a b v;rw[hW] at e1 e3;have x1:=bO (z:=(rl b u).1) ha;have x2:=bO (z:=(rl b v).1) ha;have x3:=bO (z:=(rl a u).1) hb;have x4:=bO (z:=(rl a v).1) hb;have l1:cr D (rl a u)= -(D.2*(rl a u).1):=by unfold cr;rw[hD];omega
  have l2:cr D (rl a v)= -(D.2*(rl a v).1):=by unfold cr;rw[hD];omega
  have l3:cr D (rl b u)= -(D.2*(rl b u).1):=by unfold cr;rw[hD];omega
  have l4:cr D (rl b v)= -(D.2*(rl b v).1):=by unfold cr;rw[hD];omega
  have y1:=bO (z:=(rl a u).1) uG;have y2:=bO (z:=(rl a v).1) uG;have y3:=bO (z:=(rl b u).1) uG;have y4:=bO (z:=(rl b v).1) uG;have ec:a.2.2*a.2.2*cr (rl b u) (rl b v)=b.2.2*b.2.2*cr (rl a u) (rl a v)+b.2.2*(wv a b).2*((rl a v).1-(rl a u).1):=by
   have k:a.2.2*a.2.2*cr (rl b u) (rl b v)=(a.2.2*(rl b u).1)*(a.2.2*(rl b v).2)-(a.2.2*(rl b u).2)*(a.2.2*(rl b v).1):=by unfold cr;grind
   rw[k,e1,e2,e3,e4];unfold cr
   grind
  have p1:=bJ ha ha;have p2:=bJ hb hb;have p3:=bJ hb hW2;have q1:=bO (z:=cr (rl a u) (rl a v)) p2;have q2:=neg_mul (z:=cr (rl a u) (rl a v)) p2;have q3:=bO (z:=cr (rl b u) (rl b v)) p1;have q4:=neg_mul (z:=cr (rl b u) (rl b v)) p1;have r1:=bO (z:=(rl a v).1-(rl a u).1) p3;have r2:=neg_mul (z:=(rl a v).1-(rl a u).1) p3;obtain⟨f1,f2⟩:=hF;rw[l1,l2] at f1 f2;unfold right cA cB;rw[l1,l2,l3,l4];generalize cr (rl a u) (rl a v)=ca at*;generalize cr (rl b u) (rl b v)=cb at*;generalize(rl a u).1=xu at*;generalize(rl a v).1=xv at*;generalize(rl b u).1=Da at*;generalize(rl b v).1=Db at*;generalize D.2*xu=lu at*;generalize D.2*xv=lv at*;generalize D.2*Da=Wn at*;generalize D.2*Db=FJ at*;generalize b.2.2*(wv a b).2*(xv-xu)=K at*;generalize a.2.2*a.2.2*cb=CB at*;generalize b.2.2*b.2.2*ca=CA at*;generalize a.2.2*Da=AU at*;generalize a.2.2*Db=AV at*;generalize b.2.2*xu=BU at*;generalize b.2.2*xv=BV at*;clear e2 e4 l1 l2 l3 l4 p1 p2 p3 hW hW2 hD uG;have hx1:0<xu↔0<Da:=aa
  have hx2:0<xv↔0<Db:=aa
  clear x1 x2 x3 x4 e1 e3;rw[aQ (show ¬(cb=0/\Da<=0/\ -Wn<0/\0<= -FJ) by omega),aQ (show ¬(cb=0/\Db<=0/\ -FJ<0/\0<= -Wn) by omega)]
  by_cases h1:0<xu<;>by_cases h2:0<xv
  .rw[aQ aa,aQ aa,aQ aa,aQ aa,aQ aa,aQ aa]
   rfl
  .rw[aQ (show ¬(Da<=0/\0<Db/\0<cb) by omega),aQ (show ¬(xu<=0/\0<xv/\0<ca) by omega),aQ (show ¬(ca=0/\0<xv/\ -lv<0/\0<= -lu) by omega)]
   clear y3 y4
   repeat' split
   all_goals omega
  .rw[aQ (show ¬(0<Da/\Db<=0/\cb<0) by omega),aQ (show ¬(0<xu/\xv<=0/\ca<0) by omega),aQ (show ¬(ca=0/\0<xu/\ -lu<0/\0<= -lv) by omega)]
   clear y3 y4
   repeat' split
   all_goals omega
  .rw[aQ aa,aQ aa,aQ aa,aQ aa,aQ aa,aQ aa]
   rfl
theorem O3(F:Pt->Pt->Int)(k:Pt->Int)(hs:∀a,F a a=0):∀(rg:List (List Pt)),(∀e∈aR rg,F e.1 e.2=k e.1-k e.2)->total F (aR rg)=0
 |[],_=>rfl
 |g::rg,h=>by
  have e:aR (g::rg)=fZ g++aR rg:=nI;rw[e] at h⊢;rw[AA,O3 F k hs rg (λe he=>h e (CQ _ he))]
  have h':∀e∈fZ g,F e.1 e.2=k e.1-k e.2:=λe he=>h e (vX _ he)
  unfold fZ at*;rw[C8 _ hs];cases g with
  |nil=>rfl
  |cons a r=>
   have key:=J0 (λ_ _=>0) F k r a a (λp hp=>by
    by_cases he:p.1=p.2
    .rw[he,hs];omega
    .have:=h' p (iz.2 ⟨hp,by simp[he]⟩)
     omega)
   have e0:∀l:List (Pt×Pt),total (λ_ _=>0) l=0:=λl=>by
    induction l with
    |nil=>rfl
    |cons x l ih=>rw[fJ,ih];rfl
   rw[e0] at key;have e:closing (a::r)=(a::r).zip (r++[a]):=rfl;rw[e];omega
theorem J1(F G:Pt->Pt->Int):∀l:List (Pt×Pt),total (λu v=>F u v+G u v) l=total F l+total G l
 |[]=>rfl
 |e::l=>by rw[fJ,fJ,fJ,J1 F G l];omega
theorem FK(F G:Pt->Pt->Int):∀l:List (Pt×Pt),total (λu v=>F u v-G u v) l=total F l-total G l
 |[]=>rfl
 |e::l=>by rw[fJ,fJ,fJ,FK F G l];omega
def PP(es:List (Pt×Pt))(n:Int×Int×Int):Int:=total (λu v=>right (rl n u) (rl n v)) es
theorem Wo(u:Pt):right u u=0:=by
 unfold right;rw[aQ aa,aQ aa]
theorem ag7(n:Int×Int×Int)(D u:Pt):cA n D u u=0:=by
 unfold cA;rw[aQ aa,aQ aa]
theorem ag8(n:Int×Int×Int)(D u:Pt):cB n D u u=0:=by
 unfold cB;rw[aQ aa,aQ aa]
theorem along{a b:Int×Int×Int}(ha:0<a.2.2)(hb:0<b.2.2)(hB:Behind a b D)(hF:∀e∈aR rg,O0 a b D e.1 e.2):
  PP (aR rg) b+total (cB b D) (aR rg)=PP (aR rg) a+total (cA a D) (aR rg):=by
 have h:=O3 (λu v=>right (rl b u) (rl b v)+cB b D u v-right (rl a u) (rl a v)-cA a D u v) (FI a b D) (λz=>by rw[Wo,Wo,ag7,ag8];rfl) rg (λe he=>ag6 ha hb hB (hF e he))
 rw[FK,FK,J1] at h;unfold PP;omega
abbrev N3:=Int×Int×Int
def lam(D:Pt)(n:N3)(z:Pt):Int:=cr D (rl n z)
theorem Wp{a b:N3}(h:Behind a b D):cr D (wv a b)=0:=by
 rcases h with⟨_,_,h⟩|⟨h1,_,h2,_⟩
 .exact h
 .unfold cr;rw[h1,h2];omega
theorem O4{a b:N3}(h:Behind a b D)(z:Pt):a.2.2*lam D b z=b.2.2*lam D a z:=by
 have hp:=Wp h;obtain⟨e1,e2⟩:=mr a b z;unfold lam cr at*;have k1:a.2.2*(D.1*(rl b z).2-D.2*(rl b z).1)=D.1*(a.2.2*(rl b z).2)-D.2*(a.2.2*(rl b z).1):=by grind
 rw[k1,e1,e2]
 grind
theorem qz{a b:N3}(ha:0<a.2.2)(hb:0<b.2.2)(h:Behind a b D)(z:Pt):(lam D b z<0↔lam D a z<0)/\(0<lam D b z↔0<lam D a z):=by
 have k:=O4 h z;have h1:=bO (z:=lam D b z) ha;have h2:=neg_mul (z:=lam D b z) ha;have h3:=bO (z:=lam D a z) hb;have h4:=neg_mul (z:=lam D a z) hb;omega
theorem ag9{a b:N3}(h:Behind a b D)(u v:Pt):∃k m:Int,0<k/\0<m/\k*(a.2.2*a.2.2*cr (rl b u) (rl b v))=k*(b.2.2*b.2.2*cr (rl a u) (rl a v))-b.2.2*(m*(lam D a v-lam D a u)):=by
 obtain⟨e1,e2⟩:=mr a b u;obtain⟨e3,e4⟩:=mr a b v;have k:a.2.2*a.2.2*cr (rl b u) (rl b v)=(a.2.2*(rl b u).1)*(a.2.2*(rl b v).2)-(a.2.2*(rl b u).2)*(a.2.2*(rl b v).1):=by unfold cr;grind
 rw[e1,e2,e3,e4] at k;rcases h with⟨h1,h2,h3⟩|⟨h1,h2,h3,h4⟩
 .refine⟨D.1,(wv a b).1,h1,h2,?_⟩;rw[k];unfold lam;unfold cr at*;generalize(rl a u).1=p1 at*;generalize(rl a u).2=p2 at*;generalize(rl a v).1=q1 at*;generalize(rl a v).2=q2 at*;generalize(wv a b).1=w1 at*;generalize(wv a b).2=w2 at*;have h3':D.1*w2=D.2*w1:=aa
  clear e1 e2 e3 e4 k h3
  grind
 .refine⟨D.2,(wv a b).2,h2,h4,?_⟩;rw[k];unfold lam;unfold cr at*;rw[h1,h3]
  grind
theorem J2{a b:N3}(ha:0<a.2.2)(hb:0<b.2.2)(h:Behind a b D)(hl:lam D a u<lam D a v):(0<=cr (rl b u) (rl b v)->0<cr (rl a u) (rl a v))/\(cr (rl a u) (rl a v)<=0->cr (rl b u) (rl b v)<0):=by
 obtain⟨k,m,hk,hm,e⟩:=ag9 h u v;have p1:=bJ hk (bJ ha ha);have p2:=bJ hk (bJ hb hb);have q1:=bO (z:=cr (rl a u) (rl a v)) p2;have q2:=neg_mul (z:=cr (rl a u) (rl a v)) p2;have q3:=bO (z:=cr (rl b u) (rl b v)) p1;have q4:=neg_mul (z:=cr (rl b u) (rl b v)) p1;have r:=bJ hb (bJ hm (show 0<lam D a v-lam D a u by omega))
 rw[OB] at q1 q2 q3 q4;omega
theorem O5{a b:N3}(ha:0<a.2.2)(hb:0<b.2.2)(h:Behind a b D)(hl:lam D a v<lam D a u):(cr (rl b u) (rl b v)<=0->cr (rl a u) (rl a v)<0)/\(0<=cr (rl a u) (rl a v)->0<cr (rl b u) (rl b v)):=by
 have:=J2 ha hb h hl;rw[di (rl b u) (rl b v),di (rl a u) (rl a v)] at this;omega
def lG(f t:N3)(D u v:Pt):Prop:=
 (lam D f u<=0->0<=lam D f v->lam D f u<lam D f v->cr (rl f u) (rl f v)<=0\/0<=cr (rl t u) (rl t v))/\
 (lam D f v<=0->0<=lam D f u->lam D f v<lam D f u->0<=cr (rl f u) (rl f v)\/cr (rl t u) (rl t v)<=0)
def oO(f t:N3)(D z:Pt):Prop:=lam D f z=0->dt D (rl f z)<=0\/0<=dt D (rl t z)
def FL(a b:N3)(D:Pt):Prop:=a=b\/Behind a b D
theorem Wq{a b:N3}(ha:0<a.2.2)(hb:0<b.2.2)(h:FL a b D)(hl:lam D a u<lam D a v):(0<=cr (rl b u) (rl b v)->0<=cr (rl a u) (rl a v))/\(cr (rl a u) (rl a v)<=0->cr (rl b u) (rl b v)<=0):=by
 rcases h with rfl|h
 .exact⟨id,id⟩
 .have:=J2 ha hb h hl;omega
theorem Ws{a b:N3}(ha:0<a.2.2)(hb:0<b.2.2)(h:FL a b D)(hl:lam D a v<lam D a u):(cr (rl b u) (rl b v)<=0->cr (rl a u) (rl a v)<=0)/\(0<=cr (rl a u) (rl a v)->0<=cr (rl b u) (rl b v)):=by
 rcases h with rfl|h
 .exact⟨id,id⟩
 .have:=O5 ha hb h hl;omega
theorem Wt{a b:N3}(ha:0<a.2.2)(hb:0<b.2.2)(h:FL a b D)(z:Pt):(lam D b z<0↔lam D a z<0)/\(0<lam D b z↔0<lam D a z):=by
 rcases h with rfl|h
 .exact⟨JD,JD⟩
 .exact qz ha hb h z
theorem O6{f t a b:N3}(hf:0<f.2.2)(ht:0<t.2.2)(ha:0<a.2.2)(hb:0<b.2.2)(h:lG f t D u v)(h1:FL f a D)(h2:Behind a b D)(h3:FL b t D):O0 a b D u v:=by
 have su:=Wt hf ha h1 u;have sv:=Wt hf ha h1 v;have tu:=qz ha hb h2 u;have tv:=qz ha hb h2 v;refine⟨λx y=>?_,λx y=>?_⟩
 .change lam D a u<0 at x
  change 0<=lam D a v at y
  rcases h.1 aa aa aa with k|k
  .exact aU ((Wq hf ha h1 aa).2 k)
  .exact aT ((Wq hb ht h3 aa).1 k)
 .change lam D a v<0 at x
  change 0<=lam D a u at y
  rcases h.2 aa aa aa with k|k
  .exact aU ((Ws hf ha h1 aa).2 k)
  .exact aT ((Ws hb ht h3 aa).1 k)
theorem FM{f t q:N3}(hf:0<f.2.2)(ht:0<t.2.2)(hq:0<q.2.2)(h:lG f t D u v)(h1:Behind f q D)(h2:Behind q t D):
  (lam D q u<=0->0<=lam D q v->lam D q u<lam D q v->cr (rl q u) (rl q v)≠0)/\(lam D q v<=0->0<=lam D q u->lam D q v<lam D q u->cr (rl q u) (rl q v)≠0):=by
 have su:=qz hf hq h1 u;have sv:=qz hf hq h1 v;refine⟨λx y z=>?_,λx y z=>?_⟩
 .rcases h.1 aa aa aa with k|k
  .have:=(J2 hf hq h1 (u:=u) (v:=v) aa).2 k
   omega
  .have:=(J2 hq ht h2 (u:=u) (v:=v) aa).1 k
   omega
 .rcases h.2 aa aa aa with k|k
  .have:=(O5 hf hq h1 (u:=u) (v:=v) aa).2 k
   omega
  .have:=(O5 hq ht h2 (u:=u) (v:=v) aa).1 k
   omega
def cC(f t:N3):N3:=(f.1+t.1,f.2.1+t.2.1,f.2.2+t.2.2)
theorem Wu(f t:N3):wv f (cC f t)=wv f t:=by unfold wv cC;exact eB (by simp only;grind) (by simp only;grind)
theorem aha(f t:N3):wv (cC f t) t=wv f t:=by unfold wv cC;exact eB (by simp only;grind) (by simp only;grind)
theorem AB{f t:N3}(h:bV (wv f t)):Behind f t (wv f t):=by
 rcases h with h|⟨h1,h2⟩
 .exact aU ⟨h,h,by unfold cr;grind⟩
 .exact aT ⟨h1,h2,h1,h2⟩
theorem J3{f t:N3}(h:bV (wv f t)):Behind f (cC f t) (wv f t):=by
 unfold Behind;rw[Wu];exact AB h
theorem O7{f t:N3}(h:bV (wv f t)):Behind (cC f t) t (wv f t):=by
 unfold Behind;rw[aha];exact AB h
theorem yH{F:Pt->Pt->Int}:∀{l:List (Pt×Pt)},(∀e∈l,F e.1 e.2=0)->total F l=0
 |[],_=>rfl
 |e::l,h=>by rw[fJ,h e af,yH λx hx=>h x (bX _ hx)];rfl
theorem nO{F G:Pt->Pt->Int}:∀{l:List (Pt×Pt)},(∀e∈l,F e.1 e.2=G e.1 e.2)->total F l=total G l
 |[],_=>rfl
 |e::l,h=>by rw[fJ,fJ,h e af,nO λx hx=>h x (bX _ hx)]
theorem Wv{f t:N3}(hf:0<f.2.2)(ht:0<t.2.2)(hr:bV (wv f t))(hF:∀e∈aR rg,lG f t (wv f t) e.1 e.2):
  PP (aR rg) (cC f t)=PP (aR rg) f+total (cA f (wv f t)) (aR rg):=by
 have hq:0<(cC f t).2.2:=by show 0<f.2.2+t.2.2;omega
 have b1:=J3 hr;have b2:=O7 hr;have h:=along hf hq b1 (rg:=rg) λe he=>O6 hf ht hf hq (hF e he) (aU rfl) b1 (aT b2)
 have h0:total (cB (cC f t) (wv f t)) (aR rg)=0:=yH λe he=>by
  obtain⟨k1,k2⟩:=FM hf ht hq (hF e he) b1 b2;unfold cB;rw[aQ (λ⟨x1,_,x2,x3⟩=>k1 (eY x2) x3 (by unfold lam;omega) x1),aQ (λ⟨x1,_,x2,x3⟩=>k2 (eY x2) x3 (by unfold lam;omega) x1)]
 omega
theorem ahb{f t:N3}(hf:0<f.2.2)(ht:0<t.2.2)(hr:bV (wv f t))(hF:∀e∈aR rg,lG f t (wv f t) e.1 e.2):
  PP (aR rg) (cC f t)=PP (aR rg) t+total (cB t (wv f t)) (aR rg):=by
 have hq:0<(cC f t).2.2:=by show 0<f.2.2+t.2.2;omega
 have b1:=J3 hr;have b2:=O7 hr;have h:=along hq ht b2 (rg:=rg) λe he=>O6 hf ht hq ht (hF e he) (aT b1) b2 (aU rfl)
 have h0:total (cA (cC f t) (wv f t)) (aR rg)=0:=yH λe he=>by
  obtain⟨k1,k2⟩:=FM hf ht hq (hF e he) b1 b2;unfold cA;rw[aQ (λ⟨x1,_,x2,x3⟩=>k2 (eY x2) x3 (by unfold lam;omega) x1),aQ (λ⟨x1,_,x2,x3⟩=>k1 (eY x2) x3 (by unfold lam;omega) x1)]
 omega
def ji(z:Pt):Bool:=decide (0<z.1\/(z.1=0/\0<z.2))
def bf(z w:Pt):Bool:=(ji z&& !ji w)||((ji z == ji w)&&decide (0<cr z w))
def bh(z w:Pt):Bool:=decide (cr z w=0)&&decide (0<dt z w)
def neg(D:Pt):Pt:=(-D.1, -D.2)
def bb(b:Bool):Int:=if b then 1 else 0
def arm(Q:Pt->Bool)(n:N3)(u v:Pt):Int:=if on (rl n u) (rl n v) then bb (Q (rl n v))-bb (Q (rl n u)) else 0
def AS(es:List (Pt×Pt))(n:N3)(Q:Pt->Bool):Int:=total (arm Q n) es
def fb(q:N3)(D u v:Pt):Int:=if on (rl q u) (rl q v) then(D.1*(v.1-u.1)+D.2*(v.2-u.2)).sign else 0
theorem mP(r s:Pt):on r s=true↔cr r s=0/\dt r s<=0:=by unfold on;simp
theorem sq_pos(h:a≠0\/b≠0):0<a*a+b*b:=by
 have k:∀x:Int,0<=x*x:=λx=>by
  rcases JC 0 x with h|h
  .exact jo h h
  .exact uz h h
 have k':∀x:Int,x≠0->0<x*x:=λx hx=>by
  rcases fX x 0 with h|h|h
  .exact Vy h h
  .exact absurd h hx
  .exact bJ h h
 have a1:=k a;have b1:=k b;rcases h with h|h
 .have:=k' a h;omega
 .have:=k' b h;omega
theorem fW(h:r≠(0,0)):0<dt r r:=by
 refine sq_pos ?_;rcases Classical.em (r.1=0) with h1|h1
 .exact aT λh2=>h (eB h1 h2)
 .exact aU h1
theorem O8(h:cr D r≠0):r≠(0,0):=λe=>h (by rw[e];unfold cr;simp)
theorem wG(h:dt D r≠0):r≠(0,0):=λe=>h (by rw[e];unfold dt;simp)
theorem mB(h:bV D):D≠(0,0):=λe=>by
 rw[e] at h;rcases h with h|⟨_,h⟩
 .exact absurd h ah
 .exact absurd h ah
theorem rC(h:cr r s=0):cr D s*dt r r=cr D r*dt r s:=by
 unfold cr dt at*
 grind
theorem jQ(r s:Pt):dt r s=dt s r:=by unfold dt;grind
theorem Dc(h:cr r s=0)(hl:cr D r<0):dt r s<=0↔0<=cr D s:=by
 have p:=fW (O8 (D:=D) (r:=r) aa)
 have e:=rC (D:=D) h;have a1:=neg_mul (z:=cr D s) p;rw[fg] at a1;have a2:=bO (z:=dt r s) (k:= -cr D r) aa
 rw[jq] at a2;omega
theorem Ww(h:cr r s=0)(hl:0<cr D r):dt r s<=0↔cr D s<=0:=by
 have p:=fW (O8 (D:=D) (r:=r) aa)
 have e:=rC (D:=D) h;have a1:=bO (z:=cr D s) p;rw[fg] at a1;have a2:=bO (z:=dt r s) hl;omega
theorem uH(h:cr r s=0):cr s r=0:=by rw[di];omega
theorem J4(hD:bV D)(z:Pt):bf z D=true↔0<z.1/\cr D z<0:=by
 have hd:ji D=true:=by unfold ji;exact dO hD
 have e:cr z D= -cr D z:=di D z;unfold bf;rw[hd,e];by_cases hz:ji z=true
 .rw[hz];simp;have hz':=fV (by unfold ji at hz;exact hz)
  intro h;rcases hz' with h1|⟨h1,h2⟩
  .exact h1
  .exfalso;rcases hD with h3|⟨h3,h4⟩
   .have:=bJ h3 h2;unfold cr at h;rw[h1] at h;omega
   .unfold cr at h;rw[h1,h3] at h;omega
 .have hz0:ji z=false:=by simpa using hz
  rw[hz0];simp;intro h;exfalso;apply hz;unfold ji;exact dO (aU h)
theorem O9(hD:bV D)(z:Pt):bf (neg D) z=true↔z.1<=0/\cr D z<0:=by
 have hd:ji (neg D)=false:=by
  unfold ji neg;refine fY λh=>?_
  rcases hD with h3|⟨h3,h4⟩<;>simp only at h<;>omega
 have e:cr (neg D) z= -cr D z:=by unfold cr neg;grind
 unfold bf;rw[hd,e];by_cases hz:ji z=true
 .rw[hz];simp;have hz':=fV (by unfold ji at hz;exact hz)
  intro h1;rcases hz' with h2|⟨h2,h3⟩
  .omega
  .unfold cr;rw[h2];rcases hD with h4|⟨h4,h5⟩
   .have:=bJ h4 h3;omega
   .rw[h4];omega
 .have hz0:ji z=false:=by simpa using hz
  rw[hz0];simp;have hz':=of_decide_eq_false (by unfold ji at hz0;exact hz0)
  intro h;omega
theorem ahc(hD:bV D)(n:N3)(u v:Pt):cA n D u v=arm (λz=>bf z D) n u v:=by
 unfold cA arm;generalize rl n u=r;generalize rl n v=s;have ar:=J4 hD r;have aun:=J4 hD s;by_cases hc:cr r s=0
 .have oN:=mP r s;have k1:cr D s<0->(dt r s<=0↔0<=cr D r):=λh=>by
   have:=Dc (uH hc) h;rw[jQ] at this;exact this
  have k2:cr D r<0->(dt r s<=0↔0<=cr D s):=λh=>Dc hc h
  unfold bb;cases h1:bf r D<;>cases h2:bf s D<;>cases h3:on r s<;>rw[h1] at ar<;>rw[h2] at aun<;>rw[h3] at oN<;>simp only[mi,reduceIte,false_iff,true_iff] at* <;>repeat' split
  all_goals first |omega |simp_all
 .have oN:on r s=false:=by
   cases h:on r s
   .rfl
   .exact absurd ((mP r s).1 h).1 hc
  rw[oN,aQ aa,aQ aa]
  rfl
theorem ahd(hD:bV D)(n:N3)(u v:Pt):cB n D u v= -arm (λz=>bf (neg D) z) n u v:=by
 unfold cB arm;generalize rl n u=r;generalize rl n v=s;have ar:=O9 hD r;have aun:=O9 hD s;by_cases hc:cr r s=0
 .have oN:=mP r s;have k1:cr D s<0->(dt r s<=0↔0<=cr D r):=λh=>by
   have:=Dc (uH hc) h;rw[jQ] at this;exact this
  have k2:cr D r<0->(dt r s<=0↔0<=cr D s):=λh=>Dc hc h
  unfold bb;cases h1:bf (neg D) r<;>cases h2:bf (neg D) s<;>cases h3:on r s<;>rw[h1] at ar<;>rw[h2] at aun<;>rw[h3] at oN<;>simp only[mi,reduceIte,false_iff,true_iff] at* <;>repeat' split
  all_goals first |omega |simp_all
 .have oN:on r s=false:=by
   cases h:on r s
   .rfl
   .exact absurd ((mP r s).1 h).1 hc
  rw[oN,aQ aa,aQ aa]
  rfl
theorem Pb(F:Pt->Pt->Int):∀l:List (Pt×Pt),total (λu v=> -F u v) l= -total F l
 |[]=>rfl
 |e::l=>by rw[fJ,fJ,Pb F l];omega
theorem ahe{f t:N3}(hf:0<f.2.2)(ht:0<t.2.2)(hr:bV (wv f t))(hF:∀e∈aR rg,lG f t (wv f t) e.1 e.2):
  PP (aR rg) (cC f t)=PP (aR rg) f+AS (aR rg) f (λz=>bf z (wv f t)):=by
 rw[Wv hf ht hr hF];unfold AS;rw[nO λe _=>ahc hr f e.1 e.2]
theorem ahf{f t:N3}(hf:0<f.2.2)(ht:0<t.2.2)(hr:bV (wv f t))(hF:∀e∈aR rg,lG f t (wv f t) e.1 e.2):
  PP (aR rg) (cC f t)=PP (aR rg) t-AS (aR rg) t (λz=>bf (neg (wv f t)) z):=by
 rw[ahb hf ht hr hF];unfold AS;have e1:total (cB t (wv f t)) (aR rg)=total (λu v=> -arm (λz=>bf (neg (wv f t)) z) t u v) (aR rg):=nO λe _=>ahd hr t e.1 e.2
 rw[e1,Pb];omega
theorem lW(hz:bV z)(hd:bV d)(h:cr z d=0):0<dt z d:=by
 rcases hz with h1|⟨h1,h2⟩
 .rcases hd with h3|⟨h3,h4⟩
  .have e:dt z d*z.1=d.1*dt z z:=by unfold cr at h;unfold dt;grind
   have p:=bJ h3 (fW (r:=z) (mB (aU h1)));have k:=bO (z:=dt z d) h1;rw[fg] at k;omega
  .exfalso;unfold cr at h;rw[h3] at h;have:=bJ h1 h4;omega
 .rcases hd with h3|⟨h3,h4⟩
  .exfalso;unfold cr at h;rw[h1] at h;have:=bJ h2 h3;omega
  .unfold dt;rw[h1];have:=bJ h2 h4;omega
theorem yI(z:Pt):ji z=true↔bV z:=by unfold ji bV;simp
theorem il(hz:z≠(0,0))(h:¬bV z):bV (neg z):=by
 unfold bV neg at*;simp only;have:¬(z.1=0/\z.2=0):=λk=>hz (eB k.1 k.2)
 omega
theorem kR(h:D≠(0,0)):neg D≠(0,0):=λe=>h (by
 unfold neg at e;have e1:=aZ Prod.fst e;have e2:=aZ Prod.snd e;simp only at e1 e2;exact eB aa aa)
theorem neg_neg(D:Pt):neg (neg D)=D:=by unfold neg;exact eB af af
theorem gu(z d:Pt):cr (neg z) d= -cr z d:=by unfold cr neg;grind
theorem gF(z d:Pt):cr z (neg d)= -cr z d:=by unfold cr neg;grind
theorem sZ(z d:Pt):dt (neg z) d= -dt z d:=by unfold dt neg;grind
theorem mD(z d:Pt):dt z (neg d)= -dt z d:=by unfold dt neg;grind
theorem js(hz:z≠(0,0))(hd:d≠(0,0)):bb (bf z d)+bb (bh z d)+bb (bf d z)=1:=by
 have hs:bh z d=true↔cr z d=0/\0<dt z d:=by unfold bh;simp
 have e:=di z d;by_cases h1:bV z
 .have r1:=(yI z).2 h1;by_cases h2:bV d
  .have r2:=(yI d).2 h2;have k:=lW h1 h2;have a1:bf z d=decide (0<cr z d):=by unfold bf;rw[r1,r2];simp
   have a2:bf d z=decide (0<cr d z):=by unfold bf;rw[r1,r2];simp
   rw[a1,a2];cases h3:bh z d<;>rw[h3] at hs<;>unfold bb<;>simp at* <;>repeat' split
   all_goals omega
  .have r2:ji d=false:=by cases h:ji d;rfl;exact absurd ((yI d).1 h) h2
   have k:=lW h1 (il hd h2);rw[gF,mD] at k;have a1:bf z d=true:=by unfold bf;rw[r1,r2];rfl
   have a2:bf d z=false:=by unfold bf;rw[r1,r2];rfl
   have a3:bh z d=false:=by
    cases h3:bh z d
    .rfl
    .have:=hs.1 h3;have:=k aa
     omega
   rw[a1,a2,a3];rfl
 .have r1:ji z=false:=by cases h:ji z;rfl;exact absurd ((yI z).1 h) h1
  by_cases h2:bV d
  .have r2:=(yI d).2 h2;have k:=lW (il hz h1) h2;rw[gu,sZ] at k;have a1:bf z d=false:=by unfold bf;rw[r1,r2];rfl
   have a2:bf d z=true:=by unfold bf;rw[r1,r2];rfl
   have a3:bh z d=false:=by
    cases h3:bh z d
    .rfl
    .have:=hs.1 h3;have:=k aa
     omega
   rw[a1,a2,a3];rfl
  .have r2:ji d=false:=by cases h:ji d;rfl;exact absurd ((yI d).1 h) h2
   have k:=lW (il hz h1) (il hd h2);rw[gu,sZ,gF,mD] at k;have a1:bf z d=decide (0<cr z d):=by unfold bf;rw[r1,r2];simp
   have a2:bf d z=decide (0<cr d z):=by unfold bf;rw[r1,r2];simp
   rw[a1,a2];cases h3:bh z d<;>rw[h3] at hs<;>unfold bb<;>simp at* <;>repeat' split
   all_goals omega
def nz(z:Pt):Bool:=decide (z≠(0,0))
theorem Dd(z:Pt):cr (0,0) z=0/\cr z (0,0)=0/\dt (0,0) z=0/\dt z (0,0)=0:=by unfold cr dt;simp
theorem nP(r s:Pt)(h:r=(0,0)\/s=(0,0)):on r s=true:=by
 rw[mP];rcases h with h|h<;>rw[h]
 .have:=Dd s;omega
 .have:=Dd r;omega
theorem Pc(rg:List (List Pt))(n:N3):AS (aR rg) n nz=0:=by
 refine O3 _ (λz=> -bb (nz (rl n z))) (λa=>?_) rg λe _=>?_
 .unfold arm;split<;>omega
 .unfold arm;cases h:on (rl n e.1) (rl n e.2)
  .have h1:nz (rl n e.1)=true:=dO λk=>by rw[nP _ _ (aU k)] at h;cases h
   have h2:nz (rl n e.2)=true:=dO λk=>by rw[nP _ _ (aT k)] at h;cases h
   rw[h1,h2];simp
  .simp only[reduceIte];omega
theorem FN{n:N3}{Q Q1 Q2:Pt->Bool}(h:∀z,bb (Q z)=bb (Q1 z)+bb (Q2 z)):AS es n Q=AS es n Q1+AS es n Q2:=by
 unfold AS;rw[<-J1];refine nO λe _=>?_
 unfold arm;rw[h,h];split<;>omega
theorem J5{n:N3}{Q Q':Pt->Bool}(h:∀e∈es,on (rl n e.1) (rl n e.2)=true->Q (rl n e.1)=Q' (rl n e.1)/\Q (rl n e.2)=Q' (rl n e.2)):AS es n Q=AS es n Q':=by
 refine nO λe he=>?_
 unfold arm;cases h1:on (rl n e.1) (rl n e.2)
 .rfl
 .obtain⟨k1,k2⟩:=h e he h1;rw[k1,k2]
def eD(es:List (Pt×Pt))(n:N3)(d:Pt):Int:=PP es n+AS es n (λz=>nz z&&bf z d)
def fS(es:List (Pt×Pt))(n:N3)(d:Pt):Int:=eD es n d+AS es n (λz=>bh z d)
theorem Wx(h:bV d):(nz z&&bf z d)=bf z d:=by
 unfold nz;by_cases hz:z=(0,0)
 .have:bf z d=false:=by
   cases hk:bf z d
   .rfl
   .have:=(J4 h z).1 hk;rw[hz] at this;simp at this
  rw[this];simp
 .simp[hz]
theorem AE(d:Pt):bh (0,0) d=false:=by
 unfold bh;rw[(Dd d).2.2.1];simp
theorem ahg(h:bV d):bf (neg d) (0,0)=false:=by
 cases hk:bf (neg d) (0,0)
 .rfl
 .have:=(O9 h (0,0)).1 hk;have:=(Dd d).2.1;omega
theorem ahh{n:N3}(h:bV d):
  AS (aR rg) n (λz=>nz z&&bf z (neg d))+AS (aR rg) n (λz=>bh z (neg d))= -AS (aR rg) n (λz=>bf (neg d) z):=by
 have e1:AS (aR rg) n nz=AS (aR rg) n (λz=>nz z&&(bf z (neg d)||bh z (neg d)))+AS (aR rg) n (λz=>bf (neg d) z):=by
  refine FN λz=>?_
  by_cases hz:z=(0,0)
  .rw[hz,ahg h];rfl
  .have k:=js hz (kR (mB h));have:nz z=true:=dO hz;rw[this];unfold bb at*;revert k;cases bf z (neg d)<;>cases bh z (neg d)<;>cases bf (neg d) z<;>decide
 have e2:AS (aR rg) n (λz=>nz z&&(bf z (neg d)||bh z (neg d)))=AS (aR rg) n (λz=>nz z&&bf z (neg d))+AS (aR rg) n (λz=>bh z (neg d)):=by
  refine FN λz=>?_
  by_cases hz:z=(0,0)
  .rw[hz,AE];rfl
  .have k:=js hz (kR (mB h));have:nz z=true:=dO hz;rw[this];unfold bb at*;revert k;cases bf z (neg d)<;>cases bh z (neg d)<;>cases bf (neg d) z<;>decide
 have:=Pc rg n;omega
theorem par(hD:D≠(0,0))(h1:cr D r=0)(h2:cr D s=0):cr r s=0/\dt D r*dt D s=dt D D*dt r s:=by
 have e1:dt D D*cr r s=cr D s*dt D r-cr D r*dt D s:=by unfold cr dt;grind
 have e2:dt D r*dt D s=dt D D*dt r s-cr D r*cr D s:=by unfold cr dt;grind
 rw[h1,h2] at e1;rw[h1,h2] at e2;have p:=fR (z:=cr r s) (fW hD);constructor
 .omega
 .omega
theorem yJ(hD:D≠(0,0))(h1:cr D r=0)(h2:cr D s=0):on r s=true↔dt D r*dt D s<=0:=by
 obtain⟨a,b⟩:=par hD h1 h2;rw[mP,b];have p:=bO (z:=dt r s) (fW hD);omega
theorem J6(ha:0<a)(hb:0<b):¬a*b<=0:=by have:=bJ ha hb;omega
theorem FO(ha:a<0)(hb:b<0):¬a*b<=0:=by have:=Vy ha hb;omega
theorem De(ha:a<=0)(hb:0<=b):a*b<=0:=Fg ha hb
theorem J7(ha:0<=a)(hb:b<=0):a*b<=0:=age ha hb
theorem place{f t:N3}(hf:0<f.2.2)(ht:0<t.2.2)(hr:bV (wv f t))(hC:oO f t (wv f t) z)(hl:lam (wv f t) f z=0):
  (dt (wv f t) (rl f z)<=0/\dt (wv f t) (rl (cC f t) z)<0/\dt (wv f t) (rl t z)<0)\/(0<dt (wv f t) (rl f z)/\0<dt (wv f t) (rl (cC f t) z)/\0<=dt (wv f t) (rl t z)):=by
 have hD:=fW (mB hr);have a1:=mr f t z;have a2:=mr f (cC f t) z;rw[Wu] at a2;have hq:(cC f t).2.2=f.2.2+t.2.2:=rfl;rw[hq] at a2;have k:=hC hl;generalize Df:wv f t=D at*;have e1:f.2.2*dt D (rl t z)=t.2.2*dt D (rl f z)-dt D D:=by
  have:f.2.2*dt D (rl t z)=D.1*(f.2.2*(rl t z).1)+D.2*(f.2.2*(rl t z).2):=by unfold dt;grind
  rw[this,a1.1,a1.2];unfold dt
  grind
 have e2:f.2.2*dt D (rl (cC f t) z)=(f.2.2+t.2.2)*dt D (rl f z)-dt D D:=by
  have:f.2.2*dt D (rl (cC f t) z)=D.1*(f.2.2*(rl (cC f t) z).1)+D.2*(f.2.2*(rl (cC f t) z).2):=by unfold dt;grind
  rw[this,a2.1,a2.2];unfold dt
  grind
 have p1:=neg_mul (z:=dt D (rl t z)) hf;have p2:=bO (z:=dt D (rl t z)) hf;have p3:=neg_mul (z:=dt D (rl (cC f t) z)) hf;have p4:=bO (z:=dt D (rl (cC f t) z)) hf;have p5:=bO (z:=dt D (rl f z)) ht;have p6:=bO (z:=dt D (rl f z)) hf;have e3:(f.2.2+t.2.2)*dt D (rl f z)=f.2.2*dt D (rl f z)+t.2.2*dt D (rl f z):=by grind
 have p7:=neg_mul (z:=dt D (rl f z)) hf;have p8:=neg_mul (z:=dt D (rl f z)) ht;rcases k with k|k
 .left;omega
 .right;omega
theorem Pd{f t:N3}(hf:0<f.2.2)(ht:0<t.2.2)(hr:bV (wv f t))(hS:lG f t (wv f t) u v)(hn:¬(lam (wv f t) f u=0/\lam (wv f t) f v=0)):on (rl (cC f t) u) (rl (cC f t) v)=false:=by
 have hq:0<(cC f t).2.2:=by show 0<f.2.2+t.2.2;omega
 have b1:=J3 hr;obtain⟨k1,k2⟩:=FM hf ht hq hS b1 (O7 hr);have su:=qz hf hq b1 u;have sv:=qz hf hq b1 v;cases h:on (rl (cC f t) u) (rl (cC f t) v)
 .rfl
 .exfalso;obtain⟨h1,h2⟩:=(mP _ _).1 h;have c1:=Dc (D:=wv f t) h1;have c2:=Ww (D:=wv f t) h1;have c3:=Dc (D:=wv f t) (uH h1);have c4:=Ww (D:=wv f t) (uH h1);rw[jQ] at c3 c4;unfold lam at*;rcases fX (cr (wv f t) (rl (cC f t) u)) 0 with x|x|x
  .exact k1 aa ((c1 x).1 h2) (by have:=(c1 x).1 h2;omega) h1
  .rcases fX (cr (wv f t) (rl (cC f t) v)) 0 with y|y|y
   .exact k2 aa aa aa h1
   .exact hn ⟨aa,aa⟩
   .exact k1 aa aa aa h1
  .exact k2 ((c2 x).1 h2) aa (by have:=(c2 x).1 h2;omega) h1
theorem J8(ho:on r s=true)(hk:cr s D=0)(hs:s≠(0,0)):cr D r=0/\cr D s=0:=by
 have h1:=((mP _ _).1 ho).1;have e1:cr D s=0:=uH hk;have e:=rC (D:=D) (uH h1);rw[e1] at e;have p:=fR (z:=cr D r) (fW hs);rw[fg] at p;exact⟨p.1 aa,e1⟩
theorem AG(r s:Pt):on r s=on s r:=by
 unfold on;rw[di r s,jQ];congr 1;exact decide_eq_decide.2 aa
theorem dP(z w:Pt):bh z w=true↔cr z w=0/\0<dt z w:=by unfold bh;simp
theorem td{f t:N3}(hf:0<f.2.2)(ht:0<t.2.2)(hr:bV (wv f t))(z:Pt):lam (wv f t) t z=0↔lam (wv f t) f z=0:=by
 have:=qz hf ht (AB hr) z;omega
theorem Dg{f t:N3}(hf:0<f.2.2)(ht:0<t.2.2)(hr:bV (wv f t))(z:Pt):lam (wv f t) (cC f t) z=0↔lam (wv f t) f z=0:=by
 have:=qz hf (show 0<(cC f t).2.2 by show 0<f.2.2+t.2.2;omega) (J3 hr) z
 omega
theorem Wy{f t:N3}(hf:0<f.2.2)(ht:0<t.2.2)(hr:bV (wv f t))(hS:lG f t (wv f t) u v)(hu:oO f t (wv f t) u)(hv:oO f t (wv f t) v):
  fb (cC f t) (wv f t) u v=arm (λz=>bh z (wv f t)) f u v/\fb (cC f t) (wv f t) u v= -arm (λz=>bh z (neg (wv f t))) t u v:=by
 have hq:0<(cC f t).2.2:=by show 0<f.2.2+t.2.2;omega
 have hD:=mB hr;by_cases hn:lam (wv f t) f u=0/\lam (wv f t) f v=0
 .obtain⟨l1,l2⟩:=hn;have pu:=place hf ht hr hu l1;have pv:=place hf ht hr hv l2;have m1:=(Dg hf ht hr u).2 l1;have m2:=(Dg hf ht hr v).2 l2;have t1:=(td hf ht hr u).2 l1;have t2:=(td hf ht hr v).2 l2;have Pe:(cC f t).2.2*((wv f t).1*(v.1-u.1)+(wv f t).2*(v.2-u.2))=dt (wv f t) (rl (cC f t) v)-dt (wv f t) (rl (cC f t) u):=by
   unfold dt rl rel
   grind
  have s1:=bO (z:=(wv f t).1*(v.1-u.1)+(wv f t).2*(v.2-u.2)) hq;have s2:=neg_mul (z:=(wv f t).1*(v.1-u.1)+(wv f t).2*(v.2-u.2)) hq;rw[Pe] at s1 s2;have oq:=yJ hD m1 m2;have of:=yJ hD l1 l2;have ot:=yJ hD t1 t2;have ku:=dP (rl f u) (wv f t);have kv:=dP (rl f v) (wv f t);have tu:=dP (rl t u) (neg (wv f t));have tv:=dP (rl t v) (neg (wv f t));rw[gF,mD] at tu tv;rw[jQ] at ku kv;rw[jQ (rl t u)] at tu;rw[jQ (rl t v)] at tv;have c1:cr (rl f u) (wv f t)=0:=uH l1;have c2:cr (rl f v) (wv f t)=0:=uH l2;have c3:cr (rl t u) (wv f t)=0:=uH t1;have c4:cr (rl t v) (wv f t)=0:=uH t2;unfold fb arm;dsimp only;generalize wv f t=D at*;rcases pu with⟨x1,x2,x3⟩|⟨x1,x2,x3⟩<;>rcases pv with⟨y1,y2,y3⟩|⟨y1,y2,y3⟩
  .have o1:on (rl (cC f t) u) (rl (cC f t) v)=false:=by
    cases h:on (rl (cC f t) u) (rl (cC f t) v);rfl;exact absurd (oq.1 h) (FO x2 y2)
   have o2:on (rl t u) (rl t v)=false:=by
    cases h:on (rl t u) (rl t v);rfl;exact absurd (ot.1 h) (FO x3 y3)
   have b1:bh (rl f u) D=false:=by cases h:bh (rl f u) D;rfl;have:=ku.1 h;omega
   have b2:bh (rl f v) D=false:=by cases h:bh (rl f v) D;rfl;have:=kv.1 h;omega
   rw[o1,o2,b1,b2];simp
  .have o1:=oq.2 (De (eY x2) (eY y2));have o2:=of.2 (De x1 (eY y1));have o3:=ot.2 (De (eY x3) y3);have b1:bh (rl f u) D=false:=by cases h:bh (rl f u) D;rfl;have:=ku.1 h;omega
   have b2:bh (rl f v) D=true:=kv.2 ⟨c2,y1⟩;have b3:bh (rl t u) (neg D)=true:=tu.2 ⟨aa,aa⟩
   have b4:bh (rl t v) (neg D)=false:=by cases h:bh (rl t v) (neg D);rfl;have:=tv.1 h;omega
   have sg:(D.1*(v.1-u.1)+D.2*(v.2-u.2)).sign=1:=oJ aa
   rw[o1,o2,o3,b1,b2,b3,b4,sg];decide
  .have o1:=oq.2 (J7 (eY x2) (eY y2));have o2:=of.2 (J7 (eY x1) y1);have o3:=ot.2 (J7 x3 (eY y3));have b1:bh (rl f u) D=true:=ku.2 ⟨c1,x1⟩;have b2:bh (rl f v) D=false:=by cases h:bh (rl f v) D;rfl;have:=kv.1 h;omega
   have b3:bh (rl t u) (neg D)=false:=by cases h:bh (rl t u) (neg D);rfl;have:=tu.1 h;omega
   have b4:bh (rl t v) (neg D)=true:=tv.2 ⟨aa,aa⟩
   have sg:(D.1*(v.1-u.1)+D.2*(v.2-u.2)).sign= -1:=Af aa
   rw[o1,o2,o3,b1,b2,b3,b4,sg];decide
  .have o1:on (rl (cC f t) u) (rl (cC f t) v)=false:=by
    cases h:on (rl (cC f t) u) (rl (cC f t) v);rfl;exact absurd (oq.1 h) (J6 x2 y2)
   have o2:on (rl f u) (rl f v)=false:=by
    cases h:on (rl f u) (rl f v);rfl;exact absurd (of.1 h) (J6 x1 y1)
   have b3:bh (rl t u) (neg D)=false:=by cases h:bh (rl t u) (neg D);rfl;have:=tu.1 h;omega
   have b4:bh (rl t v) (neg D)=false:=by cases h:bh (rl t v) (neg D);rfl;have:=tv.1 h;omega
   rw[o1,o2,b3,b4];simp
 .have o1:=Pd hf ht hr hS hn;have zf:arm (λz=>bh z (wv f t)) f u v=0:=by
   unfold arm;dsimp only;cases ho:on (rl f u) (rl f v)
   .rfl
   .have b1:bh (rl f u) (wv f t)=false:=by
     cases h:bh (rl f u) (wv f t)
     .rfl
     .exfalso;obtain⟨k1,k2⟩:=(dP _ _).1 h;have:=J8 (by rw[AG];exact ho) k1 (wG (D:=wv f t) (by rw[jQ];omega))
      exact hn ⟨this.2,this.1⟩
    have b2:bh (rl f v) (wv f t)=false:=by
     cases h:bh (rl f v) (wv f t)
     .rfl
     .exfalso;obtain⟨k1,k2⟩:=(dP _ _).1 h;have:=J8 ho k1 (wG (D:=wv f t) (by rw[jQ];omega))
      exact hn ⟨this.1,this.2⟩
    rw[b1,b2];simp
  have zt:arm (λz=>bh z (neg (wv f t))) t u v=0:=by
   have hn':¬(lam (wv f t) t u=0/\lam (wv f t) t v=0):=by rw[td hf ht hr,td hf ht hr];exact hn
   unfold arm;dsimp only;cases ho:on (rl t u) (rl t v)
   .rfl
   .have b1:bh (rl t u) (neg (wv f t))=false:=by
     cases h:bh (rl t u) (neg (wv f t))
     .rfl
     .exfalso;obtain⟨k1,k2⟩:=(dP _ _).1 h;rw[gF] at k1;rw[mD] at k2;have:=J8 (D:=wv f t) (by rw[AG];exact ho) aa (wG (D:=wv f t) (by rw[jQ];omega))
      exact hn' ⟨this.2,this.1⟩
    have b2:bh (rl t v) (neg (wv f t))=false:=by
     cases h:bh (rl t v) (neg (wv f t))
     .rfl
     .exfalso;obtain⟨k1,k2⟩:=(dP _ _).1 h;rw[gF] at k1;rw[mD] at k2;have:=J8 (D:=wv f t) ho aa (wG (D:=wv f t) (by rw[jQ];omega))
      exact hn' ⟨this.1,this.2⟩
    rw[b1,b2];simp
  rw[zf,zt];unfold fb;rw[o1];simp
structure uI(es:List (Pt×Pt))(f t:N3):Prop where
 pf:0<f.2.2
 pt:0<t.2.2
 r:bV (wv f t)
 s:∀e∈es,lG f t (wv f t) e.1 e.2
 c:∀e∈es,oO f t (wv f t) e.1/\oO f t (wv f t) e.2
def RR(es:List (Pt×Pt))(f t:N3):Int:=PP es (cC f t)
def LL(es:List (Pt×Pt))(f t:N3):Int:=PP es (cC f t)+total (fb (cC f t) (wv f t)) es
theorem wH{f t:N3}(h:uI (aR rg) f t):RR (aR rg) f t=eD (aR rg) f (wv f t)/\LL (aR rg) f t=fS (aR rg) f (wv f t):=by
 have h1:=ahe h.pf h.pt h.r h.s;have h2:total (fb (cC f t) (wv f t)) (aR rg)=AS (aR rg) f (λz=>bh z (wv f t)):=nO λe he=>(Wy h.pf h.pt h.r (h.s e he) (h.c e he).1 (h.c e he).2).1
 have h3:AS (aR rg) f (λz=>nz z&&bf z (wv f t))=AS (aR rg) f (λz=>bf z (wv f t)):=J5 λe _ _=>⟨Wx h.r,Wx h.r⟩
 unfold RR LL eD fS eD;rw[h2,h3];omega
theorem FP{f t:N3}(h:uI (aR rg) f t):RR (aR rg) f t=fS (aR rg) t (neg (wv f t))/\LL (aR rg) f t=eD (aR rg) t (neg (wv f t)):=by
 have h1:=ahf h.pf h.pt h.r h.s;have h2:total (fb (cC f t) (wv f t)) (aR rg)= -AS (aR rg) t (λz=>bh z (neg (wv f t))):=by
  unfold AS;rw[<-Pb];exact nO λe he=>(Wy h.pf h.pt h.r (h.s e he) (h.c e he).1 (h.c e he).2).2
 have h3:=ahh (rg:=rg) (n:=t) h.r;unfold RR LL fS eD;rw[h2];omega
theorem ahi(x y z:Pt):cr x z*y.1=cr x y*z.1+cr y z*x.1:=by unfold cr;grind
theorem yK(h:bV x):0<=x.1:=by rcases h with h|⟨h,_⟩<;>omega
theorem Wz(hx:bV x)(hy:bV y)(h:0<cr x y):0<x.1:=by
 rcases hx with h1|⟨h1,h2⟩
 .exact h1
 .exfalso;have:=jo (eY h2) (yK hy);unfold cr at h;rw[h1] at h;omega
theorem J9(hx:bV x)(hy:bV y)(hz:bV z):(0<cr x y->0<=cr y z->0<cr x z)/\(0<=cr x y->0<cr y z->0<cr x z)/\(cr x y=0->cr y z=0->cr x z=0):=by
 have e:=ahi x y z;have px:=yK hx;have py:=yK hy;have pz:=yK hz;refine⟨λh1 h2=>?_,λh1 h2=>?_,λh1 h2=>?_⟩
 .have p1:=Wz hx hy h1;rcases hy with q|⟨q,q'⟩
  .rcases hz with r|⟨r,r'⟩
   .have k1:=bJ h1 r;have k2:=jo h2 px;have k:=bO (z:=cr x z) q;rw[fg] at k;omega
   .have:0<x.1*z.2:=bJ p1 r';unfold cr;rw[r];omega
  ·
   have h3:0<=y.1*z.2-y.2*z.1:=h2;rw[q] at h3;have hz1:z.1=0:=by
    rcases fX z.1 0 with h|h|h
    .omega
    .exact h
    .have:=bJ q' h;omega
   rcases hz with r|⟨r,r'⟩
   .omega
   .have:0<x.1*z.2:=bJ p1 r';unfold cr;rw[r];omega
 .have p1:=Wz hy hz h2;have p2:0<x.1:=by
   rcases hx with q|⟨q,q'⟩
   .exact q
   .exfalso;have:0<x.2*y.1:=bJ q' p1;unfold cr at h1;rw[q] at h1;omega
  have k1:=jo h1 pz;have k2:=bJ h2 p2;have k:=bO (z:=cr x z) p1;rw[fg] at k;omega
 .rw[h1,h2] at e;rcases hy with q|⟨q,q'⟩
  .have k:=fR (z:=cr x z) q;rw[fg] at k;omega
  .unfold cr at h1 h2⊢;rw[q] at h1 h2;have a1:=fR (z:=x.1) q';have a2:=fR (z:=z.1) q';have b1:x.1=0:=a1.1 (by rw[fg];omega)
   have b2:z.1=0:=a2.1 aa
   rw[b1,b2];omega
theorem pL{w:Pt}:bf z w=true↔(bV z/\¬bV w)\/((bV z↔bV w)/\0<cr z w):=by
 have h1:=yI z;have h2:=yI w;unfold bf;cases h3:ji z<;>cases h4:ji w<;>rw[h3] at h1<;>rw[h4] at h2<;>simp at h1 h2⊢ <;>simp[h1,h2]
theorem iV(hx:x≠(0,0))(hy:y≠(0,0))(hz:z≠(0,0))(h1:bf x y=true)(h2:bf y z=true):bf x z=true:=by
 rw[pL] at*;by_cases rx:bV x<;>by_cases ry:bV y<;>by_cases rz:bV z
 .have:=J9 rx ry rz;simp only[rx,ry,rz,yu,Ag,vZ,sJ] at*;exact this.1 h1 (eY h2)
 .exact aU ⟨rx,rz⟩
 .simp only[rx,ry,rz,yu,Ag,sJ,Ah,wh,Fi,true_iff,Ai] at*
 .exact aU ⟨rx,rz⟩
 .simp[rx,ry] at h1
 .simp[rx,ry] at h1
 .simp[ry,rz] at h2
 .have:=J9 (il hx rx) (il hy ry) (il hz rz);simp only[gu,gF,Int.neg_neg] at this;simp only[rx,ry,rz,wh,vZ,sJ] at*;exact this.1 h1 (eY h2)
theorem tA(x:Pt):bf x x=false:=by
 have:cr x x=0:=by unfold cr;grind
 unfold bf;rw[this];simp
theorem Ka(hx:x≠(0,0))(hy:y≠(0,0))(h:bf x y=true):bf y x=false:=by
 cases h1:bf y x
 .rfl
 .have:=iV hx hy hx h h1;rw[tA] at this;cases this
def arms(es:List (Pt×Pt))(n:N3):List Pt:=((es.filter λe=>on (rl n e.1) (rl n e.2)).flatMap λe=>[rl n e.1,rl n e.2]).filter nz
theorem lH{n:N3}:z∈arms es n↔z≠(0,0)/\∃e∈es,on (rl n e.1) (rl n e.2)=true/\(z=rl n e.1\/z=rl n e.2):=by
 unfold arms;rw[iz,qq];constructor
 .rintro⟨⟨e,he,hz⟩,hn⟩;obtain⟨h1,h2⟩:=iz.1 he;exact⟨fV hn,e,h1,h2,by simpa using hz⟩
 .rintro⟨hn,e,he,ho,hz⟩;exact⟨⟨e,iz.2 ⟨he,ho⟩,by simpa using hz⟩,dO hn⟩
theorem Dh{n:N3}{Q Q':Pt->Bool}(h0:Q (0,0)=Q' (0,0))(h:∀z∈arms es n,Q z=Q' z):AS es n Q=AS es n Q':=by
 refine J5 λe he ho=>?_
 have key:∀z,z=rl n e.1\/z=rl n e.2->Q z=Q' z:=λz hz=>by
  by_cases hn:z=(0,0)
  .rw[hn];exact h0
  .exact h z (lH.2 ⟨hn,e,he,ho,hz⟩)
 exact⟨key _ (aU rfl),key _ (aT rfl)⟩
theorem Ph(es:List (Pt×Pt))(n:N3):AS es n (λ_=>false)=0:=yH λe _=>by unfold arm;split<;>rfl
theorem yL{α:Type}{p q:α->Bool}:∀(l:List α),(∀x∈l,q x=true->p x=true)->(∃x∈l,p x=true/\q x=false)->l.countP q<l.countP p
 |[],_,h=>by obtain⟨x,hx,_⟩:=h;simp at hx
 |a::l,h1,h2=>by
  obtain⟨x,hx,hp,hq⟩:=h2;have hle:l.countP q<=l.countP p:=asp λy hy=>h1 y (bX _ hy)
  rcases bU.1 hx with e|hx
  .subst e;rw[asq hp,asr (by simp[hq])]
   omega
  .have ih:=yL l (λy hy=>h1 y (bX _ hy)) ⟨x,hx,hp,hq⟩
   rw[Vz,Vz];by_cases ha:q a=true
   .rw[aV ha,aV (h1 a af ha)];omega
   .rw[aQ ha];omega
def nQ(d d' z:Pt):Bool:=bf d z&&bf z d'
theorem Pj{n:N3}(hd:d≠(0,0))(hd':d'≠(0,0))(h:bf d d'=true)(hb:∀z∈arms es n,nQ d d' z=false):fS es n d=eD es n d':=by
 have e:AS es n (λz=>nz z&&bf z d')=AS es n (λz=>nz z&&bf z d)+AS es n (λz=>bh z d):=by
  have e1:AS es n (λz=>nz z&&bf z d')=AS es n (λz=>nz z&&(bf z d||bh z d)):=Dh rfl λz hz=>by
   have gv:=(lH.1 hz).1;have hzb:=hb z hz;have:nz z=true:=dO gv;rw[this,JE,JE];have k:=js gv hd;unfold nQ at hzb;cases h1:bf z d'
   .have h2:bf z d=false:=by
     cases h2:bf z d
     .rfl
     .have:=iV gv hd hd' h2 h;rw[h1] at this;cases this
    have h3:bh z d=false:=by
     cases h3:bh z d
     .rfl
     .exfalso;obtain⟨s1,s2⟩:=(dP z d).1 h3;have k2:=js gv hd';rw[h1] at k2;have h4:bf d' z=true\/bh z d'=true:=by
       revert k2;cases bh z d'<;>cases bf d' z<;>decide
      rcases h4 with h4|h4
      .have:=iV hd hd' gv h h4;rw[this,h3,h2] at k;revert k;decide
      ·
       obtain⟨t1,t2⟩:=(dP z d').1 h4;have p1:cr d z=0:=by rw[di];omega
       have hdd:cr d d'=0:=by
        have:=rC (D:=d) t1;rw[p1] at this;have q:=fR (z:=cr d d') (fW gv);rw[fg] at q;exact q.1 aa
       have hpos:0<dt d d':=by
        have e2:dt d d'*dt z z=dt z d*dt z d'+cr z d*cr z d':=by unfold dt cr;grind
        rw[s1] at e2;have:=bJ s2 t2;have q:=bO (z:=dt d d') (fW gv);rw[fg] at q;exact q.1 aa
       have k3:=js hd hd';have h5:bh d d'=true:=(dP _ _).2 ⟨hdd,hpos⟩;rw[h,h5] at k3;revert k3;cases bf d' d<;>decide
    rw[h2,h3];rfl
   .rw[h1,Bool.and_true] at hzb;rw[hzb] at k;revert k;cases bf z d<;>cases bh z d<;>decide
  have e2:AS es n (λz=>nz z&&(bf z d||bh z d))=AS es n (λz=>nz z&&bf z d)+AS es n (λz=>bh z d):=by
   refine FN λz=>?_
   by_cases hz:z=(0,0)
   .rw[hz,AE];rfl
   .have k:=js hz hd;have:nz z=true:=dO hz;rw[this];revert k;cases bf z d<;>cases bh z d<;>cases bf d z<;>decide
  rw[e1,e2]
 unfold fS eD;omega
theorem Di:nQ d d' z=true↔bf d z=true/\bf z d'=true:=by unfold nQ;simp
structure AH(es:List (Pt×Pt))(n:N3)(bu:Int->Bool)(z:Pt):Prop where
 mem:z∈arms es n
 out:bu (eD es n z)=false
 bu:bu (fS es n z)=true
theorem Kb{n:N3}{bu:Int->Bool}:∀(m:Nat)(d d':Pt),d≠(0,0)->d'≠(0,0)->bf d d'=true->(arms es n).countP (nQ d d')<=m->bu (fS es n d)=false->bu (eD es n d')=true->∃z,AH es n bu z/\bf d z=true/\bf z d'=true:=by
 intro m;induction m with
 |zero=>
  intro d d' hd hd' h hc h1 h2;exfalso;rw[Pj hd hd' h λz hz=>by
   cases hk:nQ d d' z
   .rfl
   .have:=JF.2 ⟨z,hz,hk⟩;omega] at h1
  rw[h1] at h2;cases h2
 |succ m ih=>
  intro d d' hd hd' h hc h1 h2;by_cases hb:∀z∈arms es n,nQ d d' z=false
  .exfalso;rw[Pj hd hd' h hb] at h1;rw[h1] at h2;cases h2
  .have hb':∃z,z∈arms es n/\nQ d d' z=true:=by
    apply mj;intro hk;apply hb;intro z hz;cases hk':nQ d d' z
    .rfl
    .exact absurd ⟨z,hz,hk'⟩ hk
   obtain⟨z,hz,hk⟩:=hb';have gv:=(lH.1 hz).1;obtain⟨k1,k2⟩:=Di.1 hk;cases hbz:bu (eD es n z)
   .cases eO:bu (fS es n z)
    .have hlt:(arms es n).countP (nQ z d')<(arms es n).countP (nQ d d'):=yL _ (λx hx AJ=>by
      obtain⟨x1,x2⟩:=Di.1 AJ;exact Di.2 ⟨iV hd gv (lH.1 hx).1 k1 x1,x2⟩) ⟨z,hz,hk,by unfold nQ;rw[tA];rfl⟩
     obtain⟨y,hy,y1,y2⟩:=ih z d' gv hd' k2 aa eO h2
     exact⟨y,hy,iV hd gv (lH.1 hy.mem).1 k1 y1,y2⟩
    .exact⟨z,⟨hz,hbz,eO⟩,k1,k2⟩
   .have hlt:(arms es n).countP (nQ d z)<(arms es n).countP (nQ d d'):=yL _ (λx hx AJ=>by
      obtain⟨x1,x2⟩:=Di.1 AJ;exact Di.2 ⟨x1,iV (lH.1 hx).1 gv hd' x2 k2⟩) ⟨z,hz,hk,by unfold nQ;rw[tA];simp⟩
    obtain⟨y,hy,y1,y2⟩:=ih d z hd gv k1 aa h1 hbz
    exact⟨y,hy,y1,iV (lH.1 hy.mem).1 gv hd' y2 k2⟩
theorem Pk{n:N3}{bu:Int->Bool}:∀(m:Nat)(d':Pt),d'≠(0,0)->(arms es n).countP (λz=>bf z d')<=m->bu (PP es n)=false->bu (eD es n d')=true->∃z,AH es n bu z/\bf z d'=true:=by
 have h0:∀d',(∀z∈arms es n,bf z d'=false)->eD es n d'=PP es n:=λd' h=>by
  have e:AS es n (λz=>nz z&&bf z d')=AS es n (λ_=>false):=Dh (by unfold nz;simp) λz hz=>by rw[h z hz];simp
  unfold eD;rw[e,Ph];omega
 intro m;induction m with
 |zero=>
  intro d' hd' hc h1 h2;exfalso;rw[h0 d' λz hz=>by
   cases hk:bf z d'
   .rfl
   .have:0<(arms es n).countP (λz=>bf z d'):=JF.2 ⟨z,hz,hk⟩
    omega,h1] at h2
  cases h2
 |succ m ih=>
  intro d' hd' hc h1 h2;by_cases hb:∀z∈arms es n,bf z d'=false
  .exfalso;rw[h0 d' hb,h1] at h2;cases h2
  .have hb':∃z,z∈arms es n/\bf z d'=true:=by
    apply mj;intro hk;apply hb;intro z hz;cases hk':bf z d'
    .rfl
    .exact absurd ⟨z,hz,hk'⟩ hk
   obtain⟨z,hz,hk⟩:=hb';have gv:=(lH.1 hz).1;cases hbz:bu (eD es n z)
   .cases eO:bu (fS es n z)
    .obtain⟨y,hy,_,y2⟩:=Kb _ z d' gv hd' hk (aY _) eO h2;exact⟨y,hy,y2⟩
    .exact⟨z,⟨hz,hbz,eO⟩,hk⟩
   .have hlt:(arms es n).countP (λx=>bf x z)<(arms es n).countP (λx=>bf x d'):=yL _ (λx hx AJ=>iV (lH.1 hx).1 gv hd' AJ hk) ⟨z,hz,hk,tA z⟩
    obtain⟨y,hy,y2⟩:=ih z gv aa h1 hbz
    exact⟨y,hy,iV (lH.1 hy.mem).1 gv hd' y2 hk⟩
theorem WA{n:N3}{bu:Int->Bool}:∀(m:Nat)(d:Pt),d≠(0,0)->(arms (aR rg) n).countP (λz=>bf d z)<=m->bu (fS (aR rg) n d)=false->bu (PP (aR rg) n)=true->∃z,AH (aR rg) n bu z/\bf d z=true:=by
 have h0:∀d,d≠(0,0)->(∀z∈arms (aR rg) n,bf d z=false)->fS (aR rg) n d=PP (aR rg) n:=λd hd h=>by
  have e:AS (aR rg) n nz=AS (aR rg) n (λz=>nz z&&bf z d)+AS (aR rg) n (λz=>bh z d):=by
   have e1:AS (aR rg) n nz=AS (aR rg) n (λz=>nz z&&(bf z d||bh z d)):=Dh (by unfold nz;simp) λz hz=>by
    have gv:=(lH.1 hz).1;have k:=js gv hd;have:nz z=true:=dO gv;rw[this];rw[h z hz] at k;revert k;cases bf z d<;>cases bh z d<;>decide
   have e2:AS (aR rg) n (λz=>nz z&&(bf z d||bh z d))=AS (aR rg) n (λz=>nz z&&bf z d)+AS (aR rg) n (λz=>bh z d):=by
    refine FN λz=>?_
    by_cases hz:z=(0,0)
    .rw[hz,AE];rfl
    .have k:=js hz hd;have:nz z=true:=dO hz;rw[this];revert k;cases bf z d<;>cases bh z d<;>cases bf d z<;>decide
   rw[e1,e2]
  have:=Pc rg n;unfold fS eD;omega
 intro m;induction m with
 |zero=>
  intro d hd hc h1 h2;exfalso;rw[h0 d hd λz hz=>by
   cases hk:bf d z
   .rfl
   .have:0<(arms (aR rg) n).countP (λz=>bf d z):=JF.2 ⟨z,hz,hk⟩
    omega,h2] at h1
  cases h1
 |succ m ih=>
  intro d hd hc h1 h2;by_cases hb:∀z∈arms (aR rg) n,bf d z=false
  .exfalso;rw[h0 d hd hb,h2] at h1;cases h1
  .have hb':∃z,z∈arms (aR rg) n/\bf d z=true:=by
    apply mj;intro hk;apply hb;intro z hz;cases hk':bf d z
    .rfl
    .exact absurd ⟨z,hz,hk'⟩ hk
   obtain⟨z,hz,hk⟩:=hb';have gv:=(lH.1 hz).1;cases hbz:bu (eD (aR rg) n z)
   .cases eO:bu (fS (aR rg) n z)
    .have hlt:(arms (aR rg) n).countP (λx=>bf z x)<(arms (aR rg) n).countP (λx=>bf d x):=yL _ (λx hx AJ=>iV hd gv (lH.1 hx).1 hk AJ) ⟨z,hz,hk,tA z⟩
     obtain⟨y,hy,y2⟩:=ih z gv aa eO h2
     exact⟨y,hy,iV hd gv (lH.1 hy.mem).1 hk y2⟩
    .exact⟨z,⟨hz,hbz,eO⟩,hk⟩
   .obtain⟨y,hy,y1,_⟩:=Kb _ d z hd gv hk (aY _) h1 hbz;exact⟨y,hy,y1⟩
theorem ahj{n:N3}{bu:Int->Bool}{a:Pt}(ha:a≠(0,0))(h1:bu (eD (aR rg) n a)=true)(h2:bu (fS (aR rg) n a)=false):∃z,AH (aR rg) n bu z:=by
 cases h:bu (PP (aR rg) n)
 .obtain⟨z,hz,_⟩:=Pk _ a ha (aY _) h h1;exact⟨z,hz⟩
 .obtain⟨z,hz,_⟩:=WA _ a ha (aY _) h2 h;exact⟨z,hz⟩
def cw(a l l':Pt):Bool:=(bf l a&&bf l' a&&bf l' l)||(bf l a&&bf a l')||(bf a l&&bf a l'&&bf l' l)
theorem nR{a:Pt}:cw a l l'=true↔(bf l a=true/\bf l' a=true/\bf l' l=true)\/(bf l a=true/\bf a l'=true)\/(bf a l=true/\bf a l'=true/\bf l' l=true):=by
 unfold cw;simp only[VA,qs];constructor
 .rintro((⟨⟨a,b⟩,c⟩|⟨a,b⟩)|⟨⟨a,b⟩,c⟩)
  .exact aU ⟨a,b,c⟩
  .exact aT (aU ⟨a,b⟩)
  .exact aT (aT ⟨a,b,c⟩)
 .rintro(⟨a,b,c⟩|⟨a,b⟩|⟨a,b,c⟩)
  .exact aU (aU ⟨⟨a,b⟩,c⟩)
  .exact aU (aT ⟨a,b⟩)
  .exact aT ⟨⟨a,b⟩,c⟩
theorem WB{n:N3}{bu:Int->Bool}{a a':Pt}(ha:a≠(0,0))(ha':a'≠(0,0))(hne:bh a a'=false)
  (h1:bu (eD (aR rg) n a)=true)(h2:bu (fS (aR rg) n a)=false)(h1':bu (eD (aR rg) n a')=true)(h2':bu (fS (aR rg) n a')=false)
  (FT:l≠(0,0))(lI:bh l a=false)(Kc:bh l a'=false):∃z,AH (aR rg) n bu z/\(cw a z l=true\/cw a' z l=true):=by
 have key:∀{a a':Pt},a≠(0,0)->a'≠(0,0)->bf a a'=true->bu (eD (aR rg) n a)=true->bu (fS (aR rg) n a)=false->bu (eD (aR rg) n a')=true->bu (fS (aR rg) n a')=false->bh l a=false->bh l a'=false->∃z,AH (aR rg) n bu z/\(cw a z l=true\/cw a' z l=true):=by
  intro a a' ha ha' hlt h1 h2 h1' h2' lI Kc;have t1:=js FT ha;have t2:=js FT ha';rw[lI] at t1;rw[Kc] at t2;cases p:bf l a
  .rw[p] at t1;have q:bf a l=true:=by revert t1;cases bf a l<;>decide
   cases r:bf l a'
   .rw[r] at t2;have q':bf a' l=true:=by revert t2;cases bf a' l<;>decide
    obtain⟨z,hz,z1,z2⟩:=Kb _ a a' ha ha' hlt (aY _) h2 h1';exact⟨z,hz,aT (nR.2 (aT (aU ⟨z2,q'⟩)))⟩
   ·
    cases hp:bu (PP (aR rg) n)
    .obtain⟨z,hz,z1⟩:=Pk _ a ha (aY _) hp h1;exact⟨z,hz,aU (nR.2 (aT (aU ⟨z1,q⟩)))⟩
    .obtain⟨z,hz,z1⟩:=WA _ a' ha' (aY _) h2' hp;have gv:=(lH.1 hz.mem).1;exact⟨z,hz,aU (nR.2 (aT (aT ⟨iV ha ha' gv hlt z1,q,iV FT ha' gv r z1⟩)))⟩
  ·
   obtain⟨z,hz,z1,z2⟩:=Kb _ a a' ha ha' hlt (aY _) h2 h1';have gv:=(lH.1 hz.mem).1;exact⟨z,hz,aT (nR.2 (aU ⟨z2,iV FT ha ha' p hlt,iV FT ha gv p z1⟩))⟩
 have t:=js ha ha';rw[hne] at t;cases p:bf a a'
 .rw[p] at t;have q:bf a' a=true:=by revert t;cases bf a' a<;>decide
  obtain⟨z,hz,k⟩:=key ha' ha q h1' h2' h1 h2 Kc lI;exact⟨z,hz,k.symm⟩
 .exact key ha ha' p h1 h2 h1' h2' lI Kc
def Tri(P Q R:Int):Prop:=
 (0<P->0<=Q->0<R)/\(0<=P->0<Q->0<R)/\(P=0->Q=0->R=0)/\(P<0->Q<=0->R<0)/\(P<=0->Q<0->R<0)
theorem yM{p q:Pt}(hp:bV p)(hq:bV q)(hr:bV r):Tri (cr p q) (cr q r) (cr p r):=by
 have a1:=J9 hp hq hr;have a2:=J9 hr hq hp;rw[di p r,di q r,di p q] at a2;refine⟨a1.1,a1.2.1,a1.2.2,λh1 h2=>?_,λh1 h2=>?_⟩
 .have:=a2.2.1 aa aa;omega
 .have:=a2.1 aa aa;omega
def tC(u l l':Pt):Int:=if((cr u l').sign-(cr u l).sign).sign=0 then(cr l l').sign else((cr u l').sign-(cr u l).sign).sign
theorem sg(z:Int):(z<0/\z.sign= -1)\/(z=0/\z.sign=0)\/(0<z/\z.sign=1):=by
 rcases fX z 0 with h|h|h
 .exact aU ⟨h,Af h⟩
 .exact aT (aU ⟨h,by rw[h];rfl⟩)
 .exact aT (aT ⟨h,oJ h⟩)
theorem ahl(u l l':Pt):tC u l l'<0↔(cr u l').sign<(cr u l).sign\/((cr u l').sign=(cr u l).sign/\cr l l'<0):=by
 unfold tC;have h1:=sg ((cr u l').sign-(cr u l).sign);have h2:=sg (cr l l');split<;>omega
theorem Pn{w:Pt}(h:bh z w=false)(hc:cr z w=0):dt z w<=0:=by
 apply Fh.1;intro h';rw[(dP z w).2 ⟨hc,h'⟩] at h;cases h
theorem FU{a:Pt}(ha:a≠(0,0))(hl:l≠(0,0))(hl':l'≠(0,0))(hs:bh l a=false)(hs':bh l' a=false):tC (neg a) l l'<0↔cw a l l'=true:=by
 rw[ahl,nR];have n1:=Pn hs;have n2:=Pn hs';rw[pL,pL,pL,pL,pL];have e1:cr (neg a) l= -cr a l:=gu a l;have e2:cr (neg a) l'= -cr a l':=gu a l';have s1:=sg (cr (neg a) l);have s2:=sg (cr (neg a) l');rw[e1] at s1⊢;rw[e2] at s2⊢;have w1:=di a l;have w2:=di a l';have w3:=di l l';rw[w1] at n1⊢;rw[w2] at n2⊢;rw[w3];by_cases ra:bV a<;>by_cases rl:bV l<;>by_cases rl':bV l'
 .have t:=yM ra rl rl';have d1:=lW rl ra;have d2:=lW rl' ra;rw[w1] at d1;rw[w2] at d2;obtain⟨t1,t2,t3,t4,t5⟩:=t;simp only[ra,rl,rl',yu,Ag,sJ,vZ,iff_self];rcases s1 with⟨s1,r1⟩|⟨s1,r1⟩|⟨s1,r1⟩<;>rcases s2 with⟨s2,r2⟩|⟨s2,r2⟩|⟨s2,r2⟩<;>rw[r1,r2]<;>omega
 .have t:=yM ra rl (il hl' rl');have d1:=lW rl ra;rw[w1] at d1;rw[gF,gF] at t;obtain⟨t1,t2,t3,t4,t5⟩:=t;simp only[ra,rl,rl',yu,Ah,Ag,wh,wj,sJ,vZ,Ai,Fi,JG,iff_self];rcases s1 with⟨s1,r1⟩|⟨s1,r1⟩|⟨s1,r1⟩<;>rcases s2 with⟨s2,r2⟩|⟨s2,r2⟩|⟨s2,r2⟩<;>rw[r1,r2]<;>omega
 .have t:=yM ra (il hl rl) rl';have d2:=lW rl' ra;rw[w2] at d2;rw[gF,gu] at t;obtain⟨t1,t2,t3,t4,t5⟩:=t;simp only[ra,rl,rl',yu,Ah,Ag,wh,wj,sJ,vZ,Ai,Fi,JG,iff_self];rcases s1 with⟨s1,r1⟩|⟨s1,r1⟩|⟨s1,r1⟩<;>rcases s2 with⟨s2,r2⟩|⟨s2,r2⟩|⟨s2,r2⟩<;>rw[r1,r2]<;>omega
 .have t:=yM ra (il hl rl) (il hl' rl');rw[gF,gu,gF,gF] at t;obtain⟨t1,t2,t3,t4,t5⟩:=t;simp only[ra,rl,rl',yu,Ah,Ag,wh,wj,sJ,vZ,Ai,Fi,JG,iff_self];rcases s1 with⟨s1,r1⟩|⟨s1,r1⟩|⟨s1,r1⟩<;>rcases s2 with⟨s2,r2⟩|⟨s2,r2⟩|⟨s2,r2⟩<;>rw[r1,r2]<;>omega
 .have t:=yM (il ha ra) rl rl';rw[gu,gu] at t;obtain⟨t1,t2,t3,t4,t5⟩:=t;simp only[ra,rl,rl',yu,Ah,Ag,wh,wj,sJ,vZ,Ai,Fi,JG,iff_self];rcases s1 with⟨s1,r1⟩|⟨s1,r1⟩|⟨s1,r1⟩<;>rcases s2 with⟨s2,r2⟩|⟨s2,r2⟩|⟨s2,r2⟩<;>rw[r1,r2]<;>omega
 .have t:=yM (il ha ra) rl (il hl' rl');have d2:=lW (il hl' rl') (il ha ra);rw[gu,gF,w2,sZ,mD] at d2;rw[gu,gF,gu,gF] at t;obtain⟨t1,t2,t3,t4,t5⟩:=t;simp only[ra,rl,rl',yu,Ah,Ag,wh,wj,sJ,vZ,Ai,Fi,JG,iff_self];rcases s1 with⟨s1,r1⟩|⟨s1,r1⟩|⟨s1,r1⟩<;>rcases s2 with⟨s2,r2⟩|⟨s2,r2⟩|⟨s2,r2⟩<;>rw[r1,r2]<;>omega
 .have t:=yM (il ha ra) (il hl rl) rl';have d1:=lW (il hl rl) (il ha ra);rw[gu,gF,w1,sZ,mD] at d1;rw[gu,gF,gu,gu] at t;obtain⟨t1,t2,t3,t4,t5⟩:=t;simp only[ra,rl,rl',yu,Ah,Ag,wh,wj,sJ,vZ,Ai,Fi,JG,iff_self];rcases s1 with⟨s1,r1⟩|⟨s1,r1⟩|⟨s1,r1⟩<;>rcases s2 with⟨s2,r2⟩|⟨s2,r2⟩|⟨s2,r2⟩<;>rw[r1,r2]<;>omega
 .have t:=yM (il ha ra) (il hl rl) (il hl' rl');have d1:=lW (il hl rl) (il ha ra);rw[gu,gF,w1,sZ,mD] at d1;have d2:=lW (il hl' rl') (il ha ra);rw[gu,gF,w2,sZ,mD] at d2;rw[gu,gF,gu,gF,gu,gF] at t;obtain⟨t1,t2,t3,t4,t5⟩:=t;simp only[ra,rl,rl',Ah,wj,sJ,vZ,iff_self];rcases s1 with⟨s1,r1⟩|⟨s1,r1⟩|⟨s1,r1⟩<;>rcases s2 with⟨s2,r2⟩|⟨s2,r2⟩|⟨s2,r2⟩<;>rw[r1,r2]<;>omega
end Ga
namespace Gb
open Ge Ga
variable{b n:Pt}
abbrev Sg:=Pt×Pt
def n1(a:Pt):N3:=(a.1,a.2,1)
def dr(s:Sg):Pt:=(s.2.1-s.1.1,s.2.2-s.1.2)
def rv(s:Sg):Sg:=(s.2,s.1)
theorem fk(a z:Pt):rl (n1 a) z=dr (a,z):=by unfold rl rel n1 dr;simp
theorem lX(a b:Pt):wv (n1 a) (n1 b)=dr (a,b):=by unfold wv n1 dr;simp
theorem wI(s:Sg):dr (rv s)=neg (dr s):=by unfold dr rv neg;exact eB (by simp only;omega) (by simp only;omega)
theorem mQ{s:Sg}:dr s=(0,0)↔s.1=s.2:=by
 unfold dr;constructor
 .intro h;have h1:=aZ Prod.fst h;have h2:=aZ Prod.snd h;simp only at h1 h2;exact eB aa aa
 .intro h;rw[h];exact eB af af
structure Pf(s u:Sg):Prop where
 fs:lG (n1 s.1) (n1 s.2) (dr s) u.1 u.2
 c1:oO (n1 s.1) (n1 s.2) (dr s) u.1
 c2:oO (n1 s.1) (n1 s.2) (dr s) u.2
theorem ahm{f t:N3}{D u v:Pt}(h:lG f t D u v):lG f t D v u:=by
 refine⟨λx y z=>?_,λx y z=>?_⟩
 .have:=h.2 x y z;rw[di (rl f u) (rl f v),di (rl t u) (rl t v)];omega
 .have:=h.1 x y z;rw[di (rl f u) (rl f v),di (rl t u) (rl t v)];omega
theorem Pf.rv{s u:Sg}(h:Pf s u):Pf s (rv u):=⟨ahm h.fs,h.c2,h.c1⟩
structure Wd(S:List Sg)(nx:Sg->Sg):Prop where
 ne:∀s∈S,s.1≠s.2
 pf:∀s∈S,∀u∈S,(bV (dr s)->Pf s u)/\(¬bV (dr s)->Pf (rv s) u)
 WD:∀s∈S,∀u∈S,on (dr (s.1,u.1)) (dr (s.1,u.2))=true->s.1=u.1\/s.1=u.2
 Po:∀s∈S,∀u∈S,on (dr (s.2,u.1)) (dr (s.2,u.2))=true->s.2=u.1\/s.2=u.2
 one:∀s∈S,∀u∈S,s.1=u.1->bh (dr s) (dr u)=true->s=u
 one':∀s∈S,∀u∈S,s.2=u.2->bh (dr s) (dr u)=true->s=u
 two:∀s∈S,∀u∈S,s.1=u.2->bh (dr s) (neg (dr u))=false
 Dj:∀s∈S,nx s∈S/\(nx s).1=s.2
 inj:∀s∈S,∀u∈S,nx s=nx u->s=u
 w1:∀s∈S,∀u∈S,u.1=s.2->cw (neg (dr s)) (dr u) (dr (nx s))=false
 w2:∀s∈S,∀u∈S,u.2=s.2->cw (neg (dr s)) (neg (dr u)) (dr (nx s))=false
def Cl(es:List Sg):Prop:=∃rg,aR rg=es
def In(S es:List Sg):Prop:=∀e∈es,e∈S\/rv e∈S
theorem Cl.append{a b:List Sg}(h:Cl a)(k:Cl b):Cl (a++b):=by
 obtain⟨x,rfl⟩:=h;obtain⟨y,rfl⟩:=k;exact⟨x++y,by simp[aR]⟩
theorem Cl.nil:Cl []:=⟨[],rfl⟩
def Lf(es:List Sg)(s:Sg):Int:=fS es (n1 s.1) (dr s)
def Rt(es:List Sg)(s:Sg):Int:=eD es (n1 s.1) (dr s)
section
variable{S:List Sg}{nx:Sg->Sg}{es:List Sg}
theorem Wd.iK(h:Wd S nx){s:Sg}(hs:s∈S):dr s≠(0,0):=λe=>h.ne s hs (mQ.1 e)
theorem Wd.oP(h:Wd S nx)(hi:In S es){s:Sg}(hs:s∈S):(bV (dr s)->uI es (n1 s.1) (n1 s.2))/\(¬bV (dr s)->uI es (n1 s.2) (n1 s.1)):=by
 refine⟨λhr=>?_,λhr=>?_⟩
 .have hp:∀e∈es,Pf s e:=λe he=>by
   rcases hi e he with k|k
   .exact(h.pf s hs e k).1 hr
   .exact((h.pf s hs _ k).1 hr).rv
  exact⟨by show(0:Int)<1;decide,by show(0:Int)<1;decide,by rw[lX];exact hr,λe he=>by rw[lX];exact(hp e he).fs,λe he=>by rw[lX];exact⟨(hp e he).c1,(hp e he).c2⟩⟩
 .have hp:∀e∈es,Pf (rv s) e:=λe he=>by
   rcases hi e he with k|k
   .exact(h.pf s hs e k).2 hr
   .exact((h.pf s hs _ k).2 hr).rv
  have hr':bV (dr (rv s)):=by rw[wI];exact il (h.iK hs) hr
  exact⟨by show(0:Int)<1;decide,by show(0:Int)<1;decide,by rw[lX];exact hr',λe he=>by rw[lX];exact(hp e he).fs,λe he=>by rw[lX];exact⟨(hp e he).c1,(hp e he).c2⟩⟩
theorem Wd.at_end(h:Wd S nx)(hc:Cl es)(hi:In S es){s:Sg}(hs:s∈S):Lf es s=eD es (n1 s.2) (neg (dr s))/\Rt es s=fS es (n1 s.2) (neg (dr s)):=by
 obtain⟨h1,h2⟩:=h.oP hi hs;obtain⟨rg,rfl⟩:=hc;by_cases hr:bV (dr s)
 .have a:=wH (h1 hr);have b:=FP (h1 hr);rw[lX] at a b;unfold Lf Rt;have e:dr (s.1,s.2)=dr s:=rfl;rw[e] at a b;exact⟨a.2.symm.trans b.2,a.1.symm.trans b.1⟩
 .have a:=wH (h2 hr);have b:=FP (h2 hr);rw[lX] at a b;have e:dr (s.2,s.1)=neg (dr s):=wI s;rw[e] at a b;rw[neg_neg] at b;unfold Lf Rt;exact⟨b.1.symm.trans a.1,b.2.symm.trans a.2⟩
theorem Wd.arm(h:Wd S nx)(hi:In S es){s:Sg}(hs:s∈S){z:Pt}(hz:z∈arms es (n1 s.2)):∃u∈S,(u.1=s.2/\z=dr u)\/(u.2=s.2/\z=neg (dr u)):=by
 obtain⟨hz0,e,he,ho,wJ⟩:=lH.1 hz;rw[fk,fk] at ho wJ;have key:∀u∈S,on (dr (s.2,u.1)) (dr (s.2,u.2))=true->(z=dr (s.2,u.1)\/z=dr (s.2,u.2))->∃u∈S,(u.1=s.2/\z=dr u)\/(u.2=s.2/\z=neg (dr u)):=λu hu oN WE=>by
  rcases h.Po s hs u hu oN with k|k
  .rcases WE with q|q
   .rw[k] at q;exact absurd (q.trans (mQ.2 rfl)) hz0
   .exact⟨u,hu,aU ⟨k.symm,by rw[q,k]⟩⟩
  .rcases WE with q|q
   .exact⟨u,hu,aT ⟨k.symm,by rw[q,k,<-wI];rfl⟩⟩
   .rw[k] at q;exact absurd (q.trans (mQ.2 rfl)) hz0
 rcases hi e he with k|k
 .exact key e k ho wJ
 .exact key (rv e) k (by rw[AG];exact ho) wJ.symm
theorem ahn{n:N3}(hc:Cl es){a l:Pt}(ha:a≠(0,0))(hl:l≠(0,0))(hs:bh l a=false)(hw:∀z∈arms es n,cw a z l=false):fS es n l=eD es n a:=by
 have ht:=js hl ha;rw[hs] at ht;by_cases lI:bf l a=true
 .refine Pj hl ha lI λz hz=>?_
  cases hb:nQ l a z
  .rfl
  .have k:=hw z hz;obtain⟨k1,k2⟩:=Di.1 hb;have:cw a z l=true:=nR.2 (aU ⟨k2,lI,k1⟩);rw[this] at k;cases k
 .have hal:bf a l=true:=by
   cases hk:bf a l
   .cases hk2:bf l a
    .rw[hk,hk2] at ht;simp[bb] at ht
    .exact absurd hk2 lI
   .rfl
  have z1:∀z∈arms es n,bf z a=false:=λz hz=>by
   cases hb:bf z a
   .rfl
   .have:cw a z l=true:=nR.2 (aT (aU ⟨hb,hal⟩));rw[hw z hz] at this;cases this
  have z2:∀z∈arms es n,bf l z=false:=λz hz=>by
   cases hb:bf l z
   .rfl
   .have:cw a z l=true:=nR.2 (aT (aT ⟨iV ha hl (lH.1 hz).1 hal hb,hal,hb⟩));rw[hw z hz] at this;cases this
  have e1:AS es n (λz=>nz z&&bf z a)=0:=by
   rw[Dh (Q':=λ_=>false) (by simp[nz]) (λz hz=>by rw[z1 z hz];simp),Ph]
  have e2:AS es n (λz=>nz z&&bf z l)+AS es n (λz=>bh z l)=0:=by
   obtain⟨rg,rfl⟩:=hc;rw[<-Pc rg n,<-FN (Q:=λz=>(nz z&&bf z l)||bh z l)]
   .refine(Dh ?_ λz hz=>?_)
    .simp[nz,AE]
    .have hz0:=(lH.1 hz).1;have t:=js hz0 hl;rw[z2 z hz] at t;have hn:nz z=true:=by unfold nz;simpa using hz0
     rw[hn];cases h1:bf z l<;>cases h2:bh z l<;>rw[h1,h2] at t<;>simp[bb] at t⊢
   .intro z;by_cases hz0:z=(0,0)
    .subst hz0;simp[nz,AE,bb]
    .have t:=js hz0 hl;have hn:nz z=true:=by unfold nz;simpa using hz0
     simp only[hn,JE];cases h1:bf z l<;>cases h2:bh z l<;>cases h3:bf l z<;>rw[h1,h2,h3] at t<;>simp[bb] at t⊢
  unfold fS eD;omega
theorem Wd.const(h:Wd S nx)(hc:Cl es)(hi:In S es){s:Sg}(hs:s∈S):Lf es (nx s)=Lf es s:=by
 obtain⟨hn,kT⟩:=h.Dj s hs;rw[(h.at_end hc hi hs).1];show fS es (n1 (nx s).1) (dr (nx s))=_;rw[kT];refine ahn hc (kR (h.iK hs)) (h.iK hn) (h.two _ hn _ hs kT) λz hz=>?_
 obtain⟨u,hu,⟨k,rfl⟩|⟨k,rfl⟩⟩:=h.arm hi hs hz
 .exact h.w1 s hs u hu k
 .exact h.w2 s hs u hu k
def it(nx:Sg->Sg):Nat->Sg->Sg
 |0,s=>s
 |k+1,s=>nx (it nx k s)
def FV(nx:Sg->Sg)(s u:Sg):Prop:=∃k,it nx k s=u
theorem Wd.pM(h:Wd S nx){s:Sg}(hs:s∈S):∀k,it nx k s∈S
 |0=>hs
 |k+1=>(h.Dj _ (h.pM hs k)).1
theorem Wd.along(h:Wd S nx)(hc:Cl es)(hi:In S es){s u:Sg}(hs:s∈S)(hw:FV nx s u):Lf es u=Lf es s:=by
 obtain⟨k,rfl⟩:=hw;induction k with
 |zero=>rfl
 |succ k ih=>exact(h.const hc hi (h.pM hs k)).trans ih
end
def Path:Pt->List Sg->Pt->Prop
 |a,[],b=>a=b
 |a,s::T,b=>s.1=a/\Path s.2 T b
theorem Path.append:∀{L:List Sg}{a b c:Pt}{M:List Sg},Path a L c->Path c M b->Path a (L++M) b
 |[],_,_,_,_,h,k=>by
  have:_=_:=h;subst this;exact k
 |s::T,_,_,_,_,h,k=>⟨h.1,Path.append h.2 k⟩
theorem Path.split:∀{L:List Sg}{a b:Pt}{M:List Sg},Path a (L++M) b->∃c,Path a L c/\Path c M b
 |[],a,_,_,h=>⟨a,rfl,h⟩
 |s::T,_,_,_,h=>by
  obtain⟨c,h1,h2⟩:=Path.split h.2;exact⟨c,⟨h.1,h1⟩,h2⟩
theorem Path.one{s:Sg}:Path s.1 [s] s.2:=⟨rfl,rfl⟩
theorem Path.rev:∀{L:List Sg}{a b:Pt},Path a L b->Path b (L.reverse.map rv) a
 |[],_,_,h=>by
  have:_=_:=h;exact this.symm
 |s::T,a,b,h=>by
  have ih:=Path.rev h.2;rw[List.reverse_cons,jC];refine ih.append ?_;exact⟨rfl,h.1⟩
theorem Path.zip:∀(T:List Sg)(s:Sg){b:Pt},Path s.2 T b->(s.1::T.map Prod.fst).zip (T.map Prod.fst++[b])=s::T
 |[],s,b,h=>by
  have e:s.2=b:=h;subst e;rfl
 |u::T,s,b,h=>by
  have ih:=Path.zip T u h.2;have e:s=(s.1,u.1):=eB rfl h.1.symm;rw[ij,lU,Oz,ih,<-e]
theorem Cl.path{p:Pt}{L:List Sg}(h:Path p L p)(hn:∀s∈L,s.1≠s.2):Cl L:=by
 refine⟨[L.map Prod.fst],?_⟩;unfold aR;rw[nI,agf,qu];unfold fZ;have e:closing (L.map Prod.fst)=L:=by
  cases L with
  |nil=>rfl
  |cons s T=>
   have:=Path.zip T s h.2;rw[<-h.1] at this;exact this
 rw[e,OD];intro s hs;simpa using hn s hs
theorem Path.WG:∀{L:List Sg}{a b:Pt},Path a L b->∀s∈L,s.2=b\/∃u∈L,u.1=s.2
 |[],_,_,_,s,hs=>by simp at hs
 |[t],_,_,h,s,hs=>by
  rw[dh.1 hs];exact aU h.2
 |t::u::T,_,_,h,s,hs=>by
  rcases bU.1 hs with rfl|hs
  .exact aT ⟨u,af,h.2.1⟩
  .rcases Path.WG h.2 s hs with k|⟨v,hv,k⟩
   .exact aU k
   .exact aT ⟨v,bX _ hv,k⟩
theorem Path.Ke:∀{M:List Sg}{z:Sg}{a b n:Pt},Path a (M++[z]) b->(∀s∈M++[z],s.1≠n)->∀s∈M,s.2≠n
 |[],_,_,_,_,_,_,s,hs=>by simp at hs
 |[t],z,_,_,n,h,hn,s,hs=>by
  rw[dh.1 hs];have:z.1=t.2:=h.2.1;rw[<-this];exact hn z af
 |t::u::M,z,_,_,n,h,hn,s,hs=>by
  rcases bU.1 hs with rfl|hs
  .have:u.1=s.2:=h.2.1;rw[<-this];exact hn u af
  .exact Path.Ke (M:=u::M) h.2 (λv hv=>hn v (bX _ hv)) s hs
theorem Kf{F:Pt->Pt->Int}{a b:List Sg}(h:a.Perm b):total F a=total F b:=by
 induction h with
 |nil=>rfl
 |cons x _ ih=>rw[fJ,fJ,ih]
 |swap x y l=>simp only[fJ];omega
 |trans _ _ h1 h2=>exact h1.trans h2
theorem FW(a b:List Sg)(n:N3)(Q:Pt->Bool):AS (a++b) n Q=AS a n Q+AS b n Q:=AA _ a b
def ge(n z:Pt):Prop:=0<(dr (n,z)).1\/((dr (n,z)).1=0/\0<=(dr (n,z)).2)
theorem Pq(a b:Pt):ge a b\/ge b a:=by unfold ge dr;simp only;omega
theorem Kg{a:Pt}(h:ge a b)(k:ge b a):a=b:=by
 unfold ge dr at h k;simp only at h k;exact eB aa aa
theorem Pr{a c:Pt}(h:ge a b)(k:ge b c):ge a c:=by
 unfold ge dr at*;simp only at*;omega
theorem Kh(a:Pt):ge a a:=by unfold ge dr;simp
theorem Pv{a:Pt}(h:ge a b)(hne:a≠b):bV (dr (a,b)):=by
 unfold ge at h;unfold bV;have:¬((dr (a,b)).1=0/\(dr (a,b)).2=0):=λk=>hne (mQ.1 (eB k.1 k.2))
 omega
theorem WH{es:List Sg}(h:∀e∈es,ge n e.1/\ge n e.2):PP es (n1 n)=0:=by
 refine yH λe he=>?_
 obtain⟨h1,h2⟩:=h e he;rw[fk,fk];unfold ge at h1 h2;generalize dr (n,e.1)=u at*;generalize dr (n,e.2)=v at*;unfold right;have a1:u.1=0->cr u v= -(u.2*v.1):=λk=>by unfold cr;rw[k];simp
 have a2:v.1=0->cr u v=u.1*v.2:=λk=>by unfold cr;rw[k];simp
 rw[aQ,aQ]
 .rintro⟨k1,k2,k3⟩;rcases h2 with h2|⟨h2,h2'⟩
  .omega
  .have:=jo (eY k1) h2';rw[a2 h2] at k3;omega
 .rintro⟨k1,k2,k3⟩;rcases h1 with h1|⟨h1,h1'⟩
  .omega
  .have:=jo h1' (eY k2);rw[a1 h1] at k3;omega
theorem Ki{es:List Sg}{Q:Pt->Bool}(h:∀e∈es,on (dr (n,e.1)) (dr (n,e.2))=false):AS es (n1 n) Q=0:=
 yH λe he=>by
  unfold Ga.arm;rw[fk,fk,h e he];rfl
theorem Pw{Q:Pt->Bool}{s:Sg}(h:s.2=n):Ga.arm Q (n1 n) s.1 s.2=bb (Q (0,0))-bb (Q (neg (dr s))):=by
 subst h;unfold Ga.arm;rw[fk,fk,(mQ (s:=(s.2,s.2))).2 rfl,nP _ _ (aT rfl)];have e:dr (s.2,s.1)=neg (dr s):=wI s;rw[e];rfl
theorem Px{Q:Pt->Bool}{s:Sg}(h:s.1=n):Ga.arm Q (n1 n) s.1 s.2=bb (Q (dr s))-bb (Q (0,0)):=by
 subst h;unfold Ga.arm;rw[fk,fk,(mQ (s:=(s.1,s.1))).2 rfl,nP _ _ (aU rfl)];rfl
section
variable{S:List Sg}{nx:Sg->Sg}
theorem Wd.aho(h:Wd S nx){p q:Pt}{A C:List Sg}{a c:Sg}(hA:Path p (A++[a]) q)(hC:Path p (C++[c]) q)(mA:∀s∈A++[a],s∈S)(mC:∀s∈C++[c],s∈S)
  (nA:∀s∈A++[a],s.1≠q)(nC:∀s∈C++[c],s.1≠q)(hw:FV nx a c\/FV nx c a):a=c:=by
 have ha:a∈S:=mA a af
 have hc:c∈S:=mC c af
 have aq:a.2=q:=by obtain⟨_,_,k⟩:=hA.split;exact k.2
 have cq:c.2=q:=by obtain⟨_,_,k⟩:=hC.split;exact k.2
 have lJ:=hA.Ke nA;have Kj:=hC.Ke nC;have hne:∀s∈(A++[a])++((C++[c]).reverse.map rv),s.1≠s.2:=λs hs=>by
  rcases dv.1 hs with hs|hs
  .exact h.ne s (mA s hs)
  .obtain⟨u,hu,rfl⟩:=bQ.1 hs;exact(h.ne u (mC u (agh.1 hu))).symm
 have hcl:Cl ((A++[a])++((C++[c]).reverse.map rv)):=Cl.path (hA.append hC.rev) hne;have hin:In S ((A++[a])++((C++[c]).reverse.map rv)):=λe he=>by
  rcases dv.1 he with he|he
  .exact aU (mA e he)
  .obtain⟨u,hu,rfl⟩:=bQ.1 he;exact aT (mC u (agh.1 hu))
 have hL:Lf ((A++[a])++((C++[c]).reverse.map rv)) c=Lf ((A++[a])++((C++[c]).reverse.map rv)) a:=by
  rcases hw with k|k
  .exact h.along hcl hin ha k
  .exact(h.along hcl hin hc k).symm
 rw[(h.at_end hcl hin ha).1,(h.at_end hcl hin hc).1,aq,cq] at hL;have Dk:∀Q,AS ((A++[a])++((C++[c]).reverse.map rv)) (n1 q) Q=bb (Q (neg (dr c)))-bb (Q (neg (dr a))):=λQ=>by
  have e1:(C++[c]).reverse.map rv=[rv c]++C.reverse.map rv:=af
  have z1:AS A (n1 q) Q=0:=Ki λe he=>by
   cases ho:on (dr (q,e.1)) (dr (q,e.2))
   .rfl
   .rw[<-aq] at ho;rcases h.Po a ha e (mA e (by simp[he])) ho with k|k
    .exact absurd (k.symm.trans aq) (nA e (by simp[he]))
    .exact absurd (k.symm.trans aq) (lJ e he)
  have z2:AS (C.reverse.map rv) (n1 q) Q=0:=Ki λe he=>by
   obtain⟨u,hu,rfl⟩:=bQ.1 he;have hu:=agh.1 hu;cases ho:on (dr (q,(rv u).1)) (dr (q,(rv u).2))
   .rfl
   .rw[AG,<-aq] at ho;rcases h.Po a ha u (mC u (by simp[hu])) ho with k|k
    .exact absurd (k.symm.trans aq) (nC u (by simp[hu]))
    .exact absurd (k.symm.trans aq) (Kj u hu)
  rw[e1,FW,FW,FW,z1,z2];have s1:AS [a] (n1 q) Q=bb (Q (0,0))-bb (Q (neg (dr a))):=by
   unfold AS;rw[fJ,Az,Pw aq];omega
  have s2:AS [rv c] (n1 q) Q=bb (Q (neg (dr c)))-bb (Q (0,0)):=by
   unfold AS;rw[fJ,Az,Px (s:=rv c) cq,wI];omega
  rw[s1,s2];omega
 have da:=kR (h.iK ha);have dc:=kR (h.iK hc);have na:nz (neg (dr a))=true:=by unfold nz;simpa using da
 have nc:nz (neg (dr c))=true:=by unfold nz;simpa using dc
 unfold eD at hL;rw[Dk,Dk] at hL;simp only[na,nc,JE,tA] at hL;generalize PP ((A++[a])++((C++[c]).reverse.map rv)) (n1 q)=P0 at hL;have t:=js da dc;have hs:bh (neg (dr a)) (neg (dr c))=true:=by
  cases h1:bf (neg (dr a)) (neg (dr c))<;>cases h2:bf (neg (dr c)) (neg (dr a))<;>cases h3:bh (neg (dr a)) (neg (dr c))<;>rw[h1,h2] at hL<;>rw[h1,h2,h3] at t<;>simp[bb] at hL t⊢ <;>omega
 refine h.one' a ha c hc (aq.trans cq.symm) ?_;rw[dP] at hs⊢;rw[gu,gF,sZ,mD] at hs;omega
structure Rg(S:List Sg)(R:List Sg)(a:Sg)(M:List Sg)(z:Sg):Prop where
 eq:R=a::(M++[z])
 path:Path a.1 R a.1
 mem:∀s∈R,s∈S
 once:∀s∈M++[z],s.1≠a.1
 least:∀s∈R,ge a.1 s.1
variable{R M:List Sg}{a z:Sg}
theorem Rg.cl(h:Wd S nx)(k:Rg S R a M z):Cl R:=Cl.path k.path λs hs=>h.ne s (k.mem s hs)
theorem Rg.bu(k:Rg S R a M z):In S R:=λe he=>aU (k.mem e he)
theorem Rg.ma(k:Rg S R a M z):a∈S:=k.mem a (by rw[k.eq];simp)
theorem Rg.mz(k:Rg S R a M z):z∈S:=k.mem z (by rw[k.eq];simp)
theorem Rg.z2(k:Rg S R a M z):z.2=a.1:=by
 have h:=k.path;rw[k.eq,<-lU] at h;obtain⟨_,_,q⟩:=h.split;exact q.2
theorem Rg.ends(k:Rg S R a M z):∀s∈R,ge a.1 s.2:=λs hs=>by
 rcases k.path.WG s hs with q|⟨u,hu,q⟩
 .rw[q];exact Kh _
 .rw[<-q];exact k.least u hu
theorem Rg.PP(k:Rg S R a M z):Ga.PP R (n1 a.1)=0:=WH λe he=>⟨k.least e he,k.ends e he⟩
theorem Rg.AS(h:Wd S nx)(k:Rg S R a M z)(Q:Pt->Bool):Ga.AS R (n1 a.1) Q=bb (Q (dr a))-bb (Q (neg (dr z))):=by
 have hp:=k.path;rw[k.eq] at hp;have hM:=Path.Ke hp.2 k.once;have z1:Ga.AS M (n1 a.1) Q=0:=Ki λe he=>by
  cases ho:on (dr (a.1,e.1)) (dr (a.1,e.2))
  .rfl
  .rcases h.WD a k.ma e (k.mem e (by rw[k.eq];simp[he])) ho with q|q
   .exact absurd q.symm (k.once e (by simp[he]))
   .exact absurd q.symm (hM e he)
 have e:R=[a]++(M++[z]):=k.eq;have s1:Ga.AS [a] (n1 a.1) Q=bb (Q (dr a))-bb (Q (0,0)):=by
  unfold Ga.AS;rw[fJ,Az,Px rfl];omega
 have s2:Ga.AS [z] (n1 a.1) Q=bb (Q (0,0))-bb (Q (neg (dr z))):=by
  unfold Ga.AS;rw[fJ,Az,Pw k.z2];omega
 rw[e,FW,FW,z1,s1,s2];omega
theorem Rg.Kk(h:Wd S nx)(k:Rg S R a M z):bV (dr a):=Pv (k.ends a (by rw[k.eq];simp)) (h.ne a k.ma)
theorem Rg.Kl(h:Wd S nx)(k:Rg S R a M z):bV (neg (dr z)):=by
 have:=Pv (k.least z (by rw[k.eq];simp)) (λe=>h.ne z k.mz (e.symm.trans k.z2.symm))
 rw[<-k.z2] at this;rw[<-wI];exact this
theorem Dl{d:Pt}(h:d≠(0,0)):nz d=true:=by unfold nz;simpa using h
theorem Rg.val(h:Wd S nx)(k:Rg S R a M z):Lf R a=if 0<cr (dr z) (dr a) then 1 else 0:=by
 have da:=h.iK k.ma;have dz:=kR (h.iK k.mz);have hs:bh (neg (dr z)) (dr a)=false:=by
  cases q:bh (neg (dr z)) (dr a)
  .rfl
  .have:=h.two a k.ma z k.mz k.z2.symm;rw[dP] at q;cases q2:bh (dr a) (neg (dr z))
   .have:bh (dr a) (neg (dr z))=true:=(dP _ _).2 ⟨by rw[di];omega,by rw[jQ];omega⟩
    rw[q2] at this;cases this
   .rw[q2] at this;cases this
 have hsa:bh (dr a) (dr a)=true:=(dP _ _).2 ⟨by unfold cr;grind,fW da⟩
 unfold Lf fS eD;rw[k.PP,k.AS h,k.AS h];simp only[Dl da,Dl dz,tA,hs,hsa,JE];have Km:=k.Kk h;have AK:=k.Kl h;have hang:bf (neg (dr z)) (dr a)=true↔0<cr (neg (dr z)) (dr a):=by
  rw[pL];constructor
  .rintro(⟨_,q⟩|⟨_,q⟩)
   .exact absurd Km q
   .exact q
  .intro q;exact aT ⟨⟨λ_=>Km,λ_=>AK⟩,q⟩
 rw[gu] at hang;have hcr:cr (dr z) (dr a)≠0:=λq=>by
  have:=lW AK Km (by rw[gu];omega)
  have:bh (neg (dr z)) (dr a)=true:=(dP _ _).2 ⟨by rw[gu];omega,this⟩
  rw[hs] at this;cases this
 cases q:bf (neg (dr z)) (dr a)
 .have:¬0< -cr (dr z) (dr a):=λw=>by rw[hang.2 w] at q;cases q
  rw[aV aa]
  simp[bb]
 .have:=hang.1 q;rw[aQ aa]
  simp[bb]
theorem Rg.asym(h:Wd S nx){R' M':List Sg}{a' z':Sg}(k:Rg S R a M z)(k':Rg S R' a' M' z')(hne:a≠a')(h1:Lf R' a=1)(h2:Lf R a'=1):False:=by
 have far:∀{R R' M M':List Sg}{a z a' z':Sg},Rg S R a M z->Rg S R' a' M' z'->ge a.1 a'.1->a.1≠a'.1->Lf R' a=0:=by
  intro R R' M M' a z a' z' k k' hg hn;have hP:Ga.PP R' (n1 a.1)=0:=WH λe he=>⟨Pr hg (k'.least e he),Pr hg (k'.ends e he)⟩
  have hz:∀Q,Ga.AS R' (n1 a.1) Q=0:=λQ=>Ki λe he=>by
   cases ho:on (dr (a.1,e.1)) (dr (a.1,e.2))
   .rfl
   .rcases h.WD a k.ma e (k'.mem e he) ho with q|q
    .exact absurd (Kg hg (by rw[q];exact k'.least e he)) hn
    .exact absurd (Kg hg (by rw[q];exact k'.ends e he)) hn
  unfold Lf fS eD;rw[hP,hz,hz];rfl
 by_cases hn:a.1=a'.1
 .have near:∀{R R' M M':List Sg}{a z a' z':Sg},Rg S R a M z->Rg S R' a' M' z'->a.1=a'.1->a≠a'->Lf R' a=1->bf (dr a') (dr a)=true:=by
   intro R R' M M' a z a' z' k k' hn hne hL;unfold Lf fS eD at hL;rw[hn,k'.PP,k'.AS h,k'.AS h] at hL;have q1:bh (dr a') (dr a)=false:=by
    cases q:bh (dr a') (dr a)
    .rfl
    .exact absurd (h.one a' k'.ma a k.ma hn.symm q).symm hne
   have hc:=h.two a k.ma z' k'.mz (hn.trans k'.z2.symm);have q2:bh (neg (dr z')) (dr a)=false:=by
    cases q:bh (neg (dr z')) (dr a)
    .rfl
    .rw[dP] at q;have:bh (dr a) (neg (dr z'))=true:=(dP _ _).2 ⟨by rw[di];omega,by rw[jQ];omega⟩
     rw[hc] at this;cases this
   simp only[q1,q2,Dl (h.iK k'.ma),Dl (kR (h.iK k'.mz)),JE] at hL;cases w:bf (dr a') (dr a)
   .rw[w] at hL;cases w2:bf (neg (dr z')) (dr a)<;>rw[w2] at hL<;>simp[bb] at hL
   .rfl
  have x1:=near k k' hn hne h1;have x2:=near k' k hn.symm hne.symm h2;have:=Ka (h.iK k'.ma) (h.iK k.ma) x1;rw[x2] at this;cases this
 .rcases Pq a.1 a'.1 with g|g
  .rw[far k k' g hn] at h1;omega
  .rw[far k' k g (λe=>hn e.symm)] at h2;omega
end
end Gb
end Go.Proofs.YtkjhhooecopolaaGreatDoor
