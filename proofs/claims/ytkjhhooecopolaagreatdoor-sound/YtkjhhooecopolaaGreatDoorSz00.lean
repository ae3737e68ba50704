import Derived.Test.YtkjhhooecopolaaGreatDoorSza
set_option maxRecDepth 100000
set_option maxHeartbeats 4000000
namespace Go.Proofs.YtkjhhooecopolaaGreatDoor
open Tryz
open Value renaming int->az,complex->aA,float->aB,agg->aC,bool->aD,string->aF,slice->aG,pointer->aH,tuple->aI
open IntKind renaming i64->aJ
open FloatKind renaming f64->aK
open Ending renaming returned->aL
open Go renaming World->aM,Value->aN,floatOfInt->aO
section
open Go.RowKit
variable{l:List aN}{i fuel b:Nat}{T:TypeId}{w:aM}{a0 a1 a2 a3 a4 a5 a6 a7 a8 a9 Kg:aN}
theorem mB{P:Program}{ops:Array Oper}{Q:Exit->Act->aM->Prop}{md:Region.Mode}{S:aM->Prop}{oi:Oper}{v:aN}{listed:Array Bool}{a:Act}(_hn:listed.toList.findIdx? (λb=> !b)=some i)(hi:ops[i]?=some oi)(hw:Region.wanted oi (yielded ops a.tmps)=true)(hS:S w)(hv:∀w,S w->(execOp a.eval oi).run P w=.ok (.value v) w)(h:wpAnyH P md ops Q S fuel (listed.setIfInBounds i true) (a.put oi.dst v) w)(hs:Region.noSelect ops=true:=by kernel_rfl)(hf:Region.free md ops listed i=true:=by kernel_rfl)(hr:(Region.ready md ops listed).contains i=true:=by kernel_rfl)(hQ:∀c a w,Q (.panic c) (a.put oi.dst v) w->Q (.panic c) a w:=by intro _ _ _ h;exact h):wpAnyH P md ops Q S (fuel+1) listed a w:=
 wpAnyH_take hi hs hf hr hQ (aS ⟨hw,hv⟩) hS h
theorem Dl{P:Program}{ops:Array Oper}{Q:Exit->Act->aM->Prop}{md:Region.Mode}{S:aM->Prop}{oi:Oper}{listed:Array Bool}{a:Act}(_hn:listed.toList.findIdx? (λb=> !b)=some i)(hi:ops[i]?=some oi)(hS:S w)(h:wpAnyH P md ops Q S fuel (listed.setIfInBounds i true) (a.put oi.dst undef) w)(hw:Region.wanted oi (yielded ops a.tmps)=false:=by kernel_rfl)(hs:Region.noSelect ops=true:=by kernel_rfl)(hf:Region.free md ops listed i=true:=by kernel_rfl)(hr:(Region.ready md ops listed).contains i=true:=by kernel_rfl)(hQ:∀c a w,Q (.panic c) (a.put oi.dst undef) w->Q (.panic c) a w:=by intro _ _ _ h;exact h):wpAnyH P md ops Q S (fuel+1) listed a w:=
 wpAnyH_take hi hs hf hr hQ (aR ⟨hw,rfl⟩) hS h
theorem cL(h:w.heap[b]?=some (.cells (a0::l).toArray T (0,0))):w.cell? ⟨b,0,none⟩=some a0:=by simp[World.cell?,h]
theorem cK(h:w.heap[b]?=some (.cells (a0::a1::l).toArray T (0,0))):w.cell? ⟨b,1,none⟩=some a1:=by simp[World.cell?,h]
theorem eN(h:w.heap[b]?=some (.cells (a0::a1::a2::l).toArray T (0,0))):w.cell? ⟨b,2,none⟩=some a2:=by simp[World.cell?,h]
theorem kA(h:w.heap[b]?=some (.cells (a0::a1::a2::a3::l).toArray T (0,0))):w.cell? ⟨b,3,none⟩=some a3:=by simp[World.cell?,h]
theorem yP(h:w.heap[b]?=some (.cells (a0::a1::a2::a3::a4::l).toArray T (0,0))):w.cell? ⟨b,4,none⟩=some a4:=by simp[World.cell?,h]
theorem yQ(h:w.heap[b]?=some (.cells (a0::a1::a2::a3::a4::a5::l).toArray T (0,0))):w.cell? ⟨b,5,none⟩=some a5:=by simp[World.cell?,h]
theorem FX(h:w.heap[b]?=some (.cells (a0::a1::a2::a3::a4::a5::a6::l).toArray T (0,0))):w.cell? ⟨b,6,none⟩=some a6:=by simp[World.cell?,h]
theorem cl7(h:w.heap[b]?=some (.cells (a0::a1::a2::a3::a4::a5::a6::a7::l).toArray T (0,0))):w.cell? ⟨b,7,none⟩=some a7:=by simp[World.cell?,h]
theorem cl8(h:w.heap[b]?=some (.cells (a0::a1::a2::a3::a4::a5::a6::a7::a8::l).toArray T (0,0))):w.cell? ⟨b,8,none⟩=some a8:=by simp[World.cell?,h]
theorem cl9(h:w.heap[b]?=some (.cells (a0::a1::a2::a3::a4::a5::a6::a7::a8::a9::l).toArray T (0,0))):w.cell? ⟨b,9,none⟩=some a9:=by simp[World.cell?,h]
theorem atG(h:w.heap[b]?=some (.cells (a0::a1::a2::a3::a4::a5::a6::a7::a8::a9::Kg::l).toArray T (0,0))):w.cell? ⟨b,10,none⟩=some Kg:=by simp[World.cell?,h]
theorem atH{WM:aN}(h:w.heap[b]?=some (.cells (a0::a1::a2::a3::a4::a5::a6::a7::a8::a9::Kg::WM::l).toArray T (0,0))):w.cell? ⟨b,11,none⟩=some WM:=by simp[World.cell?,h]
theorem aQ{n:Nat}{w':aM}{p:Addr}{v:Option aN}(hb:Below n w w')(h:w.cell? p=v)(hz:p.block<n):w'.cell? p=v:=(hb.cell hz).trans h
end
namespace Ge
abbrev Pt:=Int×Int
def rel(n:Pt)(d:Int)(a:Pt):Pt:=(d*a.1-n.1,d*a.2-n.2)
def cr(u v:Pt):Int:=u.1*v.2-u.2*v.1
def dt(u v:Pt):Int:=u.1*v.1+u.2*v.2
def on(u v:Pt):Bool:=decide (cr u v=0)&&decide (dt u v<=0)
def right(u v:Pt):Int:=if u.1<=0/\0<v.1/\0<cr u v then 1 else if 0<u.1/\v.1<=0/\cr u v<0 then -1 else 0
theorem ahB{a b:Int}(ha:a<=0)(hb:0<b):a*b<=0:=C8 ha (fA hb)
def closing:List Pt->List (Pt×Pt)
 |[]=>[]
 |a::r=>(a::r).zip (r++[a])
def lI(g:List Pt):List (Pt×Pt):=(closing g).filter λe=>decide (e.1≠e.2)
def aT(rg:List (List Pt)):List (Pt×Pt):=rg.flatMap lI
def total(f:Pt->Pt->Int)(l:List (Pt×Pt)):Int:=(l.map λe=>f e.1 e.2).sum
theorem yR(f:Pt->Pt->Int):total f []=0:=rfl
theorem ic(f:Pt->Pt->Int)(e:Pt×Pt)(l:List (Pt×Pt)):total f (e::l)=f e.1 e.2+total f l:=by simp[total]
theorem PA(f:Pt->Pt->Int)(l k:List (Pt×Pt)):total f (l++k)=total f l+total f k:=by
 induction l with
 |nil=>simp[total]
 |cons e l ih=>rw[mr,ic,ic,ih];omega
theorem WN(f g:Pt->Pt->Int)(k:Pt->Int):∀(r:List Pt)(a z:Pt),(∀p,p∈(a::r).zip (r++[z])->f p.1 p.2-g p.1 p.2=k p.2-k p.1)->
  total f ((a::r).zip (r++[z]))-total g ((a::r).zip (r++[z]))=k z-k a
 |[],a,z,h=>by
  have h1:=h (a,z) af
  simp only[tE,O8,List.zip_nil_left,ic,yR];simp only at h1;omega
 |b::r,a,z,h=>by
  have h1:=h (a,b) af
  have h2:=WN f g k r b z (λp hp=>h p (by
   rw[mr,O8];exact bV _ hp))
  rw[mr,O8,ic,ic];simp only at h1⊢;omega
theorem ahC(f:Pt->Pt->Int)(hf:∀a,f a a=0)(l:List (Pt×Pt)):total f (l.filter λe=>decide (e.1≠e.2))=total f l:=by
 induction l with
 |nil=>rfl
 |cons e l ih=>
  rw[agT];by_cases h:e.1=e.2
  .rw[aP (by simp[h]),ih,ic,h,hf];omega
  .rw[aV (by simp[h]),ic,ic,ih]
def fr(n:Pt)(d:Int)(a b:Pt):Int:=right (rel n d a) (rel n d b)
def fo(n:Pt)(d:Int)(e:Pt×Pt):Bool:=on (rel n d e.1) (rel n d e.2)
end Ge
namespace Ga
open Ge
variable{w k a b:Int}{rg:List (List Pt)}{es:List (Pt×Pt)}{u v z D r s d x y d' l l':Pt}
def qF(u v:Pt):Int:=if cr u v=0/\0<v.1/\v.2<0/\0<=u.2 then 1 else if cr u v=0/\0<u.1/\u.2<0/\0<=v.2 then -1 else 0
def qG(u v:Pt):Int:=if cr u v=0/\u.1<=0/\u.2<0/\0<=v.2 then 1 else if cr u v=0/\v.1<=0/\v.2<0/\0<=u.2 then -1 else 0
def uW(w:Int)(u:Pt):Int:=if 0<u.1/\u.1<=w/\u.2<0 then 1 else 0
def sh(w:Int)(u:Pt):Pt:=(u.1-w,u.2)
def bi(p:Prop)[Decidable p]:Int:=if p then 1 else 0
def FY(w:Int)(u v:Pt):Prop:=
 (u.2<0->0<=v.2->cr u v<=0\/0<=cr (sh w u) (sh w v))/\(v.2<0->0<=u.2->0<=cr u v\/cr (sh w u) (sh w v)<=0)
theorem dh(u v:Pt):cr v u= -cr u v:=by unfold cr;grind
theorem PC(u v:Pt):right v u= -right u v:=by
 unfold right;rw[dh u v]
 repeat' split
 all_goals omega
theorem ahD(u v:Pt):qF v u= -qF u v:=by
 unfold qF;rw[dh u v]
 repeat' split
 all_goals omega
theorem ahE(u v:Pt):qG v u= -qG u v:=by
 unfold qG;rw[dh u v]
 repeat' split
 all_goals omega
theorem upA(h1:u.2<0)(h2:0<=v.2):right u v+qF u v=bi (u.1<=0)-bi (cr u v<=0):=by
 have f1:u.1<=0->0<cr u v->0<v.1:=λa b=>by
  apply Int.not_le.1;intro h;have k1:u.1*v.2<=0:=C8 a h2;have k2:0<=u.2*v.1:=uQ aa h
  unfold cr at b;omega
 have f2:0<u.1->cr u v<=0->v.1<=0:=λa b=>by
  apply FE.1;intro h;have k1:0<=u.1*v.2:=jF aa h2
  have k2:u.2*v.1<0:=uR h1 h;unfold cr at b;omega
 unfold right qF bi
 repeat' split
 all_goals omega
theorem upB(h1:u.2<0)(h2:0<=v.2):right u v+qG u v=bi (u.1<=0)-bi (cr u v<0):=by
 have f1:u.1<=0->0<cr u v->0<v.1:=λa b=>by
  apply Int.not_le.1;intro h;have k1:u.1*v.2<=0:=C8 a h2;have k2:0<=u.2*v.1:=uQ aa h
  unfold cr at b;omega
 have f2:0<u.1->cr u v<=0->v.1<=0:=λa b=>by
  apply FE.1;intro h;have k1:0<=u.1*v.2:=jF aa h2
  have k2:u.2*v.1<0:=uR h1 h;unfold cr at b;omega
 unfold right qG bi
 repeat' split
 all_goals omega
theorem WQ(hw:0<w)(h:FY w u v)(h1:u.2<0)(h2:0<=v.2):right (sh w u) (sh w v)+qG (sh w u) (sh w v)-right u v-qF u v=uW w u-uW w v:=by
 have a:=upA h1 h2;have b:=upB (u:=sh w u) (v:=sh w v) h1 h2;have c:=h.1 h1 h2;have e1:uW w u=bi (u.1<=w)-bi (u.1<=0):=by
  unfold uW bi
  repeat' split
  all_goals omega
 have e2:uW w v=0:=aP aa
 have e3:bi ((sh w u).1<=0)=bi (u.1<=w):=by
  have:(sh w u).1=u.1-w:=rfl;unfold bi
  repeat' split
  all_goals omega
 have e4:bi (cr u v<=0)=bi (cr (sh w u) (sh w v)<0):=by
  have:cr (sh w u) (sh w v)=cr u v-w*(v.2-u.2):=by unfold cr sh;grind
  have k:0<w*(v.2-u.2):=bJ hw aa
  unfold bi
  repeat' split
  all_goals omega
 rw[e1,e2];omega
theorem ahH(hw:0<w)(h:FY w u v):right (sh w u) (sh w v)+qG (sh w u) (sh w v)-right u v-qF u v=uW w u-uW w v:=by
 by_cases h1:u.2<0
 .by_cases h2:v.2<0
  .have key:∀t:Int,right (sh t u) (sh t v)=bi (u.1<=t)-bi (v.1<=t):=λt=>by
    have a1:u.1<=t->t<v.1->0<cr (sh t u) (sh t v):=λa b=>by
     have k1:0<=(u.1-t)*v.2:=uQ aa aa
     have k2:u.2*(v.1-t)<0:=uR h1 aa
     show 0<(u.1-t)*v.2-u.2*(v.1-t);omega
    have a2:t<u.1->v.1<=t->cr (sh t u) (sh t v)<0:=λa b=>by
     have k1:(u.1-t)*v.2<0:=wK aa h2
     have k2:0<=u.2*(v.1-t):=uQ aa aa
     show(u.1-t)*v.2-u.2*(v.1-t)<0;omega
    have b1:(sh t u).1=u.1-t:=rfl;have b2:(sh t v).1=v.1-t:=rfl;unfold right bi
    repeat' split
    all_goals omega
   have s0:∀z:Pt,sh 0 z=z:=λz=>by unfold sh;rw[C9]
   have k0:=key 0;rw[s0,s0] at k0;have e1:qG (sh w u) (sh w v)=0:=by
    have b1:(sh w u).2=u.2:=rfl;have b2:(sh w v).2=v.2:=rfl;unfold qG;rw[aP aa,aP aa]
   have e2:qF u v=0:=by
    unfold qF;rw[aP aa,aP aa]
   rw[key w,k0,e1,e2];unfold uW bi
   repeat' split
   all_goals omega
  .exact WQ hw h h1 aa
 .by_cases h2:v.2<0
  .have h':FY w v u:=by
    refine⟨λa b=>?_,λa b=>?_⟩
    .have:=h.2 a b;rw[dh u v,dh (sh w u) (sh w v)];omega
    .have:=h.1 a b;rw[dh u v,dh (sh w u) (sh w v)];omega
   have:=WQ hw h' h2 aa
   rw[PC u v,ahD u v,PC (sh w u) (sh w v),ahE (sh w u) (sh w v)] at this;omega
  .have key:∀t:Int,right (sh t u) (sh t v)=0:=λt=>by
    have a1:u.1<=t->t<v.1->¬0<cr (sh t u) (sh t v):=λa b=>by
     have k1:(u.1-t)*v.2<=0:=C8 aa aa
     have k2:0<=u.2*(v.1-t):=jF aa aa
     show ¬0<(u.1-t)*v.2-u.2*(v.1-t);omega
    have a2:t<u.1->v.1<=t->¬cr (sh t u) (sh t v)<0:=λa b=>by
     have k1:0<=(u.1-t)*v.2:=jF aa aa
     have k2:u.2*(v.1-t)<=0:=agU aa aa
     show ¬(u.1-t)*v.2-u.2*(v.1-t)<0;omega
    have b1:(sh t u).1=u.1-t:=rfl;have b2:(sh t v).1=v.1-t:=rfl;unfold right
    repeat' split
    all_goals omega
   have s0:∀z:Pt,sh 0 z=z:=λz=>by unfold sh;rw[C9]
   have k0:=key 0;rw[s0,s0] at k0;have e1:qG (sh w u) (sh w v)=0:=by
    have b1:(sh w u).2=u.2:=rfl;have b2:(sh w v).2=v.2:=rfl;unfold qG;rw[aP aa,aP aa]
   have e2:qF u v=0:=by
    unfold qF;rw[aP aa,aP aa]
   rw[key w,k0,e1,e2];unfold uW;rw[aP aa,aP aa]
   omega
def rl(n:Int×Int×Int)(z:Pt):Pt:=rel (n.1,n.2.1) n.2.2 z
def wv(a b:Int×Int×Int):Pt:=(a.2.2*b.1-b.2.2*a.1,a.2.2*b.2.1-b.2.2*a.2.1)
def bz(D:Pt):Prop:=0<D.1\/(D.1=0/\0<D.2)
def cA(n:Int×Int×Int)(D:Pt)(u v:Pt):Int:=
 if cr (rl n u) (rl n v)=0/\0<(rl n v).1/\cr D (rl n v)<0/\0<=cr D (rl n u) then 1
 else if cr (rl n u) (rl n v)=0/\0<(rl n u).1/\cr D (rl n u)<0/\0<=cr D (rl n v) then -1 else 0
def cB(n:Int×Int×Int)(D:Pt)(u v:Pt):Int:=
 if cr (rl n u) (rl n v)=0/\(rl n u).1<=0/\cr D (rl n u)<0/\0<=cr D (rl n v) then 1
 else if cr (rl n u) (rl n v)=0/\(rl n v).1<=0/\cr D (rl n v)<0/\0<=cr D (rl n u) then -1 else 0
def PD(a b:Int×Int×Int)(D u v:Pt):Prop:=
 (cr D (rl a u)<0->0<=cr D (rl a v)->cr (rl a u) (rl a v)<=0\/0<=cr (rl b u) (rl b v))/\(cr D (rl a v)<0->0<=cr D (rl a u)->0<=cr (rl a u) (rl a v)\/cr (rl b u) (rl b v)<=0)
def Behind(a b:Int×Int×Int)(D:Pt):Prop:=(0<D.1/\0<(wv a b).1/\cr D (wv a b)=0)\/(D.1=0/\0<D.2/\(wv a b).1=0/\0<(wv a b).2)
def tr(D r:Pt):Pt:=(r.1,cr D r)
def sc(k:Int)(u:Pt):Pt:=(k*u.1,k*u.2)
theorem FZ(D r s:Pt):cr (tr D r) (tr D s)=D.1*cr r s:=by unfold tr cr;grind
theorem F5(k:Int)(r s:Pt):cr (sc k r) (sc k s)=k*k*cr r s:=by unfold sc cr;grind
theorem bT{z:Int}(hk:0<k):0<k*z↔0<z:=by
 constructor
 .intro h;exact Int.pos_of_mul_pos_right (a:=k) h |> λh=>by
   rcases gf z 0 with h1|h1|h1
   .have:=wK hk h1;omega
   .subst h1;simp at*
   .exact h1
 .exact bJ hk
theorem neg_mul{z:Int}(hk:0<k):k*z<0↔z<0:=by
 have:=bT (z:= -z) hk;rw[Ao] at this;omega
theorem dP{z:Int}(hk:0<k):k*z=0↔z=0:=by
 have h1:=bT (z:=z) hk;have h2:=neg_mul (z:=z) hk;omega
theorem mQ(a b:Int×Int×Int)(z:Pt):a.2.2*(rl b z).1=b.2.2*(rl a z).1-(wv a b).1/\a.2.2*(rl b z).2=b.2.2*(rl a z).2-(wv a b).2:=by
 unfold rl rel wv;constructor<;>grind
theorem WR(hD:0<D.1)(r s:Pt):right (tr D r) (tr D s)=right r s:=by
 have h1:=bT (z:=cr r s) hD;have h2:=neg_mul (z:=cr r s) hD;unfold right;rw[FZ];have e1:(tr D r).1=r.1:=rfl;have e2:(tr D s).1=s.1:=rfl;rw[e1,e2]
 repeat' split
 all_goals omega
theorem Dm(hk:0<k)(r s:Pt):right (sc k r) (sc k s)=right r s:=by
 have hkk:=bJ hk hk;have h1:=bT (z:=cr r s) hkk;have h2:=neg_mul (z:=cr r s) hkk;have a1:=bT (z:=r.1) hk;have a2:=bT (z:=s.1) hk;unfold right;rw[F5];have e1:(sc k r).1=k*r.1:=rfl;have e2:(sc k s).1=k*s.1:=rfl;rw[e1,e2]
 repeat' split
 all_goals omega
theorem ahI{n:Int×Int×Int}(hD:0<D.1)(hk:0<k)(u v:Pt):qF (sc k (tr D (rl n u))) (sc k (tr D (rl n v)))=cA n D u v:=by
 have hkk:=bJ (bJ hk hk) hD;have h1:=dP (z:=cr (rl n u) (rl n v)) hkk;have a1:=bT (z:=(rl n u).1) hk;have a2:=bT (z:=(rl n v).1) hk;have b1:=neg_mul (z:=cr D (rl n u)) hk;have b2:=neg_mul (z:=cr D (rl n v)) hk;unfold qF cA;rw[F5,FZ];have e0:k*k*(D.1*cr (rl n u) (rl n v))=k*k*D.1*cr (rl n u) (rl n v):=by grind
 have e1:(sc k (tr D (rl n u))).1=k*(rl n u).1:=rfl;have e2:(sc k (tr D (rl n v))).1=k*(rl n v).1:=rfl;have e3:(sc k (tr D (rl n u))).2=k*cr D (rl n u):=rfl;have e4:(sc k (tr D (rl n v))).2=k*cr D (rl n v):=rfl;rw[e0,e1,e2,e3,e4]
 repeat' split
 all_goals omega
theorem ahJ{n:Int×Int×Int}(hD:0<D.1)(hk:0<k)(u v:Pt):qG (sc k (tr D (rl n u))) (sc k (tr D (rl n v)))=cB n D u v:=by
 have hkk:=bJ (bJ hk hk) hD;have h1:=dP (z:=cr (rl n u) (rl n v)) hkk;have a1:=bT (z:=(rl n u).1) hk;have a2:=bT (z:=(rl n v).1) hk;have b1:=neg_mul (z:=cr D (rl n u)) hk;have b2:=neg_mul (z:=cr D (rl n v)) hk;unfold qG cB;rw[F5,FZ];have e0:k*k*(D.1*cr (rl n u) (rl n v))=k*k*D.1*cr (rl n u) (rl n v):=by grind
 have e1:(sc k (tr D (rl n u))).1=k*(rl n u).1:=rfl;have e2:(sc k (tr D (rl n v))).1=k*(rl n v).1:=rfl;have e3:(sc k (tr D (rl n u))).2=k*cr D (rl n u):=rfl;have e4:(sc k (tr D (rl n v))).2=k*cr D (rl n v):=rfl;rw[e0,e1,e2,e3,e4]
 repeat' split
 all_goals omega
def F6(a b:Int×Int×Int)(D z:Pt):Int:=if D.1=0 then 0 else uW (wv a b).1 (sc b.2.2 (tr D (rl a z)))
theorem ahK{a b:Int×Int×Int}(ha:0<a.2.2)(hb:0<b.2.2)(hB:Behind a b D)(hF:PD a b D u v):
  right (rl b u) (rl b v)+cB b D u v-right (rl a u) (rl a v)-cA a D u v=F6 a b D u-F6 a b D v:=by
 rcases hB with⟨hD,hW,hp⟩|⟨hD,uX,hW,hW2⟩
 .have hs:∀z,sh (wv a b).1 (sc b.2.2 (tr D (rl a z)))=sc a.2.2 (tr D (rl b z)):=λz=>by
   obtain⟨e1,e2⟩:=mQ a b z;refine dN ?_ ?_
   .show b.2.2*(rl a z).1-(wv a b).1=a.2.2*(rl b z).1;omega
   .show b.2.2*(D.1*(rl a z).2-D.2*(rl a z).1)=a.2.2*(D.1*(rl b z).2-D.2*(rl b z).1);unfold cr at hp;have k1:a.2.2*(D.1*(rl b z).2-D.2*(rl b z).1)=D.1*(a.2.2*(rl b z).2)-D.2*(a.2.2*(rl b z).1):=by grind
    rw[k1,e1,e2]
    grind
  have c1:cr (sc b.2.2 (tr D (rl a u))) (sc b.2.2 (tr D (rl a v)))=b.2.2*b.2.2*D.1*cr (rl a u) (rl a v):=by rw[F5,FZ];grind
  have c2:cr (sc a.2.2 (tr D (rl b u))) (sc a.2.2 (tr D (rl b v)))=a.2.2*a.2.2*D.1*cr (rl b u) (rl b v):=by rw[F5,FZ];grind
  have p1:=bJ (bJ hb hb) hD;have p2:=bJ (bJ ha ha) hD;have q1:=bT (z:=cr (rl a u) (rl a v)) p1;have q2:=neg_mul (z:=cr (rl a u) (rl a v)) p1;have q3:=bT (z:=cr (rl b u) (rl b v)) p2;have q4:=neg_mul (z:=cr (rl b u) (rl b v)) p2;have s1:=neg_mul (z:=cr D (rl a u)) hb;have s2:=neg_mul (z:=cr D (rl a v)) hb;have hfree:FY (wv a b).1 (sc b.2.2 (tr D (rl a u))) (sc b.2.2 (tr D (rl a v))):=by
   unfold FY;rw[hs,hs,c1,c2];have e3:(sc b.2.2 (tr D (rl a u))).2=b.2.2*cr D (rl a u):=rfl;have e4:(sc b.2.2 (tr D (rl a v))).2=b.2.2*cr D (rl a v):=rfl;rw[e3,e4];obtain⟨f1,f2⟩:=hF;constructor
   .intro x y;have:=f1 aa aa
    omega
   .intro x y;have:=f2 aa aa
    omega
  have key:=ahH hW hfree;rw[hs,hs,Dm ha,WR hD,Dm hb,WR hD,ahI hD hb,ahJ hD ha] at key;unfold F6;rw[aP aa,aP aa]
  exact key
 .unfold F6;rw[aV hD,aV hD];obtain⟨e1,e2⟩:=mQ a b u;obtain⟨e3,e4⟩:=mQ a b v;rw[hW] at e1 e3;have x1:=bT (z:=(rl b u).1) ha;have x2:=bT (z:=(rl b v).1) ha;have x3:=bT (z:=(rl a u).1) hb;have x4:=bT (z:=(rl a v).1) hb;have l1:cr D (rl a u)= -(D.2*(rl a u).1):=by unfold cr;rw[hD];omega
  have l2:cr D (rl a v)= -(D.2*(rl a v).1):=by unfold cr;rw[hD];omega
  have l3:cr D (rl b u)= -(D.2*(rl b u).1):=by unfold cr;rw[hD];omega
  have l4:cr D (rl b v)= -(D.2*(rl b v).1):=by unfold cr;rw[hD];omega
  have y1:=bT (z:=(rl a u).1) uX;have y2:=bT (z:=(rl a v).1) uX;have y3:=bT (z:=(rl b u).1) uX;have y4:=bT (z:=(rl b v).1) uX;have ec:a.2.2*a.2.2*cr (rl b u) (rl b v)=b.2.2*b.2.2*cr (rl a u) (rl a v)+b.2.2*(wv a b).2*((rl a v).1-(rl a u).1):=by
   have k:a.2.2*a.2.2*cr (rl b u) (rl b v)=(a.2.2*(rl b u).1)*(a.2.2*(rl b v).2)-(a.2.2*(rl b u).2)*(a.2.2*(rl b v).1):=by unfold cr;grind
   rw[k,e1,e2,e3,e4];unfold cr
   grind
  have p1:=bJ ha ha;have p2:=bJ hb hb;have p3:=bJ hb hW2;have q1:=bT (z:=cr (rl a u) (rl a v)) p2;have q2:=neg_mul (z:=cr (rl a u) (rl a v)) p2;have q3:=bT (z:=cr (rl b u) (rl b v)) p1;have q4:=neg_mul (z:=cr (rl b u) (rl b v)) p1;have r1:=bT (z:=(rl a v).1-(rl a u).1) p3;have r2:=neg_mul (z:=(rl a v).1-(rl a u).1) p3;obtain⟨f1,f2⟩:=hF;rw[l1,l2] at f1 f2;unfold right cA cB;rw[l1,l2,l3,l4];generalize cr (rl a u) (rl a v)=ca at*;generalize cr (rl b u) (rl b v)=cb at*;generalize(rl a u).1=xu at*;generalize(rl a v).1=xv at*;generalize(rl b u).1=Dp at*;generalize(rl b v).1=Dq at*;generalize D.2*xu=lu at*;generalize D.2*xv=lv at*;generalize D.2*Dp=WT at*;generalize D.2*Dq=yS at*;generalize b.2.2*(wv a b).2*(xv-xu)=K at*;generalize a.2.2*a.2.2*cb=CB at*;generalize b.2.2*b.2.2*ca=CA at*;generalize a.2.2*Dp=AU at*;generalize a.2.2*Dq=AV at*;generalize b.2.2*xu=BU at*;generalize b.2.2*xv=BV at*;clear e2 e4 l1 l2 l3 l4 p1 p2 p3 hW hW2 hD uX;have hx1:0<xu↔0<Dp:=aa
  have hx2:0<xv↔0<Dq:=aa
  clear x1 x2 x3 x4 e1 e3;rw[aP (show ¬(cb=0/\Dp<=0/\ -WT<0/\0<= -yS) by omega),aP (show ¬(cb=0/\Dq<=0/\ -yS<0/\0<= -WT) by omega)]
  by_cases h1:0<xu<;>by_cases h2:0<xv
  .rw[aP aa,aP aa,aP aa,aP aa,aP aa,aP aa]
   rfl
  .rw[aP (show ¬(Dp<=0/\0<Dq/\0<cb) by omega),aP (show ¬(xu<=0/\0<xv/\0<ca) by omega),aP (show ¬(ca=0/\0<xv/\ -lv<0/\0<= -lu) by omega)]
   clear y3 y4
   repeat' split
   all_goals omega
  .rw[aP (show ¬(0<Dp/\Dq<=0/\cb<0) by omega),aP (show ¬(0<xu/\xv<=0/\ca<0) by omega),aP (show ¬(ca=0/\0<xu/\ -lu<0/\0<= -lv) by omega)]
   clear y3 y4
   repeat' split
   all_goals omega
  .rw[aP aa,aP aa,aP aa,aP aa,aP aa,aP aa]
   rfl
theorem PE(F:Pt->Pt->Int)(k:Pt->Int)(hs:∀a,F a a=0):∀(rg:List (List Pt)),(∀e∈aT rg,F e.1 e.2=k e.1-k e.2)->total F (aT rg)=0
 |[],_=>rfl
 |g::rg,h=>by
  have e:aT (g::rg)=lI g++aT rg:=qB;rw[e] at h⊢;rw[PA,PE F k hs rg (λe he=>h e (JU _ he))]
  have h':∀e∈lI g,F e.1 e.2=k e.1-k e.2:=λe he=>h e (Ap _ he)
  unfold lI at*;rw[ahC _ hs];cases g with
  |nil=>rfl
  |cons a r=>
   have key:=WN (λ_ _=>0) F k r a a (λp hp=>by
    by_cases he:p.1=p.2
    .rw[he,hs];omega
    .have:=h' p (jr.2 ⟨hp,by simp[he]⟩)
     omega)
   have e0:∀l:List (Pt×Pt),total (λ_ _=>0) l=0:=λl=>by
    induction l with
    |nil=>rfl
    |cons x l ih=>rw[ic,ih];rfl
   rw[e0] at key;have e:closing (a::r)=(a::r).zip (r++[a]):=rfl;rw[e];omega
theorem Kh(F G:Pt->Pt->Int):∀l:List (Pt×Pt),total (λu v=>F u v+G u v) l=total F l+total G l
 |[]=>rfl
 |e::l=>by rw[ic,ic,ic,Kh F G l];omega
theorem PF(F G:Pt->Pt->Int):∀l:List (Pt×Pt),total (λu v=>F u v-G u v) l=total F l-total G l
 |[]=>rfl
 |e::l=>by rw[ic,ic,ic,PF F G l];omega
def PP(es:List (Pt×Pt))(n:Int×Int×Int):Int:=total (λu v=>right (rl n u) (rl n v)) es
theorem WU(u:Pt):right u u=0:=by
 unfold right;rw[aP aa,aP aa]
theorem ahL(n:Int×Int×Int)(D u:Pt):cA n D u u=0:=by
 unfold cA;rw[aP aa,aP aa]
theorem ahM(n:Int×Int×Int)(D u:Pt):cB n D u u=0:=by
 unfold cB;rw[aP aa,aP aa]
theorem along{a b:Int×Int×Int}(ha:0<a.2.2)(hb:0<b.2.2)(hB:Behind a b D)(hF:∀e∈aT rg,PD a b D e.1 e.2):
  PP (aT rg) b+total (cB b D) (aT rg)=PP (aT rg) a+total (cA a D) (aT rg):=by
 have h:=PE (λu v=>right (rl b u) (rl b v)+cB b D u v-right (rl a u) (rl a v)-cA a D u v) (F6 a b D) (λz=>by rw[WU,WU,ahL,ahM];rfl) rg (λe he=>ahK ha hb hB (hF e he))
 rw[PF,PF,Kh] at h;unfold PP;omega
abbrev N3:=Int×Int×Int
def lam(D:Pt)(n:N3)(z:Pt):Int:=cr D (rl n z)
theorem WV{a b:N3}(h:Behind a b D):cr D (wv a b)=0:=by
 rcases h with⟨_,_,h⟩|⟨h1,_,h2,_⟩
 .exact h
 .unfold cr;rw[h1,h2];omega
theorem PG{a b:N3}(h:Behind a b D)(z:Pt):a.2.2*lam D b z=b.2.2*lam D a z:=by
 have hp:=WV h;obtain⟨e1,e2⟩:=mQ a b z;unfold lam cr at*;have k1:a.2.2*(D.1*(rl b z).2-D.2*(rl b z).1)=D.1*(a.2.2*(rl b z).2)-D.2*(a.2.2*(rl b z).1):=by grind
 rw[k1,e1,e2]
 grind
theorem qH{a b:N3}(ha:0<a.2.2)(hb:0<b.2.2)(h:Behind a b D)(z:Pt):(lam D b z<0↔lam D a z<0)/\(0<lam D b z↔0<lam D a z):=by
 have k:=PG h z;have h1:=bT (z:=lam D b z) ha;have h2:=neg_mul (z:=lam D b z) ha;have h3:=bT (z:=lam D a z) hb;have h4:=neg_mul (z:=lam D a z) hb;omega
theorem ahN{a b:N3}(h:Behind a b D)(u v:Pt):∃k m:Int,0<k/\0<m/\k*(a.2.2*a.2.2*cr (rl b u) (rl b v))=k*(b.2.2*b.2.2*cr (rl a u) (rl a v))-b.2.2*(m*(lam D a v-lam D a u)):=by
 obtain⟨e1,e2⟩:=mQ a b u;obtain⟨e3,e4⟩:=mQ a b v;have k:a.2.2*a.2.2*cr (rl b u) (rl b v)=(a.2.2*(rl b u).1)*(a.2.2*(rl b v).2)-(a.2.2*(rl b u).2)*(a.2.2*(rl b v).1):=by unfold cr;grind
 rw[e1,e2,e3,e4] at k;rcases h with⟨h1,h2,h3⟩|⟨h1,h2,h3,h4⟩
 .refine⟨D.1,(wv a b).1,h1,h2,?_⟩;rw[k];unfold lam;unfold cr at*;generalize(rl a u).1=p1 at*;generalize(rl a u).2=p2 at*;generalize(rl a v).1=q1 at*;generalize(rl a v).2=q2 at*;generalize(wv a b).1=w1 at*;generalize(wv a b).2=w2 at*;have h3':D.1*w2=D.2*w1:=aa
  clear e1 e2 e3 e4 k h3
  grind
 .refine⟨D.2,(wv a b).2,h2,h4,?_⟩;rw[k];unfold lam;unfold cr at*;rw[h1,h3]
  grind
theorem Ki{a b:N3}(ha:0<a.2.2)(hb:0<b.2.2)(h:Behind a b D)(hl:lam D a u<lam D a v):(0<=cr (rl b u) (rl b v)->0<cr (rl a u) (rl a v))/\(cr (rl a u) (rl a v)<=0->cr (rl b u) (rl b v)<0):=by
 obtain⟨k,m,hk,hm,e⟩:=ahN h u v;have p1:=bJ hk (bJ ha ha);have p2:=bJ hk (bJ hb hb);have q1:=bT (z:=cr (rl a u) (rl a v)) p2;have q2:=neg_mul (z:=cr (rl a u) (rl a v)) p2;have q3:=bT (z:=cr (rl b u) (rl b v)) p1;have q4:=neg_mul (z:=cr (rl b u) (rl b v)) p1;have r:=bJ hb (bJ hm (show 0<lam D a v-lam D a u by omega))
 rw[VZ] at q1 q2 q3 q4;omega
theorem PJ{a b:N3}(ha:0<a.2.2)(hb:0<b.2.2)(h:Behind a b D)(hl:lam D a v<lam D a u):(cr (rl b u) (rl b v)<=0->cr (rl a u) (rl a v)<0)/\(0<=cr (rl a u) (rl a v)->0<cr (rl b u) (rl b v)):=by
 have:=Ki ha hb h hl;rw[dh (rl b u) (rl b v),dh (rl a u) (rl a v)] at this;omega
def lX(f t:N3)(D u v:Pt):Prop:=
 (lam D f u<=0->0<=lam D f v->lam D f u<lam D f v->cr (rl f u) (rl f v)<=0\/0<=cr (rl t u) (rl t v))/\
 (lam D f v<=0->0<=lam D f u->lam D f v<lam D f u->0<=cr (rl f u) (rl f v)\/cr (rl t u) (rl t v)<=0)
def oY(f t:N3)(D z:Pt):Prop:=lam D f z=0->dt D (rl f z)<=0\/0<=dt D (rl t z)
def F7(a b:N3)(D:Pt):Prop:=a=b\/Behind a b D
theorem WW{a b:N3}(ha:0<a.2.2)(hb:0<b.2.2)(h:F7 a b D)(hl:lam D a u<lam D a v):(0<=cr (rl b u) (rl b v)->0<=cr (rl a u) (rl a v))/\(cr (rl a u) (rl a v)<=0->cr (rl b u) (rl b v)<=0):=by
 rcases h with rfl|h
 .exact⟨id,id⟩
 .have:=Ki ha hb h hl;omega
theorem WY{a b:N3}(ha:0<a.2.2)(hb:0<b.2.2)(h:F7 a b D)(hl:lam D a v<lam D a u):(cr (rl b u) (rl b v)<=0->cr (rl a u) (rl a v)<=0)/\(0<=cr (rl a u) (rl a v)->0<=cr (rl b u) (rl b v)):=by
 rcases h with rfl|h
 .exact⟨id,id⟩
 .have:=PJ ha hb h hl;omega
theorem WZ{a b:N3}(ha:0<a.2.2)(hb:0<b.2.2)(h:F7 a b D)(z:Pt):(lam D b z<0↔lam D a z<0)/\(0<lam D b z↔0<lam D a z):=by
 rcases h with rfl|h
 .exact⟨JV,JV⟩
 .exact qH ha hb h z
theorem PK{f t a b:N3}(hf:0<f.2.2)(ht:0<t.2.2)(ha:0<a.2.2)(hb:0<b.2.2)(h:lX f t D u v)(h1:F7 f a D)(h2:Behind a b D)(h3:F7 b t D):PD a b D u v:=by
 have su:=WZ hf ha h1 u;have sv:=WZ hf ha h1 v;have tu:=qH ha hb h2 u;have tv:=qH ha hb h2 v;refine⟨λx y=>?_,λx y=>?_⟩
 .change lam D a u<0 at x
  change 0<=lam D a v at y
  rcases h.1 aa aa aa with k|k
  .exact aS ((WW hf ha h1 aa).2 k)
  .exact aR ((WW hb ht h3 aa).1 k)
 .change lam D a v<0 at x
  change 0<=lam D a u at y
  rcases h.2 aa aa aa with k|k
  .exact aS ((WY hf ha h1 aa).2 k)
  .exact aR ((WY hb ht h3 aa).1 k)
theorem Dr{f t q:N3}(hf:0<f.2.2)(ht:0<t.2.2)(hq:0<q.2.2)(h:lX f t D u v)(h1:Behind f q D)(h2:Behind q t D):
  (lam D q u<=0->0<=lam D q v->lam D q u<lam D q v->cr (rl q u) (rl q v)≠0)/\(lam D q v<=0->0<=lam D q u->lam D q v<lam D q u->cr (rl q u) (rl q v)≠0):=by
 have su:=qH hf hq h1 u;have sv:=qH hf hq h1 v;refine⟨λx y z=>?_,λx y z=>?_⟩
 .rcases h.1 aa aa aa with k|k
  .have:=(Ki hf hq h1 (u:=u) (v:=v) aa).2 k
   omega
  .have:=(Ki hq ht h2 (u:=u) (v:=v) aa).1 k
   omega
 .rcases h.2 aa aa aa with k|k
  .have:=(PJ hf hq h1 (u:=u) (v:=v) aa).2 k
   omega
  .have:=(PJ hq ht h2 (u:=u) (v:=v) aa).1 k
   omega
def cH(f t:N3):N3:=(f.1+t.1,f.2.1+t.2.1,f.2.2+t.2.2)
theorem W7(f t:N3):wv f (cH f t)=wv f t:=by unfold wv cH;exact dN (by simp only;grind) (by simp only;grind)
theorem ahO(f t:N3):wv (cH f t) t=wv f t:=by unfold wv cH;exact dN (by simp only;grind) (by simp only;grind)
theorem AX{f t:N3}(h:bz (wv f t)):Behind f t (wv f t):=by
 rcases h with h|⟨h1,h2⟩
 .exact aS ⟨h,h,by unfold cr;grind⟩
 .exact aR ⟨h1,h2,h1,h2⟩
theorem Kj{f t:N3}(h:bz (wv f t)):Behind f (cH f t) (wv f t):=by
 unfold Behind;rw[W7];exact AX h
theorem PN{f t:N3}(h:bz (wv f t)):Behind (cH f t) t (wv f t):=by
 unfold Behind;rw[ahO];exact AX h
theorem yT{F:Pt->Pt->Int}:∀{l:List (Pt×Pt)},(∀e∈l,F e.1 e.2=0)->total F l=0
 |[],_=>rfl
 |e::l,h=>by rw[ic,h e af,yT λx hx=>h x (bV _ hx)];rfl
theorem qI{F G:Pt->Pt->Int}:∀{l:List (Pt×Pt)},(∀e∈l,F e.1 e.2=G e.1 e.2)->total F l=total G l
 |[],_=>rfl
 |e::l,h=>by rw[ic,ic,h e af,qI λx hx=>h x (bV _ hx)]
theorem W8{f t:N3}(hf:0<f.2.2)(ht:0<t.2.2)(hr:bz (wv f t))(hF:∀e∈aT rg,lX f t (wv f t) e.1 e.2):
  PP (aT rg) (cH f t)=PP (aT rg) f+total (cA f (wv f t)) (aT rg):=by
 have hq:0<(cH f t).2.2:=by show 0<f.2.2+t.2.2;omega
 have b1:=Kj hr;have b2:=PN hr;have h:=along hf hq b1 (rg:=rg) λe he=>PK hf ht hf hq (hF e he) (aS rfl) b1 (aR b2)
 have h0:total (cB (cH f t) (wv f t)) (aT rg)=0:=yT λe he=>by
  obtain⟨k1,k2⟩:=Dr hf ht hq (hF e he) b1 b2;unfold cB;rw[aP (λ⟨x1,_,x2,x3⟩=>k1 (fA x2) x3 (by unfold lam;omega) x1),aP (λ⟨x1,_,x2,x3⟩=>k2 (fA x2) x3 (by unfold lam;omega) x1)]
 omega
theorem ahP{f t:N3}(hf:0<f.2.2)(ht:0<t.2.2)(hr:bz (wv f t))(hF:∀e∈aT rg,lX f t (wv f t) e.1 e.2):
  PP (aT rg) (cH f t)=PP (aT rg) t+total (cB t (wv f t)) (aT rg):=by
 have hq:0<(cH f t).2.2:=by show 0<f.2.2+t.2.2;omega
 have b1:=Kj hr;have b2:=PN hr;have h:=along hq ht b2 (rg:=rg) λe he=>PK hf ht hq ht (hF e he) (aR b1) b2 (aS rfl)
 have h0:total (cA (cH f t) (wv f t)) (aT rg)=0:=yT λe he=>by
  obtain⟨k1,k2⟩:=Dr hf ht hq (hF e he) b1 b2;unfold cA;rw[aP (λ⟨x1,_,x2,x3⟩=>k2 (fA x2) x3 (by unfold lam;omega) x1),aP (λ⟨x1,_,x2,x3⟩=>k1 (fA x2) x3 (by unfold lam;omega) x1)]
 omega
def jm(z:Pt):Bool:=decide (0<z.1\/(z.1=0/\0<z.2))
def bf(z w:Pt):Bool:=(jm z&& !jm w)||((jm z == jm w)&&decide (0<cr z w))
def bg(z w:Pt):Bool:=decide (cr z w=0)&&decide (0<dt z w)
def neg(D:Pt):Pt:=(-D.1, -D.2)
def bb(b:Bool):Int:=if b then 1 else 0
def arm(Q:Pt->Bool)(n:N3)(u v:Pt):Int:=if on (rl n u) (rl n v) then bb (Q (rl n v))-bb (Q (rl n u)) else 0
def AS(es:List (Pt×Pt))(n:N3)(Q:Pt->Bool):Int:=total (arm Q n) es
def fb(q:N3)(D u v:Pt):Int:=if on (rl q u) (rl q v) then(D.1*(v.1-u.1)+D.2*(v.2-u.2)).sign else 0
theorem jX(r s:Pt):on r s=true↔cr r s=0/\dt r s<=0:=by unfold on;simp
theorem sq_pos(h:a≠0\/b≠0):0<a*a+b*b:=by
 have k:∀x:Int,0<=x*x:=λx=>by
  rcases Aq 0 x with h|h
  .exact jF h h
  .exact uQ h h
 have k':∀x:Int,x≠0->0<x*x:=λx hx=>by
  rcases gf x 0 with h|h|h
  .exact JW h h
  .exact absurd h hx
  .exact bJ h h
 have a1:=k a;have b1:=k b;rcases h with h|h
 .have:=k' a h;omega
 .have:=k' b h;omega
theorem dC(h:r≠(0,0)):0<dt r r:=by
 refine sq_pos ?_;rcases Classical.em (r.1=0) with h1|h1
 .exact aR λh2=>h (dN h1 h2)
 .exact aS h1
theorem PQ(h:cr D r≠0):r≠(0,0):=λe=>h (by rw[e];unfold cr;simp)
theorem wX(h:dt D r≠0):r≠(0,0):=λe=>h (by rw[e];unfold dt;simp)
theorem mR(h:bz D):D≠(0,0):=λe=>by
 rw[e] at h;rcases h with h|⟨_,h⟩
 .exact absurd h ah
 .exact absurd h ah
theorem wY(h:cr r s=0):cr D s*dt r r=cr D r*dt r s:=by
 unfold cr dt at*
 grind
theorem jI(r s:Pt):dt r s=dt s r:=by unfold dt;grind
theorem yU(h:cr r s=0)(hl:cr D r<0):dt r s<=0↔0<=cr D s:=by
 have p:=dC (PQ (D:=D) (r:=r) aa)
 have e:=wY (D:=D) h;have a1:=neg_mul (z:=cr D s) p;rw[gF] at a1;have a2:=bT (z:=dt r s) (k:= -cr D r) aa
 rw[js] at a2;omega
theorem Kk(h:cr r s=0)(hl:0<cr D r):dt r s<=0↔cr D s<=0:=by
 have p:=dC (PQ (D:=D) (r:=r) aa)
 have e:=wY (D:=D) h;have a1:=bT (z:=cr D s) p;rw[gF] at a1;have a2:=bT (z:=dt r s) hl;omega
theorem tP(h:cr r s=0):cr s r=0:=by rw[dh];omega
theorem Kl(hD:bz D)(z:Pt):bf z D=true↔0<z.1/\cr D z<0:=by
 have hd:jm D=true:=by unfold jm;exact iD hD
 have e:cr z D= -cr D z:=dh D z;unfold bf;rw[hd,e];by_cases hz:jm z=true
 .rw[hz];simp;have hz':=ia (by unfold jm at hz;exact hz)
  intro h;rcases hz' with h1|⟨h1,h2⟩
  .exact h1
  .exfalso;rcases hD with h3|⟨h3,h4⟩
   .have:=bJ h3 h2;unfold cr at h;rw[h1] at h;omega
   .unfold cr at h;rw[h1,h3] at h;omega
 .have hz0:jm z=false:=by simpa using hz
  rw[hz0];simp;intro h;exfalso;apply hz;unfold jm;exact iD (aS h)
theorem PR(hD:bz D)(z:Pt):bf (neg D) z=true↔z.1<=0/\cr D z<0:=by
 have hd:jm (neg D)=false:=by
  unfold jm neg;refine jU λh=>?_
  rcases hD with h3|⟨h3,h4⟩<;>simp only at h<;>omega
 have e:cr (neg D) z= -cr D z:=by unfold cr neg;grind
 unfold bf;rw[hd,e];by_cases hz:jm z=true
 .rw[hz];simp;have hz':=ia (by unfold jm at hz;exact hz)
  intro h1;rcases hz' with h2|⟨h2,h3⟩
  .omega
  .unfold cr;rw[h2];rcases hD with h4|⟨h4,h5⟩
   .have:=bJ h4 h3;omega
   .rw[h4];omega
 .have hz0:jm z=false:=by simpa using hz
  rw[hz0];simp;have hz':=of_decide_eq_false (by unfold jm at hz0;exact hz0)
  intro h;omega
theorem ahQ(hD:bz D)(n:N3)(u v:Pt):cA n D u v=arm (λz=>bf z D) n u v:=by
 unfold cA arm;generalize rl n u=r;generalize rl n v=s;have ar:=Kl hD r;have avl:=Kl hD s;by_cases hc:cr r s=0
 .have tQ:=jX r s;have k1:cr D s<0->(dt r s<=0↔0<=cr D r):=λh=>by
   have:=yU (tP hc) h;rw[jI] at this;exact this
  have k2:cr D r<0->(dt r s<=0↔0<=cr D s):=λh=>yU hc h
  unfold bb;cases h1:bf r D<;>cases h2:bf s D<;>cases h3:on r s<;>rw[h1] at ar<;>rw[h2] at avl<;>rw[h3] at tQ<;>simp only[mO,reduceIte,false_iff,true_iff] at* <;>repeat' split
  all_goals first |omega |simp_all
 .have tQ:on r s=false:=by
   cases h:on r s
   .rfl
   .exact absurd ((jX r s).1 h).1 hc
  rw[tQ,aP aa,aP aa]
  rfl
theorem ahR(hD:bz D)(n:N3)(u v:Pt):cB n D u v= -arm (λz=>bf (neg D) z) n u v:=by
 unfold cB arm;generalize rl n u=r;generalize rl n v=s;have ar:=PR hD r;have avl:=PR hD s;by_cases hc:cr r s=0
 .have tQ:=jX r s;have k1:cr D s<0->(dt r s<=0↔0<=cr D r):=λh=>by
   have:=yU (tP hc) h;rw[jI] at this;exact this
  have k2:cr D r<0->(dt r s<=0↔0<=cr D s):=λh=>yU hc h
  unfold bb;cases h1:bf (neg D) r<;>cases h2:bf (neg D) s<;>cases h3:on r s<;>rw[h1] at ar<;>rw[h2] at avl<;>rw[h3] at tQ<;>simp only[mO,reduceIte,false_iff,true_iff] at* <;>repeat' split
  all_goals first |omega |simp_all
 .have tQ:on r s=false:=by
   cases h:on r s
   .rfl
   .exact absurd ((jX r s).1 h).1 hc
  rw[tQ,aP aa,aP aa]
  rfl
theorem PU(F:Pt->Pt->Int):∀l:List (Pt×Pt),total (λu v=> -F u v) l= -total F l
 |[]=>rfl
 |e::l=>by rw[ic,ic,PU F l];omega
theorem ahS{f t:N3}(hf:0<f.2.2)(ht:0<t.2.2)(hr:bz (wv f t))(hF:∀e∈aT rg,lX f t (wv f t) e.1 e.2):
  PP (aT rg) (cH f t)=PP (aT rg) f+AS (aT rg) f (λz=>bf z (wv f t)):=by
 rw[W8 hf ht hr hF];unfold AS;rw[qI λe _=>ahQ hr f e.1 e.2]
theorem ahT{f t:N3}(hf:0<f.2.2)(ht:0<t.2.2)(hr:bz (wv f t))(hF:∀e∈aT rg,lX f t (wv f t) e.1 e.2):
  PP (aT rg) (cH f t)=PP (aT rg) t-AS (aT rg) t (λz=>bf (neg (wv f t)) z):=by
 rw[ahP hf ht hr hF];unfold AS;have e1:total (cB t (wv f t)) (aT rg)=total (λu v=> -arm (λz=>bf (neg (wv f t)) z) t u v) (aT rg):=qI λe _=>ahR hr t e.1 e.2
 rw[e1,PU];omega
theorem mD(hz:bz z)(hd:bz d)(h:cr z d=0):0<dt z d:=by
 rcases hz with h1|⟨h1,h2⟩
 .rcases hd with h3|⟨h3,h4⟩
  .have e:dt z d*z.1=d.1*dt z z:=by unfold cr at h;unfold dt;grind
   have p:=bJ h3 (dC (r:=z) (mR (aS h1)));have k:=bT (z:=dt z d) h1;rw[gF] at k;omega
  .exfalso;unfold cr at h;rw[h3] at h;have:=bJ h1 h4;omega
 .rcases hd with h3|⟨h3,h4⟩
  .exfalso;unfold cr at h;rw[h1] at h;have:=bJ h2 h3;omega
  .unfold dt;rw[h1];have:=bJ h2 h4;omega
theorem yV(z:Pt):jm z=true↔bz z:=by unfold jm bz;simp
theorem ie(hz:z≠(0,0))(h:¬bz z):bz (neg z):=by
 unfold bz neg at*;simp only;have:¬(z.1=0/\z.2=0):=λk=>hz (dN k.1 k.2)
 omega
theorem kE(h:D≠(0,0)):neg D≠(0,0):=λe=>h (by
 unfold neg at e;have e1:=aZ Prod.fst e;have e2:=aZ Prod.snd e;simp only at e1 e2;exact dN aa aa)
theorem neg_neg(D:Pt):neg (neg D)=D:=by unfold neg;exact dN af af
theorem fU(z d:Pt):cr (neg z) d= -cr z d:=by unfold cr neg;grind
theorem fG(z d:Pt):cr z (neg d)= -cr z d:=by unfold cr neg;grind
theorem pV(z d:Pt):dt (neg z) d= -dt z d:=by unfold dt neg;grind
theorem kI(z d:Pt):dt z (neg d)= -dt z d:=by unfold dt neg;grind
theorem jx(hz:z≠(0,0))(hd:d≠(0,0)):bb (bf z d)+bb (bg z d)+bb (bf d z)=1:=by
 have hs:bg z d=true↔cr z d=0/\0<dt z d:=by unfold bg;simp
 have e:=dh z d;by_cases h1:bz z
 .have r1:=(yV z).2 h1;by_cases h2:bz d
  .have r2:=(yV d).2 h2;have k:=mD h1 h2;have a1:bf z d=decide (0<cr z d):=by unfold bf;rw[r1,r2];simp
   have a2:bf d z=decide (0<cr d z):=by unfold bf;rw[r1,r2];simp
   rw[a1,a2];cases h3:bg z d<;>rw[h3] at hs<;>unfold bb<;>simp at* <;>repeat' split
   all_goals omega
  .have r2:jm d=false:=by cases h:jm d;rfl;exact absurd ((yV d).1 h) h2
   have k:=mD h1 (ie hd h2);rw[fG,kI] at k;have a1:bf z d=true:=by unfold bf;rw[r1,r2];rfl
   have a2:bf d z=false:=by unfold bf;rw[r1,r2];rfl
   have a3:bg z d=false:=by
    cases h3:bg z d
    .rfl
    .have:=hs.1 h3;have:=k aa
     omega
   rw[a1,a2,a3];rfl
 .have r1:jm z=false:=by cases h:jm z;rfl;exact absurd ((yV z).1 h) h1
  by_cases h2:bz d
  .have r2:=(yV d).2 h2;have k:=mD (ie hz h1) h2;rw[fU,pV] at k;have a1:bf z d=false:=by unfold bf;rw[r1,r2];rfl
   have a2:bf d z=true:=by unfold bf;rw[r1,r2];rfl
   have a3:bg z d=false:=by
    cases h3:bg z d
    .rfl
    .have:=hs.1 h3;have:=k aa
     omega
   rw[a1,a2,a3];rfl
  .have r2:jm d=false:=by cases h:jm d;rfl;exact absurd ((yV d).1 h) h2
   have k:=mD (ie hz h1) (ie hd h2);rw[fU,pV,fG,kI] at k;have a1:bf z d=decide (0<cr z d):=by unfold bf;rw[r1,r2];simp
   have a2:bf d z=decide (0<cr d z):=by unfold bf;rw[r1,r2];simp
   rw[a1,a2];cases h3:bg z d<;>rw[h3] at hs<;>unfold bb<;>simp at* <;>repeat' split
   all_goals omega
def nz(z:Pt):Bool:=decide (z≠(0,0))
theorem Dt(z:Pt):cr (0,0) z=0/\cr z (0,0)=0/\dt (0,0) z=0/\dt z (0,0)=0:=by unfold cr dt;simp
theorem pW(r s:Pt)(h:r=(0,0)\/s=(0,0)):on r s=true:=by
 rw[jX];rcases h with h|h<;>rw[h]
 .have:=Dt s;omega
 .have:=Dt r;omega
theorem PW(rg:List (List Pt))(n:N3):AS (aT rg) n nz=0:=by
 refine PE _ (λz=> -bb (nz (rl n z))) (λa=>?_) rg λe _=>?_
 .unfold arm;split<;>omega
 .unfold arm;cases h:on (rl n e.1) (rl n e.2)
  .have h1:nz (rl n e.1)=true:=iD λk=>by rw[pW _ _ (aS k)] at h;cases h
   have h2:nz (rl n e.2)=true:=iD λk=>by rw[pW _ _ (aR k)] at h;cases h
   rw[h1,h2];simp
  .simp only[reduceIte];omega
theorem F8{n:N3}{Q Q1 Q2:Pt->Bool}(h:∀z,bb (Q z)=bb (Q1 z)+bb (Q2 z)):AS es n Q=AS es n Q1+AS es n Q2:=by
 unfold AS;rw[<-Kh];refine qI λe _=>?_
 unfold arm;rw[h,h];split<;>omega
theorem Km{n:N3}{Q Q':Pt->Bool}(h:∀e∈es,on (rl n e.1) (rl n e.2)=true->Q (rl n e.1)=Q' (rl n e.1)/\Q (rl n e.2)=Q' (rl n e.2)):AS es n Q=AS es n Q':=by
 refine qI λe he=>?_
 unfold arm;cases h1:on (rl n e.1) (rl n e.2)
 .rfl
 .obtain⟨k1,k2⟩:=h e he h1;rw[k1,k2]
def eO(es:List (Pt×Pt))(n:N3)(d:Pt):Int:=PP es n+AS es n (λz=>nz z&&bf z d)
def fV(es:List (Pt×Pt))(n:N3)(d:Pt):Int:=eO es n d+AS es n (λz=>bg z d)
theorem Xa(h:bz d):(nz z&&bf z d)=bf z d:=by
 unfold nz;by_cases hz:z=(0,0)
 .have:bf z d=false:=by
   cases hk:bf z d
   .rfl
   .have:=(Kl h z).1 hk;rw[hz] at this;simp at this
  rw[this];simp
 .simp[hz]
theorem Du(d:Pt):bg (0,0) d=false:=by
 unfold bg;rw[(Dt d).2.2.1];simp
theorem ahU(h:bz d):bf (neg d) (0,0)=false:=by
 cases hk:bf (neg d) (0,0)
 .rfl
 .have:=(PR h (0,0)).1 hk;have:=(Dt d).2.1;omega
theorem ahV{n:N3}(h:bz d):
  AS (aT rg) n (λz=>nz z&&bf z (neg d))+AS (aT rg) n (λz=>bg z (neg d))= -AS (aT rg) n (λz=>bf (neg d) z):=by
 have e1:AS (aT rg) n nz=AS (aT rg) n (λz=>nz z&&(bf z (neg d)||bg z (neg d)))+AS (aT rg) n (λz=>bf (neg d) z):=by
  refine F8 λz=>?_
  by_cases hz:z=(0,0)
  .rw[hz,ahU h];rfl
  .have k:=jx hz (kE (mR h));have:nz z=true:=iD hz;rw[this];unfold bb at*;revert k;cases bf z (neg d)<;>cases bg z (neg d)<;>cases bf (neg d) z<;>decide
 have e2:AS (aT rg) n (λz=>nz z&&(bf z (neg d)||bg z (neg d)))=AS (aT rg) n (λz=>nz z&&bf z (neg d))+AS (aT rg) n (λz=>bg z (neg d)):=by
  refine F8 λz=>?_
  by_cases hz:z=(0,0)
  .rw[hz,Du];rfl
  .have k:=jx hz (kE (mR h));have:nz z=true:=iD hz;rw[this];unfold bb at*;revert k;cases bf z (neg d)<;>cases bg z (neg d)<;>cases bf (neg d) z<;>decide
 have:=PW rg n;omega
theorem par(hD:D≠(0,0))(h1:cr D r=0)(h2:cr D s=0):cr r s=0/\dt D r*dt D s=dt D D*dt r s:=by
 have e1:dt D D*cr r s=cr D s*dt D r-cr D r*dt D s:=by unfold cr dt;grind
 have e2:dt D r*dt D s=dt D D*dt r s-cr D r*cr D s:=by unfold cr dt;grind
 rw[h1,h2] at e1;rw[h1,h2] at e2;have p:=dP (z:=cr r s) (dC hD);constructor
 .omega
 .omega
theorem tR(hD:D≠(0,0))(h1:cr D r=0)(h2:cr D s=0):on r s=true↔dt D r*dt D s<=0:=by
 obtain⟨a,b⟩:=par hD h1 h2;rw[jX,b];have p:=bT (z:=dt r s) (dC hD);omega
theorem AY(ha:0<a)(hb:0<b):¬a*b<=0:=by have:=bJ ha hb;omega
theorem yX(ha:a<0)(hb:b<0):¬a*b<=0:=by have:=JW ha hb;omega
theorem uY(ha:a<=0)(hb:0<=b):a*b<=0:=C8 ha hb
theorem Kn(ha:0<=a)(hb:b<=0):a*b<=0:=agU ha hb
theorem place{f t:N3}(hf:0<f.2.2)(ht:0<t.2.2)(hr:bz (wv f t))(hC:oY f t (wv f t) z)(hl:lam (wv f t) f z=0):
  (dt (wv f t) (rl f z)<=0/\dt (wv f t) (rl (cH f t) z)<0/\dt (wv f t) (rl t z)<0)\/(0<dt (wv f t) (rl f z)/\0<dt (wv f t) (rl (cH f t) z)/\0<=dt (wv f t) (rl t z)):=by
 have hD:=dC (mR hr);have a1:=mQ f t z;have a2:=mQ f (cH f t) z;rw[W7] at a2;have hq:(cH f t).2.2=f.2.2+t.2.2:=rfl;rw[hq] at a2;have k:=hC hl;generalize Dv:wv f t=D at*;have e1:f.2.2*dt D (rl t z)=t.2.2*dt D (rl f z)-dt D D:=by
  have:f.2.2*dt D (rl t z)=D.1*(f.2.2*(rl t z).1)+D.2*(f.2.2*(rl t z).2):=by unfold dt;grind
  rw[this,a1.1,a1.2];unfold dt
  grind
 have e2:f.2.2*dt D (rl (cH f t) z)=(f.2.2+t.2.2)*dt D (rl f z)-dt D D:=by
  have:f.2.2*dt D (rl (cH f t) z)=D.1*(f.2.2*(rl (cH f t) z).1)+D.2*(f.2.2*(rl (cH f t) z).2):=by unfold dt;grind
  rw[this,a2.1,a2.2];unfold dt
  grind
 have p1:=neg_mul (z:=dt D (rl t z)) hf;have p2:=bT (z:=dt D (rl t z)) hf;have p3:=neg_mul (z:=dt D (rl (cH f t) z)) hf;have p4:=bT (z:=dt D (rl (cH f t) z)) hf;have p5:=bT (z:=dt D (rl f z)) ht;have p6:=bT (z:=dt D (rl f z)) hf;have e3:(f.2.2+t.2.2)*dt D (rl f z)=f.2.2*dt D (rl f z)+t.2.2*dt D (rl f z):=by grind
 have p7:=neg_mul (z:=dt D (rl f z)) hf;have p8:=neg_mul (z:=dt D (rl f z)) ht;rcases k with k|k
 .left;omega
 .right;omega
theorem PY{f t:N3}(hf:0<f.2.2)(ht:0<t.2.2)(hr:bz (wv f t))(hS:lX f t (wv f t) u v)(hn:¬(lam (wv f t) f u=0/\lam (wv f t) f v=0)):on (rl (cH f t) u) (rl (cH f t) v)=false:=by
 have hq:0<(cH f t).2.2:=by show 0<f.2.2+t.2.2;omega
 have b1:=Kj hr;obtain⟨k1,k2⟩:=Dr hf ht hq hS b1 (PN hr);have su:=qH hf hq b1 u;have sv:=qH hf hq b1 v;cases h:on (rl (cH f t) u) (rl (cH f t) v)
 .rfl
 .exfalso;obtain⟨h1,h2⟩:=(jX _ _).1 h;have c1:=yU (D:=wv f t) h1;have c2:=Kk (D:=wv f t) h1;have c3:=yU (D:=wv f t) (tP h1);have c4:=Kk (D:=wv f t) (tP h1);rw[jI] at c3 c4;unfold lam at*;rcases gf (cr (wv f t) (rl (cH f t) u)) 0 with x|x|x
  .exact k1 aa ((c1 x).1 h2) (by have:=(c1 x).1 h2;omega) h1
  .rcases gf (cr (wv f t) (rl (cH f t) v)) 0 with y|y|y
   .exact k2 aa aa aa h1
   .exact hn ⟨aa,aa⟩
   .exact k1 aa aa aa h1
  .exact k2 ((c2 x).1 h2) aa (by have:=(c2 x).1 h2;omega) h1
theorem Ko(ho:on r s=true)(hk:cr s D=0)(hs:s≠(0,0)):cr D r=0/\cr D s=0:=by
 have h1:=((jX _ _).1 ho).1;have e1:cr D s=0:=tP hk;have e:=wY (D:=D) (tP h1);rw[e1] at e;have p:=dP (z:=cr D r) (dC hs);rw[gF] at p;exact⟨p.1 aa,e1⟩
theorem uZ(r s:Pt):on r s=on s r:=by
 unfold on;rw[dh r s,jI];congr 1;exact decide_eq_decide.2 aa
theorem dm(z w:Pt):bg z w=true↔cr z w=0/\0<dt z w:=by unfold bg;simp
theorem tS{f t:N3}(hf:0<f.2.2)(ht:0<t.2.2)(hr:bz (wv f t))(z:Pt):lam (wv f t) t z=0↔lam (wv f t) f z=0:=by
 have:=qH hf ht (AX hr) z;omega
theorem Dw{f t:N3}(hf:0<f.2.2)(ht:0<t.2.2)(hr:bz (wv f t))(z:Pt):lam (wv f t) (cH f t) z=0↔lam (wv f t) f z=0:=by
 have:=qH hf (show 0<(cH f t).2.2 by show 0<f.2.2+t.2.2;omega) (Kj hr) z
 omega
theorem Xb{f t:N3}(hf:0<f.2.2)(ht:0<t.2.2)(hr:bz (wv f t))(hS:lX f t (wv f t) u v)(hu:oY f t (wv f t) u)(hv:oY f t (wv f t) v):
  fb (cH f t) (wv f t) u v=arm (λz=>bg z (wv f t)) f u v/\fb (cH f t) (wv f t) u v= -arm (λz=>bg z (neg (wv f t))) t u v:=by
 have hq:0<(cH f t).2.2:=by show 0<f.2.2+t.2.2;omega
 have hD:=mR hr;by_cases hn:lam (wv f t) f u=0/\lam (wv f t) f v=0
 .obtain⟨l1,l2⟩:=hn;have pu:=place hf ht hr hu l1;have pv:=place hf ht hr hv l2;have m1:=(Dw hf ht hr u).2 l1;have m2:=(Dw hf ht hr v).2 l2;have t1:=(tS hf ht hr u).2 l1;have t2:=(tS hf ht hr v).2 l2;have PZ:(cH f t).2.2*((wv f t).1*(v.1-u.1)+(wv f t).2*(v.2-u.2))=dt (wv f t) (rl (cH f t) v)-dt (wv f t) (rl (cH f t) u):=by
   unfold dt rl rel
   grind
  have s1:=bT (z:=(wv f t).1*(v.1-u.1)+(wv f t).2*(v.2-u.2)) hq;have s2:=neg_mul (z:=(wv f t).1*(v.1-u.1)+(wv f t).2*(v.2-u.2)) hq;rw[PZ] at s1 s2;have oq:=tR hD m1 m2;have of:=tR hD l1 l2;have ot:=tR hD t1 t2;have ku:=dm (rl f u) (wv f t);have kv:=dm (rl f v) (wv f t);have tu:=dm (rl t u) (neg (wv f t));have tv:=dm (rl t v) (neg (wv f t));rw[fG,kI] at tu tv;rw[jI] at ku kv;rw[jI (rl t u)] at tu;rw[jI (rl t v)] at tv;have c1:cr (rl f u) (wv f t)=0:=tP l1;have c2:cr (rl f v) (wv f t)=0:=tP l2;have c3:cr (rl t u) (wv f t)=0:=tP t1;have c4:cr (rl t v) (wv f t)=0:=tP t2;unfold fb arm;dsimp only;generalize wv f t=D at*;rcases pu with⟨x1,x2,x3⟩|⟨x1,x2,x3⟩<;>rcases pv with⟨y1,y2,y3⟩|⟨y1,y2,y3⟩
  .have o1:on (rl (cH f t) u) (rl (cH f t) v)=false:=by
    cases h:on (rl (cH f t) u) (rl (cH f t) v);rfl;exact absurd (oq.1 h) (yX x2 y2)
   have o2:on (rl t u) (rl t v)=false:=by
    cases h:on (rl t u) (rl t v);rfl;exact absurd (ot.1 h) (yX x3 y3)
   have b1:bg (rl f u) D=false:=by cases h:bg (rl f u) D;rfl;have:=ku.1 h;omega
   have b2:bg (rl f v) D=false:=by cases h:bg (rl f v) D;rfl;have:=kv.1 h;omega
   rw[o1,o2,b1,b2];simp
  .have o1:=oq.2 (uY (fA x2) (fA y2));have o2:=of.2 (uY x1 (fA y1));have o3:=ot.2 (uY (fA x3) y3);have b1:bg (rl f u) D=false:=by cases h:bg (rl f u) D;rfl;have:=ku.1 h;omega
   have b2:bg (rl f v) D=true:=kv.2 ⟨c2,y1⟩;have b3:bg (rl t u) (neg D)=true:=tu.2 ⟨aa,aa⟩
   have b4:bg (rl t v) (neg D)=false:=by cases h:bg (rl t v) (neg D);rfl;have:=tv.1 h;omega
   have sg:(D.1*(v.1-u.1)+D.2*(v.2-u.2)).sign=1:=nV aa
   rw[o1,o2,o3,b1,b2,b3,b4,sg];decide
  .have o1:=oq.2 (Kn (fA x2) (fA y2));have o2:=of.2 (Kn (fA x1) y1);have o3:=ot.2 (Kn x3 (fA y3));have b1:bg (rl f u) D=true:=ku.2 ⟨c1,x1⟩;have b2:bg (rl f v) D=false:=by cases h:bg (rl f v) D;rfl;have:=kv.1 h;omega
   have b3:bg (rl t u) (neg D)=false:=by cases h:bg (rl t u) (neg D);rfl;have:=tu.1 h;omega
   have b4:bg (rl t v) (neg D)=true:=tv.2 ⟨aa,aa⟩
   have sg:(D.1*(v.1-u.1)+D.2*(v.2-u.2)).sign= -1:=yI aa
   rw[o1,o2,o3,b1,b2,b3,b4,sg];decide
  .have o1:on (rl (cH f t) u) (rl (cH f t) v)=false:=by
    cases h:on (rl (cH f t) u) (rl (cH f t) v);rfl;exact absurd (oq.1 h) (AY x2 y2)
   have o2:on (rl f u) (rl f v)=false:=by
    cases h:on (rl f u) (rl f v);rfl;exact absurd (of.1 h) (AY x1 y1)
   have b3:bg (rl t u) (neg D)=false:=by cases h:bg (rl t u) (neg D);rfl;have:=tu.1 h;omega
   have b4:bg (rl t v) (neg D)=false:=by cases h:bg (rl t v) (neg D);rfl;have:=tv.1 h;omega
   rw[o1,o2,b3,b4];simp
 .have o1:=PY hf ht hr hS hn;have zf:arm (λz=>bg z (wv f t)) f u v=0:=by
   unfold arm;dsimp only;cases ho:on (rl f u) (rl f v)
   .rfl
   .have b1:bg (rl f u) (wv f t)=false:=by
     cases h:bg (rl f u) (wv f t)
     .rfl
     .exfalso;obtain⟨k1,k2⟩:=(dm _ _).1 h;have:=Ko (by rw[uZ];exact ho) k1 (wX (D:=wv f t) (by rw[jI];omega))
      exact hn ⟨this.2,this.1⟩
    have b2:bg (rl f v) (wv f t)=false:=by
     cases h:bg (rl f v) (wv f t)
     .rfl
     .exfalso;obtain⟨k1,k2⟩:=(dm _ _).1 h;have:=Ko ho k1 (wX (D:=wv f t) (by rw[jI];omega))
      exact hn ⟨this.1,this.2⟩
    rw[b1,b2];simp
  have zt:arm (λz=>bg z (neg (wv f t))) t u v=0:=by
   have hn':¬(lam (wv f t) t u=0/\lam (wv f t) t v=0):=by rw[tS hf ht hr,tS hf ht hr];exact hn
   unfold arm;dsimp only;cases ho:on (rl t u) (rl t v)
   .rfl
   .have b1:bg (rl t u) (neg (wv f t))=false:=by
     cases h:bg (rl t u) (neg (wv f t))
     .rfl
     .exfalso;obtain⟨k1,k2⟩:=(dm _ _).1 h;rw[fG] at k1;rw[kI] at k2;have:=Ko (D:=wv f t) (by rw[uZ];exact ho) aa (wX (D:=wv f t) (by rw[jI];omega))
      exact hn' ⟨this.2,this.1⟩
    have b2:bg (rl t v) (neg (wv f t))=false:=by
     cases h:bg (rl t v) (neg (wv f t))
     .rfl
     .exfalso;obtain⟨k1,k2⟩:=(dm _ _).1 h;rw[fG] at k1;rw[kI] at k2;have:=Ko (D:=wv f t) ho aa (wX (D:=wv f t) (by rw[jI];omega))
      exact hn' ⟨this.1,this.2⟩
    rw[b1,b2];simp
  rw[zf,zt];unfold fb;rw[o1];simp
structure wZ(es:List (Pt×Pt))(f t:N3):Prop where
 pf:0<f.2.2
 pt:0<t.2.2
 r:bz (wv f t)
 s:∀e∈es,lX f t (wv f t) e.1 e.2
 c:∀e∈es,oY f t (wv f t) e.1/\oY f t (wv f t) e.2
def RR(es:List (Pt×Pt))(f t:N3):Int:=PP es (cH f t)
def LL(es:List (Pt×Pt))(f t:N3):Int:=PP es (cH f t)+total (fb (cH f t) (wv f t)) es
theorem yY{f t:N3}(h:wZ (aT rg) f t):RR (aT rg) f t=eO (aT rg) f (wv f t)/\LL (aT rg) f t=fV (aT rg) f (wv f t):=by
 have h1:=ahS h.pf h.pt h.r h.s;have h2:total (fb (cH f t) (wv f t)) (aT rg)=AS (aT rg) f (λz=>bg z (wv f t)):=qI λe he=>(Xb h.pf h.pt h.r (h.s e he) (h.c e he).1 (h.c e he).2).1
 have h3:AS (aT rg) f (λz=>nz z&&bf z (wv f t))=AS (aT rg) f (λz=>bf z (wv f t)):=Km λe _ _=>⟨Xa h.r,Xa h.r⟩
 unfold RR LL eO fV eO;rw[h2,h3];omega
theorem F9{f t:N3}(h:wZ (aT rg) f t):RR (aT rg) f t=fV (aT rg) t (neg (wv f t))/\LL (aT rg) f t=eO (aT rg) t (neg (wv f t)):=by
 have h1:=ahT h.pf h.pt h.r h.s;have h2:total (fb (cH f t) (wv f t)) (aT rg)= -AS (aT rg) t (λz=>bg z (neg (wv f t))):=by
  unfold AS;rw[<-PU];exact qI λe he=>(Xb h.pf h.pt h.r (h.s e he) (h.c e he).1 (h.c e he).2).2
 have h3:=ahV (rg:=rg) (n:=t) h.r;unfold RR LL fV eO;rw[h2];omega
theorem ahW(x y z:Pt):cr x z*y.1=cr x y*z.1+cr y z*x.1:=by unfold cr;grind
theorem Dx(h:bz x):0<=x.1:=by rcases h with h|⟨h,_⟩<;>omega
theorem Xc(hx:bz x)(hy:bz y)(h:0<cr x y):0<x.1:=by
 rcases hx with h1|⟨h1,h2⟩
 .exact h1
 .exfalso;have:=jF (fA h2) (Dx hy);unfold cr at h;rw[h1] at h;omega
theorem Kq(hx:bz x)(hy:bz y)(hz:bz z):(0<cr x y->0<=cr y z->0<cr x z)/\(0<=cr x y->0<cr y z->0<cr x z)/\(cr x y=0->cr y z=0->cr x z=0):=by
 have e:=ahW x y z;have px:=Dx hx;have py:=Dx hy;have pz:=Dx hz;refine⟨λh1 h2=>?_,λh1 h2=>?_,λh1 h2=>?_⟩
 .have p1:=Xc hx hy h1;rcases hy with q|⟨q,q'⟩
  .rcases hz with r|⟨r,r'⟩
   .have k1:=bJ h1 r;have k2:=jF h2 px;have k:=bT (z:=cr x z) q;rw[gF] at k;omega
   .have:0<x.1*z.2:=bJ p1 r';unfold cr;rw[r];omega
  ·
   have h3:0<=y.1*z.2-y.2*z.1:=h2;rw[q] at h3;have hz1:z.1=0:=by
    rcases gf z.1 0 with h|h|h
    .omega
    .exact h
    .have:=bJ q' h;omega
   rcases hz with r|⟨r,r'⟩
   .omega
   .have:0<x.1*z.2:=bJ p1 r';unfold cr;rw[r];omega
 .have p1:=Xc hy hz h2;have p2:0<x.1:=by
   rcases hx with q|⟨q,q'⟩
   .exact q
   .exfalso;have:0<x.2*y.1:=bJ q' p1;unfold cr at h1;rw[q] at h1;omega
  have k1:=jF h1 pz;have k2:=bJ h2 p2;have k:=bT (z:=cr x z) p1;rw[gF] at k;omega
 .rw[h1,h2] at e;rcases hy with q|⟨q,q'⟩
  .have k:=dP (z:=cr x z) q;rw[gF] at k;omega
  .unfold cr at h1 h2⊢;rw[q] at h1 h2;have a1:=dP (z:=x.1) q';have a2:=dP (z:=z.1) q';have b1:x.1=0:=a1.1 (by rw[gF];omega)
   have b2:z.1=0:=a2.1 aa
   rw[b1,b2];omega
theorem mS{w:Pt}:bf z w=true↔(bz z/\¬bz w)\/((bz z↔bz w)/\0<cr z w):=by
 have h1:=yV z;have h2:=yV w;unfold bf;cases h3:jm z<;>cases h4:jm w<;>rw[h3] at h1<;>rw[h4] at h2<;>simp at h1 h2⊢ <;>simp[h1,h2]
theorem iY(hx:x≠(0,0))(hy:y≠(0,0))(hz:z≠(0,0))(h1:bf x y=true)(h2:bf y z=true):bf x z=true:=by
 rw[mS] at*;by_cases rx:bz x<;>by_cases ry:bz y<;>by_cases rz:bz z
 .have:=Kq rx ry rz;simp only[rx,ry,rz,yJ,Ar,wL,tF] at*;exact this.1 h1 (fA h2)
 .exact aS ⟨rx,rz⟩
 .simp only[rx,ry,rz,yJ,Ar,tF,Au,wM,FH,true_iff,Av] at*
 .exact aS ⟨rx,rz⟩
 .simp[rx,ry] at h1
 .simp[rx,ry] at h1
 .simp[ry,rz] at h2
 .have:=Kq (ie hx rx) (ie hy ry) (ie hz rz);simp only[fU,fG,Int.neg_neg] at this;simp only[rx,ry,rz,wM,wL,tF] at*;exact this.1 h1 (fA h2)
theorem tT(x:Pt):bf x x=false:=by
 have:cr x x=0:=by unfold cr;grind
 unfold bf;rw[this];simp
theorem Kr(hx:x≠(0,0))(hy:y≠(0,0))(h:bf x y=true):bf y x=false:=by
 cases h1:bf y x
 .rfl
 .have:=iY hx hy hx h h1;rw[tT] at this;cases this
def arms(es:List (Pt×Pt))(n:N3):List Pt:=((es.filter λe=>on (rl n e.1) (rl n e.2)).flatMap λe=>[rl n e.1,rl n e.2]).filter nz
theorem lY{n:N3}:z∈arms es n↔z≠(0,0)/\∃e∈es,on (rl n e.1) (rl n e.2)=true/\(z=rl n e.1\/z=rl n e.2):=by
 unfold arms;rw[jr,oW];constructor
 .rintro⟨⟨e,he,hz⟩,hn⟩;obtain⟨h1,h2⟩:=jr.1 he;exact⟨ia hn,e,h1,h2,by simpa using hz⟩
 .rintro⟨hn,e,he,ho,hz⟩;exact⟨⟨e,jr.2 ⟨he,ho⟩,by simpa using hz⟩,iD hn⟩
theorem Dy{n:N3}{Q Q':Pt->Bool}(h0:Q (0,0)=Q' (0,0))(h:∀z∈arms es n,Q z=Q' z):AS es n Q=AS es n Q':=by
 refine Km λe he ho=>?_
 have key:∀z,z=rl n e.1\/z=rl n e.2->Q z=Q' z:=λz hz=>by
  by_cases hn:z=(0,0)
  .rw[hn];exact h0
  .exact h z (lY.2 ⟨hn,e,he,ho,hz⟩)
 exact⟨key _ (aS rfl),key _ (aR rfl)⟩
theorem Qa(es:List (Pt×Pt))(n:N3):AS es n (λ_=>false)=0:=yT λe _=>by unfold arm;split<;>rfl
theorem AZ{α:Type}{p q:α->Bool}:∀(l:List α),(∀x∈l,q x=true->p x=true)->(∃x∈l,p x=true/\q x=false)->l.countP q<l.countP p
 |[],_,h=>by obtain⟨x,hx,_⟩:=h;simp at hx
 |a::l,h1,h2=>by
  obtain⟨x,hx,hp,hq⟩:=h2;have hle:l.countP q<=l.countP p:=ati λy hy=>h1 y (bV _ hy)
  rcases bU.1 hx with e|hx
  .subst e;rw[atj hp,atk (by simp[hq])]
   omega
  .have ih:=AZ l (λy hy=>h1 y (bV _ hy)) ⟨x,hx,hp,hq⟩
   rw[V9,V9];by_cases ha:q a=true
   .rw[aV ha,aV (h1 a af ha)];omega
   .rw[aP ha];omega
def oa(d d' z:Pt):Bool:=bf d z&&bf z d'
theorem Qb{n:N3}(hd:d≠(0,0))(hd':d'≠(0,0))(h:bf d d'=true)(hb:∀z∈arms es n,oa d d' z=false):fV es n d=eO es n d':=by
 have e:AS es n (λz=>nz z&&bf z d')=AS es n (λz=>nz z&&bf z d)+AS es n (λz=>bg z d):=by
  have e1:AS es n (λz=>nz z&&bf z d')=AS es n (λz=>nz z&&(bf z d||bg z d)):=Dy rfl λz hz=>by
   have gH:=(lY.1 hz).1;have hzb:=hb z hz;have:nz z=true:=iD gH;rw[this,FI,FI];have k:=jx gH hd;unfold oa at hzb;cases h1:bf z d'
   .have h2:bf z d=false:=by
     cases h2:bf z d
     .rfl
     .have:=iY gH hd hd' h2 h;rw[h1] at this;cases this
    have h3:bg z d=false:=by
     cases h3:bg z d
     .rfl
     .exfalso;obtain⟨s1,s2⟩:=(dm z d).1 h3;have k2:=jx gH hd';rw[h1] at k2;have h4:bf d' z=true\/bg z d'=true:=by
       revert k2;cases bg z d'<;>cases bf d' z<;>decide
      rcases h4 with h4|h4
      .have:=iY hd hd' gH h h4;rw[this,h3,h2] at k;revert k;decide
      ·
       obtain⟨t1,t2⟩:=(dm z d').1 h4;have p1:cr d z=0:=by rw[dh];omega
       have hdd:cr d d'=0:=by
        have:=wY (D:=d) t1;rw[p1] at this;have q:=dP (z:=cr d d') (dC gH);rw[gF] at q;exact q.1 aa
       have hpos:0<dt d d':=by
        have e2:dt d d'*dt z z=dt z d*dt z d'+cr z d*cr z d':=by unfold dt cr;grind
        rw[s1] at e2;have:=bJ s2 t2;have q:=bT (z:=dt d d') (dC gH);rw[gF] at q;exact q.1 aa
       have k3:=jx hd hd';have h5:bg d d'=true:=(dm _ _).2 ⟨hdd,hpos⟩;rw[h,h5] at k3;revert k3;cases bf d' d<;>decide
    rw[h2,h3];rfl
   .rw[h1,Bool.and_true] at hzb;rw[hzb] at k;revert k;cases bf z d<;>cases bg z d<;>decide
  have e2:AS es n (λz=>nz z&&(bf z d||bg z d))=AS es n (λz=>nz z&&bf z d)+AS es n (λz=>bg z d):=by
   refine F8 λz=>?_
   by_cases hz:z=(0,0)
   .rw[hz,Du];rfl
   .have k:=jx hz hd;have:nz z=true:=iD hz;rw[this];revert k;cases bf z d<;>cases bg z d<;>cases bf d z<;>decide
  rw[e1,e2]
 unfold fV eO;omega
theorem Dz:oa d d' z=true↔bf d z=true/\bf z d'=true:=by unfold oa;simp
structure Ba(es:List (Pt×Pt))(n:N3)(bw:Int->Bool)(z:Pt):Prop where
 mem:z∈arms es n
 out:bw (eO es n z)=false
 bw:bw (fV es n z)=true
theorem Ks{n:N3}{bw:Int->Bool}:∀(m:Nat)(d d':Pt),d≠(0,0)->d'≠(0,0)->bf d d'=true->(arms es n).countP (oa d d')<=m->bw (fV es n d)=false->bw (eO es n d')=true->∃z,Ba es n bw z/\bf d z=true/\bf z d'=true:=by
 intro m;induction m with
 |zero=>
  intro d d' hd hd' h hc h1 h2;exfalso;rw[Qb hd hd' h λz hz=>by
   cases hk:oa d d' z
   .rfl
   .have:=O9.2 ⟨z,hz,hk⟩;omega] at h1
  rw[h1] at h2;cases h2
 |succ m ih=>
  intro d d' hd hd' h hc h1 h2;by_cases hb:∀z∈arms es n,oa d d' z=false
  .exfalso;rw[Qb hd hd' h hb] at h1;rw[h1] at h2;cases h2
  .have hb':∃z,z∈arms es n/\oa d d' z=true:=by
    apply iV;intro hk;apply hb;intro z hz;cases hk':oa d d' z
    .rfl
    .exact absurd ⟨z,hz,hk'⟩ hk
   obtain⟨z,hz,hk⟩:=hb';have gH:=(lY.1 hz).1;obtain⟨k1,k2⟩:=Dz.1 hk;cases hbz:bw (eO es n z)
   .cases fB:bw (fV es n z)
    .have hlt:(arms es n).countP (oa z d')<(arms es n).countP (oa d d'):=AZ _ (λx hx Bb=>by
      obtain⟨x1,x2⟩:=Dz.1 Bb;exact Dz.2 ⟨iY hd gH (lY.1 hx).1 k1 x1,x2⟩) ⟨z,hz,hk,by unfold oa;rw[tT];rfl⟩
     obtain⟨y,hy,y1,y2⟩:=ih z d' gH hd' k2 aa fB h2
     exact⟨y,hy,iY hd gH (lY.1 hy.mem).1 k1 y1,y2⟩
    .exact⟨z,⟨hz,hbz,fB⟩,k1,k2⟩
   .have hlt:(arms es n).countP (oa d z)<(arms es n).countP (oa d d'):=AZ _ (λx hx Bb=>by
      obtain⟨x1,x2⟩:=Dz.1 Bb;exact Dz.2 ⟨x1,iY (lY.1 hx).1 gH hd' x2 k2⟩) ⟨z,hz,hk,by unfold oa;rw[tT];simp⟩
    obtain⟨y,hy,y1,y2⟩:=ih d z hd gH k1 aa h1 hbz
    exact⟨y,hy,y1,iY (lY.1 hy.mem).1 gH hd' y2 k2⟩
theorem Qc{n:N3}{bw:Int->Bool}:∀(m:Nat)(d':Pt),d'≠(0,0)->(arms es n).countP (λz=>bf z d')<=m->bw (PP es n)=false->bw (eO es n d')=true->∃z,Ba es n bw z/\bf z d'=true:=by
 have h0:∀d',(∀z∈arms es n,bf z d'=false)->eO es n d'=PP es n:=λd' h=>by
  have e:AS es n (λz=>nz z&&bf z d')=AS es n (λ_=>false):=Dy (by unfold nz;simp) λz hz=>by rw[h z hz];simp
  unfold eO;rw[e,Qa];omega
 intro m;induction m with
 |zero=>
  intro d' hd' hc h1 h2;exfalso;rw[h0 d' λz hz=>by
   cases hk:bf z d'
   .rfl
   .have:0<(arms es n).countP (λz=>bf z d'):=O9.2 ⟨z,hz,hk⟩
    omega,h1] at h2
  cases h2
 |succ m ih=>
  intro d' hd' hc h1 h2;by_cases hb:∀z∈arms es n,bf z d'=false
  .exfalso;rw[h0 d' hb,h1] at h2;cases h2
  .have hb':∃z,z∈arms es n/\bf z d'=true:=by
    apply iV;intro hk;apply hb;intro z hz;cases hk':bf z d'
    .rfl
    .exact absurd ⟨z,hz,hk'⟩ hk
   obtain⟨z,hz,hk⟩:=hb';have gH:=(lY.1 hz).1;cases hbz:bw (eO es n z)
   .cases fB:bw (fV es n z)
    .obtain⟨y,hy,_,y2⟩:=Ks _ z d' gH hd' hk (aY _) fB h2;exact⟨y,hy,y2⟩
    .exact⟨z,⟨hz,hbz,fB⟩,hk⟩
   .have hlt:(arms es n).countP (λx=>bf x z)<(arms es n).countP (λx=>bf x d'):=AZ _ (λx hx Bb=>iY (lY.1 hx).1 gH hd' Bb hk) ⟨z,hz,hk,tT z⟩
    obtain⟨y,hy,y2⟩:=ih z gH aa h1 hbz
    exact⟨y,hy,iY (lY.1 hy.mem).1 gH hd' y2 hk⟩
theorem Xd{n:N3}{bw:Int->Bool}:∀(m:Nat)(d:Pt),d≠(0,0)->(arms (aT rg) n).countP (λz=>bf d z)<=m->bw (fV (aT rg) n d)=false->bw (PP (aT rg) n)=true->∃z,Ba (aT rg) n bw z/\bf d z=true:=by
 have h0:∀d,d≠(0,0)->(∀z∈arms (aT rg) n,bf d z=false)->fV (aT rg) n d=PP (aT rg) n:=λd hd h=>by
  have e:AS (aT rg) n nz=AS (aT rg) n (λz=>nz z&&bf z d)+AS (aT rg) n (λz=>bg z d):=by
   have e1:AS (aT rg) n nz=AS (aT rg) n (λz=>nz z&&(bf z d||bg z d)):=Dy (by unfold nz;simp) λz hz=>by
    have gH:=(lY.1 hz).1;have k:=jx gH hd;have:nz z=true:=iD gH;rw[this];rw[h z hz] at k;revert k;cases bf z d<;>cases bg z d<;>decide
   have e2:AS (aT rg) n (λz=>nz z&&(bf z d||bg z d))=AS (aT rg) n (λz=>nz z&&bf z d)+AS (aT rg) n (λz=>bg z d):=by
    refine F8 λz=>?_
    by_cases hz:z=(0,0)
    .rw[hz,Du];rfl
    .have k:=jx hz hd;have:nz z=true:=iD hz;rw[this];revert k;cases bf z d<;>cases bg z d<;>cases bf d z<;>decide
   rw[e1,e2]
  have:=PW rg n;unfold fV eO;omega
 intro m;induction m with
 |zero=>
  intro d hd hc h1 h2;exfalso;rw[h0 d hd λz hz=>by
   cases hk:bf d z
   .rfl
   .have:0<(arms (aT rg) n).countP (λz=>bf d z):=O9.2 ⟨z,hz,hk⟩
    omega,h2] at h1
  cases h1
 |succ m ih=>
  intro d hd hc h1 h2;by_cases hb:∀z∈arms (aT rg) n,bf d z=false
  .exfalso;rw[h0 d hd hb,h2] at h1;cases h1
  .have hb':∃z,z∈arms (aT rg) n/\bf d z=true:=by
    apply iV;intro hk;apply hb;intro z hz;cases hk':bf d z
    .rfl
    .exact absurd ⟨z,hz,hk'⟩ hk
   obtain⟨z,hz,hk⟩:=hb';have gH:=(lY.1 hz).1;cases hbz:bw (eO (aT rg) n z)
   .cases fB:bw (fV (aT rg) n z)
    .have hlt:(arms (aT rg) n).countP (λx=>bf z x)<(arms (aT rg) n).countP (λx=>bf d x):=AZ _ (λx hx Bb=>iY hd gH (lY.1 hx).1 hk Bb) ⟨z,hz,hk,tT z⟩
     obtain⟨y,hy,y2⟩:=ih z gH aa fB h2
     exact⟨y,hy,iY hd gH (lY.1 hy.mem).1 hk y2⟩
    .exact⟨z,⟨hz,hbz,fB⟩,hk⟩
   .obtain⟨y,hy,y1,_⟩:=Ks _ d z hd gH hk (aY _) h1 hbz;exact⟨y,hy,y1⟩
theorem ahX{n:N3}{bw:Int->Bool}{a:Pt}(ha:a≠(0,0))(h1:bw (eO (aT rg) n a)=true)(h2:bw (fV (aT rg) n a)=false):∃z,Ba (aT rg) n bw z:=by
 cases h:bw (PP (aT rg) n)
 .obtain⟨z,hz,_⟩:=Qc _ a ha (aY _) h h1;exact⟨z,hz⟩
 .obtain⟨z,hz,_⟩:=Xd _ a ha (aY _) h2 h;exact⟨z,hz⟩
def cw(a l l':Pt):Bool:=(bf l a&&bf l' a&&bf l' l)||(bf l a&&bf a l')||(bf a l&&bf a l'&&bf l' l)
theorem oc{a:Pt}:cw a l l'=true↔(bf l a=true/\bf l' a=true/\bf l' l=true)\/(bf l a=true/\bf a l'=true)\/(bf a l=true/\bf a l'=true/\bf l' l=true):=by
 unfold cw;simp only[agV,tH];constructor
 .rintro((⟨⟨a,b⟩,c⟩|⟨a,b⟩)|⟨⟨a,b⟩,c⟩)
  .exact aS ⟨a,b,c⟩
  .exact aR (aS ⟨a,b⟩)
  .exact aR (aR ⟨a,b,c⟩)
 .rintro(⟨a,b,c⟩|⟨a,b⟩|⟨a,b,c⟩)
  .exact aS (aS ⟨⟨a,b⟩,c⟩)
  .exact aS (aR ⟨a,b⟩)
  .exact aR ⟨⟨a,b⟩,c⟩
theorem Xe{n:N3}{bw:Int->Bool}{a a':Pt}(ha:a≠(0,0))(ha':a'≠(0,0))(hne:bg a a'=false)
  (h1:bw (eO (aT rg) n a)=true)(h2:bw (fV (aT rg) n a)=false)(h1':bw (eO (aT rg) n a')=true)(h2':bw (fV (aT rg) n a')=false)
  (Gc:l≠(0,0))(lJ:bg l a=false)(Ku:bg l a'=false):∃z,Ba (aT rg) n bw z/\(cw a z l=true\/cw a' z l=true):=by
 have key:∀{a a':Pt},a≠(0,0)->a'≠(0,0)->bf a a'=true->bw (eO (aT rg) n a)=true->bw (fV (aT rg) n a)=false->bw (eO (aT rg) n a')=true->bw (fV (aT rg) n a')=false->bg l a=false->bg l a'=false->∃z,Ba (aT rg) n bw z/\(cw a z l=true\/cw a' z l=true):=by
  intro a a' ha ha' hlt h1 h2 h1' h2' lJ Ku;have t1:=jx Gc ha;have t2:=jx Gc ha';rw[lJ] at t1;rw[Ku] at t2;cases p:bf l a
  .rw[p] at t1;have q:bf a l=true:=by revert t1;cases bf a l<;>decide
   cases r:bf l a'
   .rw[r] at t2;have q':bf a' l=true:=by revert t2;cases bf a' l<;>decide
    obtain⟨z,hz,z1,z2⟩:=Ks _ a a' ha ha' hlt (aY _) h2 h1';exact⟨z,hz,aR (oc.2 (aR (aS ⟨z2,q'⟩)))⟩
   ·
    cases hp:bw (PP (aT rg) n)
    .obtain⟨z,hz,z1⟩:=Qc _ a ha (aY _) hp h1;exact⟨z,hz,aS (oc.2 (aR (aS ⟨z1,q⟩)))⟩
    .obtain⟨z,hz,z1⟩:=Xd _ a' ha' (aY _) h2' hp;have gH:=(lY.1 hz.mem).1;exact⟨z,hz,aS (oc.2 (aR (aR ⟨iY ha ha' gH hlt z1,q,iY Gc ha' gH r z1⟩)))⟩
  ·
   obtain⟨z,hz,z1,z2⟩:=Ks _ a a' ha ha' hlt (aY _) h2 h1';have gH:=(lY.1 hz.mem).1;exact⟨z,hz,aR (oc.2 (aS ⟨z2,iY Gc ha ha' p hlt,iY Gc ha gH p z1⟩))⟩
 have t:=jx ha ha';rw[hne] at t;cases p:bf a a'
 .rw[p] at t;have q:bf a' a=true:=by revert t;cases bf a' a<;>decide
  obtain⟨z,hz,k⟩:=key ha' ha q h1' h2' h1 h2 Ku lJ;exact⟨z,hz,k.symm⟩
 .exact key ha ha' p h1 h2 h1' h2' lJ Ku
def Tri(P Q R:Int):Prop:=
 (0<P->0<=Q->0<R)/\(0<=P->0<Q->0<R)/\(P=0->Q=0->R=0)/\(P<0->Q<=0->R<0)/\(P<=0->Q<0->R<0)
theorem yZ{p q:Pt}(hp:bz p)(hq:bz q)(hr:bz r):Tri (cr p q) (cr q r) (cr p r):=by
 have a1:=Kq hp hq hr;have a2:=Kq hr hq hp;rw[dh p r,dh q r,dh p q] at a2;refine⟨a1.1,a1.2.1,a1.2.2,λh1 h2=>?_,λh1 h2=>?_⟩
 .have:=a2.2.1 aa aa;omega
 .have:=a2.1 aa aa;omega
def tC(u l l':Pt):Int:=if((cr u l').sign-(cr u l).sign).sign=0 then(cr l l').sign else((cr u l').sign-(cr u l).sign).sign
theorem sg(z:Int):(z<0/\z.sign= -1)\/(z=0/\z.sign=0)\/(0<z/\z.sign=1):=by
 rcases gf z 0 with h|h|h
 .exact aS ⟨h,yI h⟩
 .exact aR (aS ⟨h,by rw[h];rfl⟩)
 .exact aR (aR ⟨h,nV h⟩)
theorem ahZ(u l l':Pt):tC u l l'<0↔(cr u l').sign<(cr u l).sign\/((cr u l').sign=(cr u l).sign/\cr l l'<0):=by
 unfold tC;have h1:=sg ((cr u l').sign-(cr u l).sign);have h2:=sg (cr l l');split<;>omega
theorem Qd{w:Pt}(h:bg z w=false)(hc:cr z w=0):dt z w<=0:=by
 apply FE.1;intro h';rw[(dm z w).2 ⟨hc,h'⟩] at h;cases h
theorem Gf{a:Pt}(ha:a≠(0,0))(hl:l≠(0,0))(hl':l'≠(0,0))(hs:bg l a=false)(hs':bg l' a=false):tC (neg a) l l'<0↔cw a l l'=true:=by
 rw[ahZ,oc];have n1:=Qd hs;have n2:=Qd hs';rw[mS,mS,mS,mS,mS];have e1:cr (neg a) l= -cr a l:=fU a l;have e2:cr (neg a) l'= -cr a l':=fU a l';have s1:=sg (cr (neg a) l);have s2:=sg (cr (neg a) l');rw[e1] at s1⊢;rw[e2] at s2⊢;have w1:=dh a l;have w2:=dh a l';have w3:=dh l l';rw[w1] at n1⊢;rw[w2] at n2⊢;rw[w3];by_cases ra:bz a<;>by_cases rl:bz l<;>by_cases rl':bz l'
 .have t:=yZ ra rl rl';have d1:=mD rl ra;have d2:=mD rl' ra;rw[w1] at d1;rw[w2] at d2;obtain⟨t1,t2,t3,t4,t5⟩:=t;simp only[ra,rl,rl',yJ,Ar,tF,wL,iff_self];rcases s1 with⟨s1,r1⟩|⟨s1,r1⟩|⟨s1,r1⟩<;>rcases s2 with⟨s2,r2⟩|⟨s2,r2⟩|⟨s2,r2⟩<;>rw[r1,r2]<;>omega
 .have t:=yZ ra rl (ie hl' rl');have d1:=mD rl ra;rw[w1] at d1;rw[fG,fG] at t;obtain⟨t1,t2,t3,t4,t5⟩:=t;simp only[ra,rl,rl',yJ,Au,Ar,wM,wN,tF,wL,Av,FH,JX,iff_self];rcases s1 with⟨s1,r1⟩|⟨s1,r1⟩|⟨s1,r1⟩<;>rcases s2 with⟨s2,r2⟩|⟨s2,r2⟩|⟨s2,r2⟩<;>rw[r1,r2]<;>omega
 .have t:=yZ ra (ie hl rl) rl';have d2:=mD rl' ra;rw[w2] at d2;rw[fG,fU] at t;obtain⟨t1,t2,t3,t4,t5⟩:=t;simp only[ra,rl,rl',yJ,Au,Ar,wM,wN,tF,wL,Av,FH,JX,iff_self];rcases s1 with⟨s1,r1⟩|⟨s1,r1⟩|⟨s1,r1⟩<;>rcases s2 with⟨s2,r2⟩|⟨s2,r2⟩|⟨s2,r2⟩<;>rw[r1,r2]<;>omega
 .have t:=yZ ra (ie hl rl) (ie hl' rl');rw[fG,fU,fG,fG] at t;obtain⟨t1,t2,t3,t4,t5⟩:=t;simp only[ra,rl,rl',yJ,Au,Ar,wM,wN,tF,wL,Av,FH,JX,iff_self];rcases s1 with⟨s1,r1⟩|⟨s1,r1⟩|⟨s1,r1⟩<;>rcases s2 with⟨s2,r2⟩|⟨s2,r2⟩|⟨s2,r2⟩<;>rw[r1,r2]<;>omega
 .have t:=yZ (ie ha ra) rl rl';rw[fU,fU] at t;obtain⟨t1,t2,t3,t4,t5⟩:=t;simp only[ra,rl,rl',yJ,Au,Ar,wM,wN,tF,wL,Av,FH,JX,iff_self];rcases s1 with⟨s1,r1⟩|⟨s1,r1⟩|⟨s1,r1⟩<;>rcases s2 with⟨s2,r2⟩|⟨s2,r2⟩|⟨s2,r2⟩<;>rw[r1,r2]<;>omega
 .have t:=yZ (ie ha ra) rl (ie hl' rl');have d2:=mD (ie hl' rl') (ie ha ra);rw[fU,fG,w2,pV,kI] at d2;rw[fU,fG,fU,fG] at t;obtain⟨t1,t2,t3,t4,t5⟩:=t;simp only[ra,rl,rl',yJ,Au,Ar,wM,wN,tF,wL,Av,FH,JX,iff_self];rcases s1 with⟨s1,r1⟩|⟨s1,r1⟩|⟨s1,r1⟩<;>rcases s2 with⟨s2,r2⟩|⟨s2,r2⟩|⟨s2,r2⟩<;>rw[r1,r2]<;>omega
 .have t:=yZ (ie ha ra) (ie hl rl) rl';have d1:=mD (ie hl rl) (ie ha ra);rw[fU,fG,w1,pV,kI] at d1;rw[fU,fG,fU,fU] at t;obtain⟨t1,t2,t3,t4,t5⟩:=t;simp only[ra,rl,rl',yJ,Au,Ar,wM,wN,tF,wL,Av,FH,JX,iff_self];rcases s1 with⟨s1,r1⟩|⟨s1,r1⟩|⟨s1,r1⟩<;>rcases s2 with⟨s2,r2⟩|⟨s2,r2⟩|⟨s2,r2⟩<;>rw[r1,r2]<;>omega
 .have t:=yZ (ie ha ra) (ie hl rl) (ie hl' rl');have d1:=mD (ie hl rl) (ie ha ra);rw[fU,fG,w1,pV,kI] at d1;have d2:=mD (ie hl' rl') (ie ha ra);rw[fU,fG,w2,pV,kI] at d2;rw[fU,fG,fU,fG,fU,fG] at t;obtain⟨t1,t2,t3,t4,t5⟩:=t;simp only[ra,rl,rl',Au,wN,tF,wL,iff_self];rcases s1 with⟨s1,r1⟩|⟨s1,r1⟩|⟨s1,r1⟩<;>rcases s2 with⟨s2,r2⟩|⟨s2,r2⟩|⟨s2,r2⟩<;>rw[r1,r2]<;>omega
end Ga
namespace Gb
open Ge Ga
variable{b n:Pt}
abbrev Sg:=Pt×Pt
def n1(a:Pt):N3:=(a.1,a.2,1)
def dr(s:Sg):Pt:=(s.2.1-s.1.1,s.2.2-s.1.2)
def rv(s:Sg):Sg:=(s.2,s.1)
theorem eo(a z:Pt):rl (n1 a) z=dr (a,z):=by unfold rl rel n1 dr;simp
theorem oZ(a b:Pt):wv (n1 a) (n1 b)=dr (a,b):=by unfold wv n1 dr;simp
theorem rR(s:Sg):dr (rv s)=neg (dr s):=by unfold dr rv neg;exact dN (by simp only;omega) (by simp only;omega)
theorem lZ{s:Sg}:dr s=(0,0)↔s.1=s.2:=by
 unfold dr;constructor
 .intro h;have h1:=aZ Prod.fst h;have h2:=aZ Prod.snd h;simp only at h1 h2;exact dN aa aa
 .intro h;rw[h];exact dN af af
structure Pf(s u:Sg):Prop where
 fs:lX (n1 s.1) (n1 s.2) (dr s) u.1 u.2
 c1:oY (n1 s.1) (n1 s.2) (dr s) u.1
 c2:oY (n1 s.1) (n1 s.2) (dr s) u.2
theorem ah0{f t:N3}{D u v:Pt}(h:lX f t D u v):lX f t D v u:=by
 refine⟨λx y z=>?_,λx y z=>?_⟩
 .have:=h.2 x y z;rw[dh (rl f u) (rl f v),dh (rl t u) (rl t v)];omega
 .have:=h.1 x y z;rw[dh (rl f u) (rl f v),dh (rl t u) (rl t v)];omega
theorem Pf.rv{s u:Sg}(h:Pf s u):Pf s (rv u):=⟨ah0 h.fs,h.c2,h.c1⟩
structure Wd(S:List Sg)(nx:Sg->Sg):Prop where
 ne:∀s∈S,s.1≠s.2
 pf:∀s∈S,∀u∈S,(bz (dr s)->Pf s u)/\(¬bz (dr s)->Pf (rv s) u)
 Bc:∀s∈S,∀u∈S,on (dr (s.1,u.1)) (dr (s.1,u.2))=true->s.1=u.1\/s.1=u.2
 Kv:∀s∈S,∀u∈S,on (dr (s.2,u.1)) (dr (s.2,u.2))=true->s.2=u.1\/s.2=u.2
 one:∀s∈S,∀u∈S,s.1=u.1->bg (dr s) (dr u)=true->s=u
 one':∀s∈S,∀u∈S,s.2=u.2->bg (dr s) (dr u)=true->s=u
 two:∀s∈S,∀u∈S,s.1=u.2->bg (dr s) (neg (dr u))=false
 DA:∀s∈S,nx s∈S/\(nx s).1=s.2
 inj:∀s∈S,∀u∈S,nx s=nx u->s=u
 w1:∀s∈S,∀u∈S,u.1=s.2->cw (neg (dr s)) (dr u) (dr (nx s))=false
 w2:∀s∈S,∀u∈S,u.2=s.2->cw (neg (dr s)) (neg (dr u)) (dr (nx s))=false
def Cl(es:List Sg):Prop:=∃rg,aT rg=es
def In(S es:List Sg):Prop:=∀e∈es,e∈S\/rv e∈S
def Lf(es:List Sg)(s:Sg):Int:=fV es (n1 s.1) (dr s)
def Rt(es:List Sg)(s:Sg):Int:=eO es (n1 s.1) (dr s)
section
variable{S:List Sg}{nx:Sg->Sg}{es:List Sg}
theorem Wd.gw(h:Wd S nx){s:Sg}(hs:s∈S):dr s≠(0,0):=λe=>h.ne s hs (lZ.1 e)
theorem Wd.qJ(h:Wd S nx)(hi:In S es){s:Sg}(hs:s∈S):(bz (dr s)->wZ es (n1 s.1) (n1 s.2))/\(¬bz (dr s)->wZ es (n1 s.2) (n1 s.1)):=by
 refine⟨λhr=>?_,λhr=>?_⟩
 .have hp:∀e∈es,Pf s e:=λe he=>by
   rcases hi e he with k|k
   .exact(h.pf s hs e k).1 hr
   .exact((h.pf s hs _ k).1 hr).rv
  exact⟨by show(0:Int)<1;decide,by show(0:Int)<1;decide,by rw[oZ];exact hr,λe he=>by rw[oZ];exact(hp e he).fs,λe he=>by rw[oZ];exact⟨(hp e he).c1,(hp e he).c2⟩⟩
 .have hp:∀e∈es,Pf (rv s) e:=λe he=>by
   rcases hi e he with k|k
   .exact(h.pf s hs e k).2 hr
   .exact((h.pf s hs _ k).2 hr).rv
  have hr':bz (dr (rv s)):=by rw[rR];exact ie (h.gw hs) hr
  exact⟨by show(0:Int)<1;decide,by show(0:Int)<1;decide,by rw[oZ];exact hr',λe he=>by rw[oZ];exact(hp e he).fs,λe he=>by rw[oZ];exact⟨(hp e he).c1,(hp e he).c2⟩⟩
theorem Wd.at_end(h:Wd S nx)(hc:Cl es)(hi:In S es){s:Sg}(hs:s∈S):Lf es s=eO es (n1 s.2) (neg (dr s))/\Rt es s=fV es (n1 s.2) (neg (dr s)):=by
 obtain⟨h1,h2⟩:=h.qJ hi hs;obtain⟨rg,rfl⟩:=hc;by_cases hr:bz (dr s)
 .have a:=yY (h1 hr);have b:=F9 (h1 hr);rw[oZ] at a b;unfold Lf Rt;have e:dr (s.1,s.2)=dr s:=rfl;rw[e] at a b;exact⟨a.2.symm.trans b.2,a.1.symm.trans b.1⟩
 .have a:=yY (h2 hr);have b:=F9 (h2 hr);rw[oZ] at a b;have e:dr (s.2,s.1)=neg (dr s):=rR s;rw[e] at a b;rw[neg_neg] at b;unfold Lf Rt;exact⟨b.1.symm.trans a.1,b.2.symm.trans a.2⟩
theorem Wd.arm(h:Wd S nx)(hi:In S es){s:Sg}(hs:s∈S){z:Pt}(hz:z∈arms es (n1 s.2)):∃u∈S,(u.1=s.2/\z=dr u)\/(u.2=s.2/\z=neg (dr u)):=by
 obtain⟨hz0,e,he,ho,xa⟩:=lY.1 hz;rw[eo,eo] at ho xa;have key:∀u∈S,on (dr (s.2,u.1)) (dr (s.2,u.2))=true->(z=dr (s.2,u.1)\/z=dr (s.2,u.2))->∃u∈S,(u.1=s.2/\z=dr u)\/(u.2=s.2/\z=neg (dr u)):=λu hu tQ Xf=>by
  rcases h.Kv s hs u hu tQ with k|k
  .rcases Xf with q|q
   .rw[k] at q;exact absurd (q.trans (lZ.2 rfl)) hz0
   .exact⟨u,hu,aS ⟨k.symm,by rw[q,k]⟩⟩
  .rcases Xf with q|q
   .exact⟨u,hu,aR ⟨k.symm,by rw[q,k,<-rR];rfl⟩⟩
   .rw[k] at q;exact absurd (q.trans (lZ.2 rfl)) hz0
 rcases hi e he with k|k
 .exact key e k ho xa
 .exact key (rv e) k (by rw[uZ];exact ho) xa.symm
theorem ah1{n:N3}(hc:Cl es){a l:Pt}(ha:a≠(0,0))(hl:l≠(0,0))(hs:bg l a=false)(hw:∀z∈arms es n,cw a z l=false):fV es n l=eO es n a:=by
 have ht:=jx hl ha;rw[hs] at ht;by_cases lJ:bf l a=true
 .refine Qb hl ha lJ λz hz=>?_
  cases hb:oa l a z
  .rfl
  .have k:=hw z hz;obtain⟨k1,k2⟩:=Dz.1 hb;have:cw a z l=true:=oc.2 (aS ⟨k2,lJ,k1⟩);rw[this] at k;cases k
 .have hal:bf a l=true:=by
   cases hk:bf a l
   .cases hk2:bf l a
    .rw[hk,hk2] at ht;simp[bb] at ht
    .exact absurd hk2 lJ
   .rfl
  have z1:∀z∈arms es n,bf z a=false:=λz hz=>by
   cases hb:bf z a
   .rfl
   .have:cw a z l=true:=oc.2 (aR (aS ⟨hb,hal⟩));rw[hw z hz] at this;cases this
  have z2:∀z∈arms es n,bf l z=false:=λz hz=>by
   cases hb:bf l z
   .rfl
   .have:cw a z l=true:=oc.2 (aR (aR ⟨iY ha hl (lY.1 hz).1 hal hb,hal,hb⟩));rw[hw z hz] at this;cases this
  have e1:AS es n (λz=>nz z&&bf z a)=0:=by
   rw[Dy (Q':=λ_=>false) (by simp[nz]) (λz hz=>by rw[z1 z hz];simp),Qa]
  have e2:AS es n (λz=>nz z&&bf z l)+AS es n (λz=>bg z l)=0:=by
   obtain⟨rg,rfl⟩:=hc;rw[<-PW rg n,<-F8 (Q:=λz=>(nz z&&bf z l)||bg z l)]
   .refine(Dy ?_ λz hz=>?_)
    .simp[nz,Du]
    .have hz0:=(lY.1 hz).1;have t:=jx hz0 hl;rw[z2 z hz] at t;have hn:nz z=true:=by unfold nz;simpa using hz0
     rw[hn];cases h1:bf z l<;>cases h2:bg z l<;>rw[h1,h2] at t<;>simp[bb] at t⊢
   .intro z;by_cases hz0:z=(0,0)
    .subst hz0;simp[nz,Du,bb]
    .have t:=jx hz0 hl;have hn:nz z=true:=by unfold nz;simpa using hz0
     simp only[hn,FI];cases h1:bf z l<;>cases h2:bg z l<;>cases h3:bf l z<;>rw[h1,h2,h3] at t<;>simp[bb] at t⊢
  unfold fV eO;omega
theorem Wd.const(h:Wd S nx)(hc:Cl es)(hi:In S es){s:Sg}(hs:s∈S):Lf es (nx s)=Lf es s:=by
 obtain⟨hn,kJ⟩:=h.DA s hs;rw[(h.at_end hc hi hs).1];show fV es (n1 (nx s).1) (dr (nx s))=_;rw[kJ];refine ah1 hc (kE (h.gw hs)) (h.gw hn) (h.two _ hn _ hs kJ) λz hz=>?_
 obtain⟨u,hu,⟨k,rfl⟩|⟨k,rfl⟩⟩:=h.arm hi hs hz
 .exact h.w1 s hs u hu k
 .exact h.w2 s hs u hu k
def it(nx:Sg->Sg):Nat->Sg->Sg
 |0,s=>s
 |k+1,s=>nx (it nx k s)
def Gg(nx:Sg->Sg)(s u:Sg):Prop:=∃k,it nx k s=u
theorem Wd.pY(h:Wd S nx){s:Sg}(hs:s∈S):∀k,it nx k s∈S
 |0=>hs
 |k+1=>(h.DA _ (h.pY hs k)).1
theorem Wd.along(h:Wd S nx)(hc:Cl es)(hi:In S es){s u:Sg}(hs:s∈S)(hw:Gg nx s u):Lf es u=Lf es s:=by
 obtain⟨k,rfl⟩:=hw;induction k with
 |zero=>rfl
 |succ k ih=>exact(h.const hc hi (h.pY hs k)).trans ih
end
def Path:Pt->List Sg->Pt->Prop
 |a,[],b=>a=b
 |a,s::T,b=>s.1=a/\Path s.2 T b
theorem Path.append:∀{L:List Sg}{a b c:Pt}{M:List Sg},Path a L c->Path c M b->Path a (L++M) b
 |[],_,_,_,_,h,k=>by
  have:_=_:=h;subst this;exact k
 |s::T,_,_,_,_,h,k=>⟨h.1,Path.append h.2 k⟩
theorem Path.split:∀{L:List Sg}{a b:Pt}{M:List Sg},Path a (L++M) b->∃c,Path a L c/\Path c M b
 |[],a,_,_,h=>⟨a,rfl,h⟩
 |s::T,_,_,_,h=>by
  obtain⟨c,h1,h2⟩:=Path.split h.2;exact⟨c,⟨h.1,h1⟩,h2⟩
theorem Path.one{s:Sg}:Path s.1 [s] s.2:=⟨rfl,rfl⟩
theorem Path.rev:∀{L:List Sg}{a b:Pt},Path a L b->Path b (L.reverse.map rv) a
 |[],_,_,h=>by
  have:_=_:=h;exact this.symm
 |s::T,a,b,h=>by
  have ih:=Path.rev h.2;rw[List.reverse_cons,jV];refine ih.append ?_;exact⟨rfl,h.1⟩
theorem Path.zip:∀(T:List Sg)(s:Sg){b:Pt},Path s.2 T b->(s.1::T.map Prod.fst).zip (T.map Prod.fst++[b])=s::T
 |[],s,b,h=>by
  have e:s.2=b:=h;subst e;rfl
 |u::T,s,b,h=>by
  have ih:=Path.zip T u h.2;have e:s=(s.1,u.1):=dN rfl h.1.symm;rw[gM,mr,O8,ih,<-e]
theorem Cl.path{p:Pt}{L:List Sg}(h:Path p L p)(hn:∀s∈L,s.1≠s.2):Cl L:=by
 refine⟨[L.map Prod.fst],?_⟩;unfold aT;rw[qB,agW,qC];unfold lI;have e:closing (L.map Prod.fst)=L:=by
  cases L with
  |nil=>rfl
  |cons s T=>
   have:=Path.zip T s h.2;rw[<-h.1] at this;exact this
 rw[e,Pb];intro s hs;simpa using hn s hs
theorem Path.Xg:∀{L:List Sg}{a b:Pt},Path a L b->∀s∈L,s.2=b\/∃u∈L,u.1=s.2
 |[],_,_,_,s,hs=>by simp at hs
 |[t],_,_,h,s,hs=>by
  rw[dB.1 hs];exact aS h.2
 |t::u::T,_,_,h,s,hs=>by
  rcases bU.1 hs with rfl|hs
  .exact aR ⟨u,af,h.2.1⟩
  .rcases Path.Xg h.2 s hs with k|⟨v,hv,k⟩
   .exact aS k
   .exact aR ⟨v,bV _ hv,k⟩
theorem Path.Gh:∀{M:List Sg}{z:Sg}{a b n:Pt},Path a (M++[z]) b->(∀s∈M++[z],s.1≠n)->∀s∈M,s.2≠n
 |[],_,_,_,_,_,_,s,hs=>by simp at hs
 |[t],z,_,_,n,h,hn,s,hs=>by
  rw[dB.1 hs];have:z.1=t.2:=h.2.1;rw[<-this];exact hn z af
 |t::u::M,z,_,_,n,h,hn,s,hs=>by
  rcases bU.1 hs with rfl|hs
  .have:u.1=s.2:=h.2.1;rw[<-this];exact hn u af
  .exact Path.Gh (M:=u::M) h.2 (λv hv=>hn v (bV _ hv)) s hs
theorem ah2{F:Pt->Pt->Int}{a b:List Sg}(h:a.Perm b):total F a=total F b:=by
 induction h with
 |nil=>rfl
 |cons x _ ih=>rw[ic,ic,ih]
 |swap x y l=>simp only[ic];omega
 |trans _ _ h1 h2=>exact h1.trans h2
theorem Bd(a b:List Sg)(n:N3)(Q:Pt->Bool):AS (a++b) n Q=AS a n Q+AS b n Q:=PA _ a b
def ge(n z:Pt):Prop:=0<(dr (n,z)).1\/((dr (n,z)).1=0/\0<=(dr (n,z)).2)
theorem Qe(a b:Pt):ge a b\/ge b a:=by unfold ge dr;simp only;omega
theorem Kw{a:Pt}(h:ge a b)(k:ge b a):a=b:=by
 unfold ge dr at h k;simp only at h k;exact dN aa aa
theorem Qf{a c:Pt}(h:ge a b)(k:ge b c):ge a c:=by
 unfold ge dr at*;simp only at*;omega
theorem Gi(a:Pt):ge a a:=by unfold ge dr;simp
theorem Qg{a:Pt}(h:ge a b)(hne:a≠b):bz (dr (a,b)):=by
 unfold ge at h;unfold bz;have:¬((dr (a,b)).1=0/\(dr (a,b)).2=0):=λk=>hne (lZ.1 (dN k.1 k.2))
 omega
theorem Xh{es:List Sg}(h:∀e∈es,ge n e.1/\ge n e.2):PP es (n1 n)=0:=by
 refine yT λe he=>?_
 obtain⟨h1,h2⟩:=h e he;rw[eo,eo];unfold ge at h1 h2;generalize dr (n,e.1)=u at*;generalize dr (n,e.2)=v at*;unfold right;have a1:u.1=0->cr u v= -(u.2*v.1):=λk=>by unfold cr;rw[k];simp
 have a2:v.1=0->cr u v=u.1*v.2:=λk=>by unfold cr;rw[k];simp
 rw[aP,aP]
 .rintro⟨k1,k2,k3⟩;rcases h2 with h2|⟨h2,h2'⟩
  .omega
  .have:=jF (fA k1) h2';rw[a2 h2] at k3;omega
 .rintro⟨k1,k2,k3⟩;rcases h1 with h1|⟨h1,h1'⟩
  .omega
  .have:=jF h1' (fA k2);rw[a1 h1] at k3;omega
theorem Gj{es:List Sg}{Q:Pt->Bool}(h:∀e∈es,on (dr (n,e.1)) (dr (n,e.2))=false):AS es (n1 n) Q=0:=
 yT λe he=>by
  unfold Ga.arm;rw[eo,eo,h e he];rfl
theorem Qh{Q:Pt->Bool}{s:Sg}(h:s.2=n):Ga.arm Q (n1 n) s.1 s.2=bb (Q (0,0))-bb (Q (neg (dr s))):=by
 subst h;unfold Ga.arm;rw[eo,eo,(lZ (s:=(s.2,s.2))).2 rfl,pW _ _ (aR rfl)];have e:dr (s.2,s.1)=neg (dr s):=rR s;rw[e];rfl
theorem Qi{Q:Pt->Bool}{s:Sg}(h:s.1=n):Ga.arm Q (n1 n) s.1 s.2=bb (Q (dr s))-bb (Q (0,0)):=by
 subst h;unfold Ga.arm;rw[eo,eo,(lZ (s:=(s.1,s.1))).2 rfl,pW _ _ (aS rfl)];rfl
section
variable{S:List Sg}{nx:Sg->Sg}
theorem Wd.ah3(h:Wd S nx){p q:Pt}{A C:List Sg}{a c:Sg}(hA:Path p (A++[a]) q)(hC:Path p (C++[c]) q)(mA:∀s∈A++[a],s∈S)(mC:∀s∈C++[c],s∈S)
  (nA:∀s∈A++[a],s.1≠q)(nC:∀s∈C++[c],s.1≠q)(hw:Gg nx a c\/Gg nx c a):a=c:=by
 have ha:a∈S:=mA a af
 have hc:c∈S:=mC c af
 have aq:a.2=q:=by obtain⟨_,_,k⟩:=hA.split;exact k.2
 have cq:c.2=q:=by obtain⟨_,_,k⟩:=hC.split;exact k.2
 have kK:=hA.Gh nA;have Ky:=hC.Gh nC;have hne:∀s∈(A++[a])++((C++[c]).reverse.map rv),s.1≠s.2:=λs hs=>by
  rcases dF.1 hs with hs|hs
  .exact h.ne s (mA s hs)
  .obtain⟨u,hu,rfl⟩:=bQ.1 hs;exact(h.ne u (mC u (agX.1 hu))).symm
 have hcl:Cl ((A++[a])++((C++[c]).reverse.map rv)):=Cl.path (hA.append hC.rev) hne;have hin:In S ((A++[a])++((C++[c]).reverse.map rv)):=λe he=>by
  rcases dF.1 he with he|he
  .exact aS (mA e he)
  .obtain⟨u,hu,rfl⟩:=bQ.1 he;exact aR (mC u (agX.1 hu))
 have hL:Lf ((A++[a])++((C++[c]).reverse.map rv)) c=Lf ((A++[a])++((C++[c]).reverse.map rv)) a:=by
  rcases hw with k|k
  .exact h.along hcl hin ha k
  .exact(h.along hcl hin hc k).symm
 rw[(h.at_end hcl hin ha).1,(h.at_end hcl hin hc).1,aq,cq] at hL;have DB:∀Q,AS ((A++[a])++((C++[c]).reverse.map rv)) (n1 q) Q=bb (Q (neg (dr c)))-bb (Q (neg (dr a))):=λQ=>by
  have e1:(C++[c]).reverse.map rv=[rv c]++C.reverse.map rv:=af
  have z1:AS A (n1 q) Q=0:=Gj λe he=>by
   cases ho:on (dr (q,e.1)) (dr (q,e.2))
   .rfl
   .rw[<-aq] at ho;rcases h.Kv a ha e (mA e (by simp[he])) ho with k|k
    .exact absurd (k.symm.trans aq) (nA e (by simp[he]))
    .exact absurd (k.symm.trans aq) (kK e he)
  have z2:AS (C.reverse.map rv) (n1 q) Q=0:=Gj λe he=>by
   obtain⟨u,hu,rfl⟩:=bQ.1 he;have hu:=agX.1 hu;cases ho:on (dr (q,(rv u).1)) (dr (q,(rv u).2))
   .rfl
   .rw[uZ,<-aq] at ho;rcases h.Kv a ha u (mC u (by simp[hu])) ho with k|k
    .exact absurd (k.symm.trans aq) (nC u (by simp[hu]))
    .exact absurd (k.symm.trans aq) (Ky u hu)
  rw[e1,Bd,Bd,Bd,z1,z2];have s1:AS [a] (n1 q) Q=bb (Q (0,0))-bb (Q (neg (dr a))):=by
   unfold AS;rw[ic,yR,Qh aq];omega
  have s2:AS [rv c] (n1 q) Q=bb (Q (neg (dr c)))-bb (Q (0,0)):=by
   unfold AS;rw[ic,yR,Qi (s:=rv c) cq,rR];omega
  rw[s1,s2];omega
 have da:=kE (h.gw ha);have dc:=kE (h.gw hc);have na:nz (neg (dr a))=true:=by unfold nz;simpa using da
 have nc:nz (neg (dr c))=true:=by unfold nz;simpa using dc
 unfold eO at hL;rw[DB,DB] at hL;simp only[na,nc,FI,tT] at hL;generalize PP ((A++[a])++((C++[c]).reverse.map rv)) (n1 q)=P0 at hL;have t:=jx da dc;have hs:bg (neg (dr a)) (neg (dr c))=true:=by
  cases h1:bf (neg (dr a)) (neg (dr c))<;>cases h2:bf (neg (dr c)) (neg (dr a))<;>cases h3:bg (neg (dr a)) (neg (dr c))<;>rw[h1,h2] at hL<;>rw[h1,h2,h3] at t<;>simp[bb] at hL t⊢ <;>omega
 refine h.one' a ha c hc (aq.trans cq.symm) ?_;rw[dm] at hs⊢;rw[fU,fG,pV,kI] at hs;omega
structure Rg(S:List Sg)(R:List Sg)(a:Sg)(M:List Sg)(z:Sg):Prop where
 eq:R=a::(M++[z])
 path:Path a.1 R a.1
 mem:∀s∈R,s∈S
 once:∀s∈M++[z],s.1≠a.1
 least:∀s∈R,ge a.1 s.1
variable{R M:List Sg}{a z:Sg}
theorem Rg.cl(h:Wd S nx)(k:Rg S R a M z):Cl R:=Cl.path k.path λs hs=>h.ne s (k.mem s hs)
theorem Rg.bw(k:Rg S R a M z):In S R:=λe he=>aS (k.mem e he)
theorem Rg.ma(k:Rg S R a M z):a∈S:=k.mem a (by rw[k.eq];simp)
theorem Rg.mz(k:Rg S R a M z):z∈S:=k.mem z (by rw[k.eq];simp)
theorem Rg.z2(k:Rg S R a M z):z.2=a.1:=by
 have h:=k.path;rw[k.eq,<-mr] at h;obtain⟨_,_,q⟩:=h.split;exact q.2
theorem Rg.ends(k:Rg S R a M z):∀s∈R,ge a.1 s.2:=λs hs=>by
 rcases k.path.Xg s hs with q|⟨u,hu,q⟩
 .rw[q];exact Gi _
 .rw[<-q];exact k.least u hu
theorem Rg.PP(k:Rg S R a M z):Ga.PP R (n1 a.1)=0:=Xh λe he=>⟨k.least e he,k.ends e he⟩
theorem Rg.AS(h:Wd S nx)(k:Rg S R a M z)(Q:Pt->Bool):Ga.AS R (n1 a.1) Q=bb (Q (dr a))-bb (Q (neg (dr z))):=by
 have hp:=k.path;rw[k.eq] at hp;have hM:=Path.Gh hp.2 k.once;have z1:Ga.AS M (n1 a.1) Q=0:=Gj λe he=>by
  cases ho:on (dr (a.1,e.1)) (dr (a.1,e.2))
  .rfl
  .rcases h.Bc a k.ma e (k.mem e (by rw[k.eq];simp[he])) ho with q|q
   .exact absurd q.symm (k.once e (by simp[he]))
   .exact absurd q.symm (hM e he)
 have e:R=[a]++(M++[z]):=k.eq;have s1:Ga.AS [a] (n1 a.1) Q=bb (Q (dr a))-bb (Q (0,0)):=by
  unfold Ga.AS;rw[ic,yR,Qi rfl];omega
 have s2:Ga.AS [z] (n1 a.1) Q=bb (Q (0,0))-bb (Q (neg (dr z))):=by
  unfold Ga.AS;rw[ic,yR,Qh k.z2];omega
 rw[e,Bd,Bd,z1,s1,s2];omega
theorem Rg.Kz(h:Wd S nx)(k:Rg S R a M z):bz (dr a):=Qg (k.ends a (by rw[k.eq];simp)) (h.ne a k.ma)
theorem Rg.KA(h:Wd S nx)(k:Rg S R a M z):bz (neg (dr z)):=by
 have:=Qg (k.least z (by rw[k.eq];simp)) (λe=>h.ne z k.mz (e.symm.trans k.z2.symm))
 rw[<-k.z2] at this;rw[<-rR];exact this
theorem y8{d:Pt}(h:d≠(0,0)):nz d=true:=by unfold nz;simpa using h
theorem Rg.val(h:Wd S nx)(k:Rg S R a M z):Lf R a=if 0<cr (dr z) (dr a) then 1 else 0:=by
 have da:=h.gw k.ma;have dz:=kE (h.gw k.mz);have hs:bg (neg (dr z)) (dr a)=false:=by
  cases q:bg (neg (dr z)) (dr a)
  .rfl
  .have:=h.two a k.ma z k.mz k.z2.symm;rw[dm] at q;cases q2:bg (dr a) (neg (dr z))
   .have:bg (dr a) (neg (dr z))=true:=(dm _ _).2 ⟨by rw[dh];omega,by rw[jI];omega⟩
    rw[q2] at this;cases this
   .rw[q2] at this;cases this
 have hsa:bg (dr a) (dr a)=true:=(dm _ _).2 ⟨by unfold cr;grind,dC da⟩
 unfold Lf fV eO;rw[k.PP,k.AS h,k.AS h];simp only[y8 da,y8 dz,tT,hs,hsa,FI];have KB:=k.Kz h;have Be:=k.KA h;have hang:bf (neg (dr z)) (dr a)=true↔0<cr (neg (dr z)) (dr a):=by
  rw[mS];constructor
  .rintro(⟨_,q⟩|⟨_,q⟩)
   .exact absurd KB q
   .exact q
  .intro q;exact aR ⟨⟨λ_=>KB,λ_=>Be⟩,q⟩
 rw[fU] at hang;have hcr:cr (dr z) (dr a)≠0:=λq=>by
  have:=mD Be KB (by rw[fU];omega)
  have:bg (neg (dr z)) (dr a)=true:=(dm _ _).2 ⟨by rw[fU];omega,this⟩
  rw[hs] at this;cases this
 cases q:bf (neg (dr z)) (dr a)
 .have:¬0< -cr (dr z) (dr a):=λw=>by rw[hang.2 w] at q;cases q
  rw[aV aa]
  simp[bb]
 .have:=hang.1 q;rw[aP aa]
  simp[bb]
theorem Rg.asym(h:Wd S nx){R' M':List Sg}{a' z':Sg}(k:Rg S R a M z)(k':Rg S R' a' M' z')(hne:a≠a')(h1:Lf R' a=1)(h2:Lf R a'=1):False:=by
 have far:∀{R R' M M':List Sg}{a z a' z':Sg},Rg S R a M z->Rg S R' a' M' z'->ge a.1 a'.1->a.1≠a'.1->Lf R' a=0:=by
  intro R R' M M' a z a' z' k k' hg hn;have hP:Ga.PP R' (n1 a.1)=0:=Xh λe he=>⟨Qf hg (k'.least e he),Qf hg (k'.ends e he)⟩
  have hz:∀Q,Ga.AS R' (n1 a.1) Q=0:=λQ=>Gj λe he=>by
   cases ho:on (dr (a.1,e.1)) (dr (a.1,e.2))
   .rfl
   .rcases h.Bc a k.ma e (k'.mem e he) ho with q|q
    .exact absurd (Kw hg (by rw[q];exact k'.least e he)) hn
    .exact absurd (Kw hg (by rw[q];exact k'.ends e he)) hn
  unfold Lf fV eO;rw[hP,hz,hz];rfl
 by_cases hn:a.1=a'.1
 .have near:∀{R R' M M':List Sg}{a z a' z':Sg},Rg S R a M z->Rg S R' a' M' z'->a.1=a'.1->a≠a'->Lf R' a=1->bf (dr a') (dr a)=true:=by
   intro R R' M M' a z a' z' k k' hn hne hL;unfold Lf fV eO at hL;rw[hn,k'.PP,k'.AS h,k'.AS h] at hL;have q1:bg (dr a') (dr a)=false:=by
    cases q:bg (dr a') (dr a)
    .rfl
    .exact absurd (h.one a' k'.ma a k.ma hn.symm q).symm hne
   have hc:=h.two a k.ma z' k'.mz (hn.trans k'.z2.symm);have q2:bg (neg (dr z')) (dr a)=false:=by
    cases q:bg (neg (dr z')) (dr a)
    .rfl
    .rw[dm] at q;have:bg (dr a) (neg (dr z'))=true:=(dm _ _).2 ⟨by rw[dh];omega,by rw[jI];omega⟩
     rw[hc] at this;cases this
   simp only[q1,q2,y8 (h.gw k'.ma),y8 (kE (h.gw k'.mz)),FI] at hL;cases w:bf (dr a') (dr a)
   .rw[w] at hL;cases w2:bf (neg (dr z')) (dr a)<;>rw[w2] at hL<;>simp[bb] at hL
   .rfl
  have x1:=near k k' hn hne h1;have x2:=near k' k hn.symm hne.symm h2;have:=Kr (h.gw k'.ma) (h.gw k.ma) x1;rw[x2] at this;cases this
 .rcases Qe a.1 a'.1 with g|g
  .rw[far k k' g hn] at h1;omega
  .rw[far k' k g (λe=>hn e.symm)] at h2;omega
end
end Gb
end Go.Proofs.YtkjhhooecopolaaGreatDoor
