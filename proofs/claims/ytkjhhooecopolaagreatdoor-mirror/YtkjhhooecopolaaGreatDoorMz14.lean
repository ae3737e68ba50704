import Derived.Test.YtkjhhooecopolaaGreatDoorMz13
set_option maxRecDepth 100000
set_option maxHeartbeats 4000000
namespace Go.Proofs.YtkjhhooecopolaaGreatDoor
open Go.RowKit
namespace Pl
theorem aff{t:Tk}(h:Form t)(hk:t.k=110):fI t≠[44]:=fun e=>by
 have:=(GM h 44 (by decide)).1 e
 rw[hk] at this;exact absurd this (by decide)
theorem Ht{a b:Tk}(h1:fI a≠[44])(h2:a.k≠110\/b.k≠110):bb a b=false:=by
 unfold bb;rcases h2 with h2|h2<;>simp[h1,h2]
theorem yg{t:Tk}(h:Form t)(c:UInt8)(hc:c.toNat=40\/c.toNat=41\/c.toNat=44)(hk:t.k=c.toNat):wr t=[c]/\fI t=[c]/\t.k≠110:=by
 have e:=(GM h c hc).2 hk;have hne:t.k≠110:=by omega
 exact⟨by unfold wr;rw[if_neg hne,e],e,hne⟩
theorem Hu{p t:Tk}{d:List Tk}(h:bb p t=false):fK p (t::d)=wr t++fK t d:=by
 show(if bb p t=true then[32] else[])++(wr t++fK t d)=_
 rw[h,if_neg (by simp),vA]
theorem Dg{p t:Tk}{d:List Tk}(h:Form p)(hk:p.k=40):fK p (t::d)=wr t++fK t d:=by
 obtain⟨_,h2,h3⟩:=yg h 40 (by decide) hk
 exact Hu (Ht (by rw[h2];decide) (Or.inl h3))
theorem Uv{p t:Tk}{d:List Tk}(h:Form p)(hk:p.k=41):fK p (t::d)=wr t++fK t d:=by
 obtain⟨_,h2,h3⟩:=yg h 41 (by decide) hk
 exact Hu (Ht (by rw[h2];decide) (Or.inl h3))
theorem Hv{p t:Tk}{d:List Tk}(h:Form p)(hk:p.k=44):fK p (t::d)=[32]++(wr t++fK t d):=by
 obtain⟨_,h2,_⟩:=yg h 44 (by decide) hk
 show(if bb p t=true then[32] else[])++(wr t++fK t d)=_
 rw[if_pos (by unfold bb;simp[h2])]
structure Tx{α:Type}(ok:α->Prop)(txt:α->List UInt8)(c:List Tk)(x:α):Prop where
 ne:c≠[]
 br:∀p,Form p->p.k=40->fK p c=txt x
 co:∀p,Form p->p.k=44->fK p c=[32]++txt x
 cl:∀p t d,Form t->t.k≠110->fK p (c++t::d)=fK p c++(wr t++fK t d)
 Ak:(∀t∈c,t.k=110->gz t.n)->c.length<=402->ok x
def Says{α:Type}(ok:α->Prop)(txt:α->List UInt8)(item:List Tk->Bool×List Tk×α):Prop:=
 ∀l,(∀t∈l,Form t)->(item l).1=true->∃c,c++(item l).2.1=l/\Tx ok txt c (item l).2.2
theorem afg:Says (fun p=>gz p.1/\gz p.2) eN cE:=by
 intro l hf h
 match l,hf,h with
 |[],_,h=>cases h
 |[x],_,h=>cases h
 |x::y::r,hf,h=>
  have e:cE (x::y::r)=if x.k=110 then(if y.k=110 then(true,r,(x.n,y.n)) else(false,y::r,(0,0))) else(false,x::y::r,(0,0)):=rfl
  rw[e] at h⊢;by_cases hx:x.k=110
  ·rw[if_pos hx] at h⊢;by_cases hy:y.k=110
   ·rw[if_pos hy];have fx:=hf x (by simp)
    have fy:=hf y (by simp)
    have w1:wr x=Lib.itoa x.n:=if_pos hx;have w2:wr y=Lib.itoa y.n:=if_pos hy;have hb:∀d,fK x (y::d)=[32]++(wr y++fK y d):=fun d=>by
     show(if bb x y=true then[32] else[])++(wr y++fK y d)=_
     rw[if_pos (by unfold bb;simp[hx,hy])]
    refine⟨[x,y],rfl,by simp,fun p fp hp=>?_,fun p fp hp=>?_,fun p t d ft ht=>?_,fun hn _=>⟨hn x (by simp) hx,hn y (by simp) hy⟩⟩
    ·rw[Dg fp hp,hb,w1,w2];simp[fK,eN]
    ·rw[Hv fp hp,hb,w1,w2];simp[fK,eN]
    ·show(if bb p x=true then[32] else[])++(wr x++fK x (y::t::d))=((if bb p x=true then[32] else[])++(wr x++fK x [y]))++_
     rw[hb,hb,Hu (p:=y) (t:=t) (Ht (aff fy hy) (Or.inr ht))];simp[fK,List.append_assoc]
   ·rw[if_neg hy] at h;cases h
  ·rw[if_neg hx] at h;cases h
theorem qG{c:Nat}{l:List Tk}(h:(mk c l).1=true):∃t,l=t::(mk c l).2/\t.k=c:=by
 cases l with
 |nil=>cases h
 |cons t r=>
  have e:mk c (t::r)=if t.k=c then(true,r) else(false,t::r):=rfl
  rw[e] at h⊢;by_cases hk:t.k=c
  ·rw[if_pos hk];exact⟨t,rfl,hk⟩
  ·rw[if_neg hk] at h;cases h
theorem Hw{q:List UInt8}{l:List Tk}(h:(wd q l).1=true):∃t,l=t::(wd q l).2/\t.k=119/\t.raw=q:=by
 cases l with
 |nil=>cases h
 |cons t r=>
  have e:wd q (t::r)=if t.k=119/\t.raw=q then(true,r) else(false,t::r):=rfl
  rw[e] at h⊢;by_cases hk:t.k=119/\t.raw=q
  ·rw[if_pos hk];exact⟨t,rfl,hk⟩
  ·rw[if_neg hk] at h;cases h
theorem Hx{α:Type}{ok:α->Prop}{txt:α->List UInt8}{item:List Tk->Bool×List Tk×α}(hi:Says ok txt item):
  ∀(f:Nat)(l:List Tk)(acc:List α),(∀t∈l,Form t)->(bK item f l acc).1=true->
   ∃c xs,c++(bK item f l acc).2.1=l/\(bK item f l acc).2.2=acc++xs/\xs≠[]/\
    Tx (fun xs=>xs.length<=402/\∀x∈xs,ok x) (fun xs=>aI txt xs++[41]) c xs/\xs.length<=c.length
 |0,l,acc,_,h=>by cases h
 |f+1,l,acc,hf,h=>by
  unfold bK at h⊢;by_cases h1:(item l).1=true
  ·rw[if_pos h1] at h⊢;obtain⟨c0,hc0,T0⟩:=hi l hf h1;generalize(item l).2.1=rest at*;generalize(item l).2.2=x at*;have eK:∀t∈rest,Form t:=fun t ht=>hf t (by rw[<-hc0];simp[ht])
   have hn0:1<=c0.length:=gL.2 T0.ne;by_cases h2:(mk 44 rest).1=true
   ·rw[if_pos h2] at h⊢;obtain⟨t,ht,hk⟩:=qG h2;have ft:Form t:=eK t (by rw[ht];simp)
    obtain⟨c1,xs,hc1,hv,hne,T1,hlen⟩:=Hx hi f (mk 44 rest).2 (acc++[x]) (fun u hu=>eK u (by rw[ht];simp[hu])) h
    obtain⟨s1,s2,s3⟩:=yg ft 44 (by decide) hk
    have hj:aI txt (x::xs)=txt x++([44,32]++aI txt xs):=by
     cases xs with
     |nil=>exact absurd rfl hne
     |cons a b=>rfl
    refine⟨c0++t::c1,x::xs,by rw[fD,lN,hc1,<-ht,hc0],by rw[hv];simp,by simp,⟨by simp,fun p fp hp=>?_,fun p fp hp=>?_,fun p u d fu hu=>?_,fun hn hl=>?_⟩,by simp;omega⟩
    ·rw[T0.cl p t c1 ft s3,T0.br p fp hp,T1.co t ft hk,s1,hj];simp
    ·rw[T0.cl p t c1 ft s3,T0.co p fp hp,T1.co t ft hk,s1,hj];simp
    ·rw[fD,lN,T0.cl p t _ ft s3,T0.cl p t c1 ft s3,T1.cl t u d fu hu];simp[List.append_assoc]
    ·have hl':c0.length+(c1.length+1)<=402:=by simpa using hl
     have k0:=T0.Ak (fun t ht=>hn t (by simp[ht])) (by omega)
     have k1:=T1.Ak (fun t ht=>hn t (by simp[ht])) (by omega)
     exact⟨by simp;omega,fun y hy=>by
      rcases aQ.1 hy with e|e
      ·rw[e];exact k0
      ·exact k1.2 y e⟩
   ·rw[if_neg h2] at h⊢;obtain⟨t,ht,hk⟩:=qG (c:=41) h;have ft:Form t:=eK t (by rw[ht];simp)
    obtain⟨s1,s2,s3⟩:=yg ft 41 (by decide) hk
    have hw:fK t []=[]:=rfl;refine⟨c0++[t],[x],by rw[fD,BW,<-ht,hc0],rfl,by simp,⟨by simp,fun p fp hp=>?_,fun p fp hp=>?_,fun p u d fu hu=>?_,fun hn hl=>?_⟩,by simp⟩
    ·rw[T0.cl p t [] ft s3,T0.br p fp hp,s1,hw];simp[aI]
    ·rw[T0.cl p t [] ft s3,T0.co p fp hp,s1,hw];simp[aI]
    ·rw[fD,BW,T0.cl p t _ ft s3,T0.cl p t [] ft s3,Uv ft hk,hw];simp[List.append_assoc]
    ·have hl':c0.length+1<=402:=by simpa using hl
     have k0:=T0.Ak (fun t ht=>hn t (by simp[ht])) (by omega)
     exact⟨by simp,fun y hy=>by rw[bJ.1 hy];exact k0⟩
  ·rw[if_neg h1] at h;cases h
end Pl
def Pl.MA(s:List UInt8):List UInt8:=if(Pl.err s).1=0 then Pl.wt (Pl.took s) else[]
theorem yh{s:List UInt8}(h:(Pl.err s).1=0):s.length<=400/\(Pl.err s).2=0/\(Pl.aH (Pl.all s)).1=true/\Pl.hk (Pl.aH (Pl.all s)).2.1=101/\(Pl.took s).find? outT=none:=by
 unfold Pl.err at h⊢;by_cases h1:400<s.length
 ·rw[if_pos h1] at h;cases h
 ·rw[if_neg h1] at h⊢;by_cases h2:(Pl.aH (Pl.all s)).1=true/\Pl.hk (Pl.aH (Pl.all s)).2.1=101
  ·rw[if_pos h2] at h⊢;cases h3:(Pl.took s).find? outT with
   |some u=>rw[h3] at h;cases h
   |none=>exact⟨by omega,rfl,h2.1,h2.2,rfl⟩
  ·rw[if_neg h2] at h;cases h
theorem afh{s:List UInt8}{t:Pl.Tk}(h:t∈Pl.took s):t∈Pl.all s:=by
 unfold Pl.took at h;exact nL h
theorem Uw{s:List UInt8}(h:(Pl.err s).1=0):(∀t∈Pl.took s,(Pl.wr t).length<=400)/\(∀t∈Pl.took s,t.k=110-> -50<=t.n/\t.n<=50)/\(Pl.took s).length<=402:=by
 obtain⟨h1,_,_,_,h5⟩:=yh h;have hr:∀t∈Pl.took s,t.k=110-> -50<=t.n/\t.n<=50:=fun t ht hk=>by
  have:=ab3.1 h5 t ht;unfold outT kH at this;simp[hk] at this;omega
 refine⟨fun t ht=>?_,hr,?_⟩
 ·unfold Pl.wr;by_cases hk:t.k=110
  ·rw[if_pos hk];have:=hr t ht hk;have:=Lib.itoa_length_le t.n (by omega) (by omega)
   omega
  ·rw[if_neg hk];have hp:=(Pl.GI s t (afh ht)).1;unfold Pl.fI;split
   ·simp
   ·omega
 ·have:=Pl.xL s;unfold Pl.took;rw[ig];omega
namespace Pl
theorem Tx.bracket{α β:Type}{ok1:α->Prop}{Ux:β->Prop}{Uy:α->List UInt8}{Uz:β->List UInt8}{c:List Tk}{x:α}{y:β}{t:Tk}(T:Tx ok1 Uy c x)(ft:Form t)(hk:t.k=40)
  (ho:ok1 x->Ux y)(ht:Uz y=[40]++Uy x):Tx Ux Uz (t::c) y:=by
 obtain⟨s1,_,s3⟩:=yg ft 40 (by decide) hk
 refine⟨by simp,fun p fp hp=>?_,fun p fp hp=>?_,fun p u d fu hu=>?_,fun hn hl=>?_⟩
 ·rw[Dg fp hp,T.br t ft hk,s1,ht]
 ·rw[Hv fp hp,T.br t ft hk,s1,ht]
 ·show(if bb p t=true then[32] else[])++(wr t++fK t (c++u::d))=((if bb p t=true then[32] else[])++(wr t++fK t c))++_
  rw[T.cl t u d fu hu];simp[List.append_assoc]
 ·have hl':c.length+1<=402:=by simpa using hl
  exact ho (T.Ak (fun t ht=>hn t (by simp[ht])) (by omega))
theorem afi{α:Type}{ok:List α->Prop}{txt:α->List UInt8}{t:Tk}(ft:Form t)(hk:t.k=41)(ho:ok []):Tx ok (fun xs=>aI txt xs++[41]) [t] []:=by
 obtain⟨s1,_,s3⟩:=yg ft 41 (by decide) hk
 refine⟨by simp,fun p fp hp=>?_,fun p fp hp=>?_,fun p u d fu hu=>?_,fun _ _=>ho⟩
 ·rw[Dg fp hp,s1];rfl
 ·rw[Hv fp hp,s1];rfl
 ·show(if bb p t=true then[32] else[])++(wr t++fK t (u::d))=((if bb p t=true then[32] else[])++(wr t++[]))++_
  rw[Uv ft hk];simp[List.append_assoc]
theorem UA{α:Type}{ok:α->Prop}{txt:α->List UInt8}{t:Tk}{y:α}(hk:t.k=119)(hr:t.raw=EMPTY)(ht:txt y=EMPTY)(ho:ok y):Tx ok txt [t] y:=by
 have hp:fI t=EMPTY:=by unfold fI;rw[if_neg (by rw[hk];decide),hr]
 have s1:wr t=EMPTY:=by unfold wr;rw[if_neg (by rw[hk];decide),hp]
 refine⟨by simp,fun p fp hp=>?_,fun p fp hp=>?_,fun p u d fu hu=>?_,fun _ _=>ho⟩
 ·rw[Dg fp hp,s1,ht];rfl
 ·rw[Hv fp hp,s1,ht];rfl
 ·show(if bb p t=true then[32] else[])++(wr t++fK t (u::d))=((if bb p t=true then[32] else[])++(wr t++[]))++_
  rw[Hu (Ht (by rw[hp];decide) (Or.inl (by rw[hk];decide)))]
  simp[List.append_assoc]
theorem afj:Says (fun g=>mb g/\g.length<=402) bZ di:=by
 intro l hf h;unfold di at h⊢;by_cases h1:(mk 40 l).1=true
 ·rw[if_pos h1] at h⊢;obtain⟨t,ht,hk⟩:=qG h1;have ft:Form t:=hf t (by rw[ht];simp)
  have gw:∀u∈(mk 40 l).2,Form u:=fun u hu=>hf u (by rw[ht];simp[hu])
  by_cases h2:(mk 41 (mk 40 l).2).1=true
  ·rw[if_pos h2];obtain⟨t2,ht2,hk2⟩:=qG h2;have ft2:Form t2:=gw t2 (by rw[ht2];simp)
   refine⟨[t,t2],?_,(afi (ok:=fun g=>mb g/\g.length<=402) (txt:=eN) ft2 hk2 ⟨fun p hp=>by simp at hp,by simp⟩).bracket ft hk id rfl⟩
   show t::t2::(mk 41 (mk 40 l).2).2=l;rw[<-ht2,<-ht]
  ·rw[if_neg h2] at h⊢;obtain⟨c,xs,hc,hv,_,T,_⟩:=Hx afg l.length (mk 40 l).2 [] gw h;rw[vA] at hv;rw[hv];exact⟨t::c,by rw[lN,hc,<-ht],T.bracket ft hk (fun o=>⟨fun p hp=>o.2 p hp,o.1⟩) rfl⟩
 ·rw[if_neg h1] at h;cases h
def sA(ps:List (List (List (Int×Int)))):List UInt8:=if ps.length=0 then EMPTY else[40]++(aI bH ps++[41])
theorem UB(ps:List (List (List (Int×Int)))):kJ ps=cJ++([32]++sA ps):=by
 unfold kJ sA;by_cases h:ps.length=0
 ·rw[if_pos h,if_pos h]
 ·rw[if_neg h,if_neg h];simp
theorem UC:Says pj bH bo:=by
 intro l hf h;unfold bo at h⊢;by_cases h0:(wd EMPTY l).1=true
 ·rw[if_pos h0];obtain⟨t,ht,hk,hr⟩:=Hw h0;exact⟨[t],by rw[BW,<-ht],UA hk hr rfl ⟨by simp,fun p hp=>by simp at hp⟩⟩
 ·rw[if_neg h0] at h⊢;by_cases h1:(mk 40 l).1=true
  ·rw[if_pos h1] at h⊢;obtain⟨t,ht,hk⟩:=qG h1;have ft:Form t:=hf t (by rw[ht];simp)
   have gw:∀u∈(mk 40 l).2,Form u:=fun u hu=>hf u (by rw[ht];simp[hu])
   obtain⟨c,xs,hc,hv,hne,T,_⟩:=Hx afj l.length (mk 40 l).2 [] gw h;rw[vA] at hv;rw[hv];have hl:¬xs.length=0:=fun e=>hne (gq.1 e)
   exact⟨t::c,by rw[lN,hc,<-ht],T.bracket ft hk (fun o=>⟨o.1,fun p hp=>o.2 p hp⟩) (if_neg hl)⟩
  ·rw[if_neg h1] at h;cases h
theorem afl:Says mh sA eJ:=by
 intro l hf h;unfold eJ at h⊢;by_cases h0:(wd EMPTY l).1=true
 ·rw[if_pos h0];obtain⟨t,ht,hk,hr⟩:=Hw h0;exact⟨[t],by rw[BW,<-ht],UA hk hr rfl ⟨by simp,fun p hp=>by simp at hp⟩⟩
 ·rw[if_neg h0] at h⊢;by_cases h1:(mk 40 l).1=true
  ·rw[if_pos h1] at h⊢;obtain⟨t,ht,hk⟩:=qG h1;have ft:Form t:=hf t (by rw[ht];simp)
   have gw:∀u∈(mk 40 l).2,Form u:=fun u hu=>hf u (by rw[ht];simp[hu])
   obtain⟨c,xs,hc,hv,hne,T,_⟩:=Hx UC l.length (mk 40 l).2 [] gw h;rw[vA] at hv;rw[hv];have hl:¬xs.length=0:=fun e=>hne (gq.1 e)
   exact⟨t::c,by rw[lN,hc,<-ht],T.bracket ft hk (fun o=>⟨o.1,fun p hp=>o.2 p hp⟩) (if_neg hl)⟩
  ·rw[if_neg h1] at h;cases h
theorem UD{α:Type}{ok:α->Prop}{txt:α->List UInt8}{c:List Tk}{x:α}{a:Tk}{q:List UInt8}(T:Tx ok txt c x)(hk:a.k=119)(hr:a.raw=q):wt (a::c)=q++([32]++txt x):=by
 have h:=T.br ⟨40,[40],0,0⟩ (Or.inr (Or.inl ⟨40,rfl,rfl,by decide⟩)) rfl
 have hne:=T.ne;cases c with
 |nil=>exact absurd rfl hne
 |cons b r=>
  rw[Dg (Or.inr (Or.inl ⟨40,rfl,rfl,by decide⟩)) rfl] at h
  have hp:fI a=q:=by unfold fI;rw[if_neg (by rw[hk];decide),hr]
  have s1:wr a=q:=by unfold wr;rw[if_neg (by rw[hk];decide),hp]
  show wr a++([32]++(wr b++fK b r))=_;rw[h,s1]
theorem UE{s:List UInt8}(h:(err s).1=0)(hw:(wd bp (all s)).1=true):
  ∃gs,(aH (all s)).2.2=[gs]/\pj gs/\wt (took s)=bp++([32]++bH gs):=by
 obtain⟨_,_,h1,_⟩:=yh h;obtain⟨_,hn,hl⟩:=Uw h;have oZ:=Af s;have hpw:aH (all s)=((bo (wd bp (all s)).2).1,(bo (wd bp (all s)).2).2.1,[(bo (wd bp (all s)).2).2.2]):=by
  unfold aH;rw[if_pos hw]
 rw[hpw] at h1 oZ;obtain⟨a,ha,hk,hr⟩:=Hw hw;have hf:∀t∈all s,Form t:=fun t ht=>LG (GI s t ht)
 obtain⟨c,hc,T⟩:=UC (wd bp (all s)).2 (fun t ht=>hf t (by rw[ha];simp[ht])) h1
 have ht:took s=a::c:=by
  refine BR (oZ.trans (ha.trans ?_));show a::_=a::(c++_);rw[hc]
 rw[ht] at hn hl;exact⟨_,by rw[hpw],T.Ak (fun t h=>hn t (by simp[h])) (by simp at hl;omega),by rw[ht];exact UD T hk hr⟩
theorem UF{s:List UInt8}(h:(err s).1=0)(hw0:(wd bp (all s)).1=false):
  (wd cJ (all s)).1=true/\mh (aH (all s)).2.2/\wt (took s)=kJ (aH (all s)).2.2:=by
 obtain⟨_,_,h1,_⟩:=yh h;obtain⟨_,hn,hl⟩:=Uw h;have oZ:=Af s;by_cases hw:(wd cJ (all s)).1=true
 ·have hpw:aH (all s)=eJ (wd cJ (all s)).2:=by
   unfold aH;rw[if_neg (by rw[hw0];simp),if_pos hw]
  rw[hpw] at h1 oZ⊢;obtain⟨a,ha,hk,hr⟩:=Hw hw;have hf:∀t∈all s,Form t:=fun t ht=>LG (GI s t ht)
  obtain⟨c,hc,T⟩:=afl (wd cJ (all s)).2 (fun t ht=>hf t (by rw[ha];simp[ht])) h1
  have ht:took s=a::c:=by
   refine BR (oZ.trans (ha.trans ?_));show a::_=a::(c++_);rw[hc]
  rw[ht] at hn hl;exact⟨hw,T.Ak (fun t h=>hn t (by simp[h])) (by simp at hl;omega),by rw[ht,UB];exact UD T hk hr⟩
 ·have hpw:aH (all s)=(false,all s,[]):=by
   unfold aH;rw[if_neg (by rw[hw0];simp),if_neg hw]
  rw[hpw] at h1;cases h1
end Pl
theorem yi(pb tb cap:Nat)(s:List UInt8)(A l:List Pl.Tk)(w:World)(q:List UInt8)(hch:Pl.eB s l)(hP:PS pb tb cap A l false w)(hl:A.length<=402):
  Calls Tryz.prog 29 #[.pointer (some ⟨pb,0,none⟩),.string ⟨q.toArray⟩] w fun e w'=>e=.returned (.bool (Pl.wd q l).1)/\PS pb tb cap A (Pl.wd q l).2 false w'/\Fp pb w w':=by
 cases l with
 |nil=>exact hch.elim
 |cons t r=>
  by_cases hk:t.k=119
  ·by_cases hq:t.raw=q
   ·have e:Pl.wd q (t::r)=(true,r):=by simp[Pl.wd,hk,hq]
    rw[e];exact aeN pb tb cap A r t w ⟨q.toArray⟩ hP hl hk (by rw[hq])
   ·have e:Pl.wd q (t::r)=(false,t::r):=by simp[Pl.wd,hq]
    rw[e];refine(aeP pb tb cap A r t w ⟨q.toArray⟩ hP hl hk ?_).mono ?_
    ·rw[ByteArray.toList_eq,ByteArray.toList_eq,beq_eq_false_iff_ne];intro h;exact hq (by simpa using h)
    ·rintro e w' ⟨rfl,n,rfl⟩;exact⟨rfl,hP.drewN n,(Fp.refl pb w).drewN n⟩
  ·have e:Pl.wd q (t::r)=(false,t::r):=by simp[Pl.wd,hk]
   rw[e];refine(aeO pb tb cap A r t w ⟨q.toArray⟩ hP hl hk).mono ?_;rintro e w' ⟨rfl,n,rfl⟩;exact⟨rfl,hP.drewN n,(Fp.refl pb w).drewN n⟩
theorem both{a b:Prop}(ha:a)(hb:b):b/\a:=⟨hb,ha⟩
theorem UG(pb tb cap:Nat)(s:List UInt8)(A l:List Pl.Tk)(w:World)(hch:Pl.eB s l)(hP:PS pb tb cap A l false w)(hl:A.length<=402)(hll:l.length<=402):
  Calls Tryz.prog 30 #[.pointer (some ⟨pb,0,none⟩)] w (Mt jh pb tb cap A (Pl.bo l) w):=by
 obtain⟨pq,hinfo⟩:=both Ui Da;obtain⟨i0,hi,hz0,hz1,hz2⟩:=info_parts hinfo;generalize hT:Pl.bo l=T;have HT:Hid (Pl.bo l=T):=hT;have hpb:=hP.lt;clear hT
 go_enter Tryz.func30,Tryz.ntmps30
 go_wp2_with fail
 refine(yi pb tb cap s A l w Pl.EMPTY hch hP hl).mono ?_;rintro e w1 ⟨rfl,eF,gw⟩;cases hm:(Pl.wd Pl.EMPTY l).1
 ·rw[uB hm] at eF;have HM:Hid (Calls Tryz.prog 42 #[.pointer (some ⟨pb,0,none⟩),.int .u8 40] w1 fun e w'=>e=.returned (.tuple #[])/\Fp pb w w'/\∃l1 bad,PS pb tb cap A l1 bad w'/\Pl.eB s l1/\l1.length<=l.length/\
    ((bad=true/\xY T l1 true [])\/(bad=false/\Pl.bK Pl.di l.length l1 []=T))):=by
   have hg:=Pl.uC (c:=40) hch (by omega)
   have hT:=HT.out;unfold Pl.bo at hT;rw[if_neg (by rw[hm];simp)] at hT
   cases l with
   |nil=>exact hch.elim
   |cons t r=>
    by_cases hk:t.k=40
    ·have e:Pl.mk 40 (t::r)=(true,r):=by simp[Pl.mk,hk]
     refine(Hk pb tb cap A r t w1 40 eF hl hk (by omega)).mono ?_
     rintro e' w' ⟨rfl,h1,h2⟩;rw[e] at hg hT;rw[if_pos rfl] at hT;exact⟨rfl,gw.trans h2,r,false,h1,hg.2,by simp,Or.inr ⟨rfl,hT⟩⟩
    ·have e:Pl.mk 40 (t::r)=(false,t::r):=by simp[Pl.mk,hk]
     refine(Hl pb tb cap A r t w1 40 eF hl hk).mono ?_;rintro e' w' ⟨rfl,h1,h2⟩;rw[e] at hT;rw[if_neg (by simp)] at hT
     exact⟨rfl,gw.trans h2,t::r,true,h1,hch,ae _,Or.inl ⟨rfl,Or.inr ⟨rfl,by rw[<-hT];exact⟨rfl,rfl⟩⟩⟩⟩
  clear HT
  go_wp2_with fail
  refine HM.out.mono ?_;rintro e w3 ⟨rfl,hf3,l1,bad,iD,uD,kG,jC⟩;have bh:Hid (sx 63 iK Pl.di pb tb cap s A T w l.length (.slice none 0 0) (!bad) w3):=by
   refine⟨l1,[],bad,[],iD,hf3,uD,rfl,World.ownsRow_nil _ _ _ _,fun i u x hu=>(by simp at hu),by simp,hll,fun hm'=>?_,fun hm'=>?_⟩
   ·rcases jC with⟨rfl,_⟩|⟨rfl,h⟩
    ·cases hm'
    ·exact⟨rfl,h,kG⟩
   ·rcases jC with⟨rfl,h⟩|⟨rfl,h⟩
    ·exact h
    ·cases hm'
  have hb2:w3.cell? ⟨pb,2,none⟩=some (.bool bad):=by
   obtain⟨c,_,hb⟩:=iD.box;exact cell_of hb 2
  clear jC HM kG uD iD hf3 eF gw hm hch hP;cases bad
  all_goals
   go_wp2_with fail
   go_loopg [4,5] l.length (fun g lv mv wr=>∃more:Bool,mv=.bool more/\Hid (sx 63 iK Pl.di pb tb cap s A T w g lv more wr))
   case atStart=>exact⟨_,rfl,bh⟩
   case round=>
    obtain⟨more,rfl,HR⟩:=hrel;obtain⟨l2,acc,bad,vs,dQ,hf2,ik,hvl,hown,fL,hacc,qB,o9,hfin⟩:=HR.out;have hs2:=hf2.size;clear HR bh hb2;cases more
    ·have hF:=hfin rfl;clear hfin o9
     go_wp2_with fail
     refine(Mq hF ik dQ hl).mono ?_;rintro e w4 ⟨rfl,kj,gQ,C9⟩
     go_wp2_with fail
     go_ret
     refine⟨_,rfl,kj,hf2.trans gQ,?_,acc,⟨vs,hvl,wu (Ag hown gQ dQ),fun i u x hu hx=>Ah pq (by decide) (fL i u x hu hx) gQ dQ⟩,fun h=>(C9 h).symm⟩
     rcases hown.2 with⟨hv,_⟩|⟨g,cap,cur,hv,_⟩
     ·exact⟨_,_,_,hv⟩
     ·exact⟨_,_,_,hv⟩
    ·obtain⟨rfl,hrow,hlen⟩:=o9 rfl;clear hfin o9;have hne:l2≠[]:=fun e=>by rw[e] at ik;exact ik
     obtain⟨g1,rfl⟩:∃g1,gk=g1+1:=⟨gk-1,by have:=gL.2 hne;omega⟩
     have iC:Hid (Pl.bK Pl.di (g1+1) l2 acc=T):=hrow;have HLEN:Hid (l2.length<=g1+1):=hlen;have hl2:l2.length<=402:=by omega
     clear hrow hne hlen
     go_wp2_with fail
     refine(ae5 pb tb cap s A l2 _ ik dQ hl hl2).mono ?_;rintro e w4 ⟨v4,rfl,kj,gQ,⟨so,n4,c4,rfl⟩,x4,nX,lj⟩;have hs4:=gQ.size;have fV:=Ag hown gQ dQ;have Ug:=kj.lt;have uE:Hid ((Pl.di l2).1=true->x4=(Pl.di l2).2.2):=lj;have uF:Hid (iK w4 (.slice so n4 c4) x4):=nX;have jl:Hid (∀(i:Nat) u x,vs[i]?=some u->acc[i]?=some x->iK w4 u x):=fun i u x hu hx=>Ah pq (by decide) (fL i u x hu hx) gQ dQ
     clear lj nX fL
     go_wp2_with (at_builtin;refine wpList_append_lies _ rfl (.tmp 20) (.tmp 22) 57 rfl w.heap.size 63 i0 _ 1 24 Tryz.underlying57 hi hz0 hz1 hz2 rfl (by decide) u4 acc.length vs rfl (aJ fV (fun k hk=>Below.heap_alloc _ _ _ (au fV k hk).2)) ⟨w4.heap.size,0,none⟩ 1 1 [.slice so n4 c4] rfl rfl (World.news_of_block (cs:= #[.slice so n4 c4]) (t:=63) (fr:=(0,0)) (heap_alloc_new w4 _)) (by simp[Value.oneCell']) (by decide) (by unfold maxLen;omega) (by omega) (by simp;omega) (w4.heap.size+1) (by simp) ?_;intro g cap' w5 ho hgrow hat uo)
     have dR:=kj.Dd hgrow (fun k hk=>nQ fV hk) (by decide)
     have jO:=(hf2.trans gQ).Dd hgrow (fun k hk=>(au fV k hk).1)
     have Dh:=Mu (R:=iK) hvl (fun i u x hu hx=>De pq hgrow (fun k hk=>nQ fV hk) (by decide) (jl.out i u x hu hx)) (De pq hgrow (fun k hk=>nQ fV hk) (by decide) uF.out)
     have hg3:=Pl.Ua l2 ik;have ho':w5.ownsRow w.heap.size 63 1 (.slice (some ⟨g,0,none⟩) (acc.length+1) cap') (acc++[x4]).length (vs++[.slice so n4 c4]):=by
      simpa using ho
     have pA:(vs++[Value.slice so n4 c4]).length=(acc++[x4]).length:=by simp[hvl]
     have uG:Hid (∀(i:Nat) u y,(vs++[Value.slice so n4 c4])[i]?=some u->(acc++[x4])[i]?=some y->iK w5 u y):=Dh;clear hgrow ho hat fV hown kj gQ dQ hf2 jl uF Dh;refine(Hq 44 hg3.2 dR hl).mono ?_;rintro e w6 ⟨rfl,n6,rfl⟩;have pB:Hid (∀(i:Nat) u y,(vs++[Value.slice so n4 c4])[i]?=some u->(acc++[x4])[i]?=some y->iK (w5.drewN n6) u y):=fun i u y hu hy=>pq _ _ _ _ (uG.out i u y hu hy) (fun _ _ _ _ _=>rfl)
     cases hb:(Pl.di l2).1
     ·rw[hb] at dR;have HN:Hid (sx 63 iK Pl.di pb tb cap s A T w g1 (.slice (some ⟨g,0,none⟩) (acc.length+1) cap') false (w5.drewN n6)):=by
       refine⟨_,acc++[x4],true,_,dR.drewN n6,jO.drewN n6,hg3.2,pA,ho',pB.out,by simp;omega,by omega,fun h=>(by cases h),fun _=>Or.inr ⟨rfl,?_⟩⟩
       rw[<-iC.out,vY hb];exact⟨rfl,rfl⟩
      clear iC uE dR jO hg3 ho' ik pB uG pA hvl
      go_wp2_with fail
      go_roundg g1
      case measure=>omega
      case rel=>exact⟨_,rfl,HN⟩
     ·rw[hb] at dR;have hxy:=uE.out hb;cases hm:(Pl.mk 44 (Pl.di l2).2.1).1
      ·have HN:Hid (sx 63 iK Pl.di pb tb cap s A T w g1 (.slice (some ⟨g,0,none⟩) (acc.length+1) cap') false (w5.drewN n6)):=by
        refine⟨_,acc++[x4],false,_,dR.drewN n6,jO.drewN n6,hg3.2,pA,ho',pB.out,by simp;omega,by omega,fun h=>(by cases h),fun _=>Or.inl ⟨rfl,?_⟩⟩
        rw[<-iC.out,wh hb hm,hxy]
       clear iC uE dR jO hg3 ho' ik hxy pB uG pA hvl
       go_wp2_with fail
       go_roundg g1
       case measure=>omega
       case rel=>exact⟨_,rfl,HN⟩
      ·obtain⟨t3,r3,ni,hk3⟩:∃t3 r3,(Pl.di l2).2.1=t3::r3/\t3.k=44:=Ms hm;rw[ni] at dR;obtain⟨c3,hc3,lg⟩:=dR.box;have wm:=(dR.drewN n6).next (by omega) c3 hc3 lg
       have HN:Hid (sx 63 iK Pl.di pb tb cap s A T w g1 (.slice (some ⟨g,0,none⟩) (acc.length+1) cap') true ((w5.drewN n6).setCell ⟨pb,1,none⟩ (.int .i64 ((c3.length:Int)+1)))):=by
        have wq:=hg3.2;have hlt:=(fun l h=>Pl.Hf l h) l2 hb
        have hle:=HLEN.out;rw[ni] at wq hlt;simp only[bO] at hlt;refine⟨r3,acc++[x4],false,_,wm,(jO.drewN n6).set 1 _,(Pl.Goes.tail wq (by omega)).2,pA,aJ ho' (fun k hk=>bg (fun e=>nP (w:=w5) ho' lg (by decide) (by rw[hk,e])) _),?_,by simp;omega,by omega,fun _=>⟨rfl,?_,by omega⟩,fun h=>(by cases h)⟩
        ·exact fun i u y hu hy=>Ah pq (by decide) (pB.out i u y hu hy) ((Fp.refl pb _).set 1 _) (dR.drewN n6)
        ·rw[<-iC.out,vZ hb hm,hxy,ni];simp[Pl.mk,hk3]
       have b1:(w5.drewN n6).cell? ⟨pb,1,none⟩=some (.int .i64 c3.length):=cell_of (w:=w5.drewN n6) lg 1;have g1':(w5.drewN n6).frozen? ⟨pb,1,none⟩=false:=aB (w:=w5.drewN n6) lg 1;have hcl:c3.length<=402:=by have h:=congrArg List.length hc3;simp at h;omega
       clear iC uE dR jO hg3 ho' ik hxy wm hc3 lg ni pB uG pA hvl;generalize w5.drewN n6=w7 at*
       go_wp2_with fail
       go_roundg g1
       case measure=>omega
       case rel=>exact⟨_,rfl,HN⟩
 ·have hT:=HT.out;unfold Pl.bo at hT;rw[if_pos hm] at hT;subst hT;clear HT
  go_wp2_with fail
  go_ret
  exact⟨_,rfl,eF,gw,⟨_,_,_,rfl⟩,[],⟨[],rfl,World.ownsRow_nil _ _ _ _,fun i u x hu=>(by simp at hu)⟩,fun _=>rfl⟩
theorem afm(pb tb cap:Nat)(s:List UInt8)(A l:List Pl.Tk)(w:World)(hch:Pl.eB s l)(hP:PS pb tb cap A l false w)(hl:A.length<=402)(hll:l.length<=402):
  Calls Tryz.prog 31 #[.pointer (some ⟨pb,0,none⟩)] w (Mt kI pb tb cap A (Pl.eJ l) w):=by
 obtain⟨pq,hinfo⟩:=both Uj x7;obtain⟨i0,hi,hz0,hz1,hz2⟩:=info_parts hinfo;generalize hT:Pl.eJ l=T;have HT:Hid (Pl.eJ l=T):=hT;have hpb:=hP.lt;clear hT
 go_enter Tryz.func31,Tryz.ntmps31
 go_wp2_with fail
 refine(yi pb tb cap s A l w Pl.EMPTY hch hP hl).mono ?_;rintro e w1 ⟨rfl,eF,gw⟩;cases hm:(Pl.wd Pl.EMPTY l).1
 ·rw[uB hm] at eF;have HM:Hid (Calls Tryz.prog 42 #[.pointer (some ⟨pb,0,none⟩),.int .u8 40] w1 fun e w'=>e=.returned (.tuple #[])/\Fp pb w w'/\∃l1 bad,PS pb tb cap A l1 bad w'/\Pl.eB s l1/\l1.length<=l.length/\
    ((bad=true/\xY T l1 true [])\/(bad=false/\Pl.bK Pl.bo l.length l1 []=T))):=by
   have hg:=Pl.uC (c:=40) hch (by omega)
   have hT:=HT.out;unfold Pl.eJ at hT;rw[if_neg (by rw[hm];simp)] at hT
   cases l with
   |nil=>exact hch.elim
   |cons t r=>
    by_cases hk:t.k=40
    ·have e:Pl.mk 40 (t::r)=(true,r):=by simp[Pl.mk,hk]
     refine(Hk pb tb cap A r t w1 40 eF hl hk (by omega)).mono ?_
     rintro e' w' ⟨rfl,h1,h2⟩;rw[e] at hg hT;rw[if_pos rfl] at hT;exact⟨rfl,gw.trans h2,r,false,h1,hg.2,by simp,Or.inr ⟨rfl,hT⟩⟩
    ·have e:Pl.mk 40 (t::r)=(false,t::r):=by simp[Pl.mk,hk]
     refine(Hl pb tb cap A r t w1 40 eF hl hk).mono ?_;rintro e' w' ⟨rfl,h1,h2⟩;rw[e] at hT;rw[if_neg (by simp)] at hT
     exact⟨rfl,gw.trans h2,t::r,true,h1,hch,ae _,Or.inl ⟨rfl,Or.inr ⟨rfl,by rw[<-hT];exact⟨rfl,rfl⟩⟩⟩⟩
  clear HT
  go_wp2_with fail
  refine HM.out.mono ?_;rintro e w3 ⟨rfl,hf3,l1,bad,iD,uD,kG,jC⟩;have bh:Hid (sx 57 jh Pl.bo pb tb cap s A T w l.length (.slice none 0 0) (!bad) w3):=by
   refine⟨l1,[],bad,[],iD,hf3,uD,rfl,World.ownsRow_nil _ _ _ _,fun i u x hu=>(by simp at hu),by simp,hll,fun hm'=>?_,fun hm'=>?_⟩
   ·rcases jC with⟨rfl,_⟩|⟨rfl,h⟩
    ·cases hm'
    ·exact⟨rfl,h,kG⟩
   ·rcases jC with⟨rfl,h⟩|⟨rfl,h⟩
    ·exact h
    ·cases hm'
  have hb2:w3.cell? ⟨pb,2,none⟩=some (.bool bad):=by
   obtain⟨c,_,hb⟩:=iD.box;exact cell_of hb 2
  clear jC HM kG uD iD hf3 eF gw hm hch hP;cases bad
  all_goals
   go_wp2_with fail
   go_loopg [4,5] l.length (fun g lv mv wr=>∃more:Bool,mv=.bool more/\Hid (sx 57 jh Pl.bo pb tb cap s A T w g lv more wr))
   case atStart=>exact⟨_,rfl,bh⟩
   case round=>
    obtain⟨more,rfl,HR⟩:=hrel;obtain⟨l2,acc,bad,vs,dQ,hf2,ik,hvl,hown,fL,hacc,qB,o9,hfin⟩:=HR.out;have hs2:=hf2.size;clear HR bh hb2;cases more
    ·have hF:=hfin rfl;clear hfin o9
     go_wp2_with fail
     refine(Mq hF ik dQ hl).mono ?_;rintro e w4 ⟨rfl,kj,gQ,C9⟩
     go_wp2_with fail
     go_ret
     refine⟨_,rfl,kj,hf2.trans gQ,?_,acc,⟨vs,hvl,wu (Ag hown gQ dQ),fun i u x hu hx=>Ah pq (by decide) (fL i u x hu hx) gQ dQ⟩,fun h=>(C9 h).symm⟩
     rcases hown.2 with⟨hv,_⟩|⟨g,cap,cur,hv,_⟩
     ·exact⟨_,_,_,hv⟩
     ·exact⟨_,_,_,hv⟩
    ·obtain⟨rfl,hrow,hlen⟩:=o9 rfl;clear hfin o9;have hne:l2≠[]:=fun e=>by rw[e] at ik;exact ik
     obtain⟨g1,rfl⟩:∃g1,gk=g1+1:=⟨gk-1,by have:=gL.2 hne;omega⟩
     have iC:Hid (Pl.bK Pl.bo (g1+1) l2 acc=T):=hrow;have HLEN:Hid (l2.length<=g1+1):=hlen;have hl2:l2.length<=402:=by omega
     clear hrow hne hlen
     go_wp2_with fail
     refine(UG pb tb cap s A l2 _ ik dQ hl hl2).mono ?_;rintro e w4 ⟨v4,rfl,kj,gQ,⟨so,n4,c4,rfl⟩,x4,nX,lj⟩;have hs4:=gQ.size;have fV:=Ag hown gQ dQ;have Ug:=kj.lt;have uE:Hid ((Pl.bo l2).1=true->x4=(Pl.bo l2).2.2):=lj;have uF:Hid (jh w4 (.slice so n4 c4) x4):=nX;have jl:Hid (∀(i:Nat) u x,vs[i]?=some u->acc[i]?=some x->jh w4 u x):=fun i u x hu hx=>Ah pq (by decide) (fL i u x hu hx) gQ dQ
     clear lj nX fL
     go_wp2_with (at_builtin;refine wpList_append_lies _ rfl (.tmp 20) (.tmp 22) 27 rfl w.heap.size 57 i0 _ 1 24 Tryz.underlying27 hi hz0 hz1 hz2 rfl (by decide) u4 acc.length vs rfl (aJ fV (fun k hk=>Below.heap_alloc _ _ _ (au fV k hk).2)) ⟨w4.heap.size,0,none⟩ 1 1 [.slice so n4 c4] rfl rfl (World.news_of_block (cs:= #[.slice so n4 c4]) (t:=57) (fr:=(0,0)) (heap_alloc_new w4 _)) (by simp[Value.oneCell']) (by decide) (by unfold maxLen;omega) (by omega) (by simp;omega) (w4.heap.size+1) (by simp) ?_;intro g cap' w5 ho hgrow hat uo)
     have dR:=kj.Dd hgrow (fun k hk=>nQ fV hk) (by decide)
     have jO:=(hf2.trans gQ).Dd hgrow (fun k hk=>(au fV k hk).1)
     have Dh:=Mu (R:=jh) hvl (fun i u x hu hx=>De pq hgrow (fun k hk=>nQ fV hk) (by decide) (jl.out i u x hu hx)) (De pq hgrow (fun k hk=>nQ fV hk) (by decide) uF.out)
     have hg3:=Pl.Mm l2 ik;have ho':w5.ownsRow w.heap.size 57 1 (.slice (some ⟨g,0,none⟩) (acc.length+1) cap') (acc++[x4]).length (vs++[.slice so n4 c4]):=by
      simpa using ho
     have pA:(vs++[Value.slice so n4 c4]).length=(acc++[x4]).length:=by simp[hvl]
     have uG:Hid (∀(i:Nat) u y,(vs++[Value.slice so n4 c4])[i]?=some u->(acc++[x4])[i]?=some y->jh w5 u y):=Dh;clear hgrow ho hat fV hown kj gQ dQ hf2 jl uF Dh;refine(Hq 44 hg3.2 dR hl).mono ?_;rintro e w6 ⟨rfl,n6,rfl⟩;have pB:Hid (∀(i:Nat) u y,(vs++[Value.slice so n4 c4])[i]?=some u->(acc++[x4])[i]?=some y->jh (w5.drewN n6) u y):=fun i u y hu hy=>pq _ _ _ _ (uG.out i u y hu hy) (fun _ _ _ _ _=>rfl)
     cases hb:(Pl.bo l2).1
     ·rw[hb] at dR;have HN:Hid (sx 57 jh Pl.bo pb tb cap s A T w g1 (.slice (some ⟨g,0,none⟩) (acc.length+1) cap') false (w5.drewN n6)):=by
       refine⟨_,acc++[x4],true,_,dR.drewN n6,jO.drewN n6,hg3.2,pA,ho',pB.out,by simp;omega,by omega,fun h=>(by cases h),fun _=>Or.inr ⟨rfl,?_⟩⟩
       rw[<-iC.out,vY hb];exact⟨rfl,rfl⟩
      clear iC uE dR jO hg3 ho' ik pB uG pA hvl
      go_wp2_with fail
      go_roundg g1
      case measure=>omega
      case rel=>exact⟨_,rfl,HN⟩
     ·rw[hb] at dR;have hxy:=uE.out hb;cases hm:(Pl.mk 44 (Pl.bo l2).2.1).1
      ·have HN:Hid (sx 57 jh Pl.bo pb tb cap s A T w g1 (.slice (some ⟨g,0,none⟩) (acc.length+1) cap') false (w5.drewN n6)):=by
        refine⟨_,acc++[x4],false,_,dR.drewN n6,jO.drewN n6,hg3.2,pA,ho',pB.out,by simp;omega,by omega,fun h=>(by cases h),fun _=>Or.inl ⟨rfl,?_⟩⟩
        rw[<-iC.out,wh hb hm,hxy]
       clear iC uE dR jO hg3 ho' ik hxy pB uG pA hvl
       go_wp2_with fail
       go_roundg g1
       case measure=>omega
       case rel=>exact⟨_,rfl,HN⟩
      ·obtain⟨t3,r3,ni,hk3⟩:∃t3 r3,(Pl.bo l2).2.1=t3::r3/\t3.k=44:=Ms hm;rw[ni] at dR;obtain⟨c3,hc3,lg⟩:=dR.box;have wm:=(dR.drewN n6).next (by omega) c3 hc3 lg
       have HN:Hid (sx 57 jh Pl.bo pb tb cap s A T w g1 (.slice (some ⟨g,0,none⟩) (acc.length+1) cap') true ((w5.drewN n6).setCell ⟨pb,1,none⟩ (.int .i64 ((c3.length:Int)+1)))):=by
        have wq:=hg3.2;have hlt:=(fun l h=>(Pl.C4 l h).1) l2 hb
        have hle:=HLEN.out;rw[ni] at wq hlt;simp only[bO] at hlt;refine⟨r3,acc++[x4],false,_,wm,(jO.drewN n6).set 1 _,(Pl.Goes.tail wq (by omega)).2,pA,aJ ho' (fun k hk=>bg (fun e=>nP (w:=w5) ho' lg (by decide) (by rw[hk,e])) _),?_,by simp;omega,by omega,fun _=>⟨rfl,?_,by omega⟩,fun h=>(by cases h)⟩
        ·exact fun i u y hu hy=>Ah pq (by decide) (pB.out i u y hu hy) ((Fp.refl pb _).set 1 _) (dR.drewN n6)
        ·rw[<-iC.out,vZ hb hm,hxy,ni];simp[Pl.mk,hk3]
       have b1:(w5.drewN n6).cell? ⟨pb,1,none⟩=some (.int .i64 c3.length):=cell_of (w:=w5.drewN n6) lg 1;have g1':(w5.drewN n6).frozen? ⟨pb,1,none⟩=false:=aB (w:=w5.drewN n6) lg 1;have hcl:c3.length<=402:=by have h:=congrArg List.length hc3;simp at h;omega
       clear iC uE dR jO hg3 ho' ik hxy wm hc3 lg ni pB uG pA hvl;generalize w5.drewN n6=w7 at*
       go_wp2_with fail
       go_roundg g1
       case measure=>omega
       case rel=>exact⟨_,rfl,HN⟩
 ·have hT:=HT.out;unfold Pl.eJ at hT;rw[if_pos hm] at hT;subst hT;clear HT
  go_wp2_with fail
  go_ret
  exact⟨_,rfl,eF,gw,⟨_,_,_,rfl⟩,[],⟨[],rfl,World.ownsRow_nil _ _ _ _,fun i u x hu=>(by simp at hu)⟩,fun _=>rfl⟩
end Go.Proofs.YtkjhhooecopolaaGreatDoor
