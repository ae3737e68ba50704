import Derived.Test.YtkjhhooecopolaaGreatDoorYz12
set_option maxRecDepth 100000
set_option maxHeartbeats 4000000
namespace Go.Proofs.YtkjhhooecopolaaGreatDoor
open Go.RowKit
theorem ju(w:World)(o:Obj){b k:Nat}(h:b<w.heap.size):(w.alloc o).cell? ⟨b,k,none⟩=w.cell? ⟨b,k,none⟩:=by
 simp only[World.cell?];rw[Below.heap_alloc _ _ _ h]
theorem afH{w:World}{so:Option Addr}{n cap:Nat}{g:List (Int×Int)}(hR:iU w (.slice so n cap) g){k:Nat}{p:Int×Int}(hp:g[k]?=some p):
  ∃b,so=some ⟨b,0,none⟩/\b<w.heap.size/\w.cell? ⟨b,k*2,none⟩=some (.int .i64 p.1)/\w.cell? ⟨b,k*2+1,none⟩=some (.int .i64 p.2):=by
 obtain⟨a0,a1⟩:=M0 g k p hp;obtain⟨b,c,hv,hb,hc⟩:=Dm hR a0;injection hv with hv;exact⟨b,hv,hb,hc _ _ a0,hc _ _ a1⟩
namespace Ge
end Ge
namespace Ge
def bG(e f:Pt×Pt):Int:=(e.2.1-e.1.1)*(f.2.2-f.1.2)-(e.2.2-e.1.2)*(f.2.1-f.1.1)
def mT(e f:Pt×Pt):Int:=(f.1.1-e.1.1)*(f.2.2-f.1.2)-(f.1.2-e.1.2)*(f.2.1-f.1.1)
def mX(e f:Pt×Pt):Int:=e.1.1*bG e f+(e.2.1-e.1.1)*mT e f
def mY(e f:Pt×Pt):Int:=e.1.2*bG e f+(e.2.2-e.1.2)*mT e f
def dJ(e f:Pt×Pt):Qt:=(aW (mX e f) (bG e f),aW (mY e f) (bG e f))
end Ge
namespace Ge
def hq(p:Qt)(e:Pt×Pt):Bool:=fo (p.1.1*p.2.2,p.2.1*p.1.2) (p.1.2*p.2.2) e
def pt(a:Pt):Qt:=((a.1,1),(a.2,1))
def yI(e:Pt×Pt)(out:List Qt)(f:Pt×Pt):List Qt:=
  if bG e f=0 then
    (let o1:=if hq (pt f.1) e then ins (pt f.1) out else out
     if hq (pt f.2) e then ins (pt f.2) o1 else o1)
  else if hq (dJ e f) e&&hq (dJ e f) f then ins (dJ e f) out else out
def pJ(l:List (Pt×Pt))(e:Pt×Pt):List Qt:=l.foldl (yI e) (ins (pt e.2) (ins (pt e.1) []))
theorem sU(a:Pt):fR (pt a):=⟨⟨by show(0:Int)<1;decide,by show Int.gcd a.1 1=1;exact RM ..⟩,⟨by show(0:Int)<1;decide,by show Int.gcd a.2 1=1;exact RM ..⟩⟩
theorem UZ{e f:Pt×Pt}(h:bG e f≠0):fR (dJ e f):=⟨Ax h,Ax h⟩
end Ge
theorem U0{e f:Ed}(he:fB e)(hf:fB f):(-20000<=Ge.bG e f/\Ge.bG e f<=20000)/\(-3000000<=Ge.mX e f/\Ge.mX e f<=3000000)/\(-3000000<=Ge.mY e f/\Ge.mY e f<=3000000):=by
 obtain⟨a1,a2,a3,a4⟩:=he;obtain⟨b1,b2,b3,b4⟩:=hf;have oD:∀{x y:Int},small x->small y-> -100<=y-x/\y-x<=100:=fun hx hy=>by unfold small at*;omega
 have x1:=oD a1 a3;have x2:=oD a2 a4;have x3:=oD b1 b3;have x4:=oD b2 b4;have x5:=oD a1 b1;have x6:=oD a2 b2;have m1: -10000<=(e.2.1-e.1.1)*(f.2.2-f.1.2)/\(e.2.1-e.1.1)*(f.2.2-f.1.2)<=10000:=pB (a:=100) (b:=100) x1 x4;have m2: -10000<=(e.2.2-e.1.2)*(f.2.1-f.1.1)/\(e.2.2-e.1.2)*(f.2.1-f.1.1)<=10000:=pB (a:=100) (b:=100) x2 x3;have m3: -10000<=(f.1.1-e.1.1)*(f.2.2-f.1.2)/\(f.1.1-e.1.1)*(f.2.2-f.1.2)<=10000:=pB (a:=100) (b:=100) x5 x4;have m4: -10000<=(f.1.2-e.1.2)*(f.2.1-f.1.1)/\(f.1.2-e.1.2)*(f.2.1-f.1.1)<=10000:=pB (a:=100) (b:=100) x6 x3;have hC:Ge.bG e f=(e.2.1-e.1.1)*(f.2.2-f.1.2)-(e.2.2-e.1.2)*(f.2.1-f.1.1):=rfl;have hT:Ge.mT e f=(f.1.1-e.1.1)*(f.2.2-f.1.2)-(f.1.2-e.1.2)*(f.2.1-f.1.1):=rfl;have cb: -20000<=Ge.bG e f/\Ge.bG e f<=20000:=by omega
 have tb: -20000<=Ge.mT e f/\Ge.mT e f<=20000:=by omega
 have m5: -1000000<=e.1.1*Ge.bG e f/\e.1.1*Ge.bG e f<=1000000:=pB (a:=50) (b:=20000) a1 cb;have m6: -2000000<=(e.2.1-e.1.1)*Ge.mT e f/\(e.2.1-e.1.1)*Ge.mT e f<=2000000:=pB (a:=100) (b:=20000) x1 tb;have m7: -1000000<=e.1.2*Ge.bG e f/\e.1.2*Ge.bG e f<=1000000:=pB (a:=50) (b:=20000) a2 cb;have m8: -2000000<=(e.2.2-e.1.2)*Ge.mT e f/\(e.2.2-e.1.2)*Ge.mT e f<=2000000:=pB (a:=100) (b:=20000) x2 tb;refine⟨cb,?_,?_⟩
 ·unfold Ge.mX;omega
 ·unfold Ge.mY;omega
namespace Pl
theorem afI{t:Tk}(h:Form t)(hk:t.k=110):fO t≠[44]:=fun e=>by
 have:=(Hn h 44 (by decide)).1 e
 rw[hk] at this;exact absurd this (by decide)
theorem Iu{a b:Tk}(h1:fO a≠[44])(h2:a.k≠110\/b.k≠110):bb a b=false:=by
 unfold bb;rcases h2 with h2|h2<;>simp[h1,h2]
theorem yJ{t:Tk}(h:Form t)(c:UInt8)(hc:c.toNat=40\/c.toNat=41\/c.toNat=44)(hk:t.k=c.toNat):wr t=[c]/\fO t=[c]/\t.k≠110:=by
 have e:=(Hn h c hc).2 hk;have hne:t.k≠110:=by omega
 exact⟨by unfold wr;rw[aa hne,e],e,hne⟩
theorem Iw{p t:Tk}{d:List Tk}(h:bb p t=false):fS p (t::d)=wr t++fS t d:=by
 show(if bb p t=true then[32] else[])++(wr t++fS t d)=_
 rw[h,aa (by simp),vT]
theorem DM{p t:Tk}{d:List Tk}(h:Form p)(hk:p.k=40):fS p (t::d)=wr t++fS t d:=by
 obtain⟨_,h2,h3⟩:=yJ h 40 (by decide) hk
 exact Iw (Iu (by rw[h2];decide) (ae h3))
theorem U1{p t:Tk}{d:List Tk}(h:Form p)(hk:p.k=41):fS p (t::d)=wr t++fS t d:=by
 obtain⟨_,h2,h3⟩:=yJ h 41 (by decide) hk
 exact Iw (Iu (by rw[h2];decide) (ae h3))
theorem Ix{p t:Tk}{d:List Tk}(h:Form p)(hk:p.k=44):fS p (t::d)=[32]++(wr t++fS t d):=by
 obtain⟨_,h2,_⟩:=yJ h 44 (by decide) hk
 show(if bb p t=true then[32] else[])++(wr t++fS t d)=_
 rw[ah (by unfold bb;simp[h2])]
structure Tx{α:Type}(ok:α->Prop)(txt:α->List UInt8)(c:List Tk)(x:α):Prop where
 ne:c≠[]
 br:∀p,Form p->p.k=40->fS p c=txt x
 co:∀p,Form p->p.k=44->fS p c=[32]++txt x
 cl:∀p t d,Form t->t.k≠110->fS p (c++t::d)=fS p c++(wr t++fS t d)
 AW:(∀t∈c,t.k=110->gJ t.n)->c.length<=402->ok x
def Says{α:Type}(ok:α->Prop)(txt:α->List UInt8)(item:List Tk->Bool×List Tk×α):Prop:=
 ∀l,(∀t∈l,Form t)->(item l).1=true->∃c,c++(item l).2.1=l/\Tx ok txt c (item l).2.2
theorem afJ:Says (fun p=>gJ p.1/\gJ p.2) fh cK:=by
 intro l hf h
 match l,hf,h with
 |[],_,h=>cases h
 |[x],_,h=>cases h
 |x::y::r,hf,h=>
  have e:cK (x::y::r)=if x.k=110 then(if y.k=110 then(true,r,(x.n,y.n)) else(false,y::r,(0,0))) else(false,x::y::r,(0,0)):=rfl
  rw[e] at h⊢;by_cases hx:x.k=110
  ·rw[ah hx] at h⊢;by_cases hy:y.k=110
   ·rw[ah hy];have fx:=hf x (by simp)
    have fy:=hf y (by simp)
    have w1:wr x=Lib.itoa x.n:=ah hx;have w2:wr y=Lib.itoa y.n:=ah hy;have hb:∀d,fS x (y::d)=[32]++(wr y++fS y d):=fun d=>by
     show(if bb x y=true then[32] else[])++(wr y++fS y d)=_
     rw[ah (by unfold bb;simp[hx,hy])]
    refine⟨[x,y],rfl,by simp,fun p fp hp=>?_,fun p fp hp=>?_,fun p t d ft ht=>?_,fun hn _=>⟨hn x (by simp) hx,hn y (by simp) hy⟩⟩
    ·rw[DM fp hp,hb,w1,w2];simp[fS,fh]
    ·rw[Ix fp hp,hb,w1,w2];simp[fS,fh]
    ·show(if bb p x=true then[32] else[])++(wr x++fS x (y::t::d))=((if bb p x=true then[32] else[])++(wr x++fS x [y]))++_
     rw[hb,hb,Iw (p:=y) (t:=t) (Iu (afI fy hy) (af ht))];simp[fS,List.append_assoc]
   ·rw[aa hy] at h;cases h
  ·rw[aa hx] at h;cases h
theorem qT{c:Nat}{l:List Tk}(h:(mk c l).1=true):∃t,l=t::(mk c l).2/\t.k=c:=by
 cases l with
 |nil=>cases h
 |cons t r=>
  have e:mk c (t::r)=if t.k=c then(true,r) else(false,t::r):=rfl
  rw[e] at h⊢;by_cases hk:t.k=c
  ·rw[ah hk];exact⟨t,rfl,hk⟩
  ·rw[aa hk] at h;cases h
theorem Iy{q:List UInt8}{l:List Tk}(h:(wd q l).1=true):∃t,l=t::(wd q l).2/\t.k=119/\t.raw=q:=by
 cases l with
 |nil=>cases h
 |cons t r=>
  have e:wd q (t::r)=if t.k=119/\t.raw=q then(true,r) else(false,t::r):=rfl
  rw[e] at h⊢;by_cases hk:t.k=119/\t.raw=q
  ·rw[ah hk];exact⟨t,rfl,hk⟩
  ·rw[aa hk] at h;cases h
theorem Iz{α:Type}{ok:α->Prop}{txt:α->List UInt8}{item:List Tk->Bool×List Tk×α}(hi:Says ok txt item):
  ∀(f:Nat)(l:List Tk)(acc:List α),(∀t∈l,Form t)->(bV item f l acc).1=true->
   ∃c xs,c++(bV item f l acc).2.1=l/\(bV item f l acc).2.2=acc++xs/\xs≠[]/\
    Tx (fun xs=>xs.length<=402/\∀x∈xs,ok x) (fun xs=>aN txt xs++[41]) c xs/\xs.length<=c.length
 |0,l,acc,_,h=>by cases h
 |f+1,l,acc,hf,h=>by
  unfold bV at h⊢;by_cases h1:(item l).1=true
  ·rw[ah h1] at h⊢;obtain⟨c0,hc0,T0⟩:=hi l hf h1;generalize(item l).2.1=rest at*;generalize(item l).2.2=x at*;have fg:∀t∈rest,Form t:=fun t ht=>hf t (by rw[<-hc0];simp[ht])
   have hn0:1<=c0.length:=gV.2 T0.ne;by_cases h2:(mk 44 rest).1=true
   ·rw[ah h2] at h⊢;obtain⟨t,ht,hk⟩:=qT h2;have ft:Form t:=fg t (by rw[ht];simp)
    obtain⟨c1,xs,hc1,hv,hne,T1,hlen⟩:=Iz hi f (mk 44 rest).2 (acc++[x]) (fun u hu=>fg u (by rw[ht];simp[hu])) h
    obtain⟨s1,s2,s3⟩:=yJ ft 44 (by decide) hk
    have hj:aN txt (x::xs)=txt x++([44,32]++aN txt xs):=by
     cases xs with
     |nil=>exact absurd rfl hne
     |cons a b=>rfl
    refine⟨c0++t::c1,x::xs,by rw[fI,lY,hc1,<-ht,hc0],by rw[hv];simp,by simp,⟨by simp,fun p fp hp=>?_,fun p fp hp=>?_,fun p u d fu hu=>?_,fun hn hl=>?_⟩,by simp;omega⟩
    ·rw[T0.cl p t c1 ft s3,T0.br p fp hp,T1.co t ft hk,s1,hj];simp
    ·rw[T0.cl p t c1 ft s3,T0.co p fp hp,T1.co t ft hk,s1,hj];simp
    ·rw[fI,lY,T0.cl p t _ ft s3,T0.cl p t c1 ft s3,T1.cl t u d fu hu];simp[List.append_assoc]
    ·have hl':c0.length+(c1.length+1)<=402:=by simpa using hl
     have k0:=T0.AW (fun t ht=>hn t (by simp[ht])) (by omega)
     have k1:=T1.AW (fun t ht=>hn t (by simp[ht])) (by omega)
     exact⟨by simp;omega,fun y hy=>by
      rcases aV.1 hy with e|e
      ·rw[e];exact k0
      ·exact k1.2 y e⟩
   ·rw[aa h2] at h⊢;obtain⟨t,ht,hk⟩:=qT (c:=41) h;have ft:Form t:=fg t (by rw[ht];simp)
    obtain⟨s1,s2,s3⟩:=yJ ft 41 (by decide) hk
    have hw:fS t []=[]:=rfl;refine⟨c0++[t],[x],by rw[fI,CD,<-ht,hc0],rfl,by simp,⟨by simp,fun p fp hp=>?_,fun p fp hp=>?_,fun p u d fu hu=>?_,fun hn hl=>?_⟩,by simp⟩
    ·rw[T0.cl p t [] ft s3,T0.br p fp hp,s1,hw];simp[aN]
    ·rw[T0.cl p t [] ft s3,T0.co p fp hp,s1,hw];simp[aN]
    ·rw[fI,CD,T0.cl p t _ ft s3,T0.cl p t [] ft s3,U1 ft hk,hw];simp[List.append_assoc]
    ·have hl':c0.length+1<=402:=by simpa using hl
     have k0:=T0.AW (fun t ht=>hn t (by simp[ht])) (by omega)
     exact⟨by simp,fun y hy=>by rw[bU.1 hy];exact k0⟩
  ·rw[aa h1] at h;cases h
end Pl
def Pl.M6(s:List UInt8):List UInt8:=if(Pl.err s).1=0 then Pl.wt (Pl.took s) else[]
theorem yK{s:List UInt8}(h:(Pl.err s).1=0):s.length<=400/\(Pl.err s).2=0/\(Pl.aM (Pl.all s)).1=true/\Pl.hk (Pl.aM (Pl.all s)).2.1=101/\(Pl.took s).find? outT=none:=by
 unfold Pl.err at h⊢;by_cases h1:400<s.length
 ·rw[ah h1] at h;cases h
 ·rw[aa h1] at h⊢;by_cases h2:(Pl.aM (Pl.all s)).1=true/\Pl.hk (Pl.aM (Pl.all s)).2.1=101
  ·rw[ah h2] at h⊢;cases h3:(Pl.took s).find? outT with
   |some u=>rw[h3] at h;cases h
   |none=>exact⟨by omega,rfl,h2.1,h2.2,rfl⟩
  ·rw[aa h2] at h;cases h
theorem afK{s:List UInt8}{t:Pl.Tk}(h:t∈Pl.took s):t∈Pl.all s:=by
 unfold Pl.took at h;exact nW h
theorem U2{s:List UInt8}(h:(Pl.err s).1=0):(∀t∈Pl.took s,(Pl.wr t).length<=400)/\(∀t∈Pl.took s,t.k=110-> -50<=t.n/\t.n<=50)/\(Pl.took s).length<=402:=by
 obtain⟨h1,_,_,_,h5⟩:=yK h;have hr:∀t∈Pl.took s,t.k=110-> -50<=t.n/\t.n<=50:=fun t ht hk=>by
  have:=acz.1 h5 t ht;unfold outT kR at this;simp[hk] at this;omega
 refine⟨fun t ht=>?_,hr,?_⟩
 ·unfold Pl.wr;by_cases hk:t.k=110
  ·rw[ah hk];have:=hr t ht hk;have:=Lib.itoa_length_le t.n (by omega) (by omega)
   omega
  ·rw[aa hk];have hp:=(Pl.Hj s t (afK ht)).1;unfold Pl.fO;split
   ·simp
   ·omega
 ·have:=Pl.yq s;unfold Pl.took;rw[iy];omega
namespace Pl
theorem Tx.bracket{α β:Type}{ok1:α->Prop}{U3:β->Prop}{U4:α->List UInt8}{U5:β->List UInt8}{c:List Tk}{x:α}{y:β}{t:Tk}(T:Tx ok1 U4 c x)(ft:Form t)(hk:t.k=40)
  (ho:ok1 x->U3 y)(ht:U5 y=[40]++U4 x):Tx U3 U5 (t::c) y:=by
 obtain⟨s1,_,s3⟩:=yJ ft 40 (by decide) hk
 refine⟨by simp,fun p fp hp=>?_,fun p fp hp=>?_,fun p u d fu hu=>?_,fun hn hl=>?_⟩
 ·rw[DM fp hp,T.br t ft hk,s1,ht]
 ·rw[Ix fp hp,T.br t ft hk,s1,ht]
 ·show(if bb p t=true then[32] else[])++(wr t++fS t (c++u::d))=((if bb p t=true then[32] else[])++(wr t++fS t c))++_
  rw[T.cl t u d fu hu];simp[List.append_assoc]
 ·have hl':c.length+1<=402:=by simpa using hl
  exact ho (T.AW (fun t ht=>hn t (by simp[ht])) (by omega))
theorem afL{α:Type}{ok:List α->Prop}{txt:α->List UInt8}{t:Tk}(ft:Form t)(hk:t.k=41)(ho:ok []):Tx ok (fun xs=>aN txt xs++[41]) [t] []:=by
 obtain⟨s1,_,s3⟩:=yJ ft 41 (by decide) hk
 refine⟨by simp,fun p fp hp=>?_,fun p fp hp=>?_,fun p u d fu hu=>?_,fun _ _=>ho⟩
 ·rw[DM fp hp,s1];rfl
 ·rw[Ix fp hp,s1];rfl
 ·show(if bb p t=true then[32] else[])++(wr t++fS t (u::d))=((if bb p t=true then[32] else[])++(wr t++[]))++_
  rw[U1 ft hk];simp[List.append_assoc]
theorem U6{α:Type}{ok:α->Prop}{txt:α->List UInt8}{t:Tk}{y:α}(hk:t.k=119)(hr:t.raw=EMPTY)(ht:txt y=EMPTY)(ho:ok y):Tx ok txt [t] y:=by
 have hp:fO t=EMPTY:=by unfold fO;rw[aa (by rw[hk];decide),hr]
 have s1:wr t=EMPTY:=by unfold wr;rw[aa (by rw[hk];decide),hp]
 refine⟨by simp,fun p fp hp=>?_,fun p fp hp=>?_,fun p u d fu hu=>?_,fun _ _=>ho⟩
 ·rw[DM fp hp,s1,ht];rfl
 ·rw[Ix fp hp,s1,ht];rfl
 ·show(if bb p t=true then[32] else[])++(wr t++fS t (u::d))=((if bb p t=true then[32] else[])++(wr t++[]))++_
  rw[Iw (Iu (by rw[hp];decide) (ae (by rw[hk];decide)))]
  simp[List.append_assoc]
theorem afM:Says (fun g=>mD g/\g.length<=402) cD dB:=by
 intro l hf h;unfold dB at h⊢;by_cases h1:(mk 40 l).1=true
 ·rw[ah h1] at h⊢;obtain⟨t,ht,hk⟩:=qT h1;have ft:Form t:=hf t (by rw[ht];simp)
  have gI:∀u∈(mk 40 l).2,Form u:=fun u hu=>hf u (by rw[ht];simp[hu])
  by_cases h2:(mk 41 (mk 40 l).2).1=true
  ·rw[ah h2];obtain⟨t2,ht2,hk2⟩:=qT h2;have ft2:Form t2:=gI t2 (by rw[ht2];simp)
   refine⟨[t,t2],?_,(afL (ok:=fun g=>mD g/\g.length<=402) (txt:=fh) ft2 hk2 ⟨fun p hp=>by simp at hp,by simp⟩).bracket ft hk id rfl⟩
   show t::t2::(mk 41 (mk 40 l).2).2=l;rw[<-ht2,<-ht]
  ·rw[aa h2] at h⊢;obtain⟨c,xs,hc,hv,_,T,_⟩:=Iz afJ l.length (mk 40 l).2 [] gI h;rw[vT] at hv;rw[hv];exact⟨t::c,by rw[lY,hc,<-ht],T.bracket ft hk (fun o=>⟨fun p hp=>o.2 p hp,o.1⟩) rfl⟩
 ·rw[aa h1] at h;cases h
def sV(ps:List (List (List (Int×Int)))):List UInt8:=if ps.length=0 then EMPTY else[40]++(aN bQ ps++[41])
theorem U7(ps:List (List (List (Int×Int)))):kU ps=cP++([32]++sV ps):=by
 unfold kU sV;by_cases h:ps.length=0
 ·rw[ah h,ah h]
 ·rw[aa h,aa h];simp
theorem U8:Says pI bQ bA:=by
 intro l hf h;unfold bA at h⊢;by_cases h0:(wd EMPTY l).1=true
 ·rw[ah h0];obtain⟨t,ht,hk,hr⟩:=Iy h0;exact⟨[t],by rw[CD,<-ht],U6 hk hr rfl ⟨by simp,fun p hp=>by simp at hp⟩⟩
 ·rw[aa h0] at h⊢;by_cases h1:(mk 40 l).1=true
  ·rw[ah h1] at h⊢;obtain⟨t,ht,hk⟩:=qT h1;have ft:Form t:=hf t (by rw[ht];simp)
   have gI:∀u∈(mk 40 l).2,Form u:=fun u hu=>hf u (by rw[ht];simp[hu])
   obtain⟨c,xs,hc,hv,hne,T,_⟩:=Iz afM l.length (mk 40 l).2 [] gI h;rw[vT] at hv;rw[hv];have hl:¬xs.length=0:=fun e=>hne (gF.1 e)
   exact⟨t::c,by rw[lY,hc,<-ht],T.bracket ft hk (fun o=>⟨o.1,fun p hp=>o.2 p hp⟩) (aa hl)⟩
  ·rw[aa h1] at h;cases h
theorem afO:Says mG sV eY:=by
 intro l hf h;unfold eY at h⊢;by_cases h0:(wd EMPTY l).1=true
 ·rw[ah h0];obtain⟨t,ht,hk,hr⟩:=Iy h0;exact⟨[t],by rw[CD,<-ht],U6 hk hr rfl ⟨by simp,fun p hp=>by simp at hp⟩⟩
 ·rw[aa h0] at h⊢;by_cases h1:(mk 40 l).1=true
  ·rw[ah h1] at h⊢;obtain⟨t,ht,hk⟩:=qT h1;have ft:Form t:=hf t (by rw[ht];simp)
   have gI:∀u∈(mk 40 l).2,Form u:=fun u hu=>hf u (by rw[ht];simp[hu])
   obtain⟨c,xs,hc,hv,hne,T,_⟩:=Iz U8 l.length (mk 40 l).2 [] gI h;rw[vT] at hv;rw[hv];have hl:¬xs.length=0:=fun e=>hne (gF.1 e)
   exact⟨t::c,by rw[lY,hc,<-ht],T.bracket ft hk (fun o=>⟨o.1,fun p hp=>o.2 p hp⟩) (aa hl)⟩
  ·rw[aa h1] at h;cases h
theorem U9{α:Type}{ok:α->Prop}{txt:α->List UInt8}{c:List Tk}{x:α}{a:Tk}{q:List UInt8}(T:Tx ok txt c x)(hk:a.k=119)(hr:a.raw=q):wt (a::c)=q++([32]++txt x):=by
 have h:=T.br ⟨40,[40],0,0⟩ (af (ae ⟨40,rfl,rfl,by decide⟩)) rfl
 have hne:=T.ne;cases c with
 |nil=>exact absurd rfl hne
 |cons b r=>
  rw[DM (af (ae ⟨40,rfl,rfl,by decide⟩)) rfl] at h
  have hp:fO a=q:=by unfold fO;rw[aa (by rw[hk];decide),hr]
  have s1:wr a=q:=by unfold wr;rw[aa (by rw[hk];decide),hp]
  show wr a++([32]++(wr b++fS b r))=_;rw[h,s1]
theorem Va{s:List UInt8}(h:(err s).1=0)(hw:(wd bB (all s)).1=true):
  ∃gs,(aM (all s)).2.2=[gs]/\pI gs/\wt (took s)=bB++([32]++bQ gs):=by
 obtain⟨_,_,h1,_⟩:=yK h;obtain⟨_,hn,hl⟩:=U2 h;have pE:=AK s;have hpw:aM (all s)=((bA (wd bB (all s)).2).1,(bA (wd bB (all s)).2).2.1,[(bA (wd bB (all s)).2).2.2]):=by
  unfold aM;rw[ah hw]
 rw[hpw] at h1 pE;obtain⟨a,ha,hk,hr⟩:=Iy hw;have hf:∀t∈all s,Form t:=fun t ht=>Mf (Hj s t ht)
 obtain⟨c,hc,T⟩:=U8 (wd bB (all s)).2 (fun t ht=>hf t (by rw[ha];simp[ht])) h1
 have ht:took s=a::c:=by
  refine CC (pE.trans (ha.trans ?_));show a::_=a::(c++_);rw[hc]
 rw[ht] at hn hl;exact⟨_,by rw[hpw],T.AW (fun t h=>hn t (by simp[h])) (by simp at hl;omega),by rw[ht];exact U9 T hk hr⟩
theorem Vb{s:List UInt8}(h:(err s).1=0)(hw0:(wd bB (all s)).1=false):
  (wd cP (all s)).1=true/\mG (aM (all s)).2.2/\wt (took s)=kU (aM (all s)).2.2:=by
 obtain⟨_,_,h1,_⟩:=yK h;obtain⟨_,hn,hl⟩:=U2 h;have pE:=AK s;by_cases hw:(wd cP (all s)).1=true
 ·have hpw:aM (all s)=eY (wd cP (all s)).2:=by
   unfold aM;rw[aa (by rw[hw0];simp),ah hw]
  rw[hpw] at h1 pE⊢;obtain⟨a,ha,hk,hr⟩:=Iy hw;have hf:∀t∈all s,Form t:=fun t ht=>Mf (Hj s t ht)
  obtain⟨c,hc,T⟩:=afO (wd cP (all s)).2 (fun t ht=>hf t (by rw[ha];simp[ht])) h1
  have ht:took s=a::c:=by
   refine CC (pE.trans (ha.trans ?_));show a::_=a::(c++_);rw[hc]
  rw[ht] at hn hl;exact⟨hw,T.AW (fun t h=>hn t (by simp[h])) (by simp at hl;omega),by rw[ht,U7];exact U9 T hk hr⟩
 ·have hpw:aM (all s)=(false,all s,[]):=by
   unfold aM;rw[aa (by rw[hw0];simp),aa hw]
  rw[hpw] at h1;cases h1
end Pl
theorem yL(pb tb cap:Nat)(s:List UInt8)(A l:List Pl.Tk)(w:World)(q:List UInt8)(hch:Pl.eJ s l)(hP:PS pb tb cap A l false w)(hl:A.length<=402):
  Calls Tryz.prog 29 #[.pointer (some ⟨pb,0,none⟩),.string ⟨q.toArray⟩] w fun e w'=>e=.returned (.bool (Pl.wd q l).1)/\PS pb tb cap A (Pl.wd q l).2 false w'/\Fp pb w w':=by
 cases l with
 |nil=>exact hch.elim
 |cons t r=>
  by_cases hk:t.k=119
  ·by_cases hq:t.raw=q
   ·have e:Pl.wd q (t::r)=(true,r):=by simp[Pl.wd,hk,hq]
    rw[e];exact aff pb tb cap A r t w ⟨q.toArray⟩ hP hl hk (by rw[hq])
   ·have e:Pl.wd q (t::r)=(false,t::r):=by simp[Pl.wd,hq]
    rw[e];refine(afh pb tb cap A r t w ⟨q.toArray⟩ hP hl hk ?_).mono ?_
    ·rw[ByteArray.toList_eq,ByteArray.toList_eq,uv];intro h;exact hq (by simpa using h)
    ·rintro e w' ⟨rfl,n,rfl⟩;exact⟨rfl,hP.drewN n,(Fp.refl pb w).drewN n⟩
  ·have e:Pl.wd q (t::r)=(false,t::r):=by simp[Pl.wd,hk]
   rw[e];refine(afg pb tb cap A r t w ⟨q.toArray⟩ hP hl hk).mono ?_;rintro e w' ⟨rfl,n,rfl⟩;exact⟨rfl,hP.drewN n,(Fp.refl pb w).drewN n⟩
theorem both{a b:Prop}(ha:a)(hb:b):b/\a:=⟨hb,ha⟩
theorem Vc(pb tb cap:Nat)(s:List UInt8)(A l:List Pl.Tk)(w:World)(hch:Pl.eJ s l)(hP:PS pb tb cap A l false w)(hl:A.length<=402)(hll:l.length<=402):
  Calls Tryz.prog 30 #[.pointer (some ⟨pb,0,none⟩)] w (MW js pb tb cap A (Pl.bA l) w):=by
 obtain⟨pK,hinfo⟩:=both UM DF;obtain⟨i0,hi,hz0,hz1,hz2⟩:=info_parts hinfo;generalize hT:Pl.bA l=T;have HT:Hid (Pl.bA l=T):=hT;have hpb:=hP.lt;clear hT
 go_enter Tryz.func30,Tryz.ntmps30
 go_wp2_with fail
 refine(yL pb tb cap s A l w Pl.EMPTY hch hP hl).mono ?_;rintro e w1 ⟨rfl,eN,gI⟩;cases hm:(Pl.wd Pl.EMPTY l).1
 ·rw[uU hm] at eN;have HM:Hid (Calls Tryz.prog 42 #[.pointer (some ⟨pb,0,none⟩),.int .u8 40] w1 fun e w'=>e=.returned (.tuple #[])/\Fp pb w w'/\∃l1 bad,PS pb tb cap A l1 bad w'/\Pl.eJ s l1/\l1.length<=l.length/\
    ((bad=true/\yE T l1 true [])\/(bad=false/\Pl.bV Pl.dB l.length l1 []=T))):=by
   have hg:=Pl.uV (c:=40) hch (by omega)
   have hT:=HT.out;unfold Pl.bA at hT;rw[aa (by rw[hm];simp)] at hT
   cases l with
   |nil=>exact hch.elim
   |cons t r=>
    by_cases hk:t.k=40
    ·have e:Pl.mk 40 (t::r)=(true,r):=by simp[Pl.mk,hk]
     refine(Ii pb tb cap A r t w1 40 eN hl hk (by omega)).mono ?_
     rintro e' w' ⟨rfl,h1,h2⟩;rw[e] at hg hT;rw[ah rfl] at hT;exact⟨rfl,gI.trans h2,r,false,h1,hg.2,by simp,af ⟨rfl,hT⟩⟩
    ·have e:Pl.mk 40 (t::r)=(false,t::r):=by simp[Pl.mk,hk]
     refine(Ij pb tb cap A r t w1 40 eN hl hk).mono ?_;rintro e' w' ⟨rfl,h1,h2⟩;rw[e] at hT;rw[aa (by simp)] at hT
     exact⟨rfl,gI.trans h2,t::r,true,h1,hch,ai _,ae ⟨rfl,af ⟨rfl,by rw[<-hT];exact⟨rfl,rfl⟩⟩⟩⟩
  clear HT
  go_wp2_with fail
  refine HM.out.mono ?_;rintro e w3 ⟨rfl,hf3,l1,bad,iM,uW,kQ,jM⟩;have bw:Hid (sQ 63 iU Pl.dB pb tb cap s A T w l.length (.slice none 0 0) (!bad) w3):=by
   refine⟨l1,[],bad,[],iM,hf3,uW,rfl,World.ownsRow_nil _ _ _ _,fun i u x hu=>(by simp at hu),by simp,hll,fun hm'=>?_,fun hm'=>?_⟩
   ·rcases jM with⟨rfl,_⟩|⟨rfl,h⟩
    ·cases hm'
    ·exact⟨rfl,h,kQ⟩
   ·rcases jM with⟨rfl,h⟩|⟨rfl,h⟩
    ·exact h
    ·cases hm'
  have hb2:w3.cell? ⟨pb,2,none⟩=some (.bool bad):=by
   obtain⟨c,_,hb⟩:=iM.box;exact cell_of hb 2
  clear jM HM kQ uW iM hf3 eN gI hm hch hP;cases bad
  all_goals
   go_wp2_with fail
   go_loopg [4,5] l.length (fun g lv mv wr=>∃more:Bool,mv=.bool more/\Hid (sQ 63 iU Pl.dB pb tb cap s A T w g lv more wr))
   case atStart=>exact⟨_,rfl,bw⟩
   case round=>
    obtain⟨more,rfl,HR⟩:=hrel;obtain⟨l2,acc,bad,vs,dW,hf2,iB,hvl,hown,fT,hacc,qN,pH,hfin⟩:=HR.out;have hs2:=hf2.size;clear HR bw hb2;cases more
    ·have hF:=hfin rfl;clear hfin pH
     go_wp2_with fail
     refine(MT hF iB dW hl).mono ?_;rintro e w4 ⟨rfl,kG,ic,DC⟩
     go_wp2_with fail
     go_ret
     refine⟨_,rfl,kG,hf2.trans ic,?_,acc,⟨vs,hvl,wX (AL hown ic dW),fun i u x hu hx=>AO pK (by decide) (fT i u x hu hx) ic dW⟩,fun h=>(DC h).symm⟩
     rcases hown.2 with⟨hv,_⟩|⟨g,cap,cur,hv,_⟩
     ·exact⟨_,_,_,hv⟩
     ·exact⟨_,_,_,hv⟩
    ·obtain⟨rfl,hrow,hlen⟩:=pH rfl;clear hfin pH;have hne:l2≠[]:=fun e=>by rw[e] at iB;exact iB
     obtain⟨g1,rfl⟩:∃g1,gk=g1+1:=⟨gk-1,by have:=gV.2 hne;omega⟩
     have iL:Hid (Pl.bV Pl.dB (g1+1) l2 acc=T):=hrow;have HLEN:Hid (l2.length<=g1+1):=hlen;have hl2:l2.length<=402:=by omega
     clear hrow hne hlen
     go_wp2_with fail
     refine(afy pb tb cap s A l2 _ iB dW hl hl2).mono ?_;rintro e w4 ⟨v4,rfl,kG,ic,⟨so,n4,c4,rfl⟩,x4,oz,lL⟩;have hs4:=ic.size;have gh:=AL hown ic dW;have UK:=kG.lt;have uX:Hid ((Pl.dB l2).1=true->x4=(Pl.dB l2).2.2):=lL;have uY:Hid (iU w4 (.slice so n4 c4) x4):=oz;have jw:Hid (∀(i:Nat) u x,vs[i]?=some u->acc[i]?=some x->iU w4 u x):=fun i u x hu hx=>AO pK (by decide) (fT i u x hu hx) ic dW
     clear lL oz fT
     go_wp2_with (at_builtin;refine wpList_append_lies _ rfl (.tmp 20) (.tmp 22) 57 rfl w.heap.size 63 i0 _ 1 24 Tryz.underlying57 hi hz0 hz1 hz2 rfl (by decide) u4 acc.length vs rfl (aO gh (fun k hk=>Below.heap_alloc _ _ _ (aA gh k hk).2)) ⟨w4.heap.size,0,none⟩ 1 1 [.slice so n4 c4] rfl rfl (World.news_of_block (cs:= #[.slice so n4 c4]) (t:=63) (fr:=(0,0)) (heap_alloc_new w4 _)) (by simp[Value.oneCell']) (by decide) (by unfold maxLen;omega) (by omega) (by simp;omega) (w4.heap.size+1) (by simp) ?_;intro g cap' w5 ho hgrow hat uK)
     have dX:=kG.DJ hgrow (fun k hk=>oa gh hk) (by decide)
     have jY:=(hf2.trans ic).DJ hgrow (fun k hk=>(aA gh k hk).1)
     have DN:=MX (R:=iU) hvl (fun i u x hu hx=>DK pK hgrow (fun k hk=>oa gh hk) (by decide) (jw.out i u x hu hx)) (DK pK hgrow (fun k hk=>oa gh hk) (by decide) uY.out)
     have hg3:=Pl.UE l2 iB;have ho':w5.ownsRow w.heap.size 63 1 (.slice (some ⟨g,0,none⟩) (acc.length+1) cap') (acc++[x4]).length (vs++[.slice so n4 c4]):=by
      simpa using ho
     have pL:(vs++[Value.slice so n4 c4]).length=(acc++[x4]).length:=by simp[hvl]
     have uZ:Hid (∀(i:Nat) u y,(vs++[Value.slice so n4 c4])[i]?=some u->(acc++[x4])[i]?=some y->iU w5 u y):=DN;clear hgrow ho hat gh hown kG ic dW hf2 jw uY DN;refine(Ip 44 hg3.2 dX hl).mono ?_;rintro e w6 ⟨rfl,n6,rfl⟩;have pM:Hid (∀(i:Nat) u y,(vs++[Value.slice so n4 c4])[i]?=some u->(acc++[x4])[i]?=some y->iU (w5.drewN n6) u y):=fun i u y hu hy=>pK _ _ _ _ (uZ.out i u y hu hy) (fun _ _ _ _ _=>rfl)
     cases hb:(Pl.dB l2).1
     ·rw[hb] at dX;have HN:Hid (sQ 63 iU Pl.dB pb tb cap s A T w g1 (.slice (some ⟨g,0,none⟩) (acc.length+1) cap') false (w5.drewN n6)):=by
       refine⟨_,acc++[x4],true,_,dX.drewN n6,jY.drewN n6,hg3.2,pL,ho',pM.out,by simp;omega,by omega,fun h=>(by cases h),fun _=>af ⟨rfl,?_⟩⟩
       rw[<-iL.out,wR hb];exact⟨rfl,rfl⟩
      clear iL uX dX jY hg3 ho' iB pM uZ pL hvl
      go_wp2_with fail
      go_roundg g1
      case measure=>omega
      case rel=>exact⟨_,rfl,HN⟩
     ·rw[hb] at dX;have hxy:=uX.out hb;cases hm:(Pl.mk 44 (Pl.dB l2).2.1).1
      ·have HN:Hid (sQ 63 iU Pl.dB pb tb cap s A T w g1 (.slice (some ⟨g,0,none⟩) (acc.length+1) cap') false (w5.drewN n6)):=by
        refine⟨_,acc++[x4],false,_,dX.drewN n6,jY.drewN n6,hg3.2,pL,ho',pM.out,by simp;omega,by omega,fun h=>(by cases h),fun _=>ae ⟨rfl,?_⟩⟩
        rw[<-iL.out,wT hb hm,hxy]
       clear iL uX dX jY hg3 ho' iB hxy pM uZ pL hvl
       go_wp2_with fail
       go_roundg g1
       case measure=>omega
       case rel=>exact⟨_,rfl,HN⟩
      ·obtain⟨t3,r3,nJ,hk3⟩:∃t3 r3,(Pl.dB l2).2.1=t3::r3/\t3.k=44:=MV hm;rw[nJ] at dX;obtain⟨c3,hc3,lJ⟩:=dX.box;have wV:=(dX.drewN n6).next (by omega) c3 hc3 lJ
       have HN:Hid (sQ 63 iU Pl.dB pb tb cap s A T w g1 (.slice (some ⟨g,0,none⟩) (acc.length+1) cap') true ((w5.drewN n6).setCell ⟨pb,1,none⟩ (.int .i64 ((c3.length:Int)+1)))):=by
        have wW:=hg3.2;have hlt:=(fun l h=>Pl.Ib l h) l2 hb
        have hle:=HLEN.out;rw[nJ] at wW hlt;simp only[bW] at hlt;refine⟨r3,acc++[x4],false,_,wV,(jY.drewN n6).set 1 _,(Pl.Goes.tail wW (by omega)).2,pL,aO ho' (fun k hk=>bu (fun e=>n9 (w:=w5) ho' lJ (by decide) (by rw[hk,e])) _),?_,by simp;omega,by omega,fun _=>⟨rfl,?_,by omega⟩,fun h=>(by cases h)⟩
        ·exact fun i u y hu hy=>AO pK (by decide) (pM.out i u y hu hy) ((Fp.refl pb _).set 1 _) (dX.drewN n6)
        ·rw[<-iL.out,wS hb hm,hxy,nJ];simp[Pl.mk,hk3]
       have b1:(w5.drewN n6).cell? ⟨pb,1,none⟩=some (.int .i64 c3.length):=cell_of (w:=w5.drewN n6) lJ 1;have g1':(w5.drewN n6).frozen? ⟨pb,1,none⟩=false:=aH (w:=w5.drewN n6) lJ 1;have hcl:c3.length<=402:=by have h:=aw List.length hc3;simp at h;omega
       clear iL uX dX jY hg3 ho' iB hxy wV hc3 lJ nJ pM uZ pL hvl;generalize w5.drewN n6=w7 at*
       go_wp2_with fail
       go_roundg g1
       case measure=>omega
       case rel=>exact⟨_,rfl,HN⟩
 ·have hT:=HT.out;unfold Pl.bA at hT;rw[ah hm] at hT;subst hT;clear HT
  go_wp2_with fail
  go_ret
  exact⟨_,rfl,eN,gI,⟨_,_,_,rfl⟩,[],⟨[],rfl,World.ownsRow_nil _ _ _ _,fun i u x hu=>(by simp at hu)⟩,fun _=>rfl⟩
theorem afP(pb tb cap:Nat)(s:List UInt8)(A l:List Pl.Tk)(w:World)(hch:Pl.eJ s l)(hP:PS pb tb cap A l false w)(hl:A.length<=402)(hll:l.length<=402):
  Calls Tryz.prog 31 #[.pointer (some ⟨pb,0,none⟩)] w (MW kT pb tb cap A (Pl.eY l) w):=by
 obtain⟨pK,hinfo⟩:=both UN yG;obtain⟨i0,hi,hz0,hz1,hz2⟩:=info_parts hinfo;generalize hT:Pl.eY l=T;have HT:Hid (Pl.eY l=T):=hT;have hpb:=hP.lt;clear hT
 go_enter Tryz.func31,Tryz.ntmps31
 go_wp2_with fail
 refine(yL pb tb cap s A l w Pl.EMPTY hch hP hl).mono ?_;rintro e w1 ⟨rfl,eN,gI⟩;cases hm:(Pl.wd Pl.EMPTY l).1
 ·rw[uU hm] at eN;have HM:Hid (Calls Tryz.prog 42 #[.pointer (some ⟨pb,0,none⟩),.int .u8 40] w1 fun e w'=>e=.returned (.tuple #[])/\Fp pb w w'/\∃l1 bad,PS pb tb cap A l1 bad w'/\Pl.eJ s l1/\l1.length<=l.length/\
    ((bad=true/\yE T l1 true [])\/(bad=false/\Pl.bV Pl.bA l.length l1 []=T))):=by
   have hg:=Pl.uV (c:=40) hch (by omega)
   have hT:=HT.out;unfold Pl.eY at hT;rw[aa (by rw[hm];simp)] at hT
   cases l with
   |nil=>exact hch.elim
   |cons t r=>
    by_cases hk:t.k=40
    ·have e:Pl.mk 40 (t::r)=(true,r):=by simp[Pl.mk,hk]
     refine(Ii pb tb cap A r t w1 40 eN hl hk (by omega)).mono ?_
     rintro e' w' ⟨rfl,h1,h2⟩;rw[e] at hg hT;rw[ah rfl] at hT;exact⟨rfl,gI.trans h2,r,false,h1,hg.2,by simp,af ⟨rfl,hT⟩⟩
    ·have e:Pl.mk 40 (t::r)=(false,t::r):=by simp[Pl.mk,hk]
     refine(Ij pb tb cap A r t w1 40 eN hl hk).mono ?_;rintro e' w' ⟨rfl,h1,h2⟩;rw[e] at hT;rw[aa (by simp)] at hT
     exact⟨rfl,gI.trans h2,t::r,true,h1,hch,ai _,ae ⟨rfl,af ⟨rfl,by rw[<-hT];exact⟨rfl,rfl⟩⟩⟩⟩
  clear HT
  go_wp2_with fail
  refine HM.out.mono ?_;rintro e w3 ⟨rfl,hf3,l1,bad,iM,uW,kQ,jM⟩;have bw:Hid (sQ 57 js Pl.bA pb tb cap s A T w l.length (.slice none 0 0) (!bad) w3):=by
   refine⟨l1,[],bad,[],iM,hf3,uW,rfl,World.ownsRow_nil _ _ _ _,fun i u x hu=>(by simp at hu),by simp,hll,fun hm'=>?_,fun hm'=>?_⟩
   ·rcases jM with⟨rfl,_⟩|⟨rfl,h⟩
    ·cases hm'
    ·exact⟨rfl,h,kQ⟩
   ·rcases jM with⟨rfl,h⟩|⟨rfl,h⟩
    ·exact h
    ·cases hm'
  have hb2:w3.cell? ⟨pb,2,none⟩=some (.bool bad):=by
   obtain⟨c,_,hb⟩:=iM.box;exact cell_of hb 2
  clear jM HM kQ uW iM hf3 eN gI hm hch hP;cases bad
  all_goals
   go_wp2_with fail
   go_loopg [4,5] l.length (fun g lv mv wr=>∃more:Bool,mv=.bool more/\Hid (sQ 57 js Pl.bA pb tb cap s A T w g lv more wr))
   case atStart=>exact⟨_,rfl,bw⟩
   case round=>
    obtain⟨more,rfl,HR⟩:=hrel;obtain⟨l2,acc,bad,vs,dW,hf2,iB,hvl,hown,fT,hacc,qN,pH,hfin⟩:=HR.out;have hs2:=hf2.size;clear HR bw hb2;cases more
    ·have hF:=hfin rfl;clear hfin pH
     go_wp2_with fail
     refine(MT hF iB dW hl).mono ?_;rintro e w4 ⟨rfl,kG,ic,DC⟩
     go_wp2_with fail
     go_ret
     refine⟨_,rfl,kG,hf2.trans ic,?_,acc,⟨vs,hvl,wX (AL hown ic dW),fun i u x hu hx=>AO pK (by decide) (fT i u x hu hx) ic dW⟩,fun h=>(DC h).symm⟩
     rcases hown.2 with⟨hv,_⟩|⟨g,cap,cur,hv,_⟩
     ·exact⟨_,_,_,hv⟩
     ·exact⟨_,_,_,hv⟩
    ·obtain⟨rfl,hrow,hlen⟩:=pH rfl;clear hfin pH;have hne:l2≠[]:=fun e=>by rw[e] at iB;exact iB
     obtain⟨g1,rfl⟩:∃g1,gk=g1+1:=⟨gk-1,by have:=gV.2 hne;omega⟩
     have iL:Hid (Pl.bV Pl.bA (g1+1) l2 acc=T):=hrow;have HLEN:Hid (l2.length<=g1+1):=hlen;have hl2:l2.length<=402:=by omega
     clear hrow hne hlen
     go_wp2_with fail
     refine(Vc pb tb cap s A l2 _ iB dW hl hl2).mono ?_;rintro e w4 ⟨v4,rfl,kG,ic,⟨so,n4,c4,rfl⟩,x4,oz,lL⟩;have hs4:=ic.size;have gh:=AL hown ic dW;have UK:=kG.lt;have uX:Hid ((Pl.bA l2).1=true->x4=(Pl.bA l2).2.2):=lL;have uY:Hid (js w4 (.slice so n4 c4) x4):=oz;have jw:Hid (∀(i:Nat) u x,vs[i]?=some u->acc[i]?=some x->js w4 u x):=fun i u x hu hx=>AO pK (by decide) (fT i u x hu hx) ic dW
     clear lL oz fT
     go_wp2_with (at_builtin;refine wpList_append_lies _ rfl (.tmp 20) (.tmp 22) 27 rfl w.heap.size 57 i0 _ 1 24 Tryz.underlying27 hi hz0 hz1 hz2 rfl (by decide) u4 acc.length vs rfl (aO gh (fun k hk=>Below.heap_alloc _ _ _ (aA gh k hk).2)) ⟨w4.heap.size,0,none⟩ 1 1 [.slice so n4 c4] rfl rfl (World.news_of_block (cs:= #[.slice so n4 c4]) (t:=57) (fr:=(0,0)) (heap_alloc_new w4 _)) (by simp[Value.oneCell']) (by decide) (by unfold maxLen;omega) (by omega) (by simp;omega) (w4.heap.size+1) (by simp) ?_;intro g cap' w5 ho hgrow hat uK)
     have dX:=kG.DJ hgrow (fun k hk=>oa gh hk) (by decide)
     have jY:=(hf2.trans ic).DJ hgrow (fun k hk=>(aA gh k hk).1)
     have DN:=MX (R:=js) hvl (fun i u x hu hx=>DK pK hgrow (fun k hk=>oa gh hk) (by decide) (jw.out i u x hu hx)) (DK pK hgrow (fun k hk=>oa gh hk) (by decide) uY.out)
     have hg3:=Pl.MQ l2 iB;have ho':w5.ownsRow w.heap.size 57 1 (.slice (some ⟨g,0,none⟩) (acc.length+1) cap') (acc++[x4]).length (vs++[.slice so n4 c4]):=by
      simpa using ho
     have pL:(vs++[Value.slice so n4 c4]).length=(acc++[x4]).length:=by simp[hvl]
     have uZ:Hid (∀(i:Nat) u y,(vs++[Value.slice so n4 c4])[i]?=some u->(acc++[x4])[i]?=some y->js w5 u y):=DN;clear hgrow ho hat gh hown kG ic dW hf2 jw uY DN;refine(Ip 44 hg3.2 dX hl).mono ?_;rintro e w6 ⟨rfl,n6,rfl⟩;have pM:Hid (∀(i:Nat) u y,(vs++[Value.slice so n4 c4])[i]?=some u->(acc++[x4])[i]?=some y->js (w5.drewN n6) u y):=fun i u y hu hy=>pK _ _ _ _ (uZ.out i u y hu hy) (fun _ _ _ _ _=>rfl)
     cases hb:(Pl.bA l2).1
     ·rw[hb] at dX;have HN:Hid (sQ 57 js Pl.bA pb tb cap s A T w g1 (.slice (some ⟨g,0,none⟩) (acc.length+1) cap') false (w5.drewN n6)):=by
       refine⟨_,acc++[x4],true,_,dX.drewN n6,jY.drewN n6,hg3.2,pL,ho',pM.out,by simp;omega,by omega,fun h=>(by cases h),fun _=>af ⟨rfl,?_⟩⟩
       rw[<-iL.out,wR hb];exact⟨rfl,rfl⟩
      clear iL uX dX jY hg3 ho' iB pM uZ pL hvl
      go_wp2_with fail
      go_roundg g1
      case measure=>omega
      case rel=>exact⟨_,rfl,HN⟩
     ·rw[hb] at dX;have hxy:=uX.out hb;cases hm:(Pl.mk 44 (Pl.bA l2).2.1).1
      ·have HN:Hid (sQ 57 js Pl.bA pb tb cap s A T w g1 (.slice (some ⟨g,0,none⟩) (acc.length+1) cap') false (w5.drewN n6)):=by
        refine⟨_,acc++[x4],false,_,dX.drewN n6,jY.drewN n6,hg3.2,pL,ho',pM.out,by simp;omega,by omega,fun h=>(by cases h),fun _=>ae ⟨rfl,?_⟩⟩
        rw[<-iL.out,wT hb hm,hxy]
       clear iL uX dX jY hg3 ho' iB hxy pM uZ pL hvl
       go_wp2_with fail
       go_roundg g1
       case measure=>omega
       case rel=>exact⟨_,rfl,HN⟩
      ·obtain⟨t3,r3,nJ,hk3⟩:∃t3 r3,(Pl.bA l2).2.1=t3::r3/\t3.k=44:=MV hm;rw[nJ] at dX;obtain⟨c3,hc3,lJ⟩:=dX.box;have wV:=(dX.drewN n6).next (by omega) c3 hc3 lJ
       have HN:Hid (sQ 57 js Pl.bA pb tb cap s A T w g1 (.slice (some ⟨g,0,none⟩) (acc.length+1) cap') true ((w5.drewN n6).setCell ⟨pb,1,none⟩ (.int .i64 ((c3.length:Int)+1)))):=by
        have wW:=hg3.2;have hlt:=(fun l h=>(Pl.Dx l h).1) l2 hb
        have hle:=HLEN.out;rw[nJ] at wW hlt;simp only[bW] at hlt;refine⟨r3,acc++[x4],false,_,wV,(jY.drewN n6).set 1 _,(Pl.Goes.tail wW (by omega)).2,pL,aO ho' (fun k hk=>bu (fun e=>n9 (w:=w5) ho' lJ (by decide) (by rw[hk,e])) _),?_,by simp;omega,by omega,fun _=>⟨rfl,?_,by omega⟩,fun h=>(by cases h)⟩
        ·exact fun i u y hu hy=>AO pK (by decide) (pM.out i u y hu hy) ((Fp.refl pb _).set 1 _) (dX.drewN n6)
        ·rw[<-iL.out,wS hb hm,hxy,nJ];simp[Pl.mk,hk3]
       have b1:(w5.drewN n6).cell? ⟨pb,1,none⟩=some (.int .i64 c3.length):=cell_of (w:=w5.drewN n6) lJ 1;have g1':(w5.drewN n6).frozen? ⟨pb,1,none⟩=false:=aH (w:=w5.drewN n6) lJ 1;have hcl:c3.length<=402:=by have h:=aw List.length hc3;simp at h;omega
       clear iL uX dX jY hg3 ho' iB hxy wV hc3 lJ nJ pM uZ pL hvl;generalize w5.drewN n6=w7 at*
       go_wp2_with fail
       go_roundg g1
       case measure=>omega
       case rel=>exact⟨_,rfl,HN⟩
 ·have hT:=HT.out;unfold Pl.eY at hT;rw[ah hm] at hT;subst hT;clear HT
  go_wp2_with fail
  go_ret
  exact⟨_,rfl,eN,gI,⟨_,_,_,rfl⟩,[],⟨[],rfl,World.ownsRow_nil _ _ _ _,fun i u x hu=>(by simp at hu)⟩,fun _=>rfl⟩
end Go.Proofs.YtkjhhooecopolaaGreatDoor
