import Derived.Test.YtkjhhooecopolaaGreatDoorRz03
set_option maxRecDepth 100000
set_option maxHeartbeats 4000000
namespace Go.Proofs.YtkjhhooecopolaaGreatDoor
open Tryz
open Value renaming int->az,complex->aA,float->aB,agg->aC,bool->aD,string->aF,slice->aG,pointer->aH,tuple->aI
open IntKind renaming i64->aJ
open FloatKind renaming f64->aK
open Ending renaming returned->aL
open Go renaming World->aM,Value->aN,floatOfInt->aO
section
open Go.RowKit
namespace Ge
def hq(p:Qt)(e:Pt×Pt):Bool:=fo (p.1.1*p.2.2,p.2.1*p.1.2) (p.1.2*p.2.2) e
def pt(a:Pt):Qt:=((a.1,1),(a.2,1))
def Bh(e:Pt×Pt)(out:List Qt)(f:Pt×Pt):List Qt:=
  if dG e f=0 then
    (let o1:=if hq (pt f.1) e then ins (pt f.1) out else out
     if hq (pt f.2) e then ins (pt f.2) o1 else o1)
  else if hq (gA e f) e&&hq (gA e f) f then ins (gA e f) out else out
def qN(l:List (Pt×Pt))(e:Pt×Pt):List Qt:=l.foldl (Bh e) (ins (pt e.2) (ins (pt e.1) []))
theorem uW(a:Pt):iF (pt a):=⟨⟨by show(0:Int)<1;decide,by show Int.gcd a.1 1=1;exact VM ..⟩,⟨by show(0:Int)<1;decide,by show Int.gcd a.2 1=1;exact VM ..⟩⟩
theorem YH{e f:Pt×Pt}(h:dG e f≠0):iF (gA e f):=⟨qI h,qI h⟩
end Ge
theorem YI{n d:Int}(hd:d≠0)(hn: -10000000<=n/\n<=10000000)(hd2: -1000000<=d/\d<=1000000):(-10000000<=(Ge.bC n d).1/\(Ge.bC n d).1<=10000000)/\(0<(Ge.bC n d).2/\(Ge.bC n d).2<=1000000):=by
 obtain⟨g,g0,h1,h2,_⟩:=Ge.tM (n:=n) hd;have hp:=(Ge.qI (n:=n) hd).pos;have hg:1<=g.natAbs:=aa
 have k1:(Ge.bC n d).1.natAbs<=n.natAbs:=by
  conv=>rhs;rw[h1]
  rw[mq];exact OL _ hg
 have k2:(Ge.bC n d).2.natAbs<=d.natAbs:=by
  conv=>rhs;rw[h2]
  rw[mq];exact OL _ hg
 omega
theorem YJ{e f:Ed}(he:gz e)(hf:gz f):(-20000<=Ge.dG e f/\Ge.dG e f<=20000)/\(-3000000<=Ge.mX e f/\Ge.mX e f<=3000000)/\(-3000000<=Ge.mY e f/\Ge.mY e f<=3000000):=by
 obtain⟨a1,a2,a3,a4⟩:=he;obtain⟨b1,b2,b3,b4⟩:=hf;have pS:∀{x y:Int},small x->small y-> -100<=y-x/\y-x<=100:=λhx hy=>by unfold small at*;omega
 have x1:=pS a1 a3;have x2:=pS a2 a4;have x3:=pS b1 b3;have x4:=pS b2 b4;have x5:=pS a1 b1;have x6:=pS a2 b2;have m1: -10000<=(e.2.1-e.1.1)*(f.2.2-f.1.2)/\(e.2.1-e.1.1)*(f.2.2-f.1.2)<=10000:=pN (a:=100) (b:=100) x1 x4;have m2: -10000<=(e.2.2-e.1.2)*(f.2.1-f.1.1)/\(e.2.2-e.1.2)*(f.2.1-f.1.1)<=10000:=pN (a:=100) (b:=100) x2 x3;have m3: -10000<=(f.1.1-e.1.1)*(f.2.2-f.1.2)/\(f.1.1-e.1.1)*(f.2.2-f.1.2)<=10000:=pN (a:=100) (b:=100) x5 x4;have m4: -10000<=(f.1.2-e.1.2)*(f.2.1-f.1.1)/\(f.1.2-e.1.2)*(f.2.1-f.1.1)<=10000:=pN (a:=100) (b:=100) x6 x3;have hC:Ge.dG e f=(e.2.1-e.1.1)*(f.2.2-f.1.2)-(e.2.2-e.1.2)*(f.2.1-f.1.1):=rfl;have hT:Ge.mT e f=(f.1.1-e.1.1)*(f.2.2-f.1.2)-(f.1.2-e.1.2)*(f.2.1-f.1.1):=rfl;have cb: -20000<=Ge.dG e f/\Ge.dG e f<=20000:=aa
 have tb: -20000<=Ge.mT e f/\Ge.mT e f<=20000:=aa
 have m5: -1000000<=e.1.1*Ge.dG e f/\e.1.1*Ge.dG e f<=1000000:=pN (a:=50) (b:=20000) a1 cb;have m6: -2000000<=(e.2.1-e.1.1)*Ge.mT e f/\(e.2.1-e.1.1)*Ge.mT e f<=2000000:=pN (a:=100) (b:=20000) x1 tb;have m7: -1000000<=e.1.2*Ge.dG e f/\e.1.2*Ge.dG e f<=1000000:=pN (a:=50) (b:=20000) a2 cb;have m8: -2000000<=(e.2.2-e.1.2)*Ge.mT e f/\(e.2.2-e.1.2)*Ge.mT e f<=2000000:=pN (a:=100) (b:=20000) x2 tb;refine⟨cb,?_,?_⟩
 .unfold Ge.mX;omega
 .unfold Ge.mY;omega
namespace Pl
theorem ajb{t:Tk}(h:Form t)(hk:t.k=110):cM t≠[44]:=λe=>by
 have:=(KE h 44 ah).1 e
 rw[hk] at this;exact absurd this ah
theorem Li{a b:Tk}(h1:cM a≠[44])(h2:a.k≠110\/b.k≠110):bb a b=false:=by
 unfold bb;rcases h2 with h2|h2<;>simp[h1,h2]
theorem Bi{t:Tk}(h:Form t)(c:UInt8)(hc:c.toNat=40\/c.toNat=41\/c.toNat=44)(hk:t.k=c.toNat):wr t=[c]/\cM t=[c]/\t.k≠110:=by
 have e:=(KE h c hc).2 hk;have hne:t.k≠110:=aa
 exact⟨by unfold wr;rw[aQ hne,e],e,hne⟩
theorem Lj{p t:Tk}{d:List Tk}(h:bb p t=false):fM p (t::d)=wr t++fM t d:=by
 show(if bb p t=true then[32] else[])++(wr t++fM t d)=_
 rw[h,aQ af,sI]
theorem GJ{p t:Tk}{d:List Tk}(h:Form p)(hk:p.k=40):fM p (t::d)=wr t++fM t d:=by
 obtain⟨_,h2,h3⟩:=Bi h 40 ah hk
 exact Lj (Li (by rw[h2];decide) (aU h3))
theorem YK{p t:Tk}{d:List Tk}(h:Form p)(hk:p.k=41):fM p (t::d)=wr t++fM t d:=by
 obtain⟨_,h2,h3⟩:=Bi h 41 ah hk
 exact Lj (Li (by rw[h2];decide) (aU h3))
theorem Ll{p t:Tk}{d:List Tk}(h:Form p)(hk:p.k=44):fM p (t::d)=[32]++(wr t++fM t d):=by
 obtain⟨_,h2,_⟩:=Bi h 44 ah hk
 show(if bb p t=true then[32] else[])++(wr t++fM t d)=_
 rw[aV (by unfold bb;simp[h2])]
structure Tx{α:Type}(ok:α->Prop)(txt:α->List UInt8)(c:List Tk)(x:α):Prop where
 ne:c≠[]
 br:∀p,Form p->p.k=40->fM p c=txt x
 co:∀p,Form p->p.k=44->fM p c=[32]++txt x
 cl:∀p t d,Form t->t.k≠110->fM p (c++t::d)=fM p c++(wr t++fM t d)
 wX:(∀t∈c,t.k=110->mV t.n)->c.length<=402->ok x
def Says{α:Type}(ok:α->Prop)(txt:α->List UInt8)(item:List Tk->Bool×List Tk×α):Prop:=
 ∀l,(∀t∈l,Form t)->(item l).1=true->∃c,c++(item l).2.1=l/\Tx ok txt c (item l).2.2
theorem ajc:Says (λp=>mV p.1/\mV p.2) DX ir:=by
 intro l hf h
 match l,hf,h with
 |[],_,h=>cases h
 |[x],_,h=>cases h
 |x::y::r,hf,h=>
  have e:ir (x::y::r)=if x.k=110 then(if y.k=110 then(true,r,(x.n,y.n)) else(false,y::r,(0,0))) else(false,x::y::r,(0,0)):=rfl
  rw[e] at h⊢;by_cases hx:x.k=110
  .rw[aV hx] at h⊢;by_cases hy:y.k=110
   .rw[aV hy];have fx:=hf x af
    have fy:=hf y af
    have w1:wr x=Lib.itoa x.n:=aV hx;have w2:wr y=Lib.itoa y.n:=aV hy;have hb:∀d,fM x (y::d)=[32]++(wr y++fM y d):=λd=>by
     show(if bb x y=true then[32] else[])++(wr y++fM y d)=_
     rw[aV (by unfold bb;simp[hx,hy])]
    refine⟨[x,y],rfl,af,λp fp hp=>?_,λp fp hp=>?_,λp t d ft ht=>?_,λhn _=>⟨hn x af hx,hn y af hy⟩⟩
    .rw[GJ fp hp,hb,w1,w2];simp[fM,DX]
    .rw[Ll fp hp,hb,w1,w2];simp[fM,DX]
    .show(if bb p x=true then[32] else[])++(wr x++fM x (y::t::d))=((if bb p x=true then[32] else[])++(wr x++fM x [y]))++_
     rw[hb,hb,Lj (p:=y) (t:=t) (Li (ajb fy hy) (aT ht))];simp[fM,List.append_assoc]
   .rw[aQ hy] at h;cases h
  .rw[aQ hx] at h;cases h
theorem wT{c:Nat}{l:List Tk}(h:(mk c l).1=true):∃t,l=t::(mk c l).2/\t.k=c:=by
 cases l with
 |nil=>cases h
 |cons t r=>
  have e:mk c (t::r)=if t.k=c then(true,r) else(false,t::r):=rfl
  rw[e] at h⊢;by_cases hk:t.k=c
  .rw[aV hk];exact⟨t,rfl,hk⟩
  .rw[aQ hk] at h;cases h
theorem Lm{q:List UInt8}{l:List Tk}(h:(wd q l).1=true):∃t,l=t::(wd q l).2/\t.k=119/\t.raw=q:=by
 cases l with
 |nil=>cases h
 |cons t r=>
  have e:wd q (t::r)=if t.k=119/\t.raw=q then(true,r) else(false,t::r):=rfl
  rw[e] at h⊢;by_cases hk:t.k=119/\t.raw=q
  .rw[aV hk];exact⟨t,rfl,hk⟩
  .rw[aQ hk] at h;cases h
theorem Lp{α:Type}{ok:α->Prop}{txt:α->List UInt8}{item:List Tk->Bool×List Tk×α}(hi:Says ok txt item):
  ∀(f:Nat)(l:List Tk)(acc:List α),(∀t∈l,Form t)->(gM item f l acc).1=true->
   ∃c xs,c++(gM item f l acc).2.1=l/\(gM item f l acc).2.2=acc++xs/\xs≠[]/\
    Tx (λxs=>xs.length<=402/\∀x∈xs,ok x) (λxs=>bI txt xs++[41]) c xs/\xs.length<=c.length
 |0,l,acc,_,h=>by cases h
 |f+1,l,acc,hf,h=>by
  unfold gM at h⊢;by_cases h1:(item l).1=true
  .rw[aV h1] at h⊢;obtain⟨c0,hc0,T0⟩:=hi l hf h1;generalize(item l).2.1=rest at*;generalize(item l).2.2=x at*;have iD:∀t∈rest,Form t:=λt ht=>hf t (by rw[<-hc0];simp[ht])
   have hn0:1<=c0.length:=jE.2 T0.ne;by_cases h2:(mk 44 rest).1=true
   .rw[aV h2] at h⊢;obtain⟨t,ht,hk⟩:=wT h2;have ft:Form t:=iD t (by rw[ht];simp)
    obtain⟨c1,xs,hc1,hv,hne,T1,hlen⟩:=Lp hi f (mk 44 rest).2 (acc++[x]) (λu hu=>iD u (by rw[ht];simp[hu])) h
    obtain⟨s1,s2,s3⟩:=Bi ft 44 ah hk
    have hj:bI txt (x::xs)=txt x++([44,32]++bI txt xs):=by
     cases xs with
     |nil=>exact absurd rfl hne
     |cons a b=>rfl
    refine⟨c0++t::c1,x::xs,by rw[fH,lU,hc1,<-ht,hc0],by rw[hv];simp,af,⟨af,λp fp hp=>?_,λp fp hp=>?_,λp u d fu hu=>?_,λhn hl=>?_⟩,by simp;omega⟩
    .rw[T0.cl p t c1 ft s3,T0.br p fp hp,T1.co t ft hk,s1,hj];simp
    .rw[T0.cl p t c1 ft s3,T0.co p fp hp,T1.co t ft hk,s1,hj];simp
    .rw[fH,lU,T0.cl p t _ ft s3,T0.cl p t c1 ft s3,T1.cl t u d fu hu];simp[List.append_assoc]
    .have hl':c0.length+(c1.length+1)<=402:=by simpa using hl
     have k0:=T0.wX (λt ht=>hn t (by simp[ht])) aa
     have k1:=T1.wX (λt ht=>hn t (by simp[ht])) aa
     exact⟨by simp;omega,λy hy=>by
      rcases bU.1 hy with e|e
      .rw[e];exact k0
      .exact k1.2 y e⟩
   .rw[aQ h2] at h⊢;obtain⟨t,ht,hk⟩:=wT (c:=41) h;have ft:Form t:=iD t (by rw[ht];simp)
    obtain⟨s1,s2,s3⟩:=Bi ft 41 ah hk
    have hw:fM t []=[]:=rfl;refine⟨c0++[t],[x],by rw[fH,VS,<-ht,hc0],rfl,af,⟨af,λp fp hp=>?_,λp fp hp=>?_,λp u d fu hu=>?_,λhn hl=>?_⟩,af⟩
    .rw[T0.cl p t [] ft s3,T0.br p fp hp,s1,hw];simp[bI]
    .rw[T0.cl p t [] ft s3,T0.co p fp hp,s1,hw];simp[bI]
    .rw[fH,VS,T0.cl p t _ ft s3,T0.cl p t [] ft s3,YK ft hk,hw];simp[List.append_assoc]
    .have hl':c0.length+1<=402:=by simpa using hl
     have k0:=T0.wX (λt ht=>hn t (by simp[ht])) aa
     exact⟨af,λy hy=>by rw[dh.1 hy];exact k0⟩
  .rw[aQ h1] at h;cases h
end Pl
def Pl.uX(s:List UInt8):List UInt8:=if(Pl.err s).1=0 then Pl.wt (Pl.took s) else[]
theorem zh{s:List UInt8}(h:(Pl.err s).1=0):s.length<=400/\(Pl.err s).2=0/\(Pl.dK (Pl.all s)).1=true/\Pl.hk (Pl.dK (Pl.all s)).2.1=101/\(Pl.took s).find? outT=none:=by
 unfold Pl.err at h⊢;by_cases h1:400<s.length
 .rw[aV h1] at h;cases h
 .rw[aQ h1] at h⊢;by_cases h2:(Pl.dK (Pl.all s)).1=true/\Pl.hk (Pl.dK (Pl.all s)).2.1=101
  .rw[aV h2] at h⊢;cases h3:(Pl.took s).find? outT with
   |some u=>rw[h3] at h;cases h
   |none=>exact⟨aa,rfl,h2.1,h2.2,rfl⟩
  .rw[aQ h2] at h;cases h
theorem ajd{s:List UInt8}{t:Pl.Tk}(h:t∈Pl.took s):t∈Pl.all s:=by
 unfold Pl.took at h;exact rB h
theorem QW{s:List UInt8}(h:(Pl.err s).1=0):(∀t∈Pl.took s,(Pl.wr t).length<=400)/\(∀t∈Pl.took s,t.k=110-> -50<=t.n/\t.n<=50)/\(Pl.took s).length<=402:=by
 obtain⟨h1,_,_,_,h5⟩:=zh h;have hr:∀t∈Pl.took s,t.k=110-> -50<=t.n/\t.n<=50:=λt ht hk=>by
  have:=List.find?_eq_none.1 h5 t ht;unfold outT qK at this;simp[hk] at this;omega
 refine⟨λt ht=>?_,hr,?_⟩
 .unfold Pl.wr;by_cases hk:t.k=110
  .rw[aV hk];have:=hr t ht hk;have:=Lib.itoa_length_le t.n aa aa
   omega
  .rw[aQ hk];have hp:=(Pl.Ky s t (ajd ht)).1;unfold Pl.cM;split
   .simp
   .omega
 .have:=Pl.Kz s;unfold Pl.took;rw[iB];omega
theorem aje(s:ByteArray)(w:aM)(hm:s.size<=maxLen)(hG:Gl w):
  ak 40 #[aF s] w λe w'=>e=aL (aI #[aF ⟨(Pl.uX s.data.toList).toArray⟩,az aJ (Pl.err s.data.toList).1,az aJ (Pl.err s.data.toList).2])/\aj w w':=by
 by_cases h0:(Pl.err s.data.toList).1=0
 .have hp2:=(zh h0).2.1;have hpt:Pl.uX s.data.toList=Pl.wt (Pl.took s.data.toList):=by unfold Pl.uX;rw[aV h0]
  obtain⟨hw,hn',hl⟩:=QW h0;have hn:∀t∈Pl.took s.data.toList,t.k=110-> -9223372036854775808<=t.n/\t.n<=9223372036854775807:=λt ht hk=>by have:=hn' t ht hk;omega
  have gQ:=Pl.Le s.data.toList;have hlt:=Pl.Yy _ (zh h0).2.2.1;have HR:Hid (∀w1,Gl w1->ak 33 #[aF s] w1 λe w'=>aj w1 w'/\∃rb g cap,e=aL (aI #[aH (some ⟨rb,0,none⟩),az aJ 0,az aJ 0])/\
    w'.cell? ⟨rb,5,none⟩=some (aG (some ⟨g,0,none⟩) (Pl.took s.data.toList).length cap)/\g<w'.heap.size/\(∀j u,(qC (Pl.took s.data.toList))[j]?=some u->w'.cell? ⟨g,j,none⟩=some u)):=λw1 g1=>by
   refine(DW s w1 hm g1).mono ?_;rintro e w' ⟨hb,pv,rfl,kV⟩;obtain⟨rb,rfl,_,hR⟩:=kV h0;obtain⟨c,t,r,tv,rv,hc,hl',hbk,hown,_⟩:=hR;have hcc:c=Pl.took s.data.toList:=VQ (hc.trans gQ.symm);subst hcc;have h0':0<(Pl.took s.data.toList).length:=by
    have h2:=aZ List.length gQ;simp only[bY] at h2;omega
   obtain⟨g,cap,rfl,_,hg2⟩:=hown.form h0';refine⟨hb,rb,g,cap,by rw[h0,hp2];rfl,cell_of hbk 5,hg2,λj u hu=>?_⟩
   have:=hown.cells (g:=g) rfl j u hu;rwa[addr_add] at this
  rw[hpt,h0,hp2];clear hp2 hpt h0 gQ hlt
  go_enter func40,ntmps40
  go_wp2_with fail
  refine(HR.out _ hG).mono ?_;rintro e w1 ⟨hb1,rb,g,cap,rfl,c5,hg2,hrow⟩;have oX:Hid (∀j u,(qC (Pl.took s.data.toList))[j]?=some u->w1.cell? ⟨g,j,none⟩=some u):=hrow;have df:Gl w1:=hG.below hb1 hG.sz;clear hrow HR
  go_wp2_with fail
  refine(ai3 (Pl.took s.data.toList) g cap w1 df hg2 oX.out hl hw hn).mono ?_;rintro e w2 ⟨rfl,hb2⟩
  go_wp2_with fail
  go_ret3
  exact⟨rfl,hb1.trans (hb2.mono hb1.size)⟩
 .have hpt:Pl.uX s.data.toList=[]:=by unfold Pl.uX;rw[aQ h0]
  have HR:Hid (∀w1,Gl w1->ak 33 #[aF s] w1 λe w'=>aj w1 w'/\∃pv,e=aL (aI #[aH pv,az aJ (Pl.err s.data.toList).1,az aJ (Pl.err s.data.toList).2])):=λw1 g1=>by
   refine(DW s w1 hm g1).mono ?_;rintro e w' ⟨hb,pv,rfl,kV⟩;exact⟨hb,pv,rfl⟩
  rw[hpt];have hne:(((Pl.err s.data.toList).1:Int) != 0)=true:=by rw[yx];omega
  generalize(Pl.err s.data.toList).1=E at*;generalize(Pl.err s.data.toList).2=Pp at*;clear hpt h0
  go_enter func40,ntmps40
  go_wp2_with fail
  refine(HR.out _ hG).mono ?_;rintro e w1 ⟨hb1,pv,rfl⟩
  go_wp2_with fail
  go_ret3
  exact⟨rfl,hb1⟩
namespace Pl
theorem Tx.bracket{α β:Type}{ok1:α->Prop}{YL:β->Prop}{YM:α->List UInt8}{YO:β->List UInt8}{c:List Tk}{x:α}{y:β}{t:Tk}(T:Tx ok1 YM c x)(ft:Form t)(hk:t.k=40)
  (ho:ok1 x->YL y)(ht:YO y=[40]++YM x):Tx YL YO (t::c) y:=by
 obtain⟨s1,_,s3⟩:=Bi ft 40 ah hk
 refine⟨af,λp fp hp=>?_,λp fp hp=>?_,λp u d fu hu=>?_,λhn hl=>?_⟩
 .rw[GJ fp hp,T.br t ft hk,s1,ht]
 .rw[Ll fp hp,T.br t ft hk,s1,ht]
 .show(if bb p t=true then[32] else[])++(wr t++fM t (c++u::d))=((if bb p t=true then[32] else[])++(wr t++fM t c))++_
  rw[T.cl t u d fu hu];simp[List.append_assoc]
 .have hl':c.length+1<=402:=by simpa using hl
  exact ho (T.wX (λt ht=>hn t (by simp[ht])) aa)
theorem ajf{α:Type}{ok:List α->Prop}{txt:α->List UInt8}{t:Tk}(ft:Form t)(hk:t.k=41)(ho:ok []):Tx ok (λxs=>bI txt xs++[41]) [t] []:=by
 obtain⟨s1,_,s3⟩:=Bi ft 41 ah hk
 refine⟨af,λp fp hp=>?_,λp fp hp=>?_,λp u d fu hu=>?_,λ_ _=>ho⟩
 .rw[GJ fp hp,s1];rfl
 .rw[Ll fp hp,s1];rfl
 .show(if bb p t=true then[32] else[])++(wr t++fM t (u::d))=((if bb p t=true then[32] else[])++(wr t++[]))++_
  rw[YK ft hk];simp[List.append_assoc]
theorem YP{α:Type}{ok:α->Prop}{txt:α->List UInt8}{t:Tk}{y:α}(hk:t.k=119)(hr:t.raw=EMPTY)(ht:txt y=EMPTY)(ho:ok y):Tx ok txt [t] y:=by
 have hp:cM t=EMPTY:=by unfold cM;rw[aQ (by rw[hk];decide),hr]
 have s1:wr t=EMPTY:=by unfold wr;rw[aQ (by rw[hk];decide),hp]
 refine⟨af,λp fp hp=>?_,λp fp hp=>?_,λp u d fu hu=>?_,λ_ _=>ho⟩
 .rw[GJ fp hp,s1,ht];rfl
 .rw[Ll fp hp,s1,ht];rfl
 .show(if bb p t=true then[32] else[])++(wr t++fM t (u::d))=((if bb p t=true then[32] else[])++(wr t++[]))++_
  rw[Lj (Li (by rw[hp];decide) (aU (by rw[hk];decide)))]
  simp[List.append_assoc]
theorem ajg:Says (λg=>Bg g/\g.length<=402) kj kf:=by
 intro l hf h;unfold kf at h⊢;by_cases h1:(mk 40 l).1=true
 .rw[aV h1] at h⊢;obtain⟨t,ht,hk⟩:=wT h1;have ft:Form t:=hf t (by rw[ht];simp)
  have wY:∀u∈(mk 40 l).2,Form u:=λu hu=>hf u (by rw[ht];simp[hu])
  by_cases h2:(mk 41 (mk 40 l).2).1=true
  .rw[aV h2];obtain⟨t2,ht2,hk2⟩:=wT h2;have ft2:Form t2:=wY t2 (by rw[ht2];simp)
   refine⟨[t,t2],?_,(ajf (ok:=λg=>Bg g/\g.length<=402) (txt:=DX) ft2 hk2 ⟨λp hp=>by simp at hp,af⟩).bracket ft hk id rfl⟩
   show t::t2::(mk 41 (mk 40 l).2).2=l;rw[<-ht2,<-ht]
  .rw[aQ h2] at h⊢;obtain⟨c,xs,hc,hv,_,T,_⟩:=Lp ajc l.length (mk 40 l).2 [] wY h;rw[sI] at hv;rw[hv];exact⟨t::c,by rw[lU,hc,<-ht],T.bracket ft hk (λo=>⟨λp hp=>o.2 p hp,o.1⟩) rfl⟩
 .rw[aQ h1] at h;cases h
def QX(ps:List (List (List (Int×Int)))):List UInt8:=if ps.length=0 then EMPTY else[40]++(bI mU ps++[41])
theorem aji(ps:List (List (List (Int×Int)))):QU ps=fA++([32]++QX ps):=by
 unfold QU QX;by_cases h:ps.length=0
 .rw[aV h,aV h]
 .rw[aQ h,aQ h];simp
theorem YR:Says QV mU fK:=by
 intro l hf h;unfold fK at h⊢;by_cases h0:(wd EMPTY l).1=true
 .rw[aV h0];obtain⟨t,ht,hk,hr⟩:=Lm h0;exact⟨[t],by rw[VS,<-ht],YP hk hr rfl ⟨af,λp hp=>by simp at hp⟩⟩
 .rw[aQ h0] at h⊢;by_cases h1:(mk 40 l).1=true
  .rw[aV h1] at h⊢;obtain⟨t,ht,hk⟩:=wT h1;have ft:Form t:=hf t (by rw[ht];simp)
   have wY:∀u∈(mk 40 l).2,Form u:=λu hu=>hf u (by rw[ht];simp[hu])
   obtain⟨c,xs,hc,hv,hne,T,_⟩:=Lp ajg l.length (mk 40 l).2 [] wY h;rw[sI] at hv;rw[hv];have hl:¬xs.length=0:=λe=>hne (iU.1 e)
   exact⟨t::c,by rw[lU,hc,<-ht],T.bracket ft hk (λo=>⟨o.1,λp hp=>o.2 p hp⟩) (aQ hl)⟩
  .rw[aQ h1] at h;cases h
theorem ajj:Says GI QX lZ:=by
 intro l hf h;unfold lZ at h⊢;by_cases h0:(wd EMPTY l).1=true
 .rw[aV h0];obtain⟨t,ht,hk,hr⟩:=Lm h0;exact⟨[t],by rw[VS,<-ht],YP hk hr rfl ⟨af,λp hp=>by simp at hp⟩⟩
 .rw[aQ h0] at h⊢;by_cases h1:(mk 40 l).1=true
  .rw[aV h1] at h⊢;obtain⟨t,ht,hk⟩:=wT h1;have ft:Form t:=hf t (by rw[ht];simp)
   have wY:∀u∈(mk 40 l).2,Form u:=λu hu=>hf u (by rw[ht];simp[hu])
   obtain⟨c,xs,hc,hv,hne,T,_⟩:=Lp YR l.length (mk 40 l).2 [] wY h;rw[sI] at hv;rw[hv];have hl:¬xs.length=0:=λe=>hne (iU.1 e)
   exact⟨t::c,by rw[lU,hc,<-ht],T.bracket ft hk (λo=>⟨o.1,λp hp=>o.2 p hp⟩) (aQ hl)⟩
  .rw[aQ h1] at h;cases h
theorem YS{α:Type}{ok:α->Prop}{txt:α->List UInt8}{c:List Tk}{x:α}{a:Tk}{q:List UInt8}(T:Tx ok txt c x)(hk:a.k=119)(hr:a.raw=q):wt (a::c)=q++([32]++txt x):=by
 have h:=T.br ⟨40,[40],0,0⟩ (aT (aU ⟨40,rfl,rfl,ah⟩)) rfl
 have hne:=T.ne;cases c with
 |nil=>exact absurd rfl hne
 |cons b r=>
  rw[GJ (aT (aU ⟨40,rfl,rfl,ah⟩)) rfl] at h
  have hp:cM a=q:=by unfold cM;rw[aQ (by rw[hk];decide),hr]
  have s1:wr a=q:=by unfold wr;rw[aQ (by rw[hk];decide),hp]
  show wr a++([32]++(wr b++fM b r))=_;rw[h,s1]
theorem YT{s:List UInt8}(h:(err s).1=0)(hw:(wd jS (all s)).1=true):
  ∃gs,(dK (all s)).2.2=[gs]/\QV gs/\wt (took s)=jS++([32]++mU gs):=by
 obtain⟨_,_,h1,_⟩:=zh h;obtain⟨_,hn,hl⟩:=QW h;have gQ:=Le s;have hpw:dK (all s)=((fK (wd jS (all s)).2).1,(fK (wd jS (all s)).2).2.1,[(fK (wd jS (all s)).2).2.2]):=by
  unfold dK;rw[aV hw]
 rw[hpw] at h1 gQ;obtain⟨a,ha,hk,hr⟩:=Lm hw;have hf:∀t∈all s,Form t:=λt ht=>Qb (Ky s t ht)
 obtain⟨c,hc,T⟩:=YR (wd jS (all s)).2 (λt ht=>hf t (by rw[ha];simp[ht])) h1
 have ht:took s=a::c:=by
  refine VQ (gQ.trans (ha.trans ?_));show a::_=a::(c++_);rw[hc]
 rw[ht] at hn hl;exact⟨_,by rw[hpw],T.wX (λt h=>hn t (by simp[h])) (by simp at hl;omega),by rw[ht];exact YS T hk hr⟩
theorem ajk{s:List UInt8}(h:(err s).1=0)(hw0:(wd jS (all s)).1=false):
  (wd fA (all s)).1=true/\GI (dK (all s)).2.2/\wt (took s)=QU (dK (all s)).2.2:=by
 obtain⟨_,_,h1,_⟩:=zh h;obtain⟨_,hn,hl⟩:=QW h;have gQ:=Le s;by_cases hw:(wd fA (all s)).1=true
 .have hpw:dK (all s)=lZ (wd fA (all s)).2:=by
   unfold dK;rw[aQ (by rw[hw0];simp),aV hw]
  rw[hpw] at h1 gQ⊢;obtain⟨a,ha,hk,hr⟩:=Lm hw;have hf:∀t∈all s,Form t:=λt ht=>Qb (Ky s t ht)
  obtain⟨c,hc,T⟩:=ajj (wd fA (all s)).2 (λt ht=>hf t (by rw[ha];simp[ht])) h1
  have ht:took s=a::c:=by
   refine VQ (gQ.trans (ha.trans ?_));show a::_=a::(c++_);rw[hc]
  rw[ht] at hn hl;exact⟨hw,T.wX (λt h=>hn t (by simp[h])) (by simp at hl;omega),by rw[ht,aji];exact YS T hk hr⟩
 .have hpw:dK (all s)=(false,all s,[]):=by
   unfold dK;rw[aQ (by rw[hw0];simp),aQ hw]
  rw[hpw] at h1;cases h1
end Pl
namespace Pl
def fD(a:Ge.Fr):List UInt8:=if a.2=1 then Lib.itoa a.1 else Lib.itoa a.1++([47]++Lib.itoa a.2)
def dH(q:Ge.Qt):List UInt8:=fD q.1++([32]++fD q.2)
end Pl
theorem YU{a:Ge.Fr}(hn: -10000000<=a.1/\a.1<=10000000)(hd:0<a.2/\a.2<=1000000):(Pl.fD a).length<=50:=by
 have h1:=Lib.itoa_length_le a.1 aa aa
 have h2:=Lib.itoa_length_le a.2 aa aa
 unfold Pl.fD;split
 .omega
 .simp;omega
theorem YV(n d:Int)(w:aM)(hG:Gl w)(hn: -10000000<=n/\n<=10000000)(hd:0<d/\d<=1000000):
  ak 127 #[aC #[az aJ n,az aJ d]] w λe w'=>e=aL (aF ⟨(Pl.fD (n,d)).toArray⟩)/\Below w.heap.size w w':=by
 have HN:Hid (∀w1,Gl w1->ak 88 #[az aJ n] w1 λe w'=>e=aL (aF ⟨(Lib.itoa n).toArray⟩)/\Below w1.heap.size w1 w'):=λw1 g1=>YC n w1 g1 aa aa
 have HD:Hid (∀w1,Gl w1->ak 88 #[az aJ d] w1 λe w'=>e=aL (aF ⟨(Lib.itoa d).toArray⟩)/\Below w1.heap.size w1 w'):=λw1 g1=>YC d w1 g1 aa aa
 have h1:=Lib.itoa_length_le n aa aa
 have h2:=Lib.itoa_length_le d aa aa
 have hb0:Below w.heap.size w (w.alloc (.cells #[az aJ n,az aJ d] 97)):=(Below.refl _ _).alloc (aY _) _;have hE:=heap_alloc_new w (.cells #[az aJ n,az aJ d] 97);have hz:w.heap.size<(w.alloc (.cells #[az aJ n,az aJ d] 97)).heap.size:=af
 have mH:Gl (w.alloc (.cells #[az aJ n,az aJ d] 97)):=hG.alloc _;by_cases hd1:d=1
 .have HV:Hid (Pl.fD (n,d)=Lib.itoa n):=aV hd1;rw[HV.out];subst hd1;generalize Lib.itoa n=X1 at*;clear HV h1 h2
  go_enter func127,ntmps127
  go_wp2_with fail
  refine(HN.out _ mH).mono ?_;rintro e w1 ⟨rfl,hb1⟩
  go_wp2_with fail
  go_ret
  exact⟨rfl,hb0.trans (hb1.mono hb0.size)⟩
 .have HV:Hid (Pl.fD (n,d)=Lib.itoa n++([47]++Lib.itoa d)):=aQ hd1;rw[HV.out];generalize Lib.itoa n=X1 at*;generalize Lib.itoa d=X2 at*;have hs1:¬9223372036854775807<X1.length+1:=aa
  have hs2:¬9223372036854775807<X1.length+1+X2.length:=aa
  clear HV
  go_enter func127,ntmps127
  go_wp2_with fail
  generalize w.alloc (.cells #[az aJ n,az aJ d] 97)=W at*;generalize hB:w.heap.size=B at*;have r0:=cH hE;have r1:=cD hE
  go_region_held3 (λw'=>w'.cell? ⟨B,0,none⟩=some (az aJ n)/\w'.cell? ⟨B,1,none⟩=some (az aJ d)) (go_keep) (first
   |(go_at_call_of 88 (Value.int IntKind.i64 n);refine(HN.out _ mH.drew).mono ?_;rintro e w5 ⟨rfl,bg⟩;have zi:=mH.drew.below bg mH.sz;have q0:=aS bg r0 hz;have q1:=(aS bg r1 hz))
   |(go_at_call_of 88 (Value.int IntKind.i64 d);refine(HD.out _ zi).mono ?_;rintro e w6 ⟨rfl,bp⟩;have s0:=aS bp q0 (bW hz bg.size);have s1:=(aS bp q1 (bW hz bg.size))))
  go_wp2_with fail
  go_ret
  refine⟨by simp[ByteArray.mk_append_mk],?_⟩
  rw[hB];exact(hb0.drew.trans (bg.mono (fh hz))).trans (bp.mono (fN (fh hz) bg.size))
theorem YW(q:Ge.Qt)(w:aM)(hG:Gl w)(hq:gb q):
  ak 74 #[aC (qA q)] w λe w'=>e=aL (aF ⟨(Pl.dH q).toArray⟩)/\Below w.heap.size w w':=by
 obtain⟨⟨a,b⟩,c,d⟩:=q;have HN:Hid (∀w1,Gl w1->ak 127 #[aC #[az aJ a,az aJ b]] w1 λe w'=>e=aL (aF ⟨(Pl.fD (a,b)).toArray⟩)/\Below w1.heap.size w1 w'):=λw1 g1=>YV a b w1 g1 hq.xn hq.xd
 have HD:Hid (∀w1,Gl w1->ak 127 #[aC #[az aJ c,az aJ d]] w1 λe w'=>e=aL (aF ⟨(Pl.fD (c,d)).toArray⟩)/\Below w1.heap.size w1 w'):=λw1 g1=>YV c d w1 g1 hq.yn hq.yd
 have h1:=YU (a:=(a,b)) hq.xn hq.xd;have h2:=YU (a:=(c,d)) hq.yn hq.yd;have HV:Hid (Pl.dH ((a,b),(c,d))=Pl.fD (a,b)++([32]++Pl.fD (c,d))):=rfl;rw[HV.out];generalize Pl.fD (a,b)=X1 at*;generalize Pl.fD (c,d)=X2 at*;simp only[qA];have hs1:¬9223372036854775807<X1.length+1:=aa
 have hs2:¬9223372036854775807<X1.length+1+X2.length:=aa
 have hb0:Below w.heap.size w (w.alloc (.cells #[az aJ a,az aJ b,az aJ c,az aJ d] 100)):=(Below.refl _ _).alloc (aY _) _;have hE:=heap_alloc_new w (.cells #[az aJ a,az aJ b,az aJ c,az aJ d] 100);have hz:w.heap.size<(w.alloc (.cells #[az aJ a,az aJ b,az aJ c,az aJ d] 100)).heap.size:=af
 have mH:Gl (w.alloc (.cells #[az aJ a,az aJ b,az aJ c,az aJ d] 100)):=hG.alloc _;clear HV hq
 go_enter func74,ntmps74
 go_wp2_with fail
 generalize w.alloc (.cells #[az aJ a,az aJ b,az aJ c,az aJ d] 100)=W at*;generalize hB:w.heap.size=B at*;have r0:=cH hE;have r1:=cD hE;have r2:=dU hE;have r3:=jG hE
 go_region_held3 (λw'=>w'.cell? ⟨B,0,none⟩=some (az aJ a)/\w'.cell? ⟨B,1,none⟩=some (az aJ b)/\w'.cell? ⟨B,2,none⟩=some (az aJ c)/\w'.cell? ⟨B,3,none⟩=some (az aJ d)) (go_keep) (first
   |(go_at_call_of 127 (Value.agg #[Value.int IntKind.i64 a,Value.int IntKind.i64 b]);refine(HN.out _ mH.drew).mono ?_;rintro e w5 ⟨rfl,bg⟩;have zi:=mH.drew.below bg mH.sz;have q0:=aS bg r0 hz;have q1:=aS bg r1 hz;have q2:=aS bg r2 hz;have q3:=(aS bg r3 hz))
   |(go_at_call_of 127 (Value.agg #[Value.int IntKind.i64 c,Value.int IntKind.i64 d]);refine(HD.out _ zi).mono ?_;rintro e w6 ⟨rfl,bp⟩;have s0:=aS bp q0 (bW hz bg.size);have s1:=aS bp q1 (bW hz bg.size);have s2:=aS bp q2 (bW hz bg.size);have s3:=(aS bp q3 (bW hz bg.size))))
 go_wp2_with fail
 go_ret
 refine⟨by simp[ByteArray.mk_append_mk],?_⟩
 rw[hB];exact(hb0.drew.trans (bg.mono (fh hz))).trans (bp.mono (fN (fh hz) bg.size))
def Lq(w:aM)(v:aN)(g:List (Int×Int)):Prop:=w.ownsRow 0 81 1 v g.length (rE g)
def wZ(w:aM)(v:aN)(rg:List (List (Int×Int))):Prop:=Be 127 Lq w v rg
theorem YX{rb:Nat}{rv:aN}{rg:List (List (Int×Int))}{w:aM}(h:tE rb rv rg w):wZ w rv rg:=by
 obtain⟨vs,h1,h2,h3,_⟩:=h;exact⟨vs,h1,zg h2,λi u x hu hx=>zg (h3 i u x hu hx)⟩
theorem ajl{w:aM}{v:aN}{g:List (Int×Int)}(h:Lq w v g):∃so cap,v=aG so g.length cap:=by
 rcases h.2 with⟨hv,h0⟩|⟨b,cap,cur,hv,_⟩
 .exact⟨none,0,by rw[hv,h0]⟩
 .exact⟨_,cap,hv⟩
theorem YY{w:aM}{so:Option Addr}{n cap:Nat}{g:List (Int×Int)}(hR:Lq w (aG so n cap) g){k:Nat}{p:Int×Int}(hp:g[k]?=some p):
  ∃b,so=some ⟨b,0,none⟩/\b<w.heap.size/\w.cell? ⟨b,k,none⟩=some (aA aK (aO aK p.1) (aO aK p.2)):=by
 have a0:(rE g)[k]?=some (AR p):=by simp[rE,hp]
 obtain⟨b,c,hv,hb,hc⟩:=Gn hR a0;injection hv with hv;exact⟨b,hv,hb,hc _ _ a0⟩
def Bj(w:aM)(lv:aN)(acc:List Ed)(wr:aM):Prop:=
 (∃xs:List EB,xs.length=acc.length/\wr.ownsRow w.heap.size 124 4 lv acc.length (pQ xs)/\∀(i:Nat) x e,xs[i]?=some x->acc[i]?=some e->jU x e)/\aj w wr
theorem ajm(l:List EB)(e:EB):pQ (l++[e])=pQ l++e.cells.toList:=by simp[pQ]
theorem ajn:(Tryz.prog.info? 124).map (λi=>(i.zero,i.size,i.bytes))=some (some (aC #[aA aK 0 0,aB aK 0,aA aK 0 0,aA aK 0 0]),4,56):=ag
theorem ajo{xs:List EB}{acc:List Ed}{x:EB}{e:Ed}(hlen:xs.length=acc.length)(h:∀(i:Nat) x e,xs[i]?=some x->acc[i]?=some e->jU x e)(hx:jU x e):
  ∀(i:Nat) y f,(xs++[x])[i]?=some y->(acc++[e])[i]?=some f->jU y f:=by
 intro i u y hu hy;by_cases hi:i<xs.length
 .rw[fI hi] at hu;rw[fI aa] at hy
  exact h i u y hu hy
 .have hi2:i=xs.length:=by
   have:=(cG.1 hu).1;simp at this;omega
  subst hi2;have e1:u=x:=by simpa using hu.symm
  have e2:y=e:=by rw[hlen] at hy;simpa using hy.symm
  subst e1 e2;exact hx
theorem YZ(rg:List (List (Int×Int)))(v:aN)(w:aM)(hR:wZ w v rg)(hok:∀g∈rg,Bg g/\g.length<=402)(hl:rg.length<=161604):
  ak 36 #[v] w λe w'=>∃v,e=aL v/\iL w' v (Ge.aR rg)/\aj w w':=by
 obtain⟨so,cap,rfl⟩:=GG hR;obtain⟨i0,hi,hz0,hz1,hz2⟩:=info_parts ajn;have HR:Hid (wZ w (aG so rg.length cap) rg):=hR;have uY:Hid (∀g∈rg,Bg g/\g.length<=402):=hok;clear hR hok;have cK:Hid (Bj w (aG none 0 0) [] w):=⟨⟨[],rfl,World.ownsRow_nil _ _ _ _,λi x e h=>by simp at h⟩,Below.refl _ _⟩
 have HLEN:Hid (∀i,(Ge.aR (rg.take i)).length<=65000000):=λi=>by
  have h:=Ge.Qo 402 (rg.take i) (λg hg=>(uY.out g (rB hg)).2)
  have h2:(rg.take i).length<=161604:=by simp;omega
  omega
 go_enter func36,ntmps36
 go_wp2_with fail
 go_loopg [3,11] rg.length (λm lv iv wr=>∃i:Nat,i+m=rg.length/\iv=az aJ i/\Hid (Bj w lv (Ge.aR (rg.take i)) wr))
 case atStart=>exact⟨0,aa,rfl,cK⟩
 case round=>
  obtain⟨i,him,rfl,HE⟩:=hrel;have aW:=HE.out.2;clear cK;by_cases hlt:i<rg.length
  .obtain⟨g,hg⟩:∃g,rg[i]?=some g:=⟨_,bo hlt⟩;obtain⟨b,u,rfl,hb,e0,tQ⟩:=GH HR.out hg;obtain⟨gs,gc,rfl⟩:=ajl tQ;have r0:=aS aW e0 hb;have hgl:g.length<=402:=(uY.out g (bT hg)).2;have Y0:Hid (Bg g):=(uY.out g (bT hg)).1;have qO:Hid (Lq w (aG gs g.length gc) g):=tQ;have HT:Hid (Ge.aR (rg.take (i+1))=Ge.aR (rg.take i)++Ge.fZ g):=Ge.aic hg;have hli:=HLEN.out i;have gH:(i:Int)<(rg.length:Int):=aa
   have hbr:b<wr.heap.size:=bW hb aW.size;obtain⟨m1,lM⟩:∃m1,m1=gk:=⟨_,rfl⟩;generalize Ge.aR (rg.take i)=A1 at*;clear hg e0 tQ uY HR HLEN
   go_wp2_with fail
   go_loopg [3,17] g.length (λm lv nv wr=>∃n:Nat,n+m=g.length/\nv=az aJ n/\Hid (Bj w lv (A1++Ge.lL g n) wr))
   case atStart=>exact⟨0,aa,rfl,by simpa[Ge.ah9] using HE⟩
   case round=>
    obtain⟨n,Lr,rfl,kX⟩:=hrel;have iM:=kX.out.2;clear HE r0;by_cases rM:n<g.length
    .obtain⟨P,hP⟩:∃P,g[n]?=some P:=⟨_,bo rM⟩;obtain⟨b3,rfl,hb3,p0⟩:=YY qO.out hP;have r0:=aS iM p0 hb3;have asZ:b3<wr.heap.size:=bW hb3 iM.size;have GK:(n:Int)<(g.length:Int):=aa
     obtain⟨M,Q,hQ,Y4,hM⟩:∃(M:Nat)(Q:Int×Int),g[M]?=some Q/\Ge.yT g n=some Q/\(((n:Int)+1)%(g.length:Int)=(M:Int)/\M<g.length/\(n+1)%g.length=M):=by
      by_cases kT:n+1<g.length
      .exact⟨n+1,_,bo kT,by unfold Ge.yT;rw[aV kT];exact bo kT,by rw[Int.emod_eq_of_lt aa aa];omega,kT,OP kT⟩
      .have tD:n+1=g.length:=aa
       exact⟨0,_,bo (show 0<g.length by omega),by unfold Ge.yT;rw[aQ kT];exact bo (show 0<g.length by omega),by rw[show((n:Int)+1)=(g.length:Int) by omega,Int.emod_self];rfl,aa,by rw[tD,Nat.mod_self]⟩
     obtain⟨hM1,hM2,hM3⟩:=hM;obtain⟨b4,hb4,_,f0⟩:=YY qO.out hQ;injection hb4 with hb4;injection hb4 with hb4;subst hb4;have s0:=aS iM f0 hb3;have hMl:(M:Int)<(g.length:Int):=aa
     have eK:¬((g.length:Int)=0):=aa
     have Y5:¬(g.length=0):=aa
     have HP:Hid (g[n]?=some P):=hP;have HQ:Hid (Ge.yT g n=some Q):=Y4;have GL:Hid (mV P.1/\mV P.2):=Y0.out P (bT hP);have GM:Hid (mV Q.1/\mV Q.2):=Y0.out Q (bT hQ);obtain⟨P1,P2⟩:=P;obtain⟨Q1,Q2⟩:=Q;clear p0 f0 hP hQ Y4;simp only at r0 s0;have uZ:Fl (aO aK P1) P1:=oU (by have:=GL.out.1;unfold mV at this;omega)
     have vd:Fl (aO aK P2) P2:=oU (by have:=GL.out.2;unfold mV at this;omega)
     have ve:Fl (aO aK Q1) Q1:=oU (by have:=GM.out.1;unfold mV at this;omega)
     have vg:Fl (aO aK Q2) Q2:=oU (by have:=GM.out.2;unfold mV at this;omega)
     have zj:(!((FloatKind.f64.format.order (aO aK P1) (aO aK Q1) == some .eq)&&(FloatKind.f64.format.order (aO aK P2) (aO aK Q2) == some .eq)))= !(decide (P1=Q1)&&decide (P2=Q2)):=by
      rw[uO uZ ve,uO vd vg]
     obtain⟨wa,wb,sh,l1,l2,l3,Y6⟩:=aih uZ vd ve vg (by have:=GL.out.1;unfold mV at this;omega) (by have:=GL.out.2;unfold mV at this;omega) (by have:=GM.out.1;unfold mV at this;omega) (by have:=GM.out.2;unfold mV at this;omega)
     have HX:Hid (jU ⟨wa,wb,sh,aO aK P1,aO aK P2,aO aK Q1,aO aK Q2⟩ ((P1,P2),(Q1,Q2))):=⟨l1,l2,l3,uZ,vd,ve,vg⟩;have Y7:Hid (∀w,ak 64 #[aA aK (aO aK P1) (aO aK P2),aA aK (aO aK Q1) (aO aK Q2)] w λe w'=>e=aL (aC #[aA aK wa wb,aB aK sh])/\aj w w'):=Y6
     clear Y6 l1 l2 l3 uZ vd ve vg GL GM;generalize aO aK P1=uZ at*;generalize aO aK P2=vd at*;generalize aO aK Q1=ve at*;generalize aO aK Q2=vg at*;by_cases mE:(P1,P2)=(Q1,Q2)
     .injection mE with QY QZ;have hc:(!((FloatKind.f64.format.order uZ ve == some .eq)&&(FloatKind.f64.format.order vd vg == some .eq)))=false:=by rw[zj,QY,QZ];simp
      have HN:Hid (Bj w u3 (A1++Ge.lL g (n+1)) wr):=by
       rw[Ge.aia HP.out HQ.out (by rw[QY,QZ])];exact kX.out
      clear zj QY QZ kX
      go_wp2_with fail
      go_roundg (gk-1)
      case measure=>omega
      case rel=>exact⟨n+1,aa,ai,HN⟩
     .have hc:(!((FloatKind.f64.format.order uZ ve == some .eq)&&(FloatKind.f64.format.order vd vg == some .eq)))=true:=by
       rw[zj];by_cases h1:P1=Q1
       .by_cases h2:P2=Q2
        .exact absurd (by rw[h1,h2]) mE
        .simp[h2]
       .simp[h1]
      have zk:Hid (Ge.lL g (n+1)=Ge.lL g n++[((P1,P2),(Q1,Q2))]):=Ge.aib HP.out HQ.out mE;have hal:(A1++Ge.lL g n).length<=65000402:=by
       have:=Ge.Qn g n;simp only[bY];omega
      obtain⟨A3,GN⟩:∃A3,A3=A1++Ge.lL g n:=⟨_,rfl⟩;have HA:Hid (A3=A1++Ge.lL g n):=GN;rw[<-GN] at hal kX;clear zj mE GN
      go_wp2_with fail
      refine(Y7.out _).mono ?_;rintro e w5 ⟨rfl,bg⟩;obtain⟨⟨xs,hx1,hx2,hx3⟩,_⟩:=kX.out;have Y8:Hid (∀(i:Nat) x e,xs[i]?=some x->A3[i]?=some e->jU x e):=hx3;have l9:=iM.trans (bg.mono iM.size);have eT:w5.ownsRow w.heap.size 124 4 u3 A3.length (pQ xs):=bB hx2 λk hk=>bg.block k (bn hx2 k hk).2
      have hs5:=l9.size;clear hx2 hx3 kX
      go_wp2_with (at_builtin;refine wpList_append_lies _ rfl (.tmp 33) (.tmp 40) 72 rfl w.heap.size 124 i0 _ 4 56 underlying72 hi hz0 hz1 hz2 rfl ah u3 A3.length (pQ xs) rfl (bB eT (λk hk=>Below.heap_alloc _ _ _ (bn eT k hk).2)) ⟨w5.heap.size,0,none⟩ 1 1 [aA aK wa wb,aB aK sh,aA aK uZ vd,aA aK ve vg] rfl rfl (World.news_of_block (cs:= #[aA aK wa wb,aB aK sh,aA aK uZ vd,aA aK ve vg]) (t:=124) (fr:=(0,0)) (heap_alloc_new w5 _)) (by simp[Value.oneCell']) ah (by unfold maxLen;omega) aa (by simp;omega) (w5.heap.size+1) af ?_;intro g' cap' w6 iw mW GP D3)
      have HN:Hid (Bj w (aG (some ⟨g',0,none⟩) (A3.length+1) cap') (A1++Ge.lL g (n+1)) w6):=by
       rw[zk.out,<-fH,<-HA.out];refine⟨⟨xs++[⟨wa,wb,sh,uZ,vd,ve,vg⟩],by simp[hx1],?_,ajo hx1 Y8.out HX.out⟩,(l9.alloc l9.size _).grown mW (by simp;omega) (λk hk=>(bn eT k hk).1)⟩
       rw[ajm,bY];exact iw
      clear iw mW eT HX Y8 Y7
      go_roundg (gk-1)
      case measure=>omega
      case rel=>exact⟨n+1,aa,ai,HN⟩
    .have hn:n=g.length:=aa
     subst hn;have HN:Hid (Bj w u3 (Ge.aR (rg.take (i+1))) wr):=by
      rw[HT.out,<-Ge.Qm];exact kX.out
     clear kX qO HT
     go_wp2_with fail
     go_roundg (m1-1)
     case measure=>omega
     case rel=>exact⟨i+1,aa,ai,HN⟩
  .have hk:i=rg.length:=aa
   subst hk;have HF:Hid (Bj w u3 (Ge.aR rg) wr):=by
    have:=HE.out;rw[fO] at this;exact this
   clear HE HR uY HLEN
   go_wp2_with fail
   go_ret
   obtain⟨⟨xs,h1,h2,h3⟩,h4⟩:=HF.out;exact⟨_,rfl,⟨xs,h1,zg h2,h3⟩,h4⟩
namespace Pl
def rings(s:List UInt8):List (List (Int×Int)):=(dK (all s)).2.2.flatten
def xa(x y d:Int):Bool:=decide (d<1)||decide (d>60)||decide (x< -100000)||decide (x>100000)||decide (y< -100000)||decide (y>100000)
def iG(s:List UInt8)(x y d:Int):Int×Bool×Nat×Nat:=
 if(err s).1=0 then
  if xa x y d then(0,false,5,0)
  else if(Ge.aR (rings s)).any (Ge.fo (x,y) d) then(0,true,0,0)
  else(Ge.total (Ge.fu (x,y) d) (Ge.aR (rings s)),false,0,0)
 else(0,false,err s)
def D4(r:Int×Bool×Nat×Nat):aN:=aI #[az aJ r.1,aD r.2.1,az aJ r.2.2.1,az aJ r.2.2.2]
end Pl
theorem ajp{ps:List (List (List (Int×Int)))}(hok:GI ps):∀e∈Ge.aR ps.flatten,gz e:=λe he=>by
 obtain⟨g,hg,h1,h2⟩:=Ge.aie he;obtain⟨p,hp,Lt⟩:=C4.1 hg;have ho:=((hok.2 p hp).2 g Lt).1;exact⟨(ho _ h1).1,(ho _ h1).2,(ho _ h2).1,(ho _ h2).2⟩
theorem ajq{ps:List (List (List (Int×Int)))}(hok:GI ps):(Ge.aR ps.flatten).length<=65000000:=by
 have h:=Ge.XE 402 402 ps (λp hp=>⟨(hok.2 p hp).1,λg hg=>((hok.2 p hp).2 g hg).2⟩)
 have:=hok.1;omega
namespace Ge
theorem Lu{x y d X Y D G:Int}(hx:x=G*X)(hy:y=G*Y)(hd:d=G*D)(a:Pt):rel (x,y) d a=(G*(rel (X,Y) D a).1,G*(rel (X,Y) D a).2):=by
 unfold rel;rw[hx,hy,hd];simp only[agB];constructor<;>grind
theorem sc{G z:Int}(h:0<G):(0<G*z↔0<z)/\(G*z<0↔z<0)/\(G*z=0↔z=0)/\(G*z<=0↔z<=0):=by
 rcases fX z 0 with hz|hz|hz
 .have:=yt h hz;omega
 .subst hz;omega
 .have:=bJ h hz;omega
theorem Y9(G:Int)(u v:Pt):cr (G*u.1,G*u.2) (G*v.1,G*v.2)=(G*G)*cr u v:=by unfold cr;grind
theorem ajr(G:Int)(u v:Pt):dt (G*u.1,G*u.2) (G*v.1,G*v.2)=(G*G)*dt u v:=by unfold dt;grind
theorem Q3{x y d X Y D G:Int}(hG:0<G)(hx:x=G*X)(hy:y=G*Y)(hd:d=G*D)(e:Pt×Pt):fo (x,y) d e=fo (X,Y) D e:=by
 unfold fo on;rw[Lu hx hy hd,Lu hx hy hd,Y9,ajr];have h2:=bJ hG hG;congr 1
 .exact decide_eq_decide.2 (sc h2).2.2.1
 .exact decide_eq_decide.2 (sc h2).2.2.2
theorem ajs{x y d X Y D G:Int}(hG:0<G)(hx:x=G*X)(hy:y=G*Y)(hd:d=G*D)(a b:Pt):fr (x,y) d a b=fr (X,Y) D a b:=by
 unfold fr right;rw[Lu hx hy hd,Lu hx hy hd,Y9];have h2:=bJ hG hG;simp only[(sc h2).1,(sc h2).2.1,(sc hG).1,(sc hG).2.2.2]
theorem Za{f g:Pt->Pt->Int}(l:List (Pt×Pt))(h:∀a b,f a b=g a b):total f l=total g l:=by
 unfold total;congr 1;exact yE λe _=>h e.1 e.2
end Ge
theorem ajt{s:List UInt8}(h:(Pl.err s).1=0):GI (Pl.dK (Pl.all s)).2.2:=by
 cases hw:(Pl.wd Pl.jS (Pl.all s)).1
 .exact(Pl.ajk h hw).2.1
 .obtain⟨gs,e,h1,_⟩:=Pl.YT h hw;rw[e];exact⟨af,λg hg=>by rw[dh.1 hg];exact h1⟩
theorem aju{ps:List (List (List (Int×Int)))}(h:∀p∈ps,p.length<=402):ps.flatten.length<=ps.length*402:=by
 induction ps with
 |nil=>simp
 |cons p r ih=>
  have h1:=ih (λx hx=>h x (by simp[hx]))
  have h2:=h p af
  rw[yz,bY,dw,Fu];omega
theorem Q5{s:List UInt8}(h:(Pl.err s).1=0):(∀g∈Pl.rings s,Bg g/\g.length<=402)/\(Pl.rings s).length<=161604/\(∀e∈Ge.aR (Pl.rings s),gz e)/\(Ge.aR (Pl.rings s)).length<=65000000:=by
 have hok:=ajt h;refine⟨λg hg=>?_,?_,ajp hok,ajq hok⟩
 .obtain⟨p,hp,Lt⟩:=C4.1 hg;exact(hok.2 p hp).2 g Lt
 .have h1:=aju (λp hp=>(hok.2 p hp).1)
  have h2:=hok.1;unfold Pl.rings;omega
theorem ajv{s:List UInt8}{x y d:Int}(h:(Pl.err s).1=0)(hb:Pl.xa x y d=false){X Y D G:Int}(hG:0<G)(hx:x=G*X)(hy:y=G*Y)(hd:d=G*D):
  Pl.iG s x y d=if(Ge.aR (Pl.rings s)).any (Ge.fo (X,Y) D) then(0,true,0,0) else(Ge.total (Ge.fr (X,Y) D) (Ge.aR (Pl.rings s)),false,0,0):=by
 unfold Pl.iG;rw[aV h,aQ (by rw[hb];simp)]
 have e1:Ge.fo (x,y) d=Ge.fo (X,Y) D:=funext λe=>Ge.Q3 hG hx hy hd e
 rw[e1];by_cases ha:(Ge.aR (Pl.rings s)).any (Ge.fo (X,Y) D)=true
 .rw[aV ha,aV ha]
 .rw[aQ ha,aQ ha];have hno:∀e,e∈Ge.aR (Pl.rings s)->Ge.fo (x,y) d e=false:=λe he=>by
   rw[e1];cases hf:Ge.fo (X,Y) D e
   .rfl
   .exact absurd (Fv.2 ⟨e,he,hf⟩) ha
  rw[<-Ge.Wi (x,y) d (Pl.rings s) hno,Ge.Za _ (Ge.ajs hG hx hy hd)]
namespace Pl
def GQ{α:Type}(sz:α->Nat)(item:List Tk->Bool×List Tk×α):Prop:=∀l,(item l).1=true->sz (item l).2.2+(item l).2.1.length<=l.length
def cN{α:Type}(sz:α->Nat)(l:List α):Nat:=(l.map sz).sum
theorem Zb{α:Type}(sz:α->Nat)(l:List α)(x:α):cN sz (l++[x])=cN sz l+sz x:=by simp[cN]
theorem mk_le(c:Nat)(l:List Tk):(mk c l).2.length<=l.length:=by
 cases l with
 |nil=>simp[mk]
 |cons t r=>
  have e:mk c (t::r)=if t.k=c then(true,r) else(false,t::r):=rfl
  rw[e];split<;>simp
theorem Lv(q:List UInt8)(l:List Tk):(wd q l).2.length<=l.length:=by
 cases l with
 |nil=>simp[wd]
 |cons t r=>
  have e:wd q (t::r)=if t.k=119/\t.raw=q then(true,r) else(false,t::r):=rfl
  rw[e];split<;>simp
theorem Lx{α:Type}{sz:α->Nat}{item:List Tk->Bool×List Tk×α}(hi:GQ sz item):
  ∀(f:Nat)(l:List Tk)(acc:List α),(gM item f l acc).1=true->cN sz (gM item f l acc).2.2+(gM item f l acc).2.1.length<=cN sz acc+l.length
 |0,l,acc,h=>by cases h
 |f+1,l,acc,h=>by
  unfold gM at h⊢;by_cases h1:(item l).1=true
  .have k1:=hi l h1;rw[aV h1] at h⊢;by_cases h2:(mk 44 (item l).2.1).1=true
   .rw[aV h2] at h⊢;have ih:=Lx hi f _ _ h;have k2:=mk_le 44 (item l).2.1;rw[Zb] at ih;omega
   .rw[aQ h2];have k2:=mk_le 41 (item l).2.1;simp only;rw[Zb];omega
  .rw[aQ h1] at h;cases h
theorem ajw:GQ (λ_=>1) ir:=λl h=>by
 match l,h with
 |[],h=>cases h
 |[x],h=>cases h
 |x::y::r,h=>
  have e:ir (x::y::r)=if x.k=110 then(if y.k=110 then(true,r,(x.n,y.n)) else(false,y::r,(0,0))) else(false,x::y::r,(0,0)):=rfl
  rw[e] at h⊢;split
  .split
   .simp;omega
   .simp;omega
  .rename_i hx;rw[aQ hx] at h;cases h
theorem ajx:GQ (cN λ_=>1) kf:=λl h=>by
 unfold kf at h⊢;by_cases h1:(mk 40 l).1=true
 .have k1:=mk_le 40 l;rw[aV h1] at h⊢;by_cases h2:(mk 41 (mk 40 l).2).1=true
  .have k2:=mk_le 41 (mk 40 l).2;rw[aV h2];simp[cN];omega
  .rw[aQ h2] at h⊢;have k:=Lx ajw _ _ _ h;have e:cN (λ_:Int×Int=>1) []=0:=rfl
   omega
 .rw[aQ h1] at h;cases h
theorem Zc:GQ (cN (cN λ_=>1)) fK:=λl h=>by
 unfold fK at h⊢;by_cases h0:(wd EMPTY l).1=true
 .have k0:=Lv EMPTY l;rw[aV h0];simp[cN];exact k0
 .rw[aQ h0] at h⊢;by_cases h1:(mk 40 l).1=true
  .have k1:=mk_le 40 l;rw[aV h1] at h⊢;have k:=Lx ajx _ _ _ h;have e:cN (cN λ_=>1) ([]:List (List (Int×Int)))=0:=rfl
   omega
  .rw[aQ h1] at h;cases h
theorem ajy:GQ (cN (cN (cN λ_=>1))) lZ:=λl h=>by
 unfold lZ at h⊢;by_cases h0:(wd EMPTY l).1=true
 .have k0:=Lv EMPTY l;rw[aV h0];simp[cN];exact k0
 .rw[aQ h0] at h⊢;by_cases h1:(mk 40 l).1=true
  .have k1:=mk_le 40 l;rw[aV h1] at h⊢;have k:=Lx Zc _ _ _ h;have e:cN (cN (cN λ_=>1)) ([]:List (List (List (Int×Int))))=0:=rfl
   omega
  .rw[aQ h1] at h;cases h
theorem ajz{α:Type}(l:List α):cN (λ_=>1) l=l.length:=by
 induction l with
 |nil=>rfl
 |cons a l ih=>
  have e:cN (λ_=>1) (a::l)=1+cN (λ_=>1) l:=by simp[cN]
  rw[e,ih,dw];omega
theorem ajA(rg:List (List (Int×Int))):(Ge.aR rg).length<=cN (cN λ_=>1) rg:=by
 induction rg with
 |nil=>simp[Ge.aR]
 |cons g r ih=>
  have e:Ge.aR (g::r)=Ge.fZ g++Ge.aR r:=nI;have h1:(Ge.fZ g).length<=g.length:=by rw[<-Ge.Qm];exact Ge.Qn g _
  have h2:cN (cN λ_=>1) (g::r)=cN (λ_=>1) g+cN (cN λ_=>1) r:=by simp[cN]
  rw[e,bY,h2,ajz];omega
theorem ajB(ps:List (List (List (Int×Int)))):cN (cN λ_=>1) ps.flatten=cN (cN (cN λ_=>1)) ps:=by
 induction ps with
 |nil=>rfl
 |cons p r ih=>
  have h1:cN (cN λ_=>1) (p++r.flatten)=cN (cN λ_=>1) p+cN (cN λ_=>1) r.flatten:=by simp[cN]
  have h2:cN (cN (cN λ_=>1)) (p::r)=cN (cN λ_=>1) p+cN (cN (cN λ_=>1)) r:=by simp[cN]
  rw[yz,h1,h2,ih]
theorem ajC{s:List UInt8}(h:(err s).1=0):(Ge.aR (rings s)).length<=402:=by
 obtain⟨h5,_,h1,_⟩:=zh h;have hl:=Kz s;have k:cN (cN (cN λ_=>1)) (dK (all s)).2.2<=(all s).length:=by
  unfold dK at h1⊢;by_cases hw:(wd jS (all s)).1=true
  .rw[aV hw] at h1⊢;have k1:=Zc _ h1;have k2:=Lv jS (all s);have e:cN (cN (cN λ_=>1)) [(fK (wd jS (all s)).2).2.2]=cN (cN λ_=>1) (fK (wd jS (all s)).2).2.2:=by simp[cN]
   simp only;rw[e];omega
  .rw[aQ hw] at h1⊢;by_cases hm:(wd fA (all s)).1=true
   .rw[aV hm] at h1⊢;have k1:=ajy _ h1;have k2:=Lv fA (all s);omega
   .rw[aQ hm] at h1;cases h1
 have k2:=ajA (rings s);have k3:cN (cN λ_=>1) (rings s)=cN (cN (cN λ_=>1)) (dK (all s)).2.2:=ajB _
 have k4:s.length<=400:=by
  unfold err at h;by_cases hs:400<s.length
  .rw[aV hs] at h;cases h
  .omega
 omega
end Pl
namespace Ge
def tR(acc:List Qt)(c:List Qt):List Qt:=c.foldl (λa q=>ins q a) acc
def iZ(l:List (Pt×Pt)):List Qt:=l.foldl (λacc e=>tR acc (qN l e)) []
end Ge
namespace Pl
end Pl
namespace Ge
def isNode(l:List (Pt×Pt))(q:Qt):Prop:=
 (∃e∈l,q=pt e.1\/q=pt e.2)\/∃e∈l,∃f∈l,dG e f≠0/\q=gA e f/\hq (gA e f) e=true/\hq (gA e f) f=true
theorem Zd:∀(c acc:List Qt),(∀q∈acc,iF q)->(∀q∈c,iF q)->∀r,r∈tR acc c↔r∈acc\/r∈c
 |[],acc,_,_,r=>by simp[tR]
 |q::c,acc,ha,hc,r=>by
  have hq:=hc q af
  have e:tR acc (q::c)=tR (ins q acc) c:=rfl;rw[e,Zd c (ins q acc) (y7 hq ha) (λx hx=>hc x (by simp[hx])) r,uR hq ha r,bU]
  constructor
  .rintro((h|h)|h)
   .exact aT (aU h)
   .exact aU h
   .exact aT (aT h)
  .rintro(h|h|h)
   .exact aU (aT h)
   .exact aU (aU h)
   .exact aT h
def adds(e f:Pt×Pt)(r:Qt):Prop:=
 (dG e f≠0/\r=gA e f/\hq (gA e f) e=true/\hq (gA e f) f=true)\/(dG e f=0/\((r=pt f.1/\hq (pt f.1) e=true)\/(r=pt f.2/\hq (pt f.2) e=true)))
theorem ajD{e f:Pt×Pt}{o:List Qt}(ho:∀q∈o,iF q):(∀q∈Bh e o f,iF q)/\∀r,r∈Bh e o f↔r∈o\/adds e f r:=by
 unfold Bh adds;by_cases hc:dG e f=0
 .rw[aV hc];dsimp only;have h1:=uR (uW f.1) ho;have r1:=y7 (uW f.1) ho;by_cases a:hq (pt f.1) e=true
  .rw[aV a];have h2:=uR (uW f.2) r1;by_cases b:hq (pt f.2) e=true
   .rw[aV b];refine⟨y7 (uW f.2) r1,λr=>?_⟩
    rw[h2,h1];simp only[hc,a,b,ne_eq,yu,wh,wj,sJ,vZ];constructor
    .rintro(h|h|h)
     .exact aT (aT h)
     .exact aT (aU h)
     .exact aU h
    .rintro(h|h|h)
     .exact aT (aT h)
     .exact aT (aU h)
     .exact aU h
   .rw[aQ b];refine⟨r1,λr=>?_⟩
    rw[h1]
    grind
  .rw[aQ a];have h2:=uR (uW f.2) ho;by_cases b:hq (pt f.2) e=true
   .rw[aV b];refine⟨y7 (uW f.2) ho,λr=>?_⟩
    rw[h2]
    grind
   .rw[aQ b];refine⟨ho,λr=>?_⟩
    simp[hc,a,b]
 .rw[aQ hc];have h1:=uR (YH hc) ho;by_cases a:(hq (gA e f) e&&hq (gA e f) f)=true
  .rw[aV a];obtain⟨a1,a2⟩:=(Bool.and_eq_true_iff).1 a;refine⟨y7 (YH hc) ho,λr=>?_⟩
   rw[h1];simp only[hc,a1,a2,ne_eq,Ah,wj,sJ,wh,Ai];exact⟨λh=>h.symm,λh=>h.symm⟩
  .rw[aQ a];refine⟨ho,λr=>?_⟩
   constructor
   .exact aU
   .rintro(h|⟨_,_,h1,h2⟩|⟨h,_⟩)
    .exact h
    .exact absurd (by rw[h1,h2];rfl) a
    .exact absurd h hc
theorem Ze(e:Pt×Pt):∀(l:List (Pt×Pt))(o:List Qt),(∀q∈o,iF q)->(∀q∈l.foldl (Bh e) o,iF q)/\∀r,r∈l.foldl (Bh e) o↔r∈o\/∃f∈l,adds e f r
 |[],o,ho=>⟨ho,λr=>af⟩
 |f::l,o,ho=>by
  obtain⟨h1,h2⟩:=ajD (e:=e) (f:=f) ho;obtain⟨h3,h4⟩:=Ze e l (Bh e o f) h1;refine⟨h3,λr=>?_⟩
  rw[sL,h4,h2];constructor
  .rintro((h|h)|⟨g,hg,h⟩)
   .exact aU h
   .exact aT ⟨f,af,h⟩
   .exact aT ⟨g,by simp[hg],h⟩
  .rintro(h|⟨g,hg,h⟩)
   .exact aU (aU h)
   .rcases bU.1 hg with e'|e'
    .subst e';exact aU (aT h)
    .exact aT ⟨g,e',h⟩
theorem Lz(l:List (Pt×Pt))(e:Pt×Pt):(∀q∈qN l e,iF q)/\∀r,r∈qN l e↔r=pt e.1\/r=pt e.2\/∃f∈l,adds e f r:=by
 have h0:∀q∈([]:List Qt),iF q:=λq h=>by simp at h
 have h1:=y7 (uW e.1) h0;have h2:=y7 (uW e.2) h1;obtain⟨h3,h4⟩:=Ze e l _ h2;refine⟨h3,λr=>?_⟩
 unfold qN;rw[h4,uR (uW e.2) h1,uR (uW e.1) h0];constructor
 .rintro((h|h|h)|h)
  .exact aT (aU h)
  .exact aU h
  .simp at h
  .exact aT (aT h)
 .rintro(h|h|h)
  .exact aU (aT (aU h))
  .exact aU (aU h)
  .exact aT h
theorem Zf(L:List (Pt×Pt)):∀(l:List (Pt×Pt))(acc:List Qt),(∀q∈acc,iF q)->uQ acc->
  (∀q∈l.foldl (λacc e=>tR acc (qN L e)) acc,iF q)/\uQ (l.foldl (λacc e=>tR acc (qN L e)) acc)/\∀r,r∈l.foldl (λacc e=>tR acc (qN L e)) acc↔r∈acc\/∃e∈l,r∈qN L e
 |[],acc,h,ha=>⟨h,ha,λr=>af⟩
 |e::l,acc,h,ha=>by
  have hc:=(Lz L e).1;have hm:=Zd (qN L e) acc h hc;have hr:∀q∈tR acc (qN L e),iF q:=λq hq=>by
   rcases(hm q).1 hq with k|k
   .exact h q k
   .exact hc q k
  have has:uQ (tR acc (qN L e)):=by
   clear hm hr;generalize qN L e=c at hc;induction c generalizing acc with
   |nil=>exact ha
   |cons q c ih=>
    have hq:=hc q af
    exact ih (ins q acc) (y7 hq h) (X8 hq h ha) (λx hx=>hc x (by simp[hx]))
  obtain⟨h1,h2,h3⟩:=Zf L l (tR acc (qN L e)) hr has;refine⟨h1,h2,λr=>?_⟩
  rw[sL,h3,hm];constructor
  .rintro((k|k)|⟨g,hg,k⟩)
   .exact aU k
   .exact aT ⟨e,af,k⟩
   .exact aT ⟨g,by simp[hg],k⟩
  .rintro(k|⟨g,hg,k⟩)
   .exact aU (aU k)
   .rcases bU.1 hg with e'|e'
    .subst e';exact aU (aT k)
    .exact aT ⟨g,e',k⟩
theorem D5(l:List (Pt×Pt)):(∀q∈iZ l,iF q)/\uQ (iZ l)/\∀r,r∈iZ l↔isNode l r:=by
 obtain⟨h1,h2,h3⟩:=Zf l l [] (λq h=>by simp at h) List.Pairwise.nil
 refine⟨h1,h2,λr=>?_⟩
 unfold iZ;rw[h3];unfold isNode;constructor
 .rintro(h|⟨e,he,h⟩)
  .simp at h
  .rcases((Lz l e).2 r).1 h with h|h|⟨f,hf,h⟩
   .exact aU ⟨e,he,aU h⟩
   .exact aU ⟨e,he,aT h⟩
   .rcases h with⟨a,b,c,d⟩|⟨_,⟨h,_⟩|⟨h,_⟩⟩
    .exact aT ⟨e,he,f,hf,a,b,c,d⟩
    .exact aU ⟨f,hf,aU h⟩
    .exact aU ⟨f,hf,aT h⟩
 .rintro(⟨e,he,h⟩|⟨e,he,f,hf,a,b,c,d⟩)
  .refine aT ⟨e,he,((Lz l e).2 r).2 ?_⟩;rcases h with h|h
   .exact aU h
   .exact aT (aU h)
  .exact aT ⟨e,he,((Lz l e).2 r).2 (aT (aT ⟨f,hf,aU ⟨a,b,c,d⟩⟩))⟩
theorem Zg(e f:Pt×Pt):dG f e= -dG e f:=by unfold dG;grind
theorem ajE{e f:Pt×Pt}(h:dG e f≠0):gA f e=gA e f:=by
 have h':dG f e≠0:=by rw[Zg];omega
 unfold gA;have e1:mX f e*dG e f=mX e f*dG f e:=by unfold mX mT dG;grind
 have e2:mY f e*dG e f=mY e f*dG f e:=by unfold mY mT dG;grind
 rw[DA h' h e1,DA h' h e2]
end Ge
theorem vh(x:Int)(g:Nat): -(x.natAbs:Int)<=x.tdiv g/\x.tdiv g<=(x.natAbs:Int):=by
 have h:(x.tdiv g).natAbs<=x.natAbs:=by
  rw[Int.natAbs_tdiv];exact Nat.div_le_self _ _
 omega
theorem ajF{a b:Nat}{x y:Int}(D:Int)(h1:Fl a x)(h2:Fl b y)(hx: -16000000<=x/\x<=16000000)(hy: -16000000<=y/\y<=16000000)(hD:D<0/\ -300000<=D)(G:Nat)(hG:Int.gcd (Int.gcd x y:Nat) D=G)(w:aM):
  ak 37 #[aA aK a b,az aJ D] w λe w'=>e=aL (aC #[aA aK (aO aK (x.tdiv (-(G:Int)))) (aO aK (y.tdiv (-(G:Int)))),az aJ (D.tdiv (-(G:Int)))])/\Below w.heap.size w w':=by
 have wS:0<G:=by rw[<-hG];exact tH aa
 have aiu:Int.gcd x y<=16000000:=by
  by_cases hz:x=0
  .rw[hz,Int.gcd_zero_left];omega
  .have:=asv (b:=y) hz;omega
 have hGD:G<=300000:=by
  have:=asw (a:=(Int.gcd x y:Nat)) (b:=D) aa
  omega
 have c1:=h1.int aa aa
 have c2:=h2.int aa aa
 have hc1:∀w,(convert 120 3 (aB aK a)).run prog w=.ok (az aJ x) w:=λw=>run_convert_float_int w 120 3 aK aJ a x (by rw[underlying120];rfl) underlying3 c1
 have hc2:∀w,(convert 120 3 (aB aK b)).run prog w=.ok (az aJ y) w:=λw=>run_convert_float_int w 120 3 aK aJ b y (by rw[underlying120];rfl) underlying3 c2
 have Qx:Hid (∀w1,ak 65 #[az aJ x,az aJ y] w1 λe w'=>e=aL (az aJ (Int.gcd x y:Nat))/\Below w1.heap.size w1 w'):=λw1=>Gu x y w1 aa aa
 have Qy:Hid (∀w1,ak 65 #[az aJ (Int.gcd x y:Nat),az aJ D] w1 λe w'=>e=aL (az aJ (G:Int))/\Below w1.heap.size w1 w'):=λw1=>by rw[<-hG];exact Gu _ D w1 aa aa
 obtain⟨XQ,AX⟩:∃q,q=x.tdiv (-(G:Int)):=⟨_,rfl⟩;obtain⟨YQ,AY⟩:∃q,q=y.tdiv (-(G:Int)):=⟨_,rfl⟩;obtain⟨DQ,AZ⟩:∃q,q=D.tdiv (-(G:Int)):=⟨_,rfl⟩;rw[<-AX,<-AY,<-AZ];have HP:Hid (∀w1,ak 38 #[az aJ XQ,az aJ YQ] w1 λe w'=>e=aL (aA aK (aO aK XQ) (aO aK YQ))/\w'=w1):=λw1=>Gf _ _ w1
 have hw1:IntKind.i64.wrap (x.tdiv (-(G:Int)))=XQ:=by rw[AX,Ap,IntKind.wrap_i64];have:=vh x G;omega
 have hw2:IntKind.i64.wrap (y.tdiv (-(G:Int)))=YQ:=by rw[AY,Ap,IntKind.wrap_i64];have:=vh y G;omega
 have hw3:IntKind.i64.wrap (D.tdiv (-(G:Int)))=DQ:=by rw[AZ,Ap,IntKind.wrap_i64];have:=vh D G;omega
 have rG:IntKind.i64.wrap (-(x.tdiv (G:Int)))=XQ:=by rw[<-Ap];exact hw1
 have LA:IntKind.i64.wrap (-(y.tdiv (G:Int)))=YQ:=by rw[<-Ap];exact hw2
 have mI:IntKind.i64.wrap (-(D.tdiv (G:Int)))=DQ:=by rw[<-Ap];exact hw3
 have hw4:IntKind.i64.wrap (-(G:Int))= -(G:Int):=by rw[IntKind.wrap_i64];omega
 clear AX AY AZ;have XX:¬G=0:=aa
 have XY:¬(-(G:Int)=0):=aa
 generalize Int.gcd x y=GXY at*;clear c1 c2 h1 h2 hG;have hE:=heap_alloc_new w (.cells #[aA aK 0 0,az aJ 0] 83);have hb0:Below w.heap.size w (w.alloc (.cells #[aA aK 0 0,az aJ 0] 83)):=(Below.refl _ _).alloc (aY _) _;have hz:w.heap.size<(w.alloc (.cells #[aA aK 0 0,az aJ 0] 83)).heap.size:=af
 go_enter func37,ntmps37
 go_wp2_with (first |(simp only[hc1])|(simp only[hc2]))
 generalize w.alloc (.cells #[aA aK 0 0,az aJ 0] 83)=W at*;generalize hB:w.heap.size=B at*;refine(Qx.out _).mono ?_;rintro e w1 ⟨rfl,hb1⟩
 go_wp2_with fail
 refine(Qy.out _).mono ?_;rintro e w2 ⟨rfl,hb2⟩;have hs1:=hb1.size;have eJ:=(hb2.block _ (show B<w1.heap.size by omega)).trans ((hb1.block _ hz).trans hE)
 have aW:=(hb0.trans (hb1.mono (fh hz))).trans (hb2.mono aa)
 have e0:=cH eJ;have e1:=cD eJ;have z0:=bK eJ 0;have z1:=bK eJ 1;clear hE eJ hb1 hb2 hb0
 go_wp2_with fail
 go_region_held3 (λw'=>w'.frozen? ⟨B,0,none⟩=false/\w'.frozen? ⟨B,1,none⟩=false) (go_keep) (first
  |(go_at_call 38;refine(HP.out _).mono ?_;rintro e w5 ⟨rfl,rG⟩;subst rG)
  |(simp only[gN];go_simp))
 go_wp2_with fail
 refine bodyPost_ret (v:=aC #[aA aK (aO aK XQ) (aO aK YQ),az aJ DQ]) (by simp[results,results37,go_sem,e0,e1]) rfl ⟨rfl,?_⟩
 rw[hB];exact((aW.setCell (aY _) _).setCell (aY _) _).drew
end
end Go.Proofs.YtkjhhooecopolaaGreatDoor
namespace Go.Proofs.YtkjhhooecopolaaGreatDoor.Ge
open Tryz
open Value renaming int->az,complex->aA,float->aB,agg->aC,bool->aD,string->aF,slice->aG,pointer->aH,tuple->aI
open IntKind renaming i64->aJ
open FloatKind renaming f64->aK
open Ending renaming returned->aL
open Go renaming World->aM,Value->aN,floatOfInt->aO
abbrev Nd:=Int×Int×Int
structure Can(n:Nd):Prop where
 pos:0<n.2.2
 co:Int.gcd (Int.gcd n.1 n.2.1) n.2.2=1
def aX(n:Nd):Qt:=(bC n.1 n.2.2,bC n.2.1 n.2.2)
theorem Zh{n m:Nd}(hn:Can n)(h1:n.1*m.2.2=m.1*n.2.2)(h2:n.2.1*m.2.2=m.2.1*n.2.2):n.2.2∣m.2.2:=by
 have d1:n.2.2∣n.1*m.2.2:=⟨m.1,by rw[h1,fg]⟩
 have d2:n.2.2∣n.2.1*m.2.2:=⟨m.2.1,by rw[h2,fg]⟩
 have d3:n.2.2∣(Int.gcd (n.1*m.2.2) (n.2.1*m.2.2):Int):=Int.dvd_coe_gcd d1 d2;rw[Int.gcd_mul_right] at d3;have d4:n.2.2∣(Int.gcd n.1 n.2.1:Int)*m.2.2:=by
  rw[Fm] at d3;rcases Int.natAbs_eq m.2.2 with h|h
  .rw[h];exact d3
  .rw[h,vY];exact Int.dvd_neg.2 d3
 exact Qz (by rw[agw];exact hn.co) d4
theorem ajG{n m:Nd}(hn:Can n)(hm:Can m)(h1:n.1*m.2.2=m.1*n.2.2)(h2:n.2.1*m.2.2=m.2.1*n.2.2):n=m:=by
 have a:=Zh hn h1 h2;have b:=Zh hm h1.symm h2.symm;have p1:=agC hm.pos a;have p2:=agC hn.pos b;have e:n.2.2=m.2.2:=aa
 have hz:m.2.2≠0:=by have:=hm.pos;omega
 rw[e] at h1 h2;have e1:=VH hz h1;have e2:=VH hz h2;exact eB e1 (eB e2 e)
theorem ajH{g z:Int}(hg:0<g):(g*z).sign=z.sign:=by
 rw[VI,oJ hg,Al]
theorem D6{a b c d:Int}(hb:0<b)(hd:0<d):fc (bC a b) (bC c d)=(a*d-c*b).sign:=by
 obtain⟨g,g0,e1,e2,gp⟩:=tM (n:=a) (d:=b) aa
 obtain⟨k,k0,e3,e4,kp⟩:=tM (n:=c) (d:=d) aa
 have hg:=gp.2 hb;have hk:=kp.2 hd;unfold fc;have:a*d-c*b=(g*k)*((bC a b).1*(bC c d).2-(bC c d).1*(bC a b).2):=by
  generalize bC a b=A at*;generalize bC c d=B at*;rw[e1,e2,e3,e4];grind
 rw[this,ajH (bJ hg hk)]
theorem dW{n:Nd}(h:Can n):iF (aX n):=⟨qI (by have:=h.pos;omega),qI (by have:=h.pos;omega)⟩
theorem LB{n m:Nd}(hn:Can n)(hm:Can m):pc (aX n) (aX m)=if(n.1*m.2.2-m.1*n.2.2).sign=0 then(n.2.1*m.2.2-m.2.1*n.2.2).sign else(n.1*m.2.2-m.1*n.2.2).sign:=by
 unfold pc aX;rw[D6 hn.pos hm.pos,D6 hn.pos hm.pos]
theorem xe{n m:Nd}(hn:Can n)(hm:Can m)(h:pc (aX n) (aX m)=0):n=m:=by
 rw[LB hn hm] at h;split at h
 .rename_i h1
  have a:=yC.1 h1;have b:=yC.1 h;exact ajG hn hm aa aa
 .contradiction
theorem LC{n m:Nd}(hn:Can n)(hm:Can m)(h:aX n=aX m):n=m:=xe hn hm (by rw[h];exact Bb _)
theorem LF{x y d k X Y P:Int}(hd:d≠0)(h1:x=k*X)(h2:y=k*Y)(h3:d=k*P)(hP:0<P)(hk:k.natAbs=Int.gcd (Int.gcd x y:Nat) d):Can (X,Y,P)/\aX (X,Y,P)=(bC x d,bC y d):=by
 have k0:k≠0:=by rintro rfl;rw[Fs] at h3;exact hd h3
 refine⟨⟨hP,?_⟩,?_⟩
 .show Int.gcd (Int.gcd X Y:Nat) P=1;have e1:Int.gcd x y=k.natAbs*Int.gcd X Y:=by rw[h1,h2,VL]
  have e2:Int.gcd (Int.gcd x y:Nat) d=k.natAbs*Int.gcd (Int.gcd X Y:Nat) P:=by
   have:Int.gcd (k*((Int.gcd X Y:Nat):Int)) (k*P)=k.natAbs*Int.gcd (Int.gcd X Y:Nat) P:=VL ..;rw[<-this,e1,h3];unfold Int.gcd;congr 1;rw[mq];simp[Int.natAbs_mul]
  rw[e2] at hk;have kp:0<k.natAbs:=aa
  exact asA kp aa
 .unfold aX;show(bC X P,bC Y P)=_;rw[DA (n:=X) (d:=P) (m:=x) (e:=d) aa hd (by rw[h1,h3];grind),DA (n:=Y) (d:=P) (m:=y) (e:=d) aa hd (by rw[h2,h3];grind)]
theorem LG{x g:Int}(h:g∣x):x=g*x.tdiv g:=(uD h).symm
end Go.Proofs.YtkjhhooecopolaaGreatDoor.Ge
namespace Go.Proofs.YtkjhhooecopolaaGreatDoor
open Tryz
open Value renaming int->az,complex->aA,float->aB,agg->aC,bool->aD,string->aF,slice->aG,pointer->aH,tuple->aI
open IntKind renaming i64->aJ
open FloatKind renaming f64->aK
open Ending renaming returned->aL
open Go renaming World->aM,Value->aN,floatOfInt->aO
open Go.RowKit
def ja(n:Ge.Nd):aN:=aC #[aA aK (aO aK n.1) (aO aK n.2.1),az aJ n.2.2]
theorem LH{a b:Nat}{x y:Int}(D:Int)(h1:Fl a x)(h2:Fl b y)(hx: -16000000<=x/\x<=16000000)(hy: -16000000<=y/\y<=16000000)(hD:D≠0/\ -300000<=D/\D<=300000):
  ∃n:Ge.Nd,Ge.Can n/\Ge.aX n=(Ge.bC x D,Ge.bC y D)/\eI n.1 n.2.1 n.2.2/\∀w,ak 37 #[aA aK a b,az aJ D] w λe w'=>e=aL (ja n)/\aj w w':=by
 obtain⟨G,hG⟩:∃G,Int.gcd (Int.gcd x y:Nat) D=G:=⟨_,rfl⟩;have wS:0<G:=by rw[<-hG];exact agu _ hD.1
 have dg:(G:Int)∣(Int.gcd x y:Nat):=by rw[<-hG];exact Am ..
 have dd:(G:Int)∣D:=by rw[<-hG];exact yA ..
 have dx:(G:Int)∣x:=Aq dg (Am ..);have dy:(G:Int)∣y:=Aq dg (yA ..);have ex:=Ge.LG dx;have ey:=Ge.LG dy;have ed:=Ge.LG dd;have bx:=vh x G;have by':=vh y G
 have bd:=vh D G;rcases fX D 0 with h|h|h
 .have call:=ajF D h1 h2 hx hy ⟨h,hD.2.1⟩ G hG;rw[Ap,Ap,Ap] at call;have hP:0< -(D.tdiv G):=by
   rcases Int.lt_or_le (D.tdiv G) 0 with q|q
   .omega
   .have:=jo (Int.natCast_nonneg G) q;omega
  obtain⟨c1,c2⟩:=Ge.LF (x:=x) (y:=y) (d:=D) (k:= -(G:Int)) (X:= -(x.tdiv G)) (Y:= -(y.tdiv G)) (P:= -(D.tdiv G)) hD.1 (ex.trans (Ar ..).symm) (ey.trans (Ar ..).symm) (ed.trans (Ar ..).symm) hP (by rw[hG];omega)
  exact⟨(-(x.tdiv G), -(y.tdiv G), -(D.tdiv G)),c1,c2,⟨by show(-(x.tdiv G)).natAbs<=_;omega,by show(-(y.tdiv G)).natAbs<=_;omega,hP,by show -(D.tdiv G)<=_;omega⟩,call⟩
 .exact absurd h hD.1
 .have call:=XW D h1 h2 hx hy ⟨h,hD.2.2⟩ G hG;have hP:0<D.tdiv G:=by
   rcases Int.lt_or_le 0 (D.tdiv G) with q|q
   .exact q
   .have:=jo (Int.natCast_nonneg G) (Int.neg_nonneg_of_nonpos q);rw[vY] at this;omega
  obtain⟨c1,c2⟩:=Ge.LF (x:=x) (y:=y) (d:=D) (k:=(G:Int)) (X:=x.tdiv G) (Y:=y.tdiv G) (P:=D.tdiv G) hD.1 ex ey ed hP (by rw[hG];omega)
  exact⟨(x.tdiv G,y.tdiv G,D.tdiv G),c1,c2,⟨by show(x.tdiv G).natAbs<=_;omega,by show(y.tdiv G).natAbs<=_;omega,hP,by show D.tdiv G<=_;omega⟩,call⟩
end Go.Proofs.YtkjhhooecopolaaGreatDoor
namespace Go.Proofs.YtkjhhooecopolaaGreatDoor
open Tryz
open Value renaming int->az,complex->aA,float->aB,agg->aC,bool->aD,string->aF,slice->aG,pointer->aH,tuple->aI
open IntKind renaming i64->aJ
open FloatKind renaming f64->aK
open Ending renaming returned->aL
open Go renaming World->aM,Value->aN,floatOfInt->aO
section
open Go.RowKit
theorem LI{e:Ed}(h:gz e):(-100<=e.2.1-e.1.1/\e.2.1-e.1.1<=100)/\(-100<=e.2.2-e.1.2/\e.2.2-e.1.2<=100):=by
 obtain⟨a,b,c,d⟩:=h;unfold small at a b c d;omega
theorem Zi(x y:EB)(e f:Ed)(hx:jU x e)(hy:jU y f)(he:gz e)(hf:gz f)(w:aM):
  ak 179 #[aC #[aA aK x.wa x.wb,aB aK x.sh],aC #[aA aK y.wa y.wb,aB aK y.sh]] w λr w'=>r=aL (aD (decide (Ge.dG e f=0)))/\aj w w':=by
 have we:=LI he;have wf:=LI hf;obtain⟨im,f1,hl⟩:=Gi hx.wa hx.wb hy.wa hy.wb (by unfold sm;omega) (by unfold sm;omega) (by unfold sm;omega) (by unfold sm;omega)
 have HL:Hid (∀w,ak 101 #[aA aK x.wa x.wb,aA aK y.wa y.wb] w λe w'=>e=aL (aB aK im)/\w'=w):=hl
 have q:=uO f1 mF;have hc:decide (Ge.dG e f=0)=(FloatKind.f64.format.order im 0 == some .eq):=by rw[q];rfl
 rw[hc];clear hl q hc f1 hx hy he hf we wf;obtain⟨wa,wb,sh,fa,fb,ta,tb⟩:=x;obtain⟨kq,kz,sh',nX,nY,nZ,n9⟩:=y;simp only at*;have hb0:aj w ((w.alloc (.cells #[aA aK wa wb,aB aK sh] 122)).alloc (.cells #[aA aK kq kz,aB aK sh'] 122)):=(aw _ _).alloc af _
 go_enter func179,ntmps179
 go_wp2_with fail
 refine(HL.out _).mono ?_;rintro e w1 ⟨rfl,rfl⟩
 go_wp2_with fail
 go_ret
 exact⟨rfl,hb0⟩
theorem ajI(e f:Ed):(f.2.1-f.1.1)*((e.2.1-e.1.1)*e.1.2-(e.2.2-e.1.2)*e.1.1)-(e.2.1-e.1.1)*((f.2.1-f.1.1)*f.1.2-(f.2.2-f.1.2)*f.1.1)=Ge.mX e f:=by
 unfold Ge.mX Ge.mT Ge.dG;grind
theorem ajJ(e f:Ed):(f.2.2-f.1.2)*((e.2.1-e.1.1)*e.1.2-(e.2.2-e.1.2)*e.1.1)-(e.2.2-e.1.2)*((f.2.1-f.1.1)*f.1.2-(f.2.2-f.1.2)*f.1.1)=Ge.mY e f:=by
 unfold Ge.mY Ge.mT Ge.dG;grind
theorem Zj{a b s z:Nat}{x y t:Int}(h1:Fl a x)(h2:Fl b y)(h3:Fl s t)(hz:Fl z 0)(b1:sm x)(b2:sm y)(b3:sm t):
  ∃re im,(∀ty w,(binOp .mul ty (aA aK a b) (aA aK s z)).run prog w=.ok (aA aK re im) w)/\Fl re (x*t)/\Fl im (y*t):=by
 have m1:=qF b1 b3;have m2:=qF b2 b3;obtain⟨re,im,e,f1,f2⟩:=Qk h1 h2 h3 hz aa aa aa aa aa aa
 refine⟨re,im,λty w=>run_complex_mul (P:=prog) w ty a b s z re im e,?_,?_⟩
 .have:x*t=x*t-y*0:=aa
  rw[this];exact f1
 .have:y*t=x*0+y*t:=aa
  rw[this];exact f2
theorem ajK(x y:EB)(e f:Ed)(hx:jU x e)(hy:jU y f)(he:gz e)(hf:gz f)(hc:Ge.dG e f≠0):
  ∃n:Ge.Nd,Ge.Can n/\Ge.aX n=Ge.gA e f/\eI n.1 n.2.1 n.2.2/\∀w,ak 180 #[aC #[aA aK x.wa x.wb,aB aK x.sh],aC #[aA aK y.wa y.wb,aB aK y.sh]] w λr w'=>r=aL (ja n)/\Below w.heap.size w w':=by
 have we:=LI he;have wf:=LI hf;have cin:=YJ he hf;obtain⟨im,f1,hl⟩:=Gi hx.wa hx.wb hy.wa hy.wb (by unfold sm;omega) (by unfold sm;omega) (by unfold sm;omega) (by unfold sm;omega)
 have hcr:(e.2.1-e.1.1)*(f.2.2-f.1.2)-(e.2.2-e.1.2)*(f.2.1-f.1.1)=Ge.dG e f:=rfl;rw[hcr] at f1;have c1:=f1.int aa aa
 obtain⟨p1,p2,o1,g1,g2⟩:=Zj hy.wa hy.wb hx.sh mF (by unfold sm;omega) (by unfold sm;omega) (KR he)
 obtain⟨r1,r2,o2,k1,k2⟩:=Zj hx.wa hx.wb hy.sh mF (by unfold sm;omega) (by unfold sm;omega) (KR hf)
 have cx:=ajI e f;have cy:=ajJ e f;obtain⟨s1,s2,e3,j1,j2⟩:=Qj g1 g2 k1 k2 (by rw[cx];omega) (by rw[cy];omega)
 have o3:=λt w=>run_complex_sum (P:=prog) w .sub (aT rfl) t aK p1 p2 r1 r2 s1 s2 e3
 rw[cx] at j1;rw[cy] at j2;obtain⟨n,n1,n2,n3,hN⟩:=LH (Ge.dG e f) j1 j2 aa aa aa
 refine⟨n,n1,n2,n3,λw=>?_⟩
 have HL:Hid (∀w,ak 101 #[aA aK x.wa x.wb,aA aK y.wa y.wb] w λe w'=>e=aL (aB aK im)/\w'=w):=hl
 generalize Ge.dG e f=C at*;have hc1:∀w,(convert 120 3 (aB aK im)).run prog w=.ok (az aJ C) w:=λw=>run_convert_float_int w 120 3 aK aJ im C (by rw[underlying120];rfl) underlying3 c1
 unfold ja at*;generalize aO aK n.1=N1 at*;generalize aO aK n.2.1=N2 at*;have HN:Hid (∀w,ak 37 #[aA aK s1 s2,az aJ C] w λe w'=>e=aL (aC #[aA aK N1 N2,az aJ n.2.2])/\Below w.heap.size w w'):=hN
 clear hl hN c1 cx cy j1 j2 e3 g1 g2 k1 k2 n1 n2 n3 f1 hcr cin we wf hx hy he hf hc;obtain⟨wa,wb,sh,fa,fb,ta,tb⟩:=x;obtain⟨kq,kz,sh',nX,nY,nZ,n9⟩:=y;simp only at*;have hb1:Below w.heap.size w ((w.alloc (.cells #[aA aK wa wb,aB aK sh] 122)).alloc (.cells #[aA aK kq kz,aB aK sh'] 122)):=((Below.refl _ _).alloc (aY _) _).alloc af _
 go_enter func180,ntmps180
 go_wp2_with (first |(simp only[o1])|(simp only[o2])|(simp only[o3]))
 have hs1:w.heap.size+2=((w.alloc (.cells #[aA aK wa wb,aB aK sh] 122)).alloc (.cells #[aA aK kq kz,aB aK sh'] 122)).heap.size:=af
 generalize(w.alloc (.cells #[aA aK wa wb,aB aK sh] 122)).alloc (.cells #[aA aK kq kz,aB aK sh'] 122)=W1 at*;have hE:=heap_alloc_new W1 (.cells #[aA aK 0 0,az aJ 0] 83);have hb0:=hb1.alloc aa (.cells #[aA aK 0 0,az aJ 0] 83)
 have hz:W1.heap.size<(W1.alloc (.cells #[aA aK 0 0,az aJ 0] 83)).heap.size:=af
 generalize W1.alloc (.cells #[aA aK 0 0,az aJ 0] 83)=W at*;generalize hB:w.heap.size=B at*;generalize W1.heap.size=B1 at*;have qL:B1=B+1+1:=aa
 have tS:B<=B+1+1:=aa
 subst qL;clear hs1;refine(HL.out _).mono ?_;rintro e w1 ⟨rfl,rfl⟩
 go_wp2_with (simp only)
 refine(HN.out _).mono ?_;rintro e w2 ⟨rfl,hb2⟩;have eJ:=(hb2.block _ hz).trans hE;have aW:=hb0.trans (hb2.mono aa)
 have e0:=cH eJ;have e1:=cD eJ;have z0:=bK eJ 0;have z1:=bK eJ 1;clear hE eJ hb2 hb0 hb1
 go_wp2_with (simp only[gN];go_simp)
 refine bodyPost_ret (v:=aC #[aA aK N1 N2,az aJ n.2.2]) (by simp[results,results180,go_sem,e0,e1]) rfl ⟨rfl,?_⟩
 rw[hB];exact(aW.setCell tS _).setCell tS _
theorem ajL(x y:EB)(w:aM)
  (HP:Hid (∀w,ak 179 #[aC #[aA aK x.wa x.wb,aB aK x.sh],aC #[aA aK y.wa y.wb,aB aK y.sh]] w λr w'=>r=aL (aD true)/\Below w.heap.size w w')):
  ak 123 #[aC x.cells,aC y.cells] w λr w'=>r=aL (aI #[aC #[aA aK 0 0,az aJ 0],aD false])/\Below w.heap.size w w':=by
 obtain⟨wa,wb,sh,fa,fb,ta,tb⟩:=x;obtain⟨kq,kz,sh',nX,nY,nZ,n9⟩:=y;simp only[EB.cells] at*
 go_enter func123,ntmps123
 go_wp2_with fail
 have hs1:w.heap.size+1+1=((w.alloc (.cells #[aA aK wa wb,aB aK sh,aA aK fa fb,aA aK ta tb] 124)).alloc (.cells #[aA aK kq kz,aB aK sh',aA aK nX nY,aA aK nZ n9] 124)).heap.size:=af
 have hb0:Below w.heap.size w ((w.alloc (.cells #[aA aK wa wb,aB aK sh,aA aK fa fb,aA aK ta tb] 124)).alloc (.cells #[aA aK kq kz,aB aK sh',aA aK nX nY,aA aK nZ n9] 124)):=((Below.refl _ _).alloc (aY _) _).alloc af _
 generalize(w.alloc (.cells #[aA aK wa wb,aB aK sh,aA aK fa fb,aA aK ta tb] 124)).alloc (.cells #[aA aK kq kz,aB aK sh',aA aK nX nY,aA aK nZ n9] 124)=W1 at*;have hE:=heap_alloc_new W1 (.cells #[aA aK 0 0,az aJ 0] 83);have hb2:=hb0.alloc aa (.cells #[aA aK 0 0,az aJ 0] 83)
 have hz:W1.heap.size<(W1.alloc (.cells #[aA aK 0 0,az aJ 0] 83)).heap.size:=af
 generalize W1.alloc (.cells #[aA aK 0 0,az aJ 0] 83)=W at*;generalize hB:w.heap.size=B at*;rw[<-hs1] at hE hz;refine(HP.out _).mono ?_;rintro e w1 ⟨rfl,hb1⟩;have eJ:=(hb1.block _ hz).trans hE;have aW:=hb2.trans (hb1.mono aa)
 have e0:=cH eJ;have e1:=cD eJ;have z0:=bK eJ 0;have z1:=bK eJ 1;have tS:B<=B+1+1:=aa
 clear hE eJ hb2 hb0 hb1 hs1
 go_wp2_with (simp only[gN];go_simp)
 refine bodyPost_ret (v:=aI #[aC #[aA aK 0 0,az aJ 0],aD false]) (by simp[results,results123,go_sem,e0,e1]) rfl ⟨rfl,?_⟩
 rw[hB];exact(aW.setCell tS _).setCell tS _
theorem ajM(x y:EB)(N1 N2:Nat)(P:Int)(u1 u2:Bool)(w:aM)
  (HP:Hid (∀w,ak 179 #[aC #[aA aK x.wa x.wb,aB aK x.sh],aC #[aA aK y.wa y.wb,aB aK y.sh]] w λr w'=>r=aL (aD false)/\Below w.heap.size w w'))
  (HC:Hid (∀w,ak 180 #[aC #[aA aK x.wa x.wb,aB aK x.sh],aC #[aA aK y.wa y.wb,aB aK y.sh]] w λr w'=>r=aL (aC #[aA aK N1 N2,az aJ P])/\Below w.heap.size w w'))
  (HX:Hid (∀w,ak 62 #[aC x.cells,aC #[aA aK N1 N2,az aJ P]] w λr w'=>r=aL (aD u1)/\Below w.heap.size w w'))
  (HY:Hid (∀w,ak 62 #[aC y.cells,aC #[aA aK N1 N2,az aJ P]] w λr w'=>r=aL (aD u2)/\Below w.heap.size w w')):
  ak 123 #[aC x.cells,aC y.cells] w λr w'=>r=aL (aI #[aC #[aA aK N1 N2,az aJ P],aD (u1&&u2)])/\Below w.heap.size w w':=by
 obtain⟨wa,wb,sh,fa,fb,ta,tb⟩:=x;obtain⟨kq,kz,sh',nX,nY,nZ,n9⟩:=y;simp only[EB.cells] at*
 go_enter func123,ntmps123
 go_wp2_with fail
 have hs1:w.heap.size+1+1=((w.alloc (.cells #[aA aK wa wb,aB aK sh,aA aK fa fb,aA aK ta tb] 124)).alloc (.cells #[aA aK kq kz,aB aK sh',aA aK nX nY,aA aK nZ n9] 124)).heap.size:=af
 have hb0:Below w.heap.size w ((w.alloc (.cells #[aA aK wa wb,aB aK sh,aA aK fa fb,aA aK ta tb] 124)).alloc (.cells #[aA aK kq kz,aB aK sh',aA aK nX nY,aA aK nZ n9] 124)):=((Below.refl _ _).alloc (aY _) _).alloc af _
 have hX:((w.alloc (.cells #[aA aK wa wb,aB aK sh,aA aK fa fb,aA aK ta tb] 124)).alloc (.cells #[aA aK kq kz,aB aK sh',aA aK nX nY,aA aK nZ n9] 124)).heap[w.heap.size]?=some (.cells #[aA aK wa wb,aB aK sh,aA aK fa fb,aA aK ta tb] 124 (0,0)):=by
  rw[Below.heap_alloc _ _ _ af];exact heap_alloc_new _ _
 have hY:((w.alloc (.cells #[aA aK wa wb,aB aK sh,aA aK fa fb,aA aK ta tb] 124)).alloc (.cells #[aA aK kq kz,aB aK sh',aA aK nX nY,aA aK nZ n9] 124)).heap[w.heap.size+1]?=some (.cells #[aA aK kq kz,aB aK sh',aA aK nX nY,aA aK nZ n9] 124 (0,0)):=by
  have:=heap_alloc_new (w.alloc (.cells #[aA aK wa wb,aB aK sh,aA aK fa fb,aA aK ta tb] 124)) (.cells #[aA aK kq kz,aB aK sh',aA aK nX nY,aA aK nZ n9] 124);simpa using this
 generalize(w.alloc (.cells #[aA aK wa wb,aB aK sh,aA aK fa fb,aA aK ta tb] 124)).alloc (.cells #[aA aK kq kz,aB aK sh',aA aK nX nY,aA aK nZ n9] 124)=W1 at*;have hE:=heap_alloc_new W1 (.cells #[aA aK 0 0,az aJ 0] 83);have Zk:=(Below.heap_alloc W1 (.cells #[aA aK 0 0,az aJ 0] 83) w.heap.size aa).trans hX
 have Zl:=(Below.heap_alloc W1 (.cells #[aA aK 0 0,az aJ 0] 83) (w.heap.size+1) aa).trans hY
 have hb2:=hb0.alloc aa (.cells #[aA aK 0 0,az aJ 0] 83)
 have hz:W1.heap.size<(W1.alloc (.cells #[aA aK 0 0,az aJ 0] 83)).heap.size:=af
 generalize W1.alloc (.cells #[aA aK 0 0,az aJ 0] 83)=W at*;generalize hB:w.heap.size=B at*;rw[<-hs1] at hE hz;clear hX hY hb0 hs1;refine(HP.out _).mono ?_;rintro e w1 ⟨rfl,hb1⟩;have hz1:B+1+1<w1.heap.size:=bW hz hb1.size;have eJ:=(hb1.block _ hz).trans hE;have D7:=(hb1.block B aa).trans Zk
 have LJ:=(hb1.block (B+1) aa).trans Zl
 have iu:=hb2.trans (hb1.mono aa)
 clear hE Zk Zl hb2 hb1;have x0:=cH D7;have x1:=cD D7;have y0:=cH LJ;have y1:=cD LJ
 go_wp2_with fail
 refine(HC.out _).mono ?_;rintro e w2 ⟨rfl,hb3⟩;have hz2:B+1+1<w2.heap.size:=bW hz1 hb3.size;have Zm:=(hb3.block _ hz1).trans eJ;have Zn:=(hb3.block B aa).trans D7
 have Zo:=(hb3.block (B+1) aa).trans LJ
 have Bk:=iu.trans (hb3.mono aa)
 clear eJ D7 LJ iu hb3 x0 x1 y0 y1
 go_wp2_with fail
 have hN:=heap_alloc_new w2 (.cells #[aA aK 0 0,az aJ 0] 83);have GR:=(Below.heap_alloc w2 (.cells #[aA aK 0 0,az aJ 0] 83) _ hz2).trans Zm;have Zp:=(Below.heap_alloc w2 (.cells #[aA aK 0 0,az aJ 0] 83) B aa).trans Zn
 have oY:=(Below.heap_alloc w2 (.cells #[aA aK 0 0,az aJ 0] 83) (B+1) aa).trans Zo
 have iM:=Bk.alloc aa (.cells #[aA aK 0 0,az aJ 0] 83)
 have hz3:w2.heap.size<(w2.alloc (.cells #[aA aK 0 0,az aJ 0] 83)).heap.size:=af
 generalize w2.alloc (.cells #[aA aK 0 0,az aJ 0] 83)=W3 at*;generalize w2.heap.size=M at*;clear Zm Zn Zo Bk;have n0:=cH hN;have n1:=cD hN;have f0:=bK hN 0;have f1:=bK hN 1
 go_wp2_with (simp only[gN];go_simp)
 have Bl:M≠B/\M≠B+1/\M≠B+1+1:=aa
 have GS:=(dQ (o:=1) Bl.1.symm (az aJ P)).trans ((dQ (o:=0) Bl.1.symm (aA aK N1 N2)).trans Zp);have GU:=(dQ (o:=1) Bl.2.1.symm (az aJ P)).trans ((dQ (o:=0) Bl.2.1.symm (aA aK N1 N2)).trans oY);have D8:=(dQ (o:=1) Bl.2.2.symm (az aJ P)).trans ((dQ (o:=0) Bl.2.2.symm (aA aK N1 N2)).trans GR);have a8:((W3.setCell ⟨M,0,none⟩ (aA aK N1 N2)).setCell ⟨M,1,none⟩ (az aJ P)).cell? ⟨M,0,none⟩=some (aA aK N1 N2):=by simp[go_sem,n0]
 have a9:((W3.setCell ⟨M,0,none⟩ (aA aK N1 N2)).setCell ⟨M,1,none⟩ (az aJ P)).cell? ⟨M,1,none⟩=some (az aJ P):=by simp[go_sem,n1]
 have GV:=(iM.setCell (p:=⟨M,0,none⟩) (by show B<=M;omega) (aA aK N1 N2)).setCell (p:=⟨M,1,none⟩) (by show B<=M;omega) (az aJ P)
 have Bn:M<((W3.setCell ⟨M,0,none⟩ (aA aK N1 N2)).setCell ⟨M,1,none⟩ (az aJ P)).heap.size:=by simpa using hz3
 generalize(W3.setCell ⟨M,0,none⟩ (aA aK N1 N2)).setCell ⟨M,1,none⟩ (az aJ P)=W4 at*;have eO:B+1+1<W4.heap.size:=agD hz2 Bn;have jw:B<=W4.heap.size:=aa
 clear Zp oY GR iM n0 n1 f0 f1 hN hz3;have a0:=cell_of GS 0;have a1:=cell_of GS 1;have a2:=cell_of GS 2;have a3:=cell_of GS 3;have a4:=cell_of GU 0;have a5:=cell_of GU 1;have a6:=cell_of GU 2;have a7:=cell_of GU 3;simp at a0 a1 a2 a3 a4 a5 a6 a7;have aq0:=cH D8;have aq1:=cD D8;have ay0:=bK D8 0;have ay1:=bK D8 1;clear GS GU;obtain⟨m1,m2,m3⟩:=Bl;have m4:=Ne.symm m3;have kT:¬(B=B+1+1):=aa
 have tD:¬(B+1+1=B):=aa
 have hn3:¬(B+1=B+1+1):=aa
 have hn4:¬(B+1+1=B+1):=aa
 have hn5:¬(B=B+2):=aa
 have hn6:¬(B+2=B):=aa
 cases u1
 .refine wp_region_held_drew (S:=(λw'=>w'.cell? ⟨B,0,none⟩=some (aA aK wa wb)/\w'.cell? ⟨B,1,none⟩=some (aB aK sh)/\w'.cell? ⟨B,2,none⟩=some (aA aK fa fb)/\w'.cell? ⟨B,3,none⟩=some (aA aK ta tb)/\w'.cell? ⟨B+1,0,none⟩=some (aA aK kq kz)/\w'.cell? ⟨B+1,1,none⟩=some (aB aK sh')/\w'.cell? ⟨B+1,2,none⟩=some (aA aK nX nY)/\w'.cell? ⟨B+1,3,none⟩=some (aA aK nZ n9)/\w'.cell? ⟨M,0,none⟩=some (aA aK N1 N2)/\w'.cell? ⟨M,1,none⟩=some (az aJ P)/\w'.frozen? ⟨B+1+1,0,none⟩=false/\w'.frozen? ⟨B+1+1,1,none⟩=false)) ag ⟨a0,a1,a2,a3,a4,a5,a6,a7,a8,a9,ay0,ay1⟩ (λhHeld=>?_)
  iterate 3
   (
    refine lV (oi:={dst:=_,op:=_,type:=_,pos:=_,after:=_,guard:=_}) (v:=?_) rfl rfl (by rfl) hHeld ?_ ?_
    rotate_left
    .intro w' bZ;obtain⟨s0,s1,s2,s3,s4,s5,s6,s7,s8,s9,Q6,Q7⟩:=bZ
     go_simp
     try with_reducible rfl
    simp only[Act.put,dR,dS,dD])
  refine wpAnyH_ready (rs:=[3]) ag af ?_
  refine AllReadyH.cons rfl (λK hK=>?_) AllReadyH.nil
  go_simp
  refine(HX.out _).mono ?_;rintro e w6 ⟨rfl,bp⟩;have hbz:B+1+1<w6.heap.size:=bW eO bp.size;have kU:M<w6.heap.size:=bW Bn bp.size;have b0:=aS bp a0 (eG (eG eO));have b1:=aS bp a1 (eG (eG eO));have b2:=aS bp a2 (eG (eG eO));have b3:=aS bp a3 (eG (eG eO));have b4:=aS bp a4 (eG eO);have b5:=aS bp a5 (eG eO);have b6:=aS bp a6 (eG eO);have b7:=aS bp a7 (eG eO);have b8:=aS bp a8 Bn;have b9:=aS bp a9 Bn;have vk:=(bp.block (B+1+1) eO).trans D8;have Zq:=cH vk;have Zr:=cD vk;have Q8:=bK vk 0;have Q9:=bK vk 1
  go_wp2_with fail
  refine hK.out _ _ ⟨b0,b1,b2,b3,b4,b5,b6,b7,b8,b9,Q8,Q9⟩ (λhHeld=>?_)
  clear hK K
  try simp only[Act.put,dR,dS,dD]
  refine lV (oi:={dst:=_,op:=_,type:=_,pos:=_,after:=_,guard:=_}) (v:=?_) rfl rfl (by rfl) hHeld ?_ ?_
  rotate_left
  .intro w' bZ;obtain⟨s0,s1,s2,s3,s4,s5,s6,s7,s8,s9,Q6,Q7⟩:=bZ
   go_simp
   try with_reducible rfl
  simp only[Act.put,dR,dS,dD]
  iterate 3
   (
    refine C7 (oi:={dst:=_,op:=_,type:=_,pos:=_,after:=_,guard:=_}) rfl rfl hHeld ?_;simp only[Act.put,dR,dS,dD])
  refine lV (oi:={dst:=_,op:=_,type:=_,pos:=_,after:=_,guard:=_}) (v:=?_) rfl rfl (by rfl) hHeld ?_ ?_
  rotate_left
  .intro w' bZ;obtain⟨s0,s1,s2,s3,s4,s5,s6,s7,s8,s9,Q6,Q7⟩:=bZ
   go_simp
   try with_reducible rfl
  simp only[Act.put,dR,dS,dD];refine wpAnyH_ready (rs:=[9]) ag af ?_
  refine AllReadyH.cons rfl (λK hK=>?_) AllReadyH.nil
  go_simp
  simp only[gN]
  go_simp
  refine hK.out _ _ ?_ (λhHeld=>?_)
  .refine⟨?_,?_,?_,?_,?_,?_,?_,?_,?_,?_,?_,?_⟩<;>simp[World.frozen?_setCell,go_sem,b0,b1,b2,b3,b4,b5,b6,b7,b8,b9,Q8,Q9]
  clear hK K
  try simp only[Act.put,dR,dS,dD]
  refine lV (oi:={dst:=_,op:=_,type:=_,pos:=_,after:=_,guard:=_}) (v:=?_) rfl rfl (by rfl) hHeld ?_ ?_
  rotate_left
  .intro w' bZ;obtain⟨s0,s1,s2,s3,s4,s5,s6,s7,s8,s9,Q6,Q7⟩:=bZ
   go_simp
   try with_reducible rfl
  simp only[Act.put,dR,dS,dD];refine wpAnyH_done ag ?_ _
  go_wp2_with fail
  refine bodyPost_ret (v:=aI #[aC #[aA aK N1 N2,az aJ P],aD false]) (by simp[results,results123,go_sem,Zq,Zr]) rfl ⟨rfl,?_⟩
  rw[hB];exact((GV.drew.trans (bp.mono jw)).setCell (by show B<=B+1+1;omega) _).setCell (by show B<=B+1+1;omega) _
 .go_region_held3 (λw'=>w'.cell? ⟨B,0,none⟩=some (aA aK wa wb)/\w'.cell? ⟨B,1,none⟩=some (aB aK sh)/\w'.cell? ⟨B,2,none⟩=some (aA aK fa fb)/\w'.cell? ⟨B,3,none⟩=some (aA aK ta tb)/\w'.cell? ⟨B+1,0,none⟩=some (aA aK kq kz)/\w'.cell? ⟨B+1,1,none⟩=some (aB aK sh')/\w'.cell? ⟨B+1,2,none⟩=some (aA aK nX nY)/\w'.cell? ⟨B+1,3,none⟩=some (aA aK nZ n9)/\w'.cell? ⟨M,0,none⟩=some (aA aK N1 N2)/\w'.cell? ⟨M,1,none⟩=some (az aJ P)/\w'.frozen? ⟨B+1+1,0,none⟩=false/\w'.frozen? ⟨B+1+1,1,none⟩=false) (first |go_keep|(go_split_ands;refine⟨?_,?_,?_,?_,?_,?_,?_,?_,?_,?_,?_,?_⟩<;>first |(simp[World.frozen?_setCell, *];done)|(simp[*];done))) (first
   |(go_at_call_of 62 (Value.agg #[Value.complex FloatKind.f64 wa wb,Value.float FloatKind.f64 sh,Value.complex FloatKind.f64 fa fb,Value.complex FloatKind.f64 ta tb]);refine(HX.out _).mono ?_;rintro e w6 ⟨rfl,bp⟩;have hbz:B+1+1<w6.heap.size:=bW eO bp.size;have kU:M<w6.heap.size:=bW Bn bp.size;have b0:=aS bp a0 (eG (eG eO));have b1:=aS bp a1 (eG (eG eO));have b2:=aS bp a2 (eG (eG eO));have b3:=aS bp a3 (eG (eG eO));have b4:=aS bp a4 (eG eO);have b5:=aS bp a5 (eG eO);have b6:=aS bp a6 (eG eO);have b7:=aS bp a7 (eG eO);have b8:=aS bp a8 Bn;have b9:=aS bp a9 Bn;have vk:=(bp.block (B+1+1) eO).trans D8;have Zq:=cH vk;have Zr:=cD vk;have Q8:=bK vk 0;have Q9:=bK vk 1)
   |(go_at_call_of 62 (Value.agg #[Value.complex FloatKind.f64 kq kz,Value.float FloatKind.f64 sh',Value.complex FloatKind.f64 nX nY,Value.complex FloatKind.f64 nZ n9]);refine(HY.out _).mono ?_;rintro e w7 ⟨rfl,bw⟩;have hcz:B+1+1<w7.heap.size:=bW hbz bw.size;have hcm:M<w7.heap.size:=bW kU bw.size;have c0:=aS bw b0 (eG (eG hbz));have c1:=aS bw b1 (eG (eG hbz));have c2:=aS bw b2 (eG (eG hbz));have c3:=aS bw b3 (eG (eG hbz));have c4:=aS bw b4 (eG hbz);have c5:=aS bw b5 (eG hbz);have c6:=aS bw b6 (eG hbz);have c7:=aS bw b7 (eG hbz);have c8:=aS bw b8 kU;have c9:=aS bw b9 kU;have hce:=(bw.block (B+1+1) hbz).trans vk;have cq0:=cH hce;have cq1:=cD hce;have cy0:=bK hce 0;have cy1:=bK hce 1)
   |(simp only[gN];go_simp))
  go_wp2_with fail
  refine bodyPost_ret (v:=aI #[aC #[aA aK N1 N2,az aJ P],aD u2]) (by simp[results,results123,go_sem,cq0,cq1]) rfl ⟨rfl,?_⟩
  rw[hB];exact(((GV.drew.trans (bp.mono jw)).trans (bw.mono (fh (eG (eG hbz))))).setCell (by show B<=B+1+1;omega) _).setCell (by show B<=B+1+1;omega) _
end
end Go.Proofs.YtkjhhooecopolaaGreatDoor
namespace Go.Proofs.YtkjhhooecopolaaGreatDoor.Ge
open Tryz
open Value renaming int->az,complex->aA,float->aB,agg->aC,bool->aD,string->aF,slice->aG,pointer->aH,tuple->aI
open IntKind renaming i64->aJ
open FloatKind renaming f64->aK
open Ending renaming returned->aL
open Go renaming World->aM,Value->aN,floatOfInt->aO
theorem LK{n:Nd}(h:Can n)(e:Pt×Pt):hq (aX n) e=fo (n.1,n.2.1) n.2.2 e:=by
 obtain⟨X,Y,P⟩:=n;have hp:0<P:=h.pos;obtain⟨g,g0,e1,e2,gp⟩:=tM (n:=X) (d:=P) aa
 obtain⟨k,k0,e3,e4,kp⟩:=tM (n:=Y) (d:=P) aa
 have l8:=bJ (gp.2 hp) (kp.2 hp);unfold hq aX;show fo ((bC X P).1*(bC Y P).2,(bC Y P).1*(bC X P).2) ((bC X P).2*(bC Y P).2) e=fo (X,Y) P e;rw[<-Q3 (x:=P*X) (y:=P*Y) (d:=P*P) hp rfl rfl rfl e];generalize bC X P=A at*;generalize bC Y P=B at*;have q1:P*X=g*k*(A.1*B.2):=by rw[e1];grind
 have q2:P*Y=g*k*(B.1*A.2):=by rw[e3];grind
 have q3:P*P=g*k*(A.2*B.2):=by grind
 exact(Q3 l8 q1 q2 q3 e).symm
end Go.Proofs.YtkjhhooecopolaaGreatDoor.Ge
namespace Go.Proofs.YtkjhhooecopolaaGreatDoor
open Tryz
open Value renaming int->az,complex->aA,float->aB,agg->aC,bool->aD,string->aF,slice->aG,pointer->aH,tuple->aI
open IntKind renaming i64->aJ
open FloatKind renaming f64->aK
open Ending renaming returned->aL
open Go renaming World->aM,Value->aN,floatOfInt->aO
open Go.RowKit
theorem tT{n:Ge.Nd}(h:eI n.1 n.2.1 n.2.2):Fl (aO aK n.1) n.1/\Fl (aO aK n.2.1) n.2.1:=by
 have hx:=h.x;have hy:=h.y;exact⟨oU aa,oU aa⟩
theorem ajR(x y:EB)(e f:Ed)(hx:jU x e)(hy:jU y f)(he:gz e)(hf:gz f):
  ∃(v:Ge.Nd)(b:Bool)(nv:aN),(∀w,ak 123 #[aC x.cells,aC y.cells] w λr w'=>r=aL (aI #[nv,aD b])/\aj w w')
   /\(∃N1 N2 P,nv=aC #[aA aK N1 N2,az aJ P])
   /\(b=true↔Ge.dG e f≠0/\Ge.hq (Ge.gA e f) e=true/\Ge.hq (Ge.gA e f) f=true)
   /\(b=true->nv=ja v/\Ge.Can v/\Ge.aX v=Ge.gA e f/\eI v.1 v.2.1 v.2.2):=by
 by_cases hc:Ge.dG e f=0
 .refine⟨(0,0,1),false,_,λw=>ajL x y w (λw=>?_),⟨_,_,_,rfl⟩,?_,?_⟩
  .have:=Zi x y e f hx hy he hf w;rw[dO hc] at this;exact this
  .simp[hc]
  .simp
 .obtain⟨n,n1,n2,n3,hC⟩:=ajK x y e f hx hy he hf hc;obtain⟨f1,f2⟩:=tT n3;refine⟨n,Ge.hq (Ge.gA e f) e&&Ge.hq (Ge.gA e f) f,_,λw=>ajM x y (aO aK n.1) (aO aK n.2.1) n.2.2 _ _ w (λw=>?_) hC (λw=>?_) (λw=>?_),⟨_,_,_,rfl⟩,?_,?_⟩
  .have:=Zi x y e f hx hy he hf w;rw[fY hc] at this;exact this
  .rw[<-n2,Ge.LK n1];exact Gp x e hx he f1 f2 n3 w
  .rw[<-n2,Ge.LK n1];exact Gp y f hy hf f1 f2 n3 w
  .simp[hc]
  .exact λ_=>⟨rfl,n1,n2,n3⟩
end Go.Proofs.YtkjhhooecopolaaGreatDoor
namespace Go.Proofs.YtkjhhooecopolaaGreatDoor
open Tryz
open Value renaming int->az,complex->aA,float->aB,agg->aC,bool->aD,string->aF,slice->aG,pointer->aH,tuple->aI
open IntKind renaming i64->aJ
open FloatKind renaming f64->aK
open Ending renaming returned->aL
open Go renaming World->aM,Value->aN,floatOfInt->aO
section
open Go.RowKit
variable{a b s:Nat}
theorem Zt{x:Int}(h:Fl a x)(w:aM):
  ak 227 #[aB aK a] w λr w'=>r=aL (aD false)/\w'=w:=by
 have q:(FloatKind.f64.format.order a a == some Ordering.eq)=true:=by rw[uO h h];simp
 have q2:(FloatKind.f64.format.order a a)=some Ordering.eq:=by simpa using q
 go_enter func227,ntmps227
 go_wp2_with fail
 go_ret
 exact⟨af,rfl⟩
theorem Bo{x y:Int}(h1:Fl a x)(h2:Fl b y)(w:aM):
  ak 183 #[aB aK a,aB aK b] w λr w'=>r=aL (az aJ (x-y).sign)/\w'=w:=by
 have H1:Hid (∀w,ak 227 #[aB aK a] w λr w'=>r=aL (aD false)/\w'=w):=λw=>Zt h1 w
 have H2:Hid (∀w,ak 227 #[aB aK b] w λr w'=>r=aL (aD false)/\w'=w):=λw=>Zt h2 w
 have q1:=Dx h1 h2;have q2:=KM h1 h2;rcases fX x y with h|h|h
 .have hs:(x-y).sign= -1:=Af aa
  have hq:(FloatKind.f64.format.order a b == some Ordering.lt)=true:=by rw[q1];simp[h]
  rw[hs];clear q1 q2
  go_enter func183,ntmps183
  go_wp2_with fail
  refine(H1.out _).mono ?_;rintro e w1 ⟨rfl,rfl⟩
  go_wp2_with fail
  refine(H2.out _).mono ?_;rintro e w2 ⟨rfl,rfl⟩
  go_wp2_with fail
  go_ret
  exact⟨rfl,rfl⟩
 .have hs:(x-y).sign=0:=by rw[h,agt];rfl
  have hq:(FloatKind.f64.format.order a b == some Ordering.lt)=false:=by rw[q1];simp;omega
  have hq2:(FloatKind.f64.format.order a b == some Ordering.gt)=false:=by rw[q2];simp;omega
  rw[hs];clear q1 q2
  go_enter func183,ntmps183
  go_wp2_with fail
  refine(H1.out _).mono ?_;rintro e w1 ⟨rfl,rfl⟩
  go_wp2_with fail
  refine(H2.out _).mono ?_;rintro e w2 ⟨rfl,rfl⟩
  go_wp2_with fail
  go_ret
  exact⟨rfl,rfl⟩
 .have hs:(x-y).sign=1:=oJ aa
  have hq:(FloatKind.f64.format.order a b == some Ordering.lt)=false:=by rw[q1];simp;omega
  have hq2:(FloatKind.f64.format.order a b == some Ordering.gt)=true:=by rw[q2];simp[h]
  rw[hs];clear q1 q2
  go_enter func183,ntmps183
  go_wp2_with fail
  refine(H1.out _).mono ?_;rintro e w1 ⟨rfl,rfl⟩
  go_wp2_with fail
  refine(H2.out _).mono ?_;rintro e w2 ⟨rfl,rfl⟩
  go_wp2_with fail
  go_ret
  exact⟨rfl,rfl⟩
namespace Ge
def takes(r t:Int):Bool:=if r=101 then decide (t.tmod 2≠0) else if r=110 then decide (t≠0) else if r=43 then decide (0<t) else decide (t<0)
def rule(r:Int):Bool:=decide (r=101)||decide (r=110)||decide (r=43)||decide (r=45)
end Ge
theorem Zu(r:Int)(w:aM):ak 66 #[az .u8 r] w λe w'=>e=aL (aD (Ge.rule r))/\w'=w:=by
 by_cases h1:r=101
 .subst h1
  go_enter func66,ntmps66
  go_wp2_with fail
  go_ret
  exact⟨rfl,rfl⟩
 .by_cases h2:r=110
  .subst h2
   go_enter func66,ntmps66
   go_wp2_with fail
   go_ret
   exact⟨rfl,rfl⟩
  .by_cases h3:r=43
   .subst h3
    go_enter func66,ntmps66
    go_wp2_with fail
    go_ret
    exact⟨rfl,rfl⟩
   .have hv:Ge.rule r=(r == 45):=by
     unfold Ge.rule;simp only[h1,h2,h3,decide_false,VT];rfl
    rw[hv];have b1:(r == 101)=false:=sM.2 h1;have b2:(r == 110)=false:=sM.2 h2;have b3:(r == 43)=false:=sM.2 h3;clear h1 h2 h3 hv
    go_enter func66,ntmps66
    go_wp2_with fail
    go_ret
    exact⟨rfl,rfl⟩
theorem ajS(r t:Int)(w:aM):ak 106 #[az .u8 r,az aJ t] w λe w'=>e=aL (aD (Ge.takes r t))/\w'=w:=by
 by_cases h1:r=101
 .subst h1
  go_enter func106,ntmps106
  go_wp2_with fail
  refine bodyPost_ret (v:=aD (t.tmod 2 != 0)) (by simp[results,results106,go_sem]) rfl ⟨?_,rfl⟩
  unfold Ge.takes;rw[aV rfl];by_cases h:t.tmod 2=0<;>simp[h]
 .have b1:(r == 101)=false:=sM.2 h1;by_cases h2:r=110
  .subst h2
   go_enter func106,ntmps106
   go_wp2_with fail
   refine bodyPost_ret (v:=aD (t != 0)) (by simp[results,results106,go_sem]) rfl ⟨?_,rfl⟩
   unfold Ge.takes;rw[aQ ah,aV rfl]
   by_cases h:t=0<;>simp[h]
  .have b2:(r == 110)=false:=sM.2 h2;by_cases h3:r=43
   .subst h3
    go_enter func106,ntmps106
    go_wp2_with fail
    refine bodyPost_ret (v:=aD (decide (0<t))) (by simp[results,results106,go_sem]) rfl ⟨?_,rfl⟩
    unfold Ge.takes;rw[aQ ah,aQ ah,aV rfl]
   .have b3:(r == 43)=false:=sM.2 h3;have hv:Ge.takes r t=decide (t<0):=by
     unfold Ge.takes;rw[aQ h1,aQ h2,aQ h3]
    rw[hv];clear hv h1 h2 h3
    go_enter func106,ntmps106
    go_wp2_with fail
    refine bodyPost_ret (v:=aD (decide (t<0))) (by simp[results,results106,go_sem]) rfl ⟨rfl,rfl⟩
theorem Zv(a b s:Nat)(w:aM):ak 162 #[aC #[aA aK a b,aB aK s]] w λe w'=>e=aL (aC #[aA aK (Op.negFloat aK a) (Op.negFloat aK b),aB aK (Op.negFloat aK s)])/\aj w w':=by
 have Gk:∀w,(Op.unary .neg (aA aK a b)).run prog w=.ok (aA aK (Op.negFloat aK a) (Op.negFloat aK b)) w:=λ_=>rfl
 have yU:∀w,(Op.unary .neg (aB aK s)).run prog w=.ok (aB aK (Op.negFloat aK s)) w:=λ_=>rfl
 generalize Op.negFloat aK a=A at*;generalize Op.negFloat aK b=B at*;generalize Op.negFloat aK s=S at*
 go_enter func162,ntmps162
 go_wp2_with (simp only[gN,oV];go_simp)
 refine bodyPost_ret (v:=aC #[aA aK A B,aB aK S]) (by simp[results,results162,go_sem]) rfl ⟨rfl,?_⟩
 exact(aw _ _).alloc af _
namespace Ge
abbrev Ln:=Int×Int×Int
def D9(l:Ln):Ln:=(-l.1, -l.2.1, -l.2.2)
def down(l:Ln):Bool:=decide (l.1<0)||(decide (l.1=0)&&decide (l.2.1<0))
def jb(l:Ln):Ln:=if down l then D9 l else l
end Ge
structure qP(a b s:Nat)(l:Ge.Ln):Prop where
 a:Fl a l.1
 b:Fl b l.2.1
 s:Fl s l.2.2
theorem qP.neg{l:Ge.Ln}(h:qP a b s l):qP (Op.negFloat aK a) (Op.negFloat aK b) (Op.negFloat aK s) (Ge.D9 l):=⟨h.a.neg,h.b.neg,h.s.neg⟩
theorem ajT{l:Ge.Ln}(h:qP a b s l):
  ∃a' b' s',qP a' b' s' (Ge.jb l)/\∀w,ak 198 #[aC #[aA aK a b,aB aK s]] w λe w'=>e=aL (aC #[aA aK a' b',aB aK s'])/\aj w w':=by
 have q1:=Dx h.a mF;have q2:=uO h.a mF;have q3:=Dx h.b mF;have hn:=h.neg;have HR:Hid (∀w,ak 162 #[aC #[aA aK a b,aB aK s]] w λe w'=>e=aL (aC #[aA aK (Op.negFloat aK a) (Op.negFloat aK b),aB aK (Op.negFloat aK s)])/\aj w w'):=λw=>Zv a b s w
 unfold Ge.jb;cases hd:Ge.down l
 .refine⟨a,b,s,h,λw=>?_⟩
  have hb0:aj w (w.alloc (.cells #[aA aK a b,aB aK s] 122)):=aw _ _;unfold Ge.down at hd;rw[<-q1,<-q2,<-q3] at hd;clear h hn q1 q2 q3 HR;generalize hp1:(FloatKind.f64.format.order a 0 == some Ordering.lt)=p1 at hd;generalize hp2:(FloatKind.f64.format.order a 0 == some Ordering.eq)=p2 at hd;generalize tP:(FloatKind.f64.format.order b 0 == some Ordering.lt)=p3 at hd;cases p1<;>cases p2<;>cases p3<;>simp at hd
  all_goals
   go_enter func198,ntmps198
   go_wp2_with (simp only[gN,oV];go_simp)
   refine bodyPost_ret (v:=aC #[aA aK a b,aB aK s]) (by simp[results,results198,go_sem]) rfl ⟨rfl,?_⟩
   exact(aw _ _).alloc af _
 .refine⟨_,_,_,hn,λw=>?_⟩
  unfold Ge.down at hd;rw[<-q1,<-q2,<-q3] at hd;clear h hn q1 q2 q3;generalize Op.negFloat aK a=A at*;generalize Op.negFloat aK b=B at*;generalize Op.negFloat aK s=S at*;generalize hp1:(FloatKind.f64.format.order a 0 == some Ordering.lt)=p1 at hd;generalize hp2:(FloatKind.f64.format.order a 0 == some Ordering.eq)=p2 at hd;generalize tP:(FloatKind.f64.format.order b 0 == some Ordering.lt)=p3 at hd;have hb0:aj w ((w.alloc (.cells #[aA aK a b,aB aK s] 122)).alloc (.cells #[aA aK 0 0,aB aK 0] 122)):=(aw _ _).alloc af _
  have hE:=heap_alloc_new (w.alloc (.cells #[aA aK a b,aB aK s] 122)) (.cells #[aA aK 0 0,aB aK 0] 122);have hz:(w.alloc (.cells #[aA aK a b,aB aK s] 122)).heap.size=w.heap.size+1:=af
  have hz2:((w.alloc (.cells #[aA aK a b,aB aK s] 122)).alloc (.cells #[aA aK 0 0,aB aK 0] 122)).heap.size=w.heap.size+2:=af
  rw[hz] at hE;cases p1<;>cases p2<;>cases p3<;>simp at hd
  all_goals
   go_enter func198,ntmps198
   go_wp2_with fail
   generalize(w.alloc (.cells #[aA aK a b,aB aK s] 122)).alloc (.cells #[aA aK 0 0,aB aK 0] 122)=W at*;refine(HR.out _).mono ?_;rintro e w1 ⟨rfl,hb1⟩;have jt:=(hb1.block (w.heap.size+1) aa).trans hE
   have e0:=cH jt;have e1:=cD jt;have z0:=bK jt 0;have z1:=bK jt 1;have aW:=hb0.trans (hb1.mono hb0.size)
   go_wp2_with (simp only[gN,oV];go_simp)
   refine bodyPost_ret (v:=aC #[aA aK A B,aB aK S]) (by simp[results,results198,go_sem,e0,e1]) rfl ⟨rfl,?_⟩
   exact(aW.setCell (p:=⟨w.heap.size+1,0,none⟩) (pI _) _).setCell (p:=⟨w.heap.size+1,1,none⟩) (pI _) _
end
end Go.Proofs.YtkjhhooecopolaaGreatDoor
