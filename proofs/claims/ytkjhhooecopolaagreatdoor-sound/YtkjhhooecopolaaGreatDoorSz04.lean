import Derived.Test.YtkjhhooecopolaaGreatDoorSz03
set_option maxRecDepth 100000
set_option maxHeartbeats 4000000
namespace Go.Proofs.YtkjhhooecopolaaGreatDoor
open Tryz
open Value renaming int->az,complex->aA,float->aB,agg->aC,bool->aD,string->aF,slice->aG,pointer->aH,tuple->aI
open IntKind renaming i64->aJ
open FloatKind renaming f64->aK
open Ending renaming returned->aL
open Go renaming World->aM,Value->aN,floatOfInt->aO
section
open Go.RowKit
namespace Pl
theorem ajO{t:Tk}(h:Form t)(hk:t.k=110):cP t≠[44]:=λe=>by
 have:=(KW h 44 ah).1 e
 rw[hk] at this;exact absurd this ah
theorem LH{a b:Tk}(h1:cP a≠[44])(h2:a.k≠110\/b.k≠110):bb a b=false:=by
 unfold bb;rcases h2 with h2|h2<;>simp[h1,h2]
theorem Bz{t:Tk}(h:Form t)(c:UInt8)(hc:c.toNat=40\/c.toNat=41\/c.toNat=44)(hk:t.k=c.toNat):wr t=[c]/\cP t=[c]/\t.k≠110:=by
 have e:=(KW h c hc).2 hk;have hne:t.k≠110:=aa
 exact⟨by unfold wr;rw[aP hne,e],e,hne⟩
theorem LI{p t:Tk}{d:List Tk}(h:bb p t=false):fZ p (t::d)=wr t++fZ t d:=by
 show(if bb p t=true then[32] else[])++(wr t++fZ t d)=_
 rw[h,aP af,tE]
theorem GV{p t:Tk}{d:List Tk}(h:Form p)(hk:p.k=40):fZ p (t::d)=wr t++fZ t d:=by
 obtain⟨_,h2,h3⟩:=Bz h 40 ah hk
 exact LI (LH (by rw[h2];decide) (aS h3))
theorem Y8{p t:Tk}{d:List Tk}(h:Form p)(hk:p.k=41):fZ p (t::d)=wr t++fZ t d:=by
 obtain⟨_,h2,h3⟩:=Bz h 41 ah hk
 exact LI (LH (by rw[h2];decide) (aS h3))
theorem LJ{p t:Tk}{d:List Tk}(h:Form p)(hk:p.k=44):fZ p (t::d)=[32]++(wr t++fZ t d):=by
 obtain⟨_,h2,_⟩:=Bz h 44 ah hk
 show(if bb p t=true then[32] else[])++(wr t++fZ t d)=_
 rw[aV (by unfold bb;simp[h2])]
structure Tx{α:Type}(ok:α->Prop)(txt:α->List UInt8)(c:List Tk)(x:α):Prop where
 ne:c≠[]
 br:∀p,Form p->p.k=40->fZ p c=txt x
 co:∀p,Form p->p.k=44->fZ p c=[32]++txt x
 cl:∀p t d,Form t->t.k≠110->fZ p (c++t::d)=fZ p c++(wr t++fZ t d)
 xB:(∀t∈c,t.k=110->nJ t.n)->c.length<=402->ok x
def Says{α:Type}(ok:α->Prop)(txt:α->List UInt8)(item:List Tk->Bool×List Tk×α):Prop:=
 ∀l,(∀t∈l,Form t)->(item l).1=true->∃c,c++(item l).2.1=l/\Tx ok txt c (item l).2.2
theorem ajP:Says (λp=>nJ p.1/\nJ p.2) Ee iG:=by
 intro l hf h
 match l,hf,h with
 |[],_,h=>cases h
 |[x],_,h=>cases h
 |x::y::r,hf,h=>
  have e:iG (x::y::r)=if x.k=110 then(if y.k=110 then(true,r,(x.n,y.n)) else(false,y::r,(0,0))) else(false,x::y::r,(0,0)):=rfl
  rw[e] at h⊢;by_cases hx:x.k=110
  .rw[aV hx] at h⊢;by_cases hy:y.k=110
   .rw[aV hy];have fx:=hf x af
    have fy:=hf y af
    have w1:wr x=Lib.itoa x.n:=aV hx;have w2:wr y=Lib.itoa y.n:=aV hy;have hb:∀d,fZ x (y::d)=[32]++(wr y++fZ y d):=λd=>by
     show(if bb x y=true then[32] else[])++(wr y++fZ y d)=_
     rw[aV (by unfold bb;simp[hx,hy])]
    refine⟨[x,y],rfl,af,λp fp hp=>?_,λp fp hp=>?_,λp t d ft ht=>?_,λhn _=>⟨hn x af hx,hn y af hy⟩⟩
    .rw[GV fp hp,hb,w1,w2];simp[fZ,Ee]
    .rw[LJ fp hp,hb,w1,w2];simp[fZ,Ee]
    .show(if bb p x=true then[32] else[])++(wr x++fZ x (y::t::d))=((if bb p x=true then[32] else[])++(wr x++fZ x [y]))++_
     rw[hb,hb,LI (p:=y) (t:=t) (LH (ajO fy hy) (aR ht))];simp[fZ,List.append_assoc]
   .rw[aP hy] at h;cases h
  .rw[aP hx] at h;cases h
theorem xq{c:Nat}{l:List Tk}(h:(mk c l).1=true):∃t,l=t::(mk c l).2/\t.k=c:=by
 cases l with
 |nil=>cases h
 |cons t r=>
  have e:mk c (t::r)=if t.k=c then(true,r) else(false,t::r):=rfl
  rw[e] at h⊢;by_cases hk:t.k=c
  .rw[aV hk];exact⟨t,rfl,hk⟩
  .rw[aP hk] at h;cases h
theorem LK{q:List UInt8}{l:List Tk}(h:(wd q l).1=true):∃t,l=t::(wd q l).2/\t.k=119/\t.raw=q:=by
 cases l with
 |nil=>cases h
 |cons t r=>
  have e:wd q (t::r)=if t.k=119/\t.raw=q then(true,r) else(false,t::r):=rfl
  rw[e] at h⊢;by_cases hk:t.k=119/\t.raw=q
  .rw[aV hk];exact⟨t,rfl,hk⟩
  .rw[aP hk] at h;cases h
theorem LM{α:Type}{ok:α->Prop}{txt:α->List UInt8}{item:List Tk->Bool×List Tk×α}(hi:Says ok txt item):
  ∀(f:Nat)(l:List Tk)(acc:List α),(∀t∈l,Form t)->(ig item f l acc).1=true->
   ∃c xs,c++(ig item f l acc).2.1=l/\(ig item f l acc).2.2=acc++xs/\xs≠[]/\
    Tx (λxs=>xs.length<=402/\∀x∈xs,ok x) (λxs=>bI txt xs++[41]) c xs/\xs.length<=c.length
 |0,l,acc,_,h=>by cases h
 |f+1,l,acc,hf,h=>by
  unfold ig at h⊢;by_cases h1:(item l).1=true
  .rw[aV h1] at h⊢;obtain⟨c0,hc0,T0⟩:=hi l hf h1;generalize(item l).2.1=rest at*;generalize(item l).2.2=x at*;have iK:∀t∈rest,Form t:=λt ht=>hf t (by rw[<-hc0];simp[ht])
   have hn0:1<=c0.length:=jk.2 T0.ne;by_cases h2:(mk 44 rest).1=true
   .rw[aV h2] at h⊢;obtain⟨t,ht,hk⟩:=xq h2;have ft:Form t:=iK t (by rw[ht];simp)
    obtain⟨c1,xs,hc1,hv,hne,T1,hlen⟩:=LM hi f (mk 44 rest).2 (acc++[x]) (λu hu=>iK u (by rw[ht];simp[hu])) h
    obtain⟨s1,s2,s3⟩:=Bz ft 44 ah hk
    have hj:bI txt (x::xs)=txt x++([44,32]++bI txt xs):=by
     cases xs with
     |nil=>exact absurd rfl hne
     |cons a b=>rfl
    refine⟨c0++t::c1,x::xs,by rw[fL,mr,hc1,<-ht,hc0],by rw[hv];simp,af,⟨af,λp fp hp=>?_,λp fp hp=>?_,λp u d fu hu=>?_,λhn hl=>?_⟩,by simp;omega⟩
    .rw[T0.cl p t c1 ft s3,T0.br p fp hp,T1.co t ft hk,s1,hj];simp
    .rw[T0.cl p t c1 ft s3,T0.co p fp hp,T1.co t ft hk,s1,hj];simp
    .rw[fL,mr,T0.cl p t _ ft s3,T0.cl p t c1 ft s3,T1.cl t u d fu hu];simp[List.append_assoc]
    .have hl':c0.length+(c1.length+1)<=402:=by simpa using hl
     have k0:=T0.xB (λt ht=>hn t (by simp[ht])) aa
     have k1:=T1.xB (λt ht=>hn t (by simp[ht])) aa
     exact⟨by simp;omega,λy hy=>by
      rcases bU.1 hy with e|e
      .rw[e];exact k0
      .exact k1.2 y e⟩
   .rw[aP h2] at h⊢;obtain⟨t,ht,hk⟩:=xq (c:=41) h;have ft:Form t:=iK t (by rw[ht];simp)
    obtain⟨s1,s2,s3⟩:=Bz ft 41 ah hk
    have hw:fZ t []=[]:=rfl;refine⟨c0++[t],[x],by rw[fL,Wu,<-ht,hc0],rfl,af,⟨af,λp fp hp=>?_,λp fp hp=>?_,λp u d fu hu=>?_,λhn hl=>?_⟩,af⟩
    .rw[T0.cl p t [] ft s3,T0.br p fp hp,s1,hw];simp[bI]
    .rw[T0.cl p t [] ft s3,T0.co p fp hp,s1,hw];simp[bI]
    .rw[fL,Wu,T0.cl p t _ ft s3,T0.cl p t [] ft s3,Y8 ft hk,hw];simp[List.append_assoc]
    .have hl':c0.length+1<=402:=by simpa using hl
     have k0:=T0.xB (λt ht=>hn t (by simp[ht])) aa
     exact⟨af,λy hy=>by rw[dB.1 hy];exact k0⟩
  .rw[aP h1] at h;cases h
end Pl
def Pl.vB(s:List UInt8):List UInt8:=if(Pl.err s).1=0 then Pl.wt (Pl.took s) else[]
theorem BA{s:List UInt8}(h:(Pl.err s).1=0):s.length<=400/\(Pl.err s).2=0/\(Pl.dU (Pl.all s)).1=true/\Pl.hk (Pl.dU (Pl.all s)).2.1=101/\(Pl.took s).find? outT=none:=by
 unfold Pl.err at h⊢;by_cases h1:400<s.length
 .rw[aV h1] at h;cases h
 .rw[aP h1] at h⊢;by_cases h2:(Pl.dU (Pl.all s)).1=true/\Pl.hk (Pl.dU (Pl.all s)).2.1=101
  .rw[aV h2] at h⊢;cases h3:(Pl.took s).find? outT with
   |some u=>rw[h3] at h;cases h
   |none=>exact⟨aa,rfl,h2.1,h2.2,rfl⟩
  .rw[aP h2] at h;cases h
theorem ajQ{s:List UInt8}{t:Pl.Tk}(h:t∈Pl.took s):t∈Pl.all s:=by
 unfold Pl.took at h;exact rN h
theorem Rq{s:List UInt8}(h:(Pl.err s).1=0):(∀t∈Pl.took s,(Pl.wr t).length<=400)/\(∀t∈Pl.took s,t.k=110-> -50<=t.n/\t.n<=50)/\(Pl.took s).length<=402:=by
 obtain⟨h1,_,_,_,h5⟩:=BA h;have hr:∀t∈Pl.took s,t.k=110-> -50<=t.n/\t.n<=50:=λt ht hk=>by
  have:=List.find?_eq_none.1 h5 t ht;unfold outT D7 at this;simp[hk] at this;omega
 refine⟨λt ht=>?_,hr,?_⟩
 .unfold Pl.wr;by_cases hk:t.k=110
  .rw[aV hk];have:=hr t ht hk;have:=Lib.itoa_length_le t.n aa aa
   omega
  .rw[aP hk];have hp:=(Pl.KQ s t (ajQ ht)).1;unfold Pl.cP;split
   .simp
   .omega
 .have:=Pl.KR s;unfold Pl.took;rw[iE];omega
theorem ajR(s:ByteArray)(w:aM)(hm:s.size<=maxLen)(hG:Gl w):
  ak 40 #[aF s] w λe w'=>e=aL (aI #[aF ⟨(Pl.vB s.data.toList).toArray⟩,az aJ (Pl.err s.data.toList).1,az aJ (Pl.err s.data.toList).2])/\aj w w':=by
 by_cases h0:(Pl.err s.data.toList).1=0
 .have hp2:=(BA h0).2.1;have hpt:Pl.vB s.data.toList=Pl.wt (Pl.took s.data.toList):=by unfold Pl.vB;rw[aV h0]
  obtain⟨hw,hn',hl⟩:=Rq h0;have hn:∀t∈Pl.took s.data.toList,t.k=110-> -9223372036854775808<=t.n/\t.n<=9223372036854775807:=λt ht hk=>by have:=hn' t ht hk;omega
  have iq:=Pl.LB s.data.toList;have hlt:=Pl.YW _ (BA h0).2.2.1;have HR:Hid (∀w1,Gl w1->ak 33 #[aF s] w1 λe w'=>aj w1 w'/\∃rb g cap,e=aL (aI #[aH (some ⟨rb,0,none⟩),az aJ 0,az aJ 0])/\
    w'.cell? ⟨rb,5,none⟩=some (aG (some ⟨g,0,none⟩) (Pl.took s.data.toList).length cap)/\g<w'.heap.size/\(∀j u,(qL (Pl.took s.data.toList))[j]?=some u->w'.cell? ⟨g,j,none⟩=some u)):=λw1 g1=>by
   refine(LC s w1 hm g1).mono ?_;rintro e w' ⟨hb,pv,rfl,mJ⟩;obtain⟨rb,rfl,_,hR⟩:=mJ h0;obtain⟨c,t,r,tv,rv,hc,hl',hbk,hown,_⟩:=hR;have hcc:c=Pl.took s.data.toList:=Wt (hc.trans iq.symm);subst hcc;have h0':0<(Pl.took s.data.toList).length:=by
    have h2:=aZ List.length iq;simp only[bX] at h2;omega
   obtain⟨g,cap,rfl,_,hg2⟩:=hown.form h0';refine⟨hb,rb,g,cap,by rw[h0,hp2];rfl,cell_of hbk 5,hg2,λj u hu=>?_⟩
   have:=hown.cells (g:=g) rfl j u hu;rwa[addr_add] at this
  rw[hpt,h0,hp2];clear hp2 hpt h0 iq hlt
  go_enter func40,ntmps40
  go_wp2_with fail
  refine(HR.out _ hG).mono ?_;rintro e w1 ⟨hb1,rb,g,cap,rfl,c5,hg2,hrow⟩;have o9:Hid (∀j u,(qL (Pl.took s.data.toList))[j]?=some u->w1.cell? ⟨g,j,none⟩=some u):=hrow;have dv:Gl w1:=hG.below hb1 hG.sz;clear hrow HR
  go_wp2_with fail
  refine(ajF (Pl.took s.data.toList) g cap w1 dv hg2 o9.out hl hw hn).mono ?_;rintro e w2 ⟨rfl,hb2⟩
  go_wp2_with fail
  go_ret3
  exact⟨rfl,hb1.trans (hb2.mono hb1.size)⟩
 .have hpt:Pl.vB s.data.toList=[]:=by unfold Pl.vB;rw[aP h0]
  have HR:Hid (∀w1,Gl w1->ak 33 #[aF s] w1 λe w'=>aj w1 w'/\∃pv,e=aL (aI #[aH pv,az aJ (Pl.err s.data.toList).1,az aJ (Pl.err s.data.toList).2])):=λw1 g1=>by
   refine(LC s w1 hm g1).mono ?_;rintro e w' ⟨hb,pv,rfl,mJ⟩;exact⟨hb,pv,rfl⟩
  rw[hpt];have hne:(((Pl.err s.data.toList).1:Int) != 0)=true:=by rw[Az];omega
  generalize(Pl.err s.data.toList).1=E at*;generalize(Pl.err s.data.toList).2=Pp at*;clear hpt h0
  go_enter func40,ntmps40
  go_wp2_with fail
  refine(HR.out _ hG).mono ?_;rintro e w1 ⟨hb1,pv,rfl⟩
  go_wp2_with fail
  go_ret3
  exact⟨rfl,hb1⟩
namespace Pl
theorem Tx.bracket{α β:Type}{ok1:α->Prop}{Y9:β->Prop}{Za:α->List UInt8}{Zb:β->List UInt8}{c:List Tk}{x:α}{y:β}{t:Tk}(T:Tx ok1 Za c x)(ft:Form t)(hk:t.k=40)
  (ho:ok1 x->Y9 y)(ht:Zb y=[40]++Za x):Tx Y9 Zb (t::c) y:=by
 obtain⟨s1,_,s3⟩:=Bz ft 40 ah hk
 refine⟨af,λp fp hp=>?_,λp fp hp=>?_,λp u d fu hu=>?_,λhn hl=>?_⟩
 .rw[GV fp hp,T.br t ft hk,s1,ht]
 .rw[LJ fp hp,T.br t ft hk,s1,ht]
 .show(if bb p t=true then[32] else[])++(wr t++fZ t (c++u::d))=((if bb p t=true then[32] else[])++(wr t++fZ t c))++_
  rw[T.cl t u d fu hu];simp[List.append_assoc]
 .have hl':c.length+1<=402:=by simpa using hl
  exact ho (T.xB (λt ht=>hn t (by simp[ht])) aa)
theorem ajS{α:Type}{ok:List α->Prop}{txt:α->List UInt8}{t:Tk}(ft:Form t)(hk:t.k=41)(ho:ok []):Tx ok (λxs=>bI txt xs++[41]) [t] []:=by
 obtain⟨s1,_,s3⟩:=Bz ft 41 ah hk
 refine⟨af,λp fp hp=>?_,λp fp hp=>?_,λp u d fu hu=>?_,λ_ _=>ho⟩
 .rw[GV fp hp,s1];rfl
 .rw[LJ fp hp,s1];rfl
 .show(if bb p t=true then[32] else[])++(wr t++fZ t (u::d))=((if bb p t=true then[32] else[])++(wr t++[]))++_
  rw[Y8 ft hk];simp[List.append_assoc]
theorem Zc{α:Type}{ok:α->Prop}{txt:α->List UInt8}{t:Tk}{y:α}(hk:t.k=119)(hr:t.raw=EMPTY)(ht:txt y=EMPTY)(ho:ok y):Tx ok txt [t] y:=by
 have hp:cP t=EMPTY:=by unfold cP;rw[aP (by rw[hk];decide),hr]
 have s1:wr t=EMPTY:=by unfold wr;rw[aP (by rw[hk];decide),hp]
 refine⟨af,λp fp hp=>?_,λp fp hp=>?_,λp u d fu hu=>?_,λ_ _=>ho⟩
 .rw[GV fp hp,s1,ht];rfl
 .rw[LJ fp hp,s1,ht];rfl
 .show(if bb p t=true then[32] else[])++(wr t++fZ t (u::d))=((if bb p t=true then[32] else[])++(wr t++[]))++_
  rw[LI (LH (by rw[hp];decide) (aS (by rw[hk];decide)))]
  simp[List.append_assoc]
theorem ajT:Says (λg=>Bv g/\g.length<=402) kO kM:=by
 intro l hf h;unfold kM at h⊢;by_cases h1:(mk 40 l).1=true
 .rw[aV h1] at h⊢;obtain⟨t,ht,hk⟩:=xq h1;have ft:Form t:=hf t (by rw[ht];simp)
  have xC:∀u∈(mk 40 l).2,Form u:=λu hu=>hf u (by rw[ht];simp[hu])
  by_cases h2:(mk 41 (mk 40 l).2).1=true
  .rw[aV h2];obtain⟨t2,ht2,hk2⟩:=xq h2;have ft2:Form t2:=xC t2 (by rw[ht2];simp)
   refine⟨[t,t2],?_,(ajS (ok:=λg=>Bv g/\g.length<=402) (txt:=Ee) ft2 hk2 ⟨λp hp=>by simp at hp,af⟩).bracket ft hk id rfl⟩
   show t::t2::(mk 41 (mk 40 l).2).2=l;rw[<-ht2,<-ht]
  .rw[aP h2] at h⊢;obtain⟨c,xs,hc,hv,_,T,_⟩:=LM ajP l.length (mk 40 l).2 [] xC h;rw[tE] at hv;rw[hv];exact⟨t::c,by rw[mr,hc,<-ht],T.bracket ft hk (λo=>⟨λp hp=>o.2 p hp,o.1⟩) rfl⟩
 .rw[aP h1] at h;cases h
def Ru(ps:List (List (List (Int×Int)))):List UInt8:=if ps.length=0 then EMPTY else[40]++(bI nI ps++[41])
theorem ajV(ps:List (List (List (Int×Int)))):Ro ps=fI++([32]++Ru ps):=by
 unfold Ro Ru;by_cases h:ps.length=0
 .rw[aV h,aV h]
 .rw[aP h,aP h];simp
theorem Zd:Says Rp nI fW:=by
 intro l hf h;unfold fW at h⊢;by_cases h0:(wd EMPTY l).1=true
 .rw[aV h0];obtain⟨t,ht,hk,hr⟩:=LK h0;exact⟨[t],by rw[Wu,<-ht],Zc hk hr rfl ⟨af,λp hp=>by simp at hp⟩⟩
 .rw[aP h0] at h⊢;by_cases h1:(mk 40 l).1=true
  .rw[aV h1] at h⊢;obtain⟨t,ht,hk⟩:=xq h1;have ft:Form t:=hf t (by rw[ht];simp)
   have xC:∀u∈(mk 40 l).2,Form u:=λu hu=>hf u (by rw[ht];simp[hu])
   obtain⟨c,xs,hc,hv,hne,T,_⟩:=LM ajT l.length (mk 40 l).2 [] xC h;rw[tE] at hv;rw[hv];have hl:¬xs.length=0:=λe=>hne (iX.1 e)
   exact⟨t::c,by rw[mr,hc,<-ht],T.bracket ft hk (λo=>⟨o.1,λp hp=>o.2 p hp⟩) (aP hl)⟩
  .rw[aP h1] at h;cases h
theorem ajW:Says GU Ru mG:=by
 intro l hf h;unfold mG at h⊢;by_cases h0:(wd EMPTY l).1=true
 .rw[aV h0];obtain⟨t,ht,hk,hr⟩:=LK h0;exact⟨[t],by rw[Wu,<-ht],Zc hk hr rfl ⟨af,λp hp=>by simp at hp⟩⟩
 .rw[aP h0] at h⊢;by_cases h1:(mk 40 l).1=true
  .rw[aV h1] at h⊢;obtain⟨t,ht,hk⟩:=xq h1;have ft:Form t:=hf t (by rw[ht];simp)
   have xC:∀u∈(mk 40 l).2,Form u:=λu hu=>hf u (by rw[ht];simp[hu])
   obtain⟨c,xs,hc,hv,hne,T,_⟩:=LM Zd l.length (mk 40 l).2 [] xC h;rw[tE] at hv;rw[hv];have hl:¬xs.length=0:=λe=>hne (iX.1 e)
   exact⟨t::c,by rw[mr,hc,<-ht],T.bracket ft hk (λo=>⟨o.1,λp hp=>o.2 p hp⟩) (aP hl)⟩
  .rw[aP h1] at h;cases h
theorem Ze{α:Type}{ok:α->Prop}{txt:α->List UInt8}{c:List Tk}{x:α}{a:Tk}{q:List UInt8}(T:Tx ok txt c x)(hk:a.k=119)(hr:a.raw=q):wt (a::c)=q++([32]++txt x):=by
 have h:=T.br ⟨40,[40],0,0⟩ (aR (aS ⟨40,rfl,rfl,ah⟩)) rfl
 have hne:=T.ne;cases c with
 |nil=>exact absurd rfl hne
 |cons b r=>
  rw[GV (aR (aS ⟨40,rfl,rfl,ah⟩)) rfl] at h
  have hp:cP a=q:=by unfold cP;rw[aP (by rw[hk];decide),hr]
  have s1:wr a=q:=by unfold wr;rw[aP (by rw[hk];decide),hp]
  show wr a++([32]++(wr b++fZ b r))=_;rw[h,s1]
theorem Zf{s:List UInt8}(h:(err s).1=0)(hw:(wd jZ (all s)).1=true):
  ∃gs,(dU (all s)).2.2=[gs]/\Rp gs/\wt (took s)=jZ++([32]++nI gs):=by
 obtain⟨_,_,h1,_⟩:=BA h;obtain⟨_,hn,hl⟩:=Rq h;have iq:=LB s;have hpw:dU (all s)=((fW (wd jZ (all s)).2).1,(fW (wd jZ (all s)).2).2.1,[(fW (wd jZ (all s)).2).2.2]):=by
  unfold dU;rw[aV hw]
 rw[hpw] at h1 iq;obtain⟨a,ha,hk,hr⟩:=LK hw;have hf:∀t∈all s,Form t:=λt ht=>Qz (KQ s t ht)
 obtain⟨c,hc,T⟩:=Zd (wd jZ (all s)).2 (λt ht=>hf t (by rw[ha];simp[ht])) h1
 have ht:took s=a::c:=by
  refine Wt (iq.trans (ha.trans ?_));show a::_=a::(c++_);rw[hc]
 rw[ht] at hn hl;exact⟨_,by rw[hpw],T.xB (λt h=>hn t (by simp[h])) (by simp at hl;omega),by rw[ht];exact Ze T hk hr⟩
theorem ajX{s:List UInt8}(h:(err s).1=0)(hw0:(wd jZ (all s)).1=false):
  (wd fI (all s)).1=true/\GU (dU (all s)).2.2/\wt (took s)=Ro (dU (all s)).2.2:=by
 obtain⟨_,_,h1,_⟩:=BA h;obtain⟨_,hn,hl⟩:=Rq h;have iq:=LB s;by_cases hw:(wd fI (all s)).1=true
 .have hpw:dU (all s)=mG (wd fI (all s)).2:=by
   unfold dU;rw[aP (by rw[hw0];simp),aV hw]
  rw[hpw] at h1 iq⊢;obtain⟨a,ha,hk,hr⟩:=LK hw;have hf:∀t∈all s,Form t:=λt ht=>Qz (KQ s t ht)
  obtain⟨c,hc,T⟩:=ajW (wd fI (all s)).2 (λt ht=>hf t (by rw[ha];simp[ht])) h1
  have ht:took s=a::c:=by
   refine Wt (iq.trans (ha.trans ?_));show a::_=a::(c++_);rw[hc]
  rw[ht] at hn hl;exact⟨hw,T.xB (λt h=>hn t (by simp[h])) (by simp at hl;omega),by rw[ht,ajV];exact Ze T hk hr⟩
 .have hpw:dU (all s)=(false,all s,[]):=by
   unfold dU;rw[aP (by rw[hw0];simp),aP hw]
  rw[hpw] at h1;cases h1
end Pl
namespace Pl
def fO(a:Ge.Fr):List UInt8:=if a.2=1 then Lib.itoa a.1 else Lib.itoa a.1++([47]++Lib.itoa a.2)
def dJ(q:Ge.Qt):List UInt8:=fO q.1++([32]++fO q.2)
end Pl
theorem Zg{a:Ge.Fr}(hn: -10000000<=a.1/\a.1<=10000000)(hd:0<a.2/\a.2<=1000000):(Pl.fO a).length<=50:=by
 have h1:=Lib.itoa_length_le a.1 aa aa
 have h2:=Lib.itoa_length_le a.2 aa aa
 unfold Pl.fO;split
 .omega
 .simp;omega
theorem Zh(n d:Int)(w:aM)(hG:Gl w)(hn: -10000000<=n/\n<=10000000)(hd:0<d/\d<=1000000):
  ak 127 #[aC #[az aJ n,az aJ d]] w λe w'=>e=aL (aF ⟨(Pl.fO (n,d)).toArray⟩)/\Below w.heap.size w w':=by
 have HN:Hid (∀w1,Gl w1->ak 88 #[az aJ n] w1 λe w'=>e=aL (aF ⟨(Lib.itoa n).toArray⟩)/\Below w1.heap.size w1 w'):=λw1 g1=>Y0 n w1 g1 aa aa
 have HD:Hid (∀w1,Gl w1->ak 88 #[az aJ d] w1 λe w'=>e=aL (aF ⟨(Lib.itoa d).toArray⟩)/\Below w1.heap.size w1 w'):=λw1 g1=>Y0 d w1 g1 aa aa
 have h1:=Lib.itoa_length_le n aa aa
 have h2:=Lib.itoa_length_le d aa aa
 have hb0:Below w.heap.size w (w.alloc (.cells #[az aJ n,az aJ d] 97)):=(Below.refl _ _).alloc (aY _) _;have hE:=heap_alloc_new w (.cells #[az aJ n,az aJ d] 97);have hz:w.heap.size<(w.alloc (.cells #[az aJ n,az aJ d] 97)).heap.size:=af
 have mZ:Gl (w.alloc (.cells #[az aJ n,az aJ d] 97)):=hG.alloc _;by_cases hd1:d=1
 .have HV:Hid (Pl.fO (n,d)=Lib.itoa n):=aV hd1;rw[HV.out];subst hd1;generalize Lib.itoa n=X1 at*;clear HV h1 h2
  go_enter func127,ntmps127
  go_wp2_with fail
  refine(HN.out _ mZ).mono ?_;rintro e w1 ⟨rfl,hb1⟩
  go_wp2_with fail
  go_ret
  exact⟨rfl,hb0.trans (hb1.mono hb0.size)⟩
 .have HV:Hid (Pl.fO (n,d)=Lib.itoa n++([47]++Lib.itoa d)):=aP hd1;rw[HV.out];generalize Lib.itoa n=X1 at*;generalize Lib.itoa d=X2 at*;have hs1:¬9223372036854775807<X1.length+1:=aa
  have hs2:¬9223372036854775807<X1.length+1+X2.length:=aa
  clear HV
  go_enter func127,ntmps127
  go_wp2_with fail
  generalize w.alloc (.cells #[az aJ n,az aJ d] 97)=W at*;generalize hB:w.heap.size=B at*;have r0:=cL hE;have r1:=cK hE
  go_region_held3 (λw'=>w'.cell? ⟨B,0,none⟩=some (az aJ n)/\w'.cell? ⟨B,1,none⟩=some (az aJ d)) (go_keep) (first
   |(go_at_call_of 88 (Value.int IntKind.i64 n);refine(HN.out _ mZ.drew).mono ?_;rintro e w5 ⟨rfl,bh⟩;have zB:=mZ.drew.below bh mZ.sz;have q0:=aQ bh r0 hz;have q1:=(aQ bh r1 hz))
   |(go_at_call_of 88 (Value.int IntKind.i64 d);refine(HD.out _ zB).mono ?_;rintro e w6 ⟨rfl,bp⟩;have s0:=aQ bp q0 (bW hz bh.size);have s1:=(aQ bp q1 (bW hz bh.size))))
  go_wp2_with fail
  go_ret
  refine⟨by simp[ByteArray.mk_append_mk],?_⟩
  rw[hB];exact(hb0.drew.trans (bh.mono (fF hz))).trans (bp.mono (fN (fF hz) bh.size))
theorem Zi(q:Ge.Qt)(w:aM)(hG:Gl w)(hq:fY q):
  ak 74 #[aC (qA q)] w λe w'=>e=aL (aF ⟨(Pl.dJ q).toArray⟩)/\Below w.heap.size w w':=by
 obtain⟨⟨a,b⟩,c,d⟩:=q;have HN:Hid (∀w1,Gl w1->ak 127 #[aC #[az aJ a,az aJ b]] w1 λe w'=>e=aL (aF ⟨(Pl.fO (a,b)).toArray⟩)/\Below w1.heap.size w1 w'):=λw1 g1=>Zh a b w1 g1 hq.xn hq.xd
 have HD:Hid (∀w1,Gl w1->ak 127 #[aC #[az aJ c,az aJ d]] w1 λe w'=>e=aL (aF ⟨(Pl.fO (c,d)).toArray⟩)/\Below w1.heap.size w1 w'):=λw1 g1=>Zh c d w1 g1 hq.yn hq.yd
 have h1:=Zg (a:=(a,b)) hq.xn hq.xd;have h2:=Zg (a:=(c,d)) hq.yn hq.yd;have HV:Hid (Pl.dJ ((a,b),(c,d))=Pl.fO (a,b)++([32]++Pl.fO (c,d))):=rfl;rw[HV.out];generalize Pl.fO (a,b)=X1 at*;generalize Pl.fO (c,d)=X2 at*;simp only[qA];have hs1:¬9223372036854775807<X1.length+1:=aa
 have hs2:¬9223372036854775807<X1.length+1+X2.length:=aa
 have hb0:Below w.heap.size w (w.alloc (.cells #[az aJ a,az aJ b,az aJ c,az aJ d] 100)):=(Below.refl _ _).alloc (aY _) _;have hE:=heap_alloc_new w (.cells #[az aJ a,az aJ b,az aJ c,az aJ d] 100);have hz:w.heap.size<(w.alloc (.cells #[az aJ a,az aJ b,az aJ c,az aJ d] 100)).heap.size:=af
 have mZ:Gl (w.alloc (.cells #[az aJ a,az aJ b,az aJ c,az aJ d] 100)):=hG.alloc _;clear HV hq
 go_enter func74,ntmps74
 go_wp2_with fail
 generalize w.alloc (.cells #[az aJ a,az aJ b,az aJ c,az aJ d] 100)=W at*;generalize hB:w.heap.size=B at*;have r0:=cL hE;have r1:=cK hE;have r2:=eN hE;have r3:=kA hE
 go_region_held3 (λw'=>w'.cell? ⟨B,0,none⟩=some (az aJ a)/\w'.cell? ⟨B,1,none⟩=some (az aJ b)/\w'.cell? ⟨B,2,none⟩=some (az aJ c)/\w'.cell? ⟨B,3,none⟩=some (az aJ d)) (go_keep) (first
   |(go_at_call_of 127 (Value.agg #[Value.int IntKind.i64 a,Value.int IntKind.i64 b]);refine(HN.out _ mZ.drew).mono ?_;rintro e w5 ⟨rfl,bh⟩;have zB:=mZ.drew.below bh mZ.sz;have q0:=aQ bh r0 hz;have q1:=aQ bh r1 hz;have q2:=aQ bh r2 hz;have q3:=(aQ bh r3 hz))
   |(go_at_call_of 127 (Value.agg #[Value.int IntKind.i64 c,Value.int IntKind.i64 d]);refine(HD.out _ zB).mono ?_;rintro e w6 ⟨rfl,bp⟩;have s0:=aQ bp q0 (bW hz bh.size);have s1:=aQ bp q1 (bW hz bh.size);have s2:=aQ bp q2 (bW hz bh.size);have s3:=(aQ bp q3 (bW hz bh.size))))
 go_wp2_with fail
 go_ret
 refine⟨by simp[ByteArray.mk_append_mk],?_⟩
 rw[hB];exact(hb0.drew.trans (bh.mono (fF hz))).trans (bp.mono (fN (fF hz) bh.size))
def LN(w:aM)(v:aN)(g:List (Int×Int)):Prop:=w.ownsRow 0 81 1 v g.length (rT g)
def BB(w:aM)(v:aN)(rg:List (List (Int×Int))):Prop:=Bt 127 LN w v rg
theorem ajY{rb:Nat}{rv:aN}{rg:List (List (Int×Int))}{w:aM}(h:tW rb rv rg w):BB w rv rg:=by
 obtain⟨vs,h1,h2,h3,_⟩:=h;exact⟨vs,h1,xz h2,λi u x hu hx=>xz (h3 i u x hu hx)⟩
theorem ajZ{w:aM}{v:aN}{g:List (Int×Int)}(h:LN w v g):∃so cap,v=aG so g.length cap:=by
 rcases h.2 with⟨hv,h0⟩|⟨b,cap,cur,hv,_⟩
 .exact⟨none,0,by rw[hv,h0]⟩
 .exact⟨_,cap,hv⟩
theorem Zj{w:aM}{so:Option Addr}{n cap:Nat}{g:List (Int×Int)}(hR:LN w (aG so n cap) g){k:Nat}{p:Int×Int}(hp:g[k]?=some p):
  ∃b,so=some ⟨b,0,none⟩/\b<w.heap.size/\w.cell? ⟨b,k,none⟩=some (aA aK (aO aK p.1) (aO aK p.2)):=by
 have a0:(rT g)[k]?=some (Bj p):=by simp[rT,hp]
 obtain⟨b,c,hv,hb,hc⟩:=DU hR a0;injection hv with hv;exact⟨b,hv,hb,hc _ _ a0⟩
def BC(w:aM)(lv:aN)(acc:List Ed)(wr:aM):Prop:=
 (∃xs:List EB,xs.length=acc.length/\wr.ownsRow w.heap.size 124 4 lv acc.length (qd xs)/\∀(i:Nat) x e,xs[i]?=some x->acc[i]?=some e->lK x e)/\aj w wr
theorem aj0(l:List EB)(e:EB):qd (l++[e])=qd l++e.cells.toList:=by simp[qd]
theorem aj1:(Tryz.prog.info? 124).map (λi=>(i.zero,i.size,i.bytes))=some (some (aC #[aA aK 0 0,aB aK 0,aA aK 0 0,aA aK 0 0]),4,56):=ag
theorem aj2{xs:List EB}{acc:List Ed}{x:EB}{e:Ed}(hlen:xs.length=acc.length)(h:∀(i:Nat) x e,xs[i]?=some x->acc[i]?=some e->lK x e)(hx:lK x e):
  ∀(i:Nat) y f,(xs++[x])[i]?=some y->(acc++[e])[i]?=some f->lK y f:=by
 intro i u y hu hy;by_cases hi:i<xs.length
 .rw[fM hi] at hu;rw[fM aa] at hy
  exact h i u y hu hy
 .have hi2:i=xs.length:=by
   have:=(cG.1 hu).1;simp at this;omega
  subst hi2;have e1:u=x:=by simpa using hu.symm
  have e2:y=e:=by rw[hlen] at hy;simpa using hy.symm
  subst e1 e2;exact hx
theorem aj3(rg:List (List (Int×Int)))(v:aN)(w:aM)(hR:BB w v rg)(hok:∀g∈rg,Bv g/\g.length<=402)(hl:rg.length<=161604):
  ak 36 #[v] w λe w'=>∃v,e=aL v/\jL w' v (Ge.aT rg)/\aj w w':=by
 obtain⟨so,cap,rfl⟩:=Ef hR;obtain⟨i0,hi,hz0,hz1,hz2⟩:=info_parts aj1;have HR:Hid (BB w (aG so rg.length cap) rg):=hR;have qX:Hid (∀g∈rg,Bv g/\g.length<=402):=hok;clear hR hok;have cQ:Hid (BC w (aG none 0 0) [] w):=⟨⟨[],rfl,World.ownsRow_nil _ _ _ _,λi x e h=>by simp at h⟩,Below.refl _ _⟩
 have HLEN:Hid (∀i,(Ge.aT (rg.take i)).length<=65000000):=λi=>by
  have h:=Ge.QN 402 (rg.take i) (λg hg=>(qX.out g (rN hg)).2)
  have h2:(rg.take i).length<=161604:=by simp;omega
  omega
 go_enter func36,ntmps36
 go_wp2_with fail
 go_loopg [3,11] rg.length (λm lv iv wr=>∃i:Nat,i+m=rg.length/\iv=az aJ i/\Hid (BC w lv (Ge.aT (rg.take i)) wr))
 case atStart=>exact⟨0,aa,rfl,cQ⟩
 case round=>
  obtain⟨i,him,rfl,HE⟩:=hrel;have aX:=HE.out.2;clear cQ;by_cases hlt:i<rg.length
  .obtain⟨g,hg⟩:∃g,rg[i]?=some g:=⟨_,bo hlt⟩;obtain⟨b,u,rfl,hb,e0,ug⟩:=xA HR.out hg;obtain⟨gs,gc,rfl⟩:=ajZ ug;have r0:=aQ aX e0 hb;have hgl:g.length<=402:=(qX.out g (bA hg)).2;have Zk:Hid (Bv g):=(qX.out g (bA hg)).1;have qY:Hid (LN w (aG gs g.length gc) g):=ug;have HT:Hid (Ge.aT (rg.take (i+1))=Ge.aT (rg.take i)++Ge.lI g):=Ge.aiR hg;have hli:=HLEN.out i;have ij:(i:Int)<(rg.length:Int):=aa
   have hbr:b<wr.heap.size:=bW hb aX.size;obtain⟨m1,mf⟩:∃m1,m1=gk:=⟨_,rfl⟩;generalize Ge.aT (rg.take i)=A1 at*;clear hg e0 ug qX HR HLEN
   go_wp2_with fail
   go_loopg [3,17] g.length (λm lv nv wr=>∃n:Nat,n+m=g.length/\nv=az aJ n/\Hid (BC w lv (A1++Ge.l9 g n) wr))
   case atStart=>exact⟨0,aa,rfl,by simpa[Ge.aiO] using HE⟩
   case round=>
    obtain⟨n,LO,rfl,ir⟩:=hrel;have jy:=ir.out.2;clear HE r0;by_cases sG:n<g.length
    .obtain⟨P,hP⟩:∃P,g[n]?=some P:=⟨_,bo sG⟩;obtain⟨b3,rfl,hb3,p0⟩:=Zj qY.out hP;have r0:=aQ jy p0 hb3;have atZ:b3<wr.heap.size:=bW hb3 jy.size;have GW:(n:Int)<(g.length:Int):=aa
     obtain⟨M,Q,hQ,LP,hM⟩:∃(M:Nat)(Q:Int×Int),g[M]?=some Q/\Ge.rW g n=some Q/\(((n:Int)+1)%(g.length:Int)=(M:Int)/\M<g.length/\(n+1)%g.length=M):=by
      by_cases kJ:n+1<g.length
      .exact⟨n+1,_,bo kJ,by unfold Ge.rW;rw[aV kJ];exact bo kJ,by rw[Int.emod_eq_of_lt aa aa];omega,kJ,Di kJ⟩
      .have tU:n+1=g.length:=aa
       exact⟨0,_,bo (show 0<g.length by omega),by unfold Ge.rW;rw[aP kJ];exact bo (show 0<g.length by omega),by rw[show((n:Int)+1)=(g.length:Int) by omega,Int.emod_self];rfl,aa,by rw[tU,ahf]⟩
     obtain⟨hM1,hM2,hM3⟩:=hM;obtain⟨b4,hb4,_,f0⟩:=Zj qY.out hQ;injection hb4 with hb4;injection hb4 with hb4;subst hb4;have s0:=aQ jy f0 hb3;have hMl:(M:Int)<(g.length:Int):=aa
     have fh:¬((g.length:Int)=0):=aa
     have Zl:¬(g.length=0):=aa
     have HP:Hid (g[n]?=some P):=hP;have HQ:Hid (Ge.rW g n=some Q):=LP;have GX:Hid (nJ P.1/\nJ P.2):=Zk.out P (bA hP);have GY:Hid (nJ Q.1/\nJ Q.2):=Zk.out Q (bA hQ);obtain⟨P1,P2⟩:=P;obtain⟨Q1,Q2⟩:=Q;clear p0 f0 hP hQ LP;simp only at r0 s0;have vC:Fl (aO aK P1) P1:=tZ (by have:=GX.out.1;unfold nJ at this;omega)
     have vD:Fl (aO aK P2) P2:=tZ (by have:=GX.out.2;unfold nJ at this;omega)
     have vE:Fl (aO aK Q1) Q1:=tZ (by have:=GY.out.1;unfold nJ at this;omega)
     have vF:Fl (aO aK Q2) Q2:=tZ (by have:=GY.out.2;unfold nJ at this;omega)
     have zC:(!((FloatKind.f64.format.order (aO aK P1) (aO aK Q1) == some .eq)&&(FloatKind.f64.format.order (aO aK P2) (aO aK Q2) == some .eq)))= !(decide (P1=Q1)&&decide (P2=Q2)):=by
      rw[vk vC vE,vk vD vF]
     obtain⟨wa,wb,sh,l1,l2,l3,Zm⟩:=aiV vC vD vE vF (by have:=GX.out.1;unfold nJ at this;omega) (by have:=GX.out.2;unfold nJ at this;omega) (by have:=GY.out.1;unfold nJ at this;omega) (by have:=GY.out.2;unfold nJ at this;omega)
     have HX:Hid (lK ⟨wa,wb,sh,aO aK P1,aO aK P2,aO aK Q1,aO aK Q2⟩ ((P1,P2),(Q1,Q2))):=⟨l1,l2,l3,vC,vD,vE,vF⟩;have Zn:Hid (∀w,ak 64 #[aA aK (aO aK P1) (aO aK P2),aA aK (aO aK Q1) (aO aK Q2)] w λe w'=>e=aL (aC #[aA aK wa wb,aB aK sh])/\aj w w'):=Zm
     clear Zm l1 l2 l3 vC vD vE vF GX GY;generalize aO aK P1=vC at*;generalize aO aK P2=vD at*;generalize aO aK Q1=vE at*;generalize aO aK Q2=vF at*;by_cases mU:(P1,P2)=(Q1,Q2)
     .injection mU with Rv Rw;have hc:(!((FloatKind.f64.format.order vC vE == some .eq)&&(FloatKind.f64.format.order vD vF == some .eq)))=false:=by rw[zC,Rv,Rw];simp
      have HN:Hid (BC w u3 (A1++Ge.l9 g (n+1)) wr):=by
       rw[Ge.aiP HP.out HQ.out (by rw[Rv,Rw])];exact ir.out
      clear zC Rv Rw ir
      go_wp2_with fail
      go_roundg (gk-1)
      case measure=>omega
      case rel=>exact⟨n+1,aa,ai,HN⟩
     .have hc:(!((FloatKind.f64.format.order vC vE == some .eq)&&(FloatKind.f64.format.order vD vF == some .eq)))=true:=by
       rw[zC];by_cases h1:P1=Q1
       .by_cases h2:P2=Q2
        .exact absurd (by rw[h1,h2]) mU
        .simp[h2]
       .simp[h1]
      have zD:Hid (Ge.l9 g (n+1)=Ge.l9 g n++[((P1,P2),(Q1,Q2))]):=Ge.aiQ HP.out HQ.out mU;have hal:(A1++Ge.l9 g n).length<=65000402:=by
       have:=Ge.QM g n;simp only[bX];omega
      obtain⟨A3,vG⟩:∃A3,A3=A1++Ge.l9 g n:=⟨_,rfl⟩;have HA:Hid (A3=A1++Ge.l9 g n):=vG;rw[<-vG] at hal ir;clear zC mU vG
      go_wp2_with fail
      refine(Zn.out _).mono ?_;rintro e w5 ⟨rfl,bh⟩;obtain⟨⟨xs,hx1,hx2,hx3⟩,_⟩:=ir.out;have Zo:Hid (∀(i:Nat) x e,xs[i]?=some x->A3[i]?=some e->lK x e):=hx3;have oh:=jy.trans (bh.mono jy.size);have fD:w5.ownsRow w.heap.size 124 4 u3 A3.length (qd xs):=bG hx2 λk hk=>bh.block k (bn hx2 k hk).2
      have hs5:=oh.size;clear hx2 hx3 ir
      go_wp2_with (at_builtin;refine wpList_append_lies _ rfl (.tmp 33) (.tmp 40) 72 rfl w.heap.size 124 i0 _ 4 56 underlying72 hi hz0 hz1 hz2 rfl ah u3 A3.length (qd xs) rfl (bG fD (λk hk=>Below.heap_alloc _ _ _ (bn fD k hk).2)) ⟨w5.heap.size,0,none⟩ 1 1 [aA aK wa wb,aB aK sh,aA aK vC vD,aA aK vE vF] rfl rfl (World.news_of_block (cs:= #[aA aK wa wb,aB aK sh,aA aK vC vD,aA aK vE vF]) (t:=124) (fr:=(0,0)) (heap_alloc_new w5 _)) (by simp[Value.oneCell']) ah (by unfold maxLen;omega) aa (by simp;omega) (w5.heap.size+1) af ?_;intro g' cap' w6 gU lN Eg BF)
      have HN:Hid (BC w (aG (some ⟨g',0,none⟩) (A3.length+1) cap') (A1++Ge.l9 g (n+1)) w6):=by
       rw[zD.out,<-fL,<-HA.out];refine⟨⟨xs++[⟨wa,wb,sh,vC,vD,vE,vF⟩],by simp[hx1],?_,aj2 hx1 Zo.out HX.out⟩,(oh.alloc oh.size _).grown lN (by simp;omega) (λk hk=>(bn fD k hk).1)⟩
       rw[aj0,bX];exact gU
      clear gU lN fD HX Zo Zn
      go_roundg (gk-1)
      case measure=>omega
      case rel=>exact⟨n+1,aa,ai,HN⟩
    .have hn:n=g.length:=aa
     subst hn;have HN:Hid (BC w u3 (Ge.aT (rg.take (i+1))) wr):=by
      rw[HT.out,<-Ge.QL];exact ir.out
     clear ir qY HT
     go_wp2_with fail
     go_roundg (m1-1)
     case measure=>omega
     case rel=>exact⟨i+1,aa,ai,HN⟩
  .have hk:i=rg.length:=aa
   subst hk;have HF:Hid (BC w u3 (Ge.aT rg) wr):=by
    have:=HE.out;rw[gv] at this;exact this
   clear HE HR qX HLEN
   go_wp2_with fail
   go_ret
   obtain⟨⟨xs,h1,h2,h3⟩,h4⟩:=HF.out;exact⟨_,rfl,⟨xs,h1,xz h2,h3⟩,h4⟩
namespace Pl
def rings(s:List UInt8):List (List (Int×Int)):=(dU (all s)).2.2.flatten
end Pl
theorem aj4{ps:List (List (List (Int×Int)))}(hok:GU ps):∀e∈Ge.aT ps.flatten,gS e:=λe he=>by
 obtain⟨g,hg,h1,h2⟩:=Ge.aiT he;obtain⟨p,hp,LQ⟩:=Dj.1 hg;have ho:=((hok.2 p hp).2 g LQ).1;exact⟨(ho _ h1).1,(ho _ h1).2,(ho _ h2).1,(ho _ h2).2⟩
theorem aj5{ps:List (List (List (Int×Int)))}(hok:GU ps):(Ge.aT ps.flatten).length<=65000000:=by
 have h:=Ge.X7 402 402 ps (λp hp=>⟨(hok.2 p hp).1,λg hg=>((hok.2 p hp).2 g hg).2⟩)
 have:=hok.1;omega
namespace Ge
theorem Zp{x y d X Y D G:Int}(hx:x=G*X)(hy:y=G*Y)(hd:d=G*D)(a:Pt):rel (x,y) d a=(G*(rel (X,Y) D a).1,G*(rel (X,Y) D a).2):=by
 unfold rel;rw[hx,hy,hd];simp only[ahg];constructor<;>grind
theorem sc{G z:Int}(h:0<G):(0<G*z↔0<z)/\(G*z<0↔z<0)/\(G*z=0↔z=0)/\(G*z<=0↔z<=0):=by
 rcases gf z 0 with hz|hz|hz
 .have:=wK h hz;omega
 .subst hz;omega
 .have:=bJ h hz;omega
theorem aj6(G:Int)(u v:Pt):cr (G*u.1,G*u.2) (G*v.1,G*v.2)=(G*G)*cr u v:=by unfold cr;grind
theorem aj7(G:Int)(u v:Pt):dt (G*u.1,G*u.2) (G*v.1,G*v.2)=(G*G)*dt u v:=by unfold dt;grind
theorem Zq{x y d X Y D G:Int}(hG:0<G)(hx:x=G*X)(hy:y=G*Y)(hd:d=G*D)(e:Pt×Pt):fo (x,y) d e=fo (X,Y) D e:=by
 unfold fo on;rw[Zp hx hy hd,Zp hx hy hd,aj6,aj7];have h2:=bJ hG hG;congr 1
 .exact decide_eq_decide.2 (sc h2).2.2.1
 .exact decide_eq_decide.2 (sc h2).2.2.2
theorem aj8{f g:Pt->Pt->Int}(l:List (Pt×Pt))(h:∀a b,f a b=g a b):total f l=total g l:=by
 unfold total;congr 1;exact wS λe _=>h e.1 e.2
end Ge
theorem aj9{s:List UInt8}(h:(Pl.err s).1=0):GU (Pl.dU (Pl.all s)).2.2:=by
 cases hw:(Pl.wd Pl.jZ (Pl.all s)).1
 .exact(Pl.ajX h hw).2.1
 .obtain⟨gs,e,h1,_⟩:=Pl.Zf h hw;rw[e];exact⟨af,λg hg=>by rw[dB.1 hg];exact h1⟩
theorem aka{ps:List (List (List (Int×Int)))}(h:∀p∈ps,p.length<=402):ps.flatten.length<=ps.length*402:=by
 induction ps with
 |nil=>simp
 |cons p r ih=>
  have h1:=ih (λx hx=>h x (by simp[hx]))
  have h2:=h p af
  rw[Dd,bX,dG,FO];omega
theorem Zr{s:List UInt8}(h:(Pl.err s).1=0):(∀g∈Pl.rings s,Bv g/\g.length<=402)/\(Pl.rings s).length<=161604/\(∀e∈Ge.aT (Pl.rings s),gS e)/\(Ge.aT (Pl.rings s)).length<=65000000:=by
 have hok:=aj9 h;refine⟨λg hg=>?_,?_,aj4 hok,aj5 hok⟩
 .obtain⟨p,hp,LQ⟩:=Dj.1 hg;exact(hok.2 p hp).2 g LQ
 .have h1:=aka (λp hp=>(hok.2 p hp).1)
  have h2:=hok.1;unfold Pl.rings;omega
namespace Pl
def GZ{α:Type}(sz:α->Nat)(item:List Tk->Bool×List Tk×α):Prop:=∀l,(item l).1=true->sz (item l).2.2+(item l).2.1.length<=l.length
def cS{α:Type}(sz:α->Nat)(l:List α):Nat:=(l.map sz).sum
theorem Zt{α:Type}(sz:α->Nat)(l:List α)(x:α):cS sz (l++[x])=cS sz l+sz x:=by simp[cS]
theorem mk_le(c:Nat)(l:List Tk):(mk c l).2.length<=l.length:=by
 cases l with
 |nil=>simp[mk]
 |cons t r=>
  have e:mk c (t::r)=if t.k=c then(true,r) else(false,t::r):=rfl
  rw[e];split<;>simp
theorem LS(q:List UInt8)(l:List Tk):(wd q l).2.length<=l.length:=by
 cases l with
 |nil=>simp[wd]
 |cons t r=>
  have e:wd q (t::r)=if t.k=119/\t.raw=q then(true,r) else(false,t::r):=rfl
  rw[e];split<;>simp
theorem LU{α:Type}{sz:α->Nat}{item:List Tk->Bool×List Tk×α}(hi:GZ sz item):
  ∀(f:Nat)(l:List Tk)(acc:List α),(ig item f l acc).1=true->cS sz (ig item f l acc).2.2+(ig item f l acc).2.1.length<=cS sz acc+l.length
 |0,l,acc,h=>by cases h
 |f+1,l,acc,h=>by
  unfold ig at h⊢;by_cases h1:(item l).1=true
  .have k1:=hi l h1;rw[aV h1] at h⊢;by_cases h2:(mk 44 (item l).2.1).1=true
   .rw[aV h2] at h⊢;have ih:=LU hi f _ _ h;have k2:=mk_le 44 (item l).2.1;rw[Zt] at ih;omega
   .rw[aP h2];have k2:=mk_le 41 (item l).2.1;simp only;rw[Zt];omega
  .rw[aP h1] at h;cases h
theorem akb:GZ (λ_=>1) iG:=λl h=>by
 match l,h with
 |[],h=>cases h
 |[x],h=>cases h
 |x::y::r,h=>
  have e:iG (x::y::r)=if x.k=110 then(if y.k=110 then(true,r,(x.n,y.n)) else(false,y::r,(0,0))) else(false,x::y::r,(0,0)):=rfl
  rw[e] at h⊢;split
  .split
   .simp;omega
   .simp;omega
  .rename_i hx;rw[aP hx] at h;cases h
theorem akc:GZ (cS λ_=>1) kM:=λl h=>by
 unfold kM at h⊢;by_cases h1:(mk 40 l).1=true
 .have k1:=mk_le 40 l;rw[aV h1] at h⊢;by_cases h2:(mk 41 (mk 40 l).2).1=true
  .have k2:=mk_le 41 (mk 40 l).2;rw[aV h2];simp[cS];omega
  .rw[aP h2] at h⊢;have k:=LU akb _ _ _ h;have e:cS (λ_:Int×Int=>1) []=0:=rfl
   omega
 .rw[aP h1] at h;cases h
theorem Zu:GZ (cS (cS λ_=>1)) fW:=λl h=>by
 unfold fW at h⊢;by_cases h0:(wd EMPTY l).1=true
 .have k0:=LS EMPTY l;rw[aV h0];simp[cS];exact k0
 .rw[aP h0] at h⊢;by_cases h1:(mk 40 l).1=true
  .have k1:=mk_le 40 l;rw[aV h1] at h⊢;have k:=LU akc _ _ _ h;have e:cS (cS λ_=>1) ([]:List (List (Int×Int)))=0:=rfl
   omega
  .rw[aP h1] at h;cases h
theorem akd:GZ (cS (cS (cS λ_=>1))) mG:=λl h=>by
 unfold mG at h⊢;by_cases h0:(wd EMPTY l).1=true
 .have k0:=LS EMPTY l;rw[aV h0];simp[cS];exact k0
 .rw[aP h0] at h⊢;by_cases h1:(mk 40 l).1=true
  .have k1:=mk_le 40 l;rw[aV h1] at h⊢;have k:=LU Zu _ _ _ h;have e:cS (cS (cS λ_=>1)) ([]:List (List (List (Int×Int))))=0:=rfl
   omega
  .rw[aP h1] at h;cases h
theorem ake{α:Type}(l:List α):cS (λ_=>1) l=l.length:=by
 induction l with
 |nil=>rfl
 |cons a l ih=>
  have e:cS (λ_=>1) (a::l)=1+cS (λ_=>1) l:=by simp[cS]
  rw[e,ih,dG];omega
theorem akf(rg:List (List (Int×Int))):(Ge.aT rg).length<=cS (cS λ_=>1) rg:=by
 induction rg with
 |nil=>simp[Ge.aT]
 |cons g r ih=>
  have e:Ge.aT (g::r)=Ge.lI g++Ge.aT r:=qB;have h1:(Ge.lI g).length<=g.length:=by rw[<-Ge.QL];exact Ge.QM g _
  have h2:cS (cS λ_=>1) (g::r)=cS (λ_=>1) g+cS (cS λ_=>1) r:=by simp[cS]
  rw[e,bX,h2,ake];omega
theorem akg(ps:List (List (List (Int×Int)))):cS (cS λ_=>1) ps.flatten=cS (cS (cS λ_=>1)) ps:=by
 induction ps with
 |nil=>rfl
 |cons p r ih=>
  have h1:cS (cS λ_=>1) (p++r.flatten)=cS (cS λ_=>1) p+cS (cS λ_=>1) r.flatten:=by simp[cS]
  have h2:cS (cS (cS λ_=>1)) (p::r)=cS (cS λ_=>1) p+cS (cS (cS λ_=>1)) r:=by simp[cS]
  rw[Dd,h1,h2,ih]
theorem akh{s:List UInt8}(h:(err s).1=0):(Ge.aT (rings s)).length<=402:=by
 obtain⟨h5,_,h1,_⟩:=BA h;have hl:=KR s;have k:cS (cS (cS λ_=>1)) (dU (all s)).2.2<=(all s).length:=by
  unfold dU at h1⊢;by_cases hw:(wd jZ (all s)).1=true
  .rw[aV hw] at h1⊢;have k1:=Zu _ h1;have k2:=LS jZ (all s);have e:cS (cS (cS λ_=>1)) [(fW (wd jZ (all s)).2).2.2]=cS (cS λ_=>1) (fW (wd jZ (all s)).2).2.2:=by simp[cS]
   simp only;rw[e];omega
  .rw[aP hw] at h1⊢;by_cases hm:(wd fI (all s)).1=true
   .rw[aV hm] at h1⊢;have k1:=akd _ h1;have k2:=LS fI (all s);omega
   .rw[aP hm] at h1;cases h1
 have k2:=akf (rings s);have k3:cS (cS λ_=>1) (rings s)=cS (cS (cS λ_=>1)) (dU (all s)).2.2:=akg _
 have k4:s.length<=400:=by
  unfold err at h;by_cases hs:400<s.length
  .rw[aV hs] at h;cases h
  .omega
 omega
end Pl
namespace Ge
def uh(acc:List Qt)(c:List Qt):List Qt:=c.foldl (λa q=>ins q a) acc
def ja(l:List (Pt×Pt)):List Qt:=l.foldl (λacc e=>uh acc (qW l e)) []
end Ge
namespace Pl
end Pl
namespace Ge
def isNode(l:List (Pt×Pt))(q:Qt):Prop:=
 (∃e∈l,q=pt e.1\/q=pt e.2)\/∃e∈l,∃f∈l,dO e f≠0/\q=gK e f/\hq (gK e f) e=true/\hq (gK e f) f=true
theorem Zv:∀(c acc:List Qt),(∀q∈acc,iL q)->(∀q∈c,iL q)->∀r,r∈uh acc c↔r∈acc\/r∈c
 |[],acc,_,_,r=>by simp[uh]
 |q::c,acc,ha,hc,r=>by
  have hq:=hc q af
  have e:uh acc (q::c)=uh (ins q acc) c:=rfl;rw[e,Zv c (ins q acc) (zq hq ha) (λx hx=>hc x (by simp[hx])) r,vr hq ha r,bU]
  constructor
  .rintro((h|h)|h)
   .exact aR (aS h)
   .exact aS h
   .exact aR (aR h)
  .rintro(h|h|h)
   .exact aS (aR h)
   .exact aS (aS h)
   .exact aR h
def adds(e f:Pt×Pt)(r:Qt):Prop:=
 (dO e f≠0/\r=gK e f/\hq (gK e f) e=true/\hq (gK e f) f=true)\/(dO e f=0/\((r=pt f.1/\hq (pt f.1) e=true)\/(r=pt f.2/\hq (pt f.2) e=true)))
theorem aki{e f:Pt×Pt}{o:List Qt}(ho:∀q∈o,iL q):(∀q∈Bx e o f,iL q)/\∀r,r∈Bx e o f↔r∈o\/adds e f r:=by
 unfold Bx adds;by_cases hc:dO e f=0
 .rw[aV hc];dsimp only;have h1:=vr (vA f.1) ho;have r1:=zq (vA f.1) ho;by_cases a:hq (pt f.1) e=true
  .rw[aV a];have h2:=vr (vA f.2) r1;by_cases b:hq (pt f.2) e=true
   .rw[aV b];refine⟨zq (vA f.2) r1,λr=>?_⟩
    rw[h2,h1];simp only[hc,a,b,ne_eq,yJ,wM,wN,tF,wL];constructor
    .rintro(h|h|h)
     .exact aR (aR h)
     .exact aR (aS h)
     .exact aS h
    .rintro(h|h|h)
     .exact aR (aR h)
     .exact aR (aS h)
     .exact aS h
   .rw[aP b];refine⟨r1,λr=>?_⟩
    rw[h1]
    grind
  .rw[aP a];have h2:=vr (vA f.2) ho;by_cases b:hq (pt f.2) e=true
   .rw[aV b];refine⟨zq (vA f.2) ho,λr=>?_⟩
    rw[h2]
    grind
   .rw[aP b];refine⟨ho,λr=>?_⟩
    simp[hc,a,b]
 .rw[aP hc];have h1:=vr (Y6 hc) ho;by_cases a:(hq (gK e f) e&&hq (gK e f) f)=true
  .rw[aV a];obtain⟨a1,a2⟩:=(Bool.and_eq_true_iff).1 a;refine⟨zq (Y6 hc) ho,λr=>?_⟩
   rw[h1];simp only[hc,a1,a2,ne_eq,Au,wN,tF,wM,Av];exact⟨λh=>h.symm,λh=>h.symm⟩
  .rw[aP a];refine⟨ho,λr=>?_⟩
   constructor
   .exact aS
   .rintro(h|⟨_,_,h1,h2⟩|⟨h,_⟩)
    .exact h
    .exact absurd (by rw[h1,h2];rfl) a
    .exact absurd h hc
theorem Zw(e:Pt×Pt):∀(l:List (Pt×Pt))(o:List Qt),(∀q∈o,iL q)->(∀q∈l.foldl (Bx e) o,iL q)/\∀r,r∈l.foldl (Bx e) o↔r∈o\/∃f∈l,adds e f r
 |[],o,ho=>⟨ho,λr=>af⟩
 |f::l,o,ho=>by
  obtain⟨h1,h2⟩:=aki (e:=e) (f:=f) ho;obtain⟨h3,h4⟩:=Zw e l (Bx e o f) h1;refine⟨h3,λr=>?_⟩
  rw[uT,h4,h2];constructor
  .rintro((h|h)|⟨g,hg,h⟩)
   .exact aS h
   .exact aR ⟨f,af,h⟩
   .exact aR ⟨g,by simp[hg],h⟩
  .rintro(h|⟨g,hg,h⟩)
   .exact aS (aS h)
   .rcases bU.1 hg with e'|e'
    .subst e';exact aS (aR h)
    .exact aR ⟨g,e',h⟩
theorem LV(l:List (Pt×Pt))(e:Pt×Pt):(∀q∈qW l e,iL q)/\∀r,r∈qW l e↔r=pt e.1\/r=pt e.2\/∃f∈l,adds e f r:=by
 have h0:∀q∈([]:List Qt),iL q:=λq h=>by simp at h
 have h1:=zq (vA e.1) h0;have h2:=zq (vA e.2) h1;obtain⟨h3,h4⟩:=Zw e l _ h2;refine⟨h3,λr=>?_⟩
 unfold qW;rw[h4,vr (vA e.2) h1,vr (vA e.1) h0];constructor
 .rintro((h|h|h)|h)
  .exact aR (aS h)
  .exact aS h
  .simp at h
  .exact aR (aR h)
 .rintro(h|h|h)
  .exact aS (aR (aS h))
  .exact aS (aS h)
  .exact aR h
theorem Zx(L:List (Pt×Pt)):∀(l:List (Pt×Pt))(acc:List Qt),(∀q∈acc,iL q)->vq acc->
  (∀q∈l.foldl (λacc e=>uh acc (qW L e)) acc,iL q)/\vq (l.foldl (λacc e=>uh acc (qW L e)) acc)/\∀r,r∈l.foldl (λacc e=>uh acc (qW L e)) acc↔r∈acc\/∃e∈l,r∈qW L e
 |[],acc,h,ha=>⟨h,ha,λr=>af⟩
 |e::l,acc,h,ha=>by
  have hc:=(LV L e).1;have hm:=Zv (qW L e) acc h hc;have hr:∀q∈uh acc (qW L e),iL q:=λq hq=>by
   rcases(hm q).1 hq with k|k
   .exact h q k
   .exact hc q k
  have has:vq (uh acc (qW L e)):=by
   clear hm hr;generalize qW L e=c at hc;induction c generalizing acc with
   |nil=>exact ha
   |cons q c ih=>
    have hq:=hc q af
    exact ih (ins q acc) (zq hq h) (Yt hq h ha) (λx hx=>hc x (by simp[hx]))
  obtain⟨h1,h2,h3⟩:=Zx L l (uh acc (qW L e)) hr has;refine⟨h1,h2,λr=>?_⟩
  rw[uT,h3,hm];constructor
  .rintro((k|k)|⟨g,hg,k⟩)
   .exact aS k
   .exact aR ⟨e,af,k⟩
   .exact aR ⟨g,by simp[hg],k⟩
  .rintro(k|⟨g,hg,k⟩)
   .exact aS (aS k)
   .rcases bU.1 hg with e'|e'
    .subst e';exact aS (aR k)
    .exact aR ⟨g,e',k⟩
theorem Eh(l:List (Pt×Pt)):(∀q∈ja l,iL q)/\vq (ja l)/\∀r,r∈ja l↔isNode l r:=by
 obtain⟨h1,h2,h3⟩:=Zx l l [] (λq h=>by simp at h) List.Pairwise.nil
 refine⟨h1,h2,λr=>?_⟩
 unfold ja;rw[h3];unfold isNode;constructor
 .rintro(h|⟨e,he,h⟩)
  .simp at h
  .rcases((LV l e).2 r).1 h with h|h|⟨f,hf,h⟩
   .exact aS ⟨e,he,aS h⟩
   .exact aS ⟨e,he,aR h⟩
   .rcases h with⟨a,b,c,d⟩|⟨_,⟨h,_⟩|⟨h,_⟩⟩
    .exact aR ⟨e,he,f,hf,a,b,c,d⟩
    .exact aS ⟨f,hf,aS h⟩
    .exact aS ⟨f,hf,aR h⟩
 .rintro(⟨e,he,h⟩|⟨e,he,f,hf,a,b,c,d⟩)
  .refine aR ⟨e,he,((LV l e).2 r).2 ?_⟩;rcases h with h|h
   .exact aS h
   .exact aR (aS h)
  .exact aR ⟨e,he,((LV l e).2 r).2 (aR (aR ⟨f,hf,aS ⟨a,b,c,d⟩⟩))⟩
theorem Zy(e f:Pt×Pt):dO f e= -dO e f:=by unfold dO;grind
theorem akj{e f:Pt×Pt}(h:dO e f≠0):gK f e=gK e f:=by
 have h':dO f e≠0:=by rw[Zy];omega
 unfold gK;have e1:mX f e*dO e f=mX e f*dO f e:=by unfold mX mT dO;grind
 have e2:mY f e*dO e f=mY e f*dO f e:=by unfold mY mT dO;grind
 rw[DW h' h e1,DW h' h e2]
end Ge
theorem vH(x:Int)(g:Nat): -(x.natAbs:Int)<=x.tdiv g/\x.tdiv g<=(x.natAbs:Int):=by
 have h:(x.tdiv g).natAbs<=x.natAbs:=by
  rw[Int.natAbs_tdiv];exact Nat.div_le_self _ _
 omega
theorem akk{a b:Nat}{x y:Int}(D:Int)(h1:Fl a x)(h2:Fl b y)(hx: -16000000<=x/\x<=16000000)(hy: -16000000<=y/\y<=16000000)(hD:D<0/\ -300000<=D)(G:Nat)(hG:Int.gcd (Int.gcd x y:Nat) D=G)(w:aM):
  ak 37 #[aA aK a b,az aJ D] w λe w'=>e=aL (aC #[aA aK (aO aK (x.tdiv (-(G:Int)))) (aO aK (y.tdiv (-(G:Int)))),az aJ (D.tdiv (-(G:Int)))])/\Below w.heap.size w w':=by
 have GJ:0<G:=by rw[<-hG];exact vp aa
 have ai6:Int.gcd x y<=16000000:=by
  by_cases hz:x=0
  .rw[hz,Int.gcd_zero_left];omega
  .have:=atq (b:=y) hz;omega
 have hGD:G<=300000:=by
  have:=atr (a:=(Int.gcd x y:Nat)) (b:=D) aa
  omega
 have c1:=h1.int aa aa
 have c2:=h2.int aa aa
 have hc1:∀w,(convert 120 3 (aB aK a)).run prog w=.ok (az aJ x) w:=λw=>run_convert_float_int w 120 3 aK aJ a x (by rw[underlying120];rfl) underlying3 c1
 have hc2:∀w,(convert 120 3 (aB aK b)).run prog w=.ok (az aJ y) w:=λw=>run_convert_float_int w 120 3 aK aJ b y (by rw[underlying120];rfl) underlying3 c2
 have QT:Hid (∀w1,ak 65 #[az aJ x,az aJ y] w1 λe w'=>e=aL (az aJ (Int.gcd x y:Nat))/\Below w1.heap.size w1 w'):=λw1=>GI x y w1 aa aa
 have QU:Hid (∀w1,ak 65 #[az aJ (Int.gcd x y:Nat),az aJ D] w1 λe w'=>e=aL (az aJ (G:Int))/\Below w1.heap.size w1 w'):=λw1=>by rw[<-hG];exact GI _ D w1 aa aa
 obtain⟨XQ,Bk⟩:∃q,q=x.tdiv (-(G:Int)):=⟨_,rfl⟩;obtain⟨YQ,Bl⟩:∃q,q=y.tdiv (-(G:Int)):=⟨_,rfl⟩;obtain⟨DQ,Bn⟩:∃q,q=D.tdiv (-(G:Int)):=⟨_,rfl⟩;rw[<-Bk,<-Bl,<-Bn];have HP:Hid (∀w1,ak 38 #[az aJ XQ,az aJ YQ] w1 λe w'=>e=aL (aA aK (aO aK XQ) (aO aK YQ))/\w'=w1):=λw1=>KZ _ _ w1
 have hw1:IntKind.i64.wrap (x.tdiv (-(G:Int)))=XQ:=by rw[Bk,AG,IntKind.wrap_i64];have:=vH x G;omega
 have hw2:IntKind.i64.wrap (y.tdiv (-(G:Int)))=YQ:=by rw[Bl,AG,IntKind.wrap_i64];have:=vH y G;omega
 have hw3:IntKind.i64.wrap (D.tdiv (-(G:Int)))=DQ:=by rw[Bn,AG,IntKind.wrap_i64];have:=vH D G;omega
 have rY:IntKind.i64.wrap (-(x.tdiv (G:Int)))=XQ:=by rw[<-AG];exact hw1
 have LW:IntKind.i64.wrap (-(y.tdiv (G:Int)))=YQ:=by rw[<-AG];exact hw2
 have ni:IntKind.i64.wrap (-(D.tdiv (G:Int)))=DQ:=by rw[<-AG];exact hw3
 have hw4:IntKind.i64.wrap (-(G:Int))= -(G:Int):=by rw[IntKind.wrap_i64];omega
 clear Bk Bl Bn;have Ym:¬G=0:=aa
 have Yn:¬(-(G:Int)=0):=aa
 generalize Int.gcd x y=GXY at*;clear c1 c2 h1 h2 hG;have hE:=heap_alloc_new w (.cells #[aA aK 0 0,az aJ 0] 83);have hb0:Below w.heap.size w (w.alloc (.cells #[aA aK 0 0,az aJ 0] 83)):=(Below.refl _ _).alloc (aY _) _;have hz:w.heap.size<(w.alloc (.cells #[aA aK 0 0,az aJ 0] 83)).heap.size:=af
 go_enter func37,ntmps37
 go_wp2_with (first |(simp only[hc1])|(simp only[hc2]))
 generalize w.alloc (.cells #[aA aK 0 0,az aJ 0] 83)=W at*;generalize hB:w.heap.size=B at*;refine(QT.out _).mono ?_;rintro e w1 ⟨rfl,hb1⟩
 go_wp2_with fail
 refine(QU.out _).mono ?_;rintro e w2 ⟨rfl,hb2⟩;have hs1:=hb1.size;have fg:=(hb2.block _ (show B<w1.heap.size by omega)).trans ((hb1.block _ hz).trans hE)
 have aX:=(hb0.trans (hb1.mono (fF hz))).trans (hb2.mono aa)
 have e0:=cL fg;have e1:=cK fg;have z0:=bK fg 0;have z1:=bK fg 1;clear hE fg hb1 hb2 hb0
 go_wp2_with fail
 go_region_held3 (λw'=>w'.frozen? ⟨B,0,none⟩=false/\w'.frozen? ⟨B,1,none⟩=false) (go_keep) (first
  |(go_at_call 38;refine(HP.out _).mono ?_;rintro e w5 ⟨rfl,rY⟩;subst rY)
  |(simp only[iH];go_simp))
 go_wp2_with fail
 refine bodyPost_ret (v:=aC #[aA aK (aO aK XQ) (aO aK YQ),az aJ DQ]) (by simp[results,results37,go_sem,e0,e1]) rfl ⟨rfl,?_⟩
 rw[hB];exact((aX.setCell (aY _) _).setCell (aY _) _).drew
end
end Go.Proofs.YtkjhhooecopolaaGreatDoor
namespace Go.Proofs.YtkjhhooecopolaaGreatDoor.Ge
open Tryz
open Value renaming int->az,complex->aA,float->aB,agg->aC,bool->aD,string->aF,slice->aG,pointer->aH,tuple->aI
open IntKind renaming i64->aJ
open FloatKind renaming f64->aK
open Ending renaming returned->aL
open Go renaming World->aM,Value->aN,floatOfInt->aO
abbrev Nd:=Int×Int×Int
structure Can(n:Nd):Prop where
 pos:0<n.2.2
 co:Int.gcd (Int.gcd n.1 n.2.1) n.2.2=1
def aU(n:Nd):Qt:=(bO n.1 n.2.2,bO n.2.1 n.2.2)
theorem Zz{n m:Nd}(hn:Can n)(h1:n.1*m.2.2=m.1*n.2.2)(h2:n.2.1*m.2.2=m.2.1*n.2.2):n.2.2∣m.2.2:=by
 have d1:n.2.2∣n.1*m.2.2:=⟨m.1,by rw[h1,gF]⟩
 have d2:n.2.2∣n.2.1*m.2.2:=⟨m.2.1,by rw[h2,gF]⟩
 have d3:n.2.2∣(Int.gcd (n.1*m.2.2) (n.2.1*m.2.2):Int):=Int.dvd_coe_gcd d1 d2;rw[Int.gcd_mul_right] at d3;have d4:n.2.2∣(Int.gcd n.1 n.2.1:Int)*m.2.2:=by
  rw[FM] at d3;rcases Int.natAbs_eq m.2.2 with h|h
  .rw[h];exact d3
  .rw[h,Ao];exact Int.dvd_neg.2 d3
 exact QV (by rw[aha];exact hn.co) d4
theorem akl{n m:Nd}(hn:Can n)(hm:Can m)(h1:n.1*m.2.2=m.1*n.2.2)(h2:n.2.1*m.2.2=m.2.1*n.2.2):n=m:=by
 have a:=Zz hn h1 h2;have b:=Zz hm h1.symm h2.symm;have p1:=ahh hm.pos a;have p2:=ahh hn.pos b;have e:n.2.2=m.2.2:=aa
 have hz:m.2.2≠0:=by have:=hm.pos;omega
 rw[e] at h1 h2;have e1:=Wj hz h1;have e2:=Wj hz h2;exact dN e1 (dN e2 e)
theorem akm{g z:Int}(hg:0<g):(g*z).sign=z.sign:=by
 rw[Wm,nV hg,wQ]
theorem Ei{a b c d:Int}(hb:0<b)(hd:0<d):fc (bO a b) (bO c d)=(a*d-c*b).sign:=by
 obtain⟨g,g0,e1,e2,gp⟩:=vt (n:=a) (d:=b) aa
 obtain⟨k,k0,e3,e4,kp⟩:=vt (n:=c) (d:=d) aa
 have hg:=gp.2 hb;have hk:=kp.2 hd;unfold fc;have:a*d-c*b=(g*k)*((bO a b).1*(bO c d).2-(bO c d).1*(bO a b).2):=by
  generalize bO a b=A at*;generalize bO c d=B at*;rw[e1,e2,e3,e4];grind
 rw[this,akm (bJ hg hk)]
theorem eA{n:Nd}(h:Can n):iL (aU n):=⟨se (by have:=h.pos;omega),se (by have:=h.pos;omega)⟩
theorem LX{n m:Nd}(hn:Can n)(hm:Can m):pc (aU n) (aU m)=if(n.1*m.2.2-m.1*n.2.2).sign=0 then(n.2.1*m.2.2-m.2.1*n.2.2).sign else(n.1*m.2.2-m.1*n.2.2).sign:=by
 unfold pc aU;rw[Ei hn.pos hm.pos,Ei hn.pos hm.pos]
theorem xD{n m:Nd}(hn:Can n)(hm:Can m)(h:pc (aU n) (aU m)=0):n=m:=by
 rw[LX hn hm] at h;split at h
 .rename_i h1
  have a:=yL.1 h1;have b:=yL.1 h;exact akl hn hm aa aa
 .contradiction
theorem LY{n m:Nd}(hn:Can n)(hm:Can m)(h:aU n=aU m):n=m:=xD hn hm (by rw[h];exact Bp _)
theorem LZ{x y d k X Y P:Int}(hd:d≠0)(h1:x=k*X)(h2:y=k*Y)(h3:d=k*P)(hP:0<P)(hk:k.natAbs=Int.gcd (Int.gcd x y:Nat) d):Can (X,Y,P)/\aU (X,Y,P)=(bO x d,bO y d):=by
 have k0:k≠0:=by rintro rfl;rw[AA] at h3;exact hd h3
 refine⟨⟨hP,?_⟩,?_⟩
 .show Int.gcd (Int.gcd X Y:Nat) P=1;have e1:Int.gcd x y=k.natAbs*Int.gcd X Y:=by rw[h1,h2,Wp]
  have e2:Int.gcd (Int.gcd x y:Nat) d=k.natAbs*Int.gcd (Int.gcd X Y:Nat) P:=by
   have:Int.gcd (k*((Int.gcd X Y:Nat):Int)) (k*P)=k.natAbs*Int.gcd (Int.gcd X Y:Nat) P:=Wp ..;rw[<-this,e1,h3];unfold Int.gcd;congr 1;rw[oX];simp[Int.natAbs_mul]
  rw[e2] at hk;have kp:0<k.natAbs:=aa
  exact atv kp aa
 .unfold aU;show(bO X P,bO Y P)=_;rw[DW (n:=X) (d:=P) (m:=x) (e:=d) aa hd (by rw[h1,h3];grind),DW (n:=Y) (d:=P) (m:=y) (e:=d) aa hd (by rw[h2,h3];grind)]
theorem L3{x g:Int}(h:g∣x):x=g*x.tdiv g:=(AB h).symm
end Go.Proofs.YtkjhhooecopolaaGreatDoor.Ge
namespace Go.Proofs.YtkjhhooecopolaaGreatDoor
open Tryz
open Value renaming int->az,complex->aA,float->aB,agg->aC,bool->aD,string->aF,slice->aG,pointer->aH,tuple->aI
open IntKind renaming i64->aJ
open FloatKind renaming f64->aK
open Ending renaming returned->aL
open Go renaming World->aM,Value->aN,floatOfInt->aO
open Go.RowKit
def jb(n:Ge.Nd):aN:=aC #[aA aK (aO aK n.1) (aO aK n.2.1),az aJ n.2.2]
theorem L4{a b:Nat}{x y:Int}(D:Int)(h1:Fl a x)(h2:Fl b y)(hx: -16000000<=x/\x<=16000000)(hy: -16000000<=y/\y<=16000000)(hD:D≠0/\ -300000<=D/\D<=300000):
  ∃n:Ge.Nd,Ge.Can n/\Ge.aU n=(Ge.bO x D,Ge.bO y D)/\fC n.1 n.2.1 n.2.2/\∀w,ak 37 #[aA aK a b,az aJ D] w λe w'=>e=aL (jb n)/\aj w w':=by
 obtain⟨G,hG⟩:∃G,Int.gcd (Int.gcd x y:Nat) D=G:=⟨_,rfl⟩;have GJ:0<G:=by rw[<-hG];exact ag9 _ hD.1
 have dg:(G:Int)∣(Int.gcd x y:Nat):=by rw[<-hG];exact FP ..
 have dd:(G:Int)∣D:=by rw[<-hG];exact Dg ..
 have dx:(G:Int)∣x:=FT dg (FP ..);have dy:(G:Int)∣y:=FT dg (Dg ..);have ex:=Ge.L3 dx;have ey:=Ge.L3 dy;have ed:=Ge.L3 dd;have bx:=vH x G;have by':=vH y G
 have bd:=vH D G;rcases gf D 0 with h|h|h
 .have call:=akk D h1 h2 hx hy ⟨h,hD.2.1⟩ G hG;rw[AG,AG,AG] at call;have hP:0< -(D.tdiv G):=by
   rcases Int.lt_or_le (D.tdiv G) 0 with q|q
   .omega
   .have:=jF (Int.natCast_nonneg G) q;omega
  obtain⟨c1,c2⟩:=Ge.LZ (x:=x) (y:=y) (d:=D) (k:= -(G:Int)) (X:= -(x.tdiv G)) (Y:= -(y.tdiv G)) (P:= -(D.tdiv G)) hD.1 (ex.trans (AH ..).symm) (ey.trans (AH ..).symm) (ed.trans (AH ..).symm) hP (by rw[hG];omega)
  exact⟨(-(x.tdiv G), -(y.tdiv G), -(D.tdiv G)),c1,c2,⟨by show(-(x.tdiv G)).natAbs<=_;omega,by show(-(y.tdiv G)).natAbs<=_;omega,hP,by show -(D.tdiv G)<=_;omega⟩,call⟩
 .exact absurd h hD.1
 .have call:=ai5 D h1 h2 hx hy ⟨h,hD.2.2⟩ G hG;have hP:0<D.tdiv G:=by
   rcases Int.lt_or_le 0 (D.tdiv G) with q|q
   .exact q
   .have:=jF (Int.natCast_nonneg G) (Int.neg_nonneg_of_nonpos q);rw[Ao] at this;omega
  obtain⟨c1,c2⟩:=Ge.LZ (x:=x) (y:=y) (d:=D) (k:=(G:Int)) (X:=x.tdiv G) (Y:=y.tdiv G) (P:=D.tdiv G) hD.1 ex ey ed hP (by rw[hG];omega)
  exact⟨(x.tdiv G,y.tdiv G,D.tdiv G),c1,c2,⟨by show(x.tdiv G).natAbs<=_;omega,by show(y.tdiv G).natAbs<=_;omega,hP,by show D.tdiv G<=_;omega⟩,call⟩
end Go.Proofs.YtkjhhooecopolaaGreatDoor
namespace Go.Proofs.YtkjhhooecopolaaGreatDoor
open Tryz
open Value renaming int->az,complex->aA,float->aB,agg->aC,bool->aD,string->aF,slice->aG,pointer->aH,tuple->aI
open IntKind renaming i64->aJ
open FloatKind renaming f64->aK
open Ending renaming returned->aL
open Go renaming World->aM,Value->aN,floatOfInt->aO
section
open Go.RowKit
theorem L5{e:Ed}(h:gS e):(-100<=e.2.1-e.1.1/\e.2.1-e.1.1<=100)/\(-100<=e.2.2-e.1.2/\e.2.2-e.1.2<=100):=by
 obtain⟨a,b,c,d⟩:=h;unfold small at a b c d;omega
theorem ZA(x y:EB)(e f:Ed)(hx:lK x e)(hy:lK y f)(he:gS e)(hf:gS f)(w:aM):
  ak 179 #[aC #[aA aK x.wa x.wb,aB aK x.sh],aC #[aA aK y.wa y.wb,aB aK y.sh]] w λr w'=>r=aL (aD (decide (Ge.dO e f=0)))/\aj w w':=by
 have we:=L5 he;have wf:=L5 hf;obtain⟨im,f1,hl⟩:=GC hx.wa hx.wb hy.wa hy.wb (by unfold sm;omega) (by unfold sm;omega) (by unfold sm;omega) (by unfold sm;omega)
 have HL:Hid (∀w,ak 101 #[aA aK x.wa x.wb,aA aK y.wa y.wb] w λe w'=>e=aL (aB aK im)/\w'=w):=hl
 have q:=vk f1 mV;have hc:decide (Ge.dO e f=0)=(FloatKind.f64.format.order im 0 == some .eq):=by rw[q];rfl
 rw[hc];clear hl q hc f1 hx hy he hf we wf;obtain⟨wa,wb,sh,fa,fb,ta,tb⟩:=x;obtain⟨kQ,kR,sh',om,ou,oz,oC⟩:=y;simp only at*;have hb0:aj w ((w.alloc (.cells #[aA aK wa wb,aB aK sh] 122)).alloc (.cells #[aA aK kQ kR,aB aK sh'] 122)):=(aw _ _).alloc af _
 go_enter func179,ntmps179
 go_wp2_with fail
 refine(HL.out _).mono ?_;rintro e w1 ⟨rfl,rfl⟩
 go_wp2_with fail
 go_ret
 exact⟨rfl,hb0⟩
theorem akn(e f:Ed):(f.2.1-f.1.1)*((e.2.1-e.1.1)*e.1.2-(e.2.2-e.1.2)*e.1.1)-(e.2.1-e.1.1)*((f.2.1-f.1.1)*f.1.2-(f.2.2-f.1.2)*f.1.1)=Ge.mX e f:=by
 unfold Ge.mX Ge.mT Ge.dO;grind
theorem ako(e f:Ed):(f.2.2-f.1.2)*((e.2.1-e.1.1)*e.1.2-(e.2.2-e.1.2)*e.1.1)-(e.2.2-e.1.2)*((f.2.1-f.1.1)*f.1.2-(f.2.2-f.1.2)*f.1.1)=Ge.mY e f:=by
 unfold Ge.mY Ge.mT Ge.dO;grind
theorem ZB{a b s z:Nat}{x y t:Int}(h1:Fl a x)(h2:Fl b y)(h3:Fl s t)(hz:Fl z 0)(b1:sm x)(b2:sm y)(b3:sm t):
  ∃re im,(∀ty w,(binOp .mul ty (aA aK a b) (aA aK s z)).run prog w=.ok (aA aK re im) w)/\Fl re (x*t)/\Fl im (y*t):=by
 have m1:=qP b1 b3;have m2:=qP b2 b3;obtain⟨re,im,e,f1,f2⟩:=QI h1 h2 h3 hz aa aa aa aa aa aa
 refine⟨re,im,λty w=>run_complex_mul (P:=prog) w ty a b s z re im e,?_,?_⟩
 .have:x*t=x*t-y*0:=aa
  rw[this];exact f1
 .have:y*t=x*0+y*t:=aa
  rw[this];exact f2
theorem akp(x y:EB)(e f:Ed)(hx:lK x e)(hy:lK y f)(he:gS e)(hf:gS f)(hc:Ge.dO e f≠0):
  ∃n:Ge.Nd,Ge.Can n/\Ge.aU n=Ge.gK e f/\fC n.1 n.2.1 n.2.2/\∀w,ak 180 #[aC #[aA aK x.wa x.wb,aB aK x.sh],aC #[aA aK y.wa y.wb,aB aK y.sh]] w λr w'=>r=aL (jb n)/\Below w.heap.size w w':=by
 have we:=L5 he;have wf:=L5 hf;have cin:=Y7 he hf;obtain⟨im,f1,hl⟩:=GC hx.wa hx.wb hy.wa hy.wb (by unfold sm;omega) (by unfold sm;omega) (by unfold sm;omega) (by unfold sm;omega)
 have hcr:(e.2.1-e.1.1)*(f.2.2-f.1.2)-(e.2.2-e.1.2)*(f.2.1-f.1.1)=Ge.dO e f:=rfl;rw[hcr] at f1;have c1:=f1.int aa aa
 obtain⟨p1,p2,o1,g1,g2⟩:=ZB hy.wa hy.wb hx.sh mV (by unfold sm;omega) (by unfold sm;omega) (K5 he)
 obtain⟨r1,r2,o2,k1,k2⟩:=ZB hx.wa hx.wb hy.sh mV (by unfold sm;omega) (by unfold sm;omega) (K5 hf)
 have cx:=akn e f;have cy:=ako e f;obtain⟨s1,s2,e3,j1,j2⟩:=QH g1 g2 k1 k2 (by rw[cx];omega) (by rw[cy];omega)
 have o3:=λt w=>run_complex_sum (P:=prog) w .sub (aR rfl) t aK p1 p2 r1 r2 s1 s2 e3
 rw[cx] at j1;rw[cy] at j2;obtain⟨n,n1,n2,n3,hN⟩:=L4 (Ge.dO e f) j1 j2 aa aa aa
 refine⟨n,n1,n2,n3,λw=>?_⟩
 have HL:Hid (∀w,ak 101 #[aA aK x.wa x.wb,aA aK y.wa y.wb] w λe w'=>e=aL (aB aK im)/\w'=w):=hl
 generalize Ge.dO e f=C at*;have hc1:∀w,(convert 120 3 (aB aK im)).run prog w=.ok (az aJ C) w:=λw=>run_convert_float_int w 120 3 aK aJ im C (by rw[underlying120];rfl) underlying3 c1
 unfold jb at*;generalize aO aK n.1=N1 at*;generalize aO aK n.2.1=N2 at*;have HN:Hid (∀w,ak 37 #[aA aK s1 s2,az aJ C] w λe w'=>e=aL (aC #[aA aK N1 N2,az aJ n.2.2])/\Below w.heap.size w w'):=hN
 clear hl hN c1 cx cy j1 j2 e3 g1 g2 k1 k2 n1 n2 n3 f1 hcr cin we wf hx hy he hf hc;obtain⟨wa,wb,sh,fa,fb,ta,tb⟩:=x;obtain⟨kQ,kR,sh',om,ou,oz,oC⟩:=y;simp only at*;have hb1:Below w.heap.size w ((w.alloc (.cells #[aA aK wa wb,aB aK sh] 122)).alloc (.cells #[aA aK kQ kR,aB aK sh'] 122)):=((Below.refl _ _).alloc (aY _) _).alloc af _
 go_enter func180,ntmps180
 go_wp2_with (first |(simp only[o1])|(simp only[o2])|(simp only[o3]))
 have hs1:w.heap.size+2=((w.alloc (.cells #[aA aK wa wb,aB aK sh] 122)).alloc (.cells #[aA aK kQ kR,aB aK sh'] 122)).heap.size:=af
 generalize(w.alloc (.cells #[aA aK wa wb,aB aK sh] 122)).alloc (.cells #[aA aK kQ kR,aB aK sh'] 122)=W1 at*;have hE:=heap_alloc_new W1 (.cells #[aA aK 0 0,az aJ 0] 83);have hb0:=hb1.alloc aa (.cells #[aA aK 0 0,az aJ 0] 83)
 have hz:W1.heap.size<(W1.alloc (.cells #[aA aK 0 0,az aJ 0] 83)).heap.size:=af
 generalize W1.alloc (.cells #[aA aK 0 0,az aJ 0] 83)=W at*;generalize hB:w.heap.size=B at*;generalize W1.heap.size=B1 at*;have qU:B1=B+1+1:=aa
 have ui:B<=B+1+1:=aa
 subst qU;clear hs1;refine(HL.out _).mono ?_;rintro e w1 ⟨rfl,rfl⟩
 go_wp2_with (simp only)
 refine(HN.out _).mono ?_;rintro e w2 ⟨rfl,hb2⟩;have fg:=(hb2.block _ hz).trans hE;have aX:=hb0.trans (hb2.mono aa)
 have e0:=cL fg;have e1:=cK fg;have z0:=bK fg 0;have z1:=bK fg 1;clear hE fg hb2 hb0 hb1
 go_wp2_with (simp only[iH];go_simp)
 refine bodyPost_ret (v:=aC #[aA aK N1 N2,az aJ n.2.2]) (by simp[results,results180,go_sem,e0,e1]) rfl ⟨rfl,?_⟩
 rw[hB];exact(aX.setCell ui _).setCell ui _
theorem akq(x y:EB)(w:aM)
  (HP:Hid (∀w,ak 179 #[aC #[aA aK x.wa x.wb,aB aK x.sh],aC #[aA aK y.wa y.wb,aB aK y.sh]] w λr w'=>r=aL (aD true)/\Below w.heap.size w w')):
  ak 123 #[aC x.cells,aC y.cells] w λr w'=>r=aL (aI #[aC #[aA aK 0 0,az aJ 0],aD false])/\Below w.heap.size w w':=by
 obtain⟨wa,wb,sh,fa,fb,ta,tb⟩:=x;obtain⟨kQ,kR,sh',om,ou,oz,oC⟩:=y;simp only[EB.cells] at*
 go_enter func123,ntmps123
 go_wp2_with fail
 have hs1:w.heap.size+1+1=((w.alloc (.cells #[aA aK wa wb,aB aK sh,aA aK fa fb,aA aK ta tb] 124)).alloc (.cells #[aA aK kQ kR,aB aK sh',aA aK om ou,aA aK oz oC] 124)).heap.size:=af
 have hb0:Below w.heap.size w ((w.alloc (.cells #[aA aK wa wb,aB aK sh,aA aK fa fb,aA aK ta tb] 124)).alloc (.cells #[aA aK kQ kR,aB aK sh',aA aK om ou,aA aK oz oC] 124)):=((Below.refl _ _).alloc (aY _) _).alloc af _
 generalize(w.alloc (.cells #[aA aK wa wb,aB aK sh,aA aK fa fb,aA aK ta tb] 124)).alloc (.cells #[aA aK kQ kR,aB aK sh',aA aK om ou,aA aK oz oC] 124)=W1 at*;have hE:=heap_alloc_new W1 (.cells #[aA aK 0 0,az aJ 0] 83);have hb2:=hb0.alloc aa (.cells #[aA aK 0 0,az aJ 0] 83)
 have hz:W1.heap.size<(W1.alloc (.cells #[aA aK 0 0,az aJ 0] 83)).heap.size:=af
 generalize W1.alloc (.cells #[aA aK 0 0,az aJ 0] 83)=W at*;generalize hB:w.heap.size=B at*;rw[<-hs1] at hE hz;refine(HP.out _).mono ?_;rintro e w1 ⟨rfl,hb1⟩;have fg:=(hb1.block _ hz).trans hE;have aX:=hb2.trans (hb1.mono aa)
 have e0:=cL fg;have e1:=cK fg;have z0:=bK fg 0;have z1:=bK fg 1;have ui:B<=B+1+1:=aa
 clear hE fg hb2 hb0 hb1 hs1
 go_wp2_with (simp only[iH];go_simp)
 refine bodyPost_ret (v:=aI #[aC #[aA aK 0 0,az aJ 0],aD false]) (by simp[results,results123,go_sem,e0,e1]) rfl ⟨rfl,?_⟩
 rw[hB];exact(aX.setCell ui _).setCell ui _
theorem akr(x y:EB)(N1 N2:Nat)(P:Int)(u1 u2:Bool)(w:aM)
  (HP:Hid (∀w,ak 179 #[aC #[aA aK x.wa x.wb,aB aK x.sh],aC #[aA aK y.wa y.wb,aB aK y.sh]] w λr w'=>r=aL (aD false)/\Below w.heap.size w w'))
  (HC:Hid (∀w,ak 180 #[aC #[aA aK x.wa x.wb,aB aK x.sh],aC #[aA aK y.wa y.wb,aB aK y.sh]] w λr w'=>r=aL (aC #[aA aK N1 N2,az aJ P])/\Below w.heap.size w w'))
  (HX:Hid (∀w,ak 62 #[aC x.cells,aC #[aA aK N1 N2,az aJ P]] w λr w'=>r=aL (aD u1)/\Below w.heap.size w w'))
  (HY:Hid (∀w,ak 62 #[aC y.cells,aC #[aA aK N1 N2,az aJ P]] w λr w'=>r=aL (aD u2)/\Below w.heap.size w w')):
  ak 123 #[aC x.cells,aC y.cells] w λr w'=>r=aL (aI #[aC #[aA aK N1 N2,az aJ P],aD (u1&&u2)])/\Below w.heap.size w w':=by
 obtain⟨wa,wb,sh,fa,fb,ta,tb⟩:=x;obtain⟨kQ,kR,sh',om,ou,oz,oC⟩:=y;simp only[EB.cells] at*
 go_enter func123,ntmps123
 go_wp2_with fail
 have hs1:w.heap.size+1+1=((w.alloc (.cells #[aA aK wa wb,aB aK sh,aA aK fa fb,aA aK ta tb] 124)).alloc (.cells #[aA aK kQ kR,aB aK sh',aA aK om ou,aA aK oz oC] 124)).heap.size:=af
 have hb0:Below w.heap.size w ((w.alloc (.cells #[aA aK wa wb,aB aK sh,aA aK fa fb,aA aK ta tb] 124)).alloc (.cells #[aA aK kQ kR,aB aK sh',aA aK om ou,aA aK oz oC] 124)):=((Below.refl _ _).alloc (aY _) _).alloc af _
 have hX:((w.alloc (.cells #[aA aK wa wb,aB aK sh,aA aK fa fb,aA aK ta tb] 124)).alloc (.cells #[aA aK kQ kR,aB aK sh',aA aK om ou,aA aK oz oC] 124)).heap[w.heap.size]?=some (.cells #[aA aK wa wb,aB aK sh,aA aK fa fb,aA aK ta tb] 124 (0,0)):=by
  rw[Below.heap_alloc _ _ _ af];exact heap_alloc_new _ _
 have hY:((w.alloc (.cells #[aA aK wa wb,aB aK sh,aA aK fa fb,aA aK ta tb] 124)).alloc (.cells #[aA aK kQ kR,aB aK sh',aA aK om ou,aA aK oz oC] 124)).heap[w.heap.size+1]?=some (.cells #[aA aK kQ kR,aB aK sh',aA aK om ou,aA aK oz oC] 124 (0,0)):=by
  have:=heap_alloc_new (w.alloc (.cells #[aA aK wa wb,aB aK sh,aA aK fa fb,aA aK ta tb] 124)) (.cells #[aA aK kQ kR,aB aK sh',aA aK om ou,aA aK oz oC] 124);simpa using this
 generalize(w.alloc (.cells #[aA aK wa wb,aB aK sh,aA aK fa fb,aA aK ta tb] 124)).alloc (.cells #[aA aK kQ kR,aB aK sh',aA aK om ou,aA aK oz oC] 124)=W1 at*;have hE:=heap_alloc_new W1 (.cells #[aA aK 0 0,az aJ 0] 83);have ZC:=(Below.heap_alloc W1 (.cells #[aA aK 0 0,az aJ 0] 83) w.heap.size aa).trans hX
 have ZE:=(Below.heap_alloc W1 (.cells #[aA aK 0 0,az aJ 0] 83) (w.heap.size+1) aa).trans hY
 have hb2:=hb0.alloc aa (.cells #[aA aK 0 0,az aJ 0] 83)
 have hz:W1.heap.size<(W1.alloc (.cells #[aA aK 0 0,az aJ 0] 83)).heap.size:=af
 generalize W1.alloc (.cells #[aA aK 0 0,az aJ 0] 83)=W at*;generalize hB:w.heap.size=B at*;rw[<-hs1] at hE hz;clear hX hY hb0 hs1;refine(HP.out _).mono ?_;rintro e w1 ⟨rfl,hb1⟩;have hz1:B+1+1<w1.heap.size:=bW hz hb1.size;have fg:=(hb1.block _ hz).trans hE;have Ej:=(hb1.block B aa).trans ZC
 have L6:=(hb1.block (B+1) aa).trans ZE
 have iI:=hb2.trans (hb1.mono aa)
 clear hE ZC ZE hb2 hb1;have x0:=cL Ej;have x1:=cK Ej;have y0:=cL L6;have y1:=cK L6
 go_wp2_with fail
 refine(HC.out _).mono ?_;rintro e w2 ⟨rfl,hb3⟩;have hz2:B+1+1<w2.heap.size:=bW hz1 hb3.size;have ZF:=(hb3.block _ hz1).trans fg;have ZG:=(hb3.block B aa).trans Ej
 have ZH:=(hb3.block (B+1) aa).trans L6
 have BG:=iI.trans (hb3.mono aa)
 clear fg Ej L6 iI hb3 x0 x1 y0 y1
 go_wp2_with fail
 have hN:=heap_alloc_new w2 (.cells #[aA aK 0 0,az aJ 0] 83);have G5:=(Below.heap_alloc w2 (.cells #[aA aK 0 0,az aJ 0] 83) _ hz2).trans ZF;have ZI:=(Below.heap_alloc w2 (.cells #[aA aK 0 0,az aJ 0] 83) B aa).trans ZG
 have po:=(Below.heap_alloc w2 (.cells #[aA aK 0 0,az aJ 0] 83) (B+1) aa).trans ZH
 have jy:=BG.alloc aa (.cells #[aA aK 0 0,az aJ 0] 83)
 have hz3:w2.heap.size<(w2.alloc (.cells #[aA aK 0 0,az aJ 0] 83)).heap.size:=af
 generalize w2.alloc (.cells #[aA aK 0 0,az aJ 0] 83)=W3 at*;generalize w2.heap.size=M at*;clear ZF ZG ZH BG;have n0:=cL hN;have n1:=cK hN;have f0:=bK hN 0;have f1:=bK hN 1
 go_wp2_with (simp only[iH];go_simp)
 have BH:M≠B/\M≠B+1/\M≠B+1+1:=aa
 have G6:=(dS (o:=1) BH.1.symm (az aJ P)).trans ((dS (o:=0) BH.1.symm (aA aK N1 N2)).trans ZI);have G7:=(dS (o:=1) BH.2.1.symm (az aJ P)).trans ((dS (o:=0) BH.2.1.symm (aA aK N1 N2)).trans po);have Ek:=(dS (o:=1) BH.2.2.symm (az aJ P)).trans ((dS (o:=0) BH.2.2.symm (aA aK N1 N2)).trans G5);have a8:((W3.setCell ⟨M,0,none⟩ (aA aK N1 N2)).setCell ⟨M,1,none⟩ (az aJ P)).cell? ⟨M,0,none⟩=some (aA aK N1 N2):=by simp[go_sem,n0]
 have a9:((W3.setCell ⟨M,0,none⟩ (aA aK N1 N2)).setCell ⟨M,1,none⟩ (az aJ P)).cell? ⟨M,1,none⟩=some (az aJ P):=by simp[go_sem,n1]
 have G8:=(jy.setCell (p:=⟨M,0,none⟩) (by show B<=M;omega) (aA aK N1 N2)).setCell (p:=⟨M,1,none⟩) (by show B<=M;omega) (az aJ P)
 have BJ:M<((W3.setCell ⟨M,0,none⟩ (aA aK N1 N2)).setCell ⟨M,1,none⟩ (az aJ P)).heap.size:=by simpa using hz3
 generalize(W3.setCell ⟨M,0,none⟩ (aA aK N1 N2)).setCell ⟨M,1,none⟩ (az aJ P)=W4 at*;have fB:B+1+1<W4.heap.size:=ahi hz2 BJ;have jA:B<=W4.heap.size:=aa
 clear ZI po G5 jy n0 n1 f0 f1 hN hz3;have a0:=cell_of G6 0;have a1:=cell_of G6 1;have a2:=cell_of G6 2;have a3:=cell_of G6 3;have a4:=cell_of G7 0;have a5:=cell_of G7 1;have a6:=cell_of G7 2;have a7:=cell_of G7 3;simp at a0 a1 a2 a3 a4 a5 a6 a7;have aq0:=cL Ek;have aq1:=cK Ek;have ay0:=bK Ek 0;have ay1:=bK Ek 1;clear G6 G7;obtain⟨m1,m2,m3⟩:=BH;have m4:=Ne.symm m3;have kJ:¬(B=B+1+1):=aa
 have tU:¬(B+1+1=B):=aa
 have hn3:¬(B+1=B+1+1):=aa
 have hn4:¬(B+1+1=B+1):=aa
 have hn5:¬(B=B+2):=aa
 have hn6:¬(B+2=B):=aa
 cases u1
 .refine wp_region_held_drew (S:=(λw'=>w'.cell? ⟨B,0,none⟩=some (aA aK wa wb)/\w'.cell? ⟨B,1,none⟩=some (aB aK sh)/\w'.cell? ⟨B,2,none⟩=some (aA aK fa fb)/\w'.cell? ⟨B,3,none⟩=some (aA aK ta tb)/\w'.cell? ⟨B+1,0,none⟩=some (aA aK kQ kR)/\w'.cell? ⟨B+1,1,none⟩=some (aB aK sh')/\w'.cell? ⟨B+1,2,none⟩=some (aA aK om ou)/\w'.cell? ⟨B+1,3,none⟩=some (aA aK oz oC)/\w'.cell? ⟨M,0,none⟩=some (aA aK N1 N2)/\w'.cell? ⟨M,1,none⟩=some (az aJ P)/\w'.frozen? ⟨B+1+1,0,none⟩=false/\w'.frozen? ⟨B+1+1,1,none⟩=false)) ag ⟨a0,a1,a2,a3,a4,a5,a6,a7,a8,a9,ay0,ay1⟩ (λhHeld=>?_)
  iterate 3
   (
    refine mB (oi:={dst:=_,op:=_,type:=_,pos:=_,after:=_,guard:=_}) (v:=?_) rfl rfl (by rfl) hHeld ?_ ?_
    rotate_left
    .intro w' bY;obtain⟨s0,s1,s2,s3,s4,s5,s6,s7,s8,s9,Rx,Ry⟩:=bY
     go_simp
     try with_reducible rfl
    simp only[Act.put,dY,dZ,dL])
  refine wpAnyH_ready (rs:=[3]) ag af ?_
  refine AllReadyH.cons rfl (λK hK=>?_) AllReadyH.nil
  go_simp
  refine(HX.out _).mono ?_;rintro e w6 ⟨rfl,bp⟩;have hbz:B+1+1<w6.heap.size:=bW fB bp.size;have lM:M<w6.heap.size:=bW BJ bp.size;have b0:=aQ bp a0 (eY (eY fB));have b1:=aQ bp a1 (eY (eY fB));have b2:=aQ bp a2 (eY (eY fB));have b3:=aQ bp a3 (eY (eY fB));have b4:=aQ bp a4 (eY fB);have b5:=aQ bp a5 (eY fB);have b6:=aQ bp a6 (eY fB);have b7:=aQ bp a7 (eY fB);have b8:=aQ bp a8 BJ;have b9:=aQ bp a9 BJ;have vI:=(bp.block (B+1+1) fB).trans Ek;have ZJ:=cL vI;have ZK:=cK vI;have Rz:=bK vI 0;have RA:=bK vI 1
  go_wp2_with fail
  refine hK.out _ _ ⟨b0,b1,b2,b3,b4,b5,b6,b7,b8,b9,Rz,RA⟩ (λhHeld=>?_)
  clear hK K
  try simp only[Act.put,dY,dZ,dL]
  refine mB (oi:={dst:=_,op:=_,type:=_,pos:=_,after:=_,guard:=_}) (v:=?_) rfl rfl (by rfl) hHeld ?_ ?_
  rotate_left
  .intro w' bY;obtain⟨s0,s1,s2,s3,s4,s5,s6,s7,s8,s9,Rx,Ry⟩:=bY
   go_simp
   try with_reducible rfl
  simp only[Act.put,dY,dZ,dL]
  iterate 3
   (
    refine Dl (oi:={dst:=_,op:=_,type:=_,pos:=_,after:=_,guard:=_}) rfl rfl hHeld ?_;simp only[Act.put,dY,dZ,dL])
  refine mB (oi:={dst:=_,op:=_,type:=_,pos:=_,after:=_,guard:=_}) (v:=?_) rfl rfl (by rfl) hHeld ?_ ?_
  rotate_left
  .intro w' bY;obtain⟨s0,s1,s2,s3,s4,s5,s6,s7,s8,s9,Rx,Ry⟩:=bY
   go_simp
   try with_reducible rfl
  simp only[Act.put,dY,dZ,dL];refine wpAnyH_ready (rs:=[9]) ag af ?_
  refine AllReadyH.cons rfl (λK hK=>?_) AllReadyH.nil
  go_simp
  simp only[iH]
  go_simp
  refine hK.out _ _ ?_ (λhHeld=>?_)
  .refine⟨?_,?_,?_,?_,?_,?_,?_,?_,?_,?_,?_,?_⟩<;>simp[World.frozen?_setCell,go_sem,b0,b1,b2,b3,b4,b5,b6,b7,b8,b9,Rz,RA]
  clear hK K
  try simp only[Act.put,dY,dZ,dL]
  refine mB (oi:={dst:=_,op:=_,type:=_,pos:=_,after:=_,guard:=_}) (v:=?_) rfl rfl (by rfl) hHeld ?_ ?_
  rotate_left
  .intro w' bY;obtain⟨s0,s1,s2,s3,s4,s5,s6,s7,s8,s9,Rx,Ry⟩:=bY
   go_simp
   try with_reducible rfl
  simp only[Act.put,dY,dZ,dL];refine wpAnyH_done ag ?_ _
  go_wp2_with fail
  refine bodyPost_ret (v:=aI #[aC #[aA aK N1 N2,az aJ P],aD false]) (by simp[results,results123,go_sem,ZJ,ZK]) rfl ⟨rfl,?_⟩
  rw[hB];exact((G8.drew.trans (bp.mono jA)).setCell (by show B<=B+1+1;omega) _).setCell (by show B<=B+1+1;omega) _
 .go_region_held3 (λw'=>w'.cell? ⟨B,0,none⟩=some (aA aK wa wb)/\w'.cell? ⟨B,1,none⟩=some (aB aK sh)/\w'.cell? ⟨B,2,none⟩=some (aA aK fa fb)/\w'.cell? ⟨B,3,none⟩=some (aA aK ta tb)/\w'.cell? ⟨B+1,0,none⟩=some (aA aK kQ kR)/\w'.cell? ⟨B+1,1,none⟩=some (aB aK sh')/\w'.cell? ⟨B+1,2,none⟩=some (aA aK om ou)/\w'.cell? ⟨B+1,3,none⟩=some (aA aK oz oC)/\w'.cell? ⟨M,0,none⟩=some (aA aK N1 N2)/\w'.cell? ⟨M,1,none⟩=some (az aJ P)/\w'.frozen? ⟨B+1+1,0,none⟩=false/\w'.frozen? ⟨B+1+1,1,none⟩=false) (first |go_keep|(go_split_ands;refine⟨?_,?_,?_,?_,?_,?_,?_,?_,?_,?_,?_,?_⟩<;>first |(simp[World.frozen?_setCell, *];done)|(simp[*];done))) (first
   |(go_at_call_of 62 (Value.agg #[Value.complex FloatKind.f64 wa wb,Value.float FloatKind.f64 sh,Value.complex FloatKind.f64 fa fb,Value.complex FloatKind.f64 ta tb]);refine(HX.out _).mono ?_;rintro e w6 ⟨rfl,bp⟩;have hbz:B+1+1<w6.heap.size:=bW fB bp.size;have lM:M<w6.heap.size:=bW BJ bp.size;have b0:=aQ bp a0 (eY (eY fB));have b1:=aQ bp a1 (eY (eY fB));have b2:=aQ bp a2 (eY (eY fB));have b3:=aQ bp a3 (eY (eY fB));have b4:=aQ bp a4 (eY fB);have b5:=aQ bp a5 (eY fB);have b6:=aQ bp a6 (eY fB);have b7:=aQ bp a7 (eY fB);have b8:=aQ bp a8 BJ;have b9:=aQ bp a9 BJ;have vI:=(bp.block (B+1+1) fB).trans Ek;have ZJ:=cL vI;have ZK:=cK vI;have Rz:=bK vI 0;have RA:=bK vI 1)
   |(go_at_call_of 62 (Value.agg #[Value.complex FloatKind.f64 kQ kR,Value.float FloatKind.f64 sh',Value.complex FloatKind.f64 om ou,Value.complex FloatKind.f64 oz oC]);refine(HY.out _).mono ?_;rintro e w7 ⟨rfl,bu⟩;have hcz:B+1+1<w7.heap.size:=bW hbz bu.size;have hcm:M<w7.heap.size:=bW lM bu.size;have c0:=aQ bu b0 (eY (eY hbz));have c1:=aQ bu b1 (eY (eY hbz));have c2:=aQ bu b2 (eY (eY hbz));have c3:=aQ bu b3 (eY (eY hbz));have c4:=aQ bu b4 (eY hbz);have c5:=aQ bu b5 (eY hbz);have c6:=aQ bu b6 (eY hbz);have c7:=aQ bu b7 (eY hbz);have c8:=aQ bu b8 lM;have c9:=aQ bu b9 lM;have hce:=(bu.block (B+1+1) hbz).trans vI;have cq0:=cL hce;have cq1:=cK hce;have cy0:=bK hce 0;have cy1:=bK hce 1)
   |(simp only[iH];go_simp))
  go_wp2_with fail
  refine bodyPost_ret (v:=aI #[aC #[aA aK N1 N2,az aJ P],aD u2]) (by simp[results,results123,go_sem,cq0,cq1]) rfl ⟨rfl,?_⟩
  rw[hB];exact(((G8.drew.trans (bp.mono jA)).trans (bu.mono (fF (eY (eY hbz))))).setCell (by show B<=B+1+1;omega) _).setCell (by show B<=B+1+1;omega) _
end
end Go.Proofs.YtkjhhooecopolaaGreatDoor
namespace Go.Proofs.YtkjhhooecopolaaGreatDoor.Ge
open Tryz
open Value renaming int->az,complex->aA,float->aB,agg->aC,bool->aD,string->aF,slice->aG,pointer->aH,tuple->aI
open IntKind renaming i64->aJ
open FloatKind renaming f64->aK
open Ending renaming returned->aL
open Go renaming World->aM,Value->aN,floatOfInt->aO
theorem L8{n:Nd}(h:Can n)(e:Pt×Pt):hq (aU n) e=fo (n.1,n.2.1) n.2.2 e:=by
 obtain⟨X,Y,P⟩:=n;have hp:0<P:=h.pos;obtain⟨g,g0,e1,e2,gp⟩:=vt (n:=X) (d:=P) aa
 obtain⟨k,k0,e3,e4,kp⟩:=vt (n:=Y) (d:=P) aa
 have mH:=bJ (gp.2 hp) (kp.2 hp);unfold hq aU;show fo ((bO X P).1*(bO Y P).2,(bO Y P).1*(bO X P).2) ((bO X P).2*(bO Y P).2) e=fo (X,Y) P e;rw[<-Zq (x:=P*X) (y:=P*Y) (d:=P*P) hp rfl rfl rfl e];generalize bO X P=A at*;generalize bO Y P=B at*;have q1:P*X=g*k*(A.1*B.2):=by rw[e1];grind
 have q2:P*Y=g*k*(B.1*A.2):=by rw[e3];grind
 have q3:P*P=g*k*(A.2*B.2):=by grind
 exact(Zq mH q1 q2 q3 e).symm
end Go.Proofs.YtkjhhooecopolaaGreatDoor.Ge
namespace Go.Proofs.YtkjhhooecopolaaGreatDoor
open Tryz
open Value renaming int->az,complex->aA,float->aB,agg->aC,bool->aD,string->aF,slice->aG,pointer->aH,tuple->aI
open IntKind renaming i64->aJ
open FloatKind renaming f64->aK
open Ending renaming returned->aL
open Go renaming World->aM,Value->aN,floatOfInt->aO
open Go.RowKit
theorem uj{n:Ge.Nd}(h:fC n.1 n.2.1 n.2.2):Fl (aO aK n.1) n.1/\Fl (aO aK n.2.1) n.2.1:=by
 have hx:=h.x;have hy:=h.y;exact⟨tZ aa,tZ aa⟩
theorem akw(x y:EB)(e f:Ed)(hx:lK x e)(hy:lK y f)(he:gS e)(hf:gS f):
  ∃(v:Ge.Nd)(b:Bool)(nv:aN),(∀w,ak 123 #[aC x.cells,aC y.cells] w λr w'=>r=aL (aI #[nv,aD b])/\aj w w')
   /\(∃N1 N2 P,nv=aC #[aA aK N1 N2,az aJ P])
   /\(b=true↔Ge.dO e f≠0/\Ge.hq (Ge.gK e f) e=true/\Ge.hq (Ge.gK e f) f=true)
   /\(b=true->nv=jb v/\Ge.Can v/\Ge.aU v=Ge.gK e f/\fC v.1 v.2.1 v.2.2):=by
 by_cases hc:Ge.dO e f=0
 .refine⟨(0,0,1),false,_,λw=>akq x y w (λw=>?_),⟨_,_,_,rfl⟩,?_,?_⟩
  .have:=ZA x y e f hx hy he hf w;rw[iD hc] at this;exact this
  .simp[hc]
  .simp
 .obtain⟨n,n1,n2,n3,hC⟩:=akp x y e f hx hy he hf hc;obtain⟨f1,f2⟩:=uj n3;refine⟨n,Ge.hq (Ge.gK e f) e&&Ge.hq (Ge.gK e f) f,_,λw=>akr x y (aO aK n.1) (aO aK n.2.1) n.2.2 _ _ w (λw=>?_) hC (λw=>?_) (λw=>?_),⟨_,_,_,rfl⟩,?_,?_⟩
  .have:=ZA x y e f hx hy he hf w;rw[jU hc] at this;exact this
  .rw[<-n2,Ge.L8 n1];exact K7 x e hx he f1 f2 n3 w
  .rw[<-n2,Ge.L8 n1];exact K7 y f hy hf f1 f2 n3 w
  .simp[hc]
  .exact λ_=>⟨rfl,n1,n2,n3⟩
end Go.Proofs.YtkjhhooecopolaaGreatDoor
namespace Go.Proofs.YtkjhhooecopolaaGreatDoor
open Tryz
open Value renaming int->az,complex->aA,float->aB,agg->aC,bool->aD,string->aF,slice->aG,pointer->aH,tuple->aI
open IntKind renaming i64->aJ
open FloatKind renaming f64->aK
open Ending renaming returned->aL
open Go renaming World->aM,Value->aN,floatOfInt->aO
section
open Go.RowKit
variable{a b s:Nat}
theorem ZL{x:Int}(h:Fl a x)(w:aM):
  ak 227 #[aB aK a] w λr w'=>r=aL (aD false)/\w'=w:=by
 have q:(FloatKind.f64.format.order a a == some Ordering.eq)=true:=by rw[vk h h];simp
 have q2:(FloatKind.f64.format.order a a)=some Ordering.eq:=by simpa using q
 go_enter func227,ntmps227
 go_wp2_with fail
 go_ret
 exact⟨af,rfl⟩
theorem BK{x y:Int}(h1:Fl a x)(h2:Fl b y)(w:aM):
  ak 183 #[aB aK a,aB aK b] w λr w'=>r=aL (az aJ (x-y).sign)/\w'=w:=by
 have H1:Hid (∀w,ak 227 #[aB aK a] w λr w'=>r=aL (aD false)/\w'=w):=λw=>ZL h1 w
 have H2:Hid (∀w,ak 227 #[aB aK b] w λr w'=>r=aL (aD false)/\w'=w):=λw=>ZL h2 w
 have q1:=DT h1 h2;have q2:=K2 h1 h2;rcases gf x y with h|h|h
 .have hs:(x-y).sign= -1:=yI aa
  have hq:(FloatKind.f64.format.order a b == some Ordering.lt)=true:=by rw[q1];simp[h]
  rw[hs];clear q1 q2
  go_enter func183,ntmps183
  go_wp2_with fail
  refine(H1.out _).mono ?_;rintro e w1 ⟨rfl,rfl⟩
  go_wp2_with fail
  refine(H2.out _).mono ?_;rintro e w2 ⟨rfl,rfl⟩
  go_wp2_with fail
  go_ret
  exact⟨rfl,rfl⟩
 .have hs:(x-y).sign=0:=by rw[h,ag8];rfl
  have hq:(FloatKind.f64.format.order a b == some Ordering.lt)=false:=by rw[q1];simp;omega
  have hq2:(FloatKind.f64.format.order a b == some Ordering.gt)=false:=by rw[q2];simp;omega
  rw[hs];clear q1 q2
  go_enter func183,ntmps183
  go_wp2_with fail
  refine(H1.out _).mono ?_;rintro e w1 ⟨rfl,rfl⟩
  go_wp2_with fail
  refine(H2.out _).mono ?_;rintro e w2 ⟨rfl,rfl⟩
  go_wp2_with fail
  go_ret
  exact⟨rfl,rfl⟩
 .have hs:(x-y).sign=1:=nV aa
  have hq:(FloatKind.f64.format.order a b == some Ordering.lt)=false:=by rw[q1];simp;omega
  have hq2:(FloatKind.f64.format.order a b == some Ordering.gt)=true:=by rw[q2];simp[h]
  rw[hs];clear q1 q2
  go_enter func183,ntmps183
  go_wp2_with fail
  refine(H1.out _).mono ?_;rintro e w1 ⟨rfl,rfl⟩
  go_wp2_with fail
  refine(H2.out _).mono ?_;rintro e w2 ⟨rfl,rfl⟩
  go_wp2_with fail
  go_ret
  exact⟨rfl,rfl⟩
namespace Ge
def takes(r t:Int):Bool:=if r=101 then decide (t.tmod 2≠0) else if r=110 then decide (t≠0) else if r=43 then decide (0<t) else decide (t<0)
def rule(r:Int):Bool:=decide (r=101)||decide (r=110)||decide (r=43)||decide (r=45)
end Ge
theorem ZM(r:Int)(w:aM):ak 66 #[az .u8 r] w λe w'=>e=aL (aD (Ge.rule r))/\w'=w:=by
 by_cases h1:r=101
 .subst h1
  go_enter func66,ntmps66
  go_wp2_with fail
  go_ret
  exact⟨rfl,rfl⟩
 .by_cases h2:r=110
  .subst h2
   go_enter func66,ntmps66
   go_wp2_with fail
   go_ret
   exact⟨rfl,rfl⟩
  .by_cases h3:r=43
   .subst h3
    go_enter func66,ntmps66
    go_wp2_with fail
    go_ret
    exact⟨rfl,rfl⟩
   .have hv:Ge.rule r=(r == 45):=by
     unfold Ge.rule;simp only[h1,h2,h3,decide_false,Wv];rfl
    rw[hv];have b1:(r == 101)=false:=tJ.2 h1;have b2:(r == 110)=false:=tJ.2 h2;have b3:(r == 43)=false:=tJ.2 h3;clear h1 h2 h3 hv
    go_enter func66,ntmps66
    go_wp2_with fail
    go_ret
    exact⟨rfl,rfl⟩
theorem akx(r t:Int)(w:aM):ak 106 #[az .u8 r,az aJ t] w λe w'=>e=aL (aD (Ge.takes r t))/\w'=w:=by
 by_cases h1:r=101
 .subst h1
  go_enter func106,ntmps106
  go_wp2_with fail
  refine bodyPost_ret (v:=aD (t.tmod 2 != 0)) (by simp[results,results106,go_sem]) rfl ⟨?_,rfl⟩
  unfold Ge.takes;rw[aV rfl];by_cases h:t.tmod 2=0<;>simp[h]
 .have b1:(r == 101)=false:=tJ.2 h1;by_cases h2:r=110
  .subst h2
   go_enter func106,ntmps106
   go_wp2_with fail
   refine bodyPost_ret (v:=aD (t != 0)) (by simp[results,results106,go_sem]) rfl ⟨?_,rfl⟩
   unfold Ge.takes;rw[aP ah,aV rfl]
   by_cases h:t=0<;>simp[h]
  .have b2:(r == 110)=false:=tJ.2 h2;by_cases h3:r=43
   .subst h3
    go_enter func106,ntmps106
    go_wp2_with fail
    refine bodyPost_ret (v:=aD (decide (0<t))) (by simp[results,results106,go_sem]) rfl ⟨?_,rfl⟩
    unfold Ge.takes;rw[aP ah,aP ah,aV rfl]
   .have b3:(r == 43)=false:=tJ.2 h3;have hv:Ge.takes r t=decide (t<0):=by
     unfold Ge.takes;rw[aP h1,aP h2,aP h3]
    rw[hv];clear hv h1 h2 h3
    go_enter func106,ntmps106
    go_wp2_with fail
    refine bodyPost_ret (v:=aD (decide (t<0))) (by simp[results,results106,go_sem]) rfl ⟨rfl,rfl⟩
theorem ZN(a b s:Nat)(w:aM):ak 162 #[aC #[aA aK a b,aB aK s]] w λe w'=>e=aL (aC #[aA aK (Op.negFloat aK a) (Op.negFloat aK b),aB aK (Op.negFloat aK s)])/\aj w w':=by
 have GG:∀w,(Op.unary .neg (aA aK a b)).run prog w=.ok (aA aK (Op.negFloat aK a) (Op.negFloat aK b)) w:=λ_=>rfl
 have zk:∀w,(Op.unary .neg (aB aK s)).run prog w=.ok (aB aK (Op.negFloat aK s)) w:=λ_=>rfl
 generalize Op.negFloat aK a=A at*;generalize Op.negFloat aK b=B at*;generalize Op.negFloat aK s=S at*
 go_enter func162,ntmps162
 go_wp2_with (simp only[iH,qO];go_simp)
 refine bodyPost_ret (v:=aC #[aA aK A B,aB aK S]) (by simp[results,results162,go_sem]) rfl ⟨rfl,?_⟩
 exact(aw _ _).alloc af _
namespace Ge
abbrev Ln:=Int×Int×Int
def El(l:Ln):Ln:=(-l.1, -l.2.1, -l.2.2)
def down(l:Ln):Bool:=decide (l.1<0)||(decide (l.1=0)&&decide (l.2.1<0))
def jc(l:Ln):Ln:=if down l then El l else l
end Ge
structure qZ(a b s:Nat)(l:Ge.Ln):Prop where
 a:Fl a l.1
 b:Fl b l.2.1
 s:Fl s l.2.2
theorem qZ.neg{l:Ge.Ln}(h:qZ a b s l):qZ (Op.negFloat aK a) (Op.negFloat aK b) (Op.negFloat aK s) (Ge.El l):=⟨h.a.neg,h.b.neg,h.s.neg⟩
theorem aky{l:Ge.Ln}(h:qZ a b s l):
  ∃a' b' s',qZ a' b' s' (Ge.jc l)/\∀w,ak 198 #[aC #[aA aK a b,aB aK s]] w λe w'=>e=aL (aC #[aA aK a' b',aB aK s'])/\aj w w':=by
 have q1:=DT h.a mV;have q2:=vk h.a mV;have q3:=DT h.b mV;have hn:=h.neg;have HR:Hid (∀w,ak 162 #[aC #[aA aK a b,aB aK s]] w λe w'=>e=aL (aC #[aA aK (Op.negFloat aK a) (Op.negFloat aK b),aB aK (Op.negFloat aK s)])/\aj w w'):=λw=>ZN a b s w
 unfold Ge.jc;cases hd:Ge.down l
 .refine⟨a,b,s,h,λw=>?_⟩
  have hb0:aj w (w.alloc (.cells #[aA aK a b,aB aK s] 122)):=aw _ _;unfold Ge.down at hd;rw[<-q1,<-q2,<-q3] at hd;clear h hn q1 q2 q3 HR;generalize hp1:(FloatKind.f64.format.order a 0 == some Ordering.lt)=p1 at hd;generalize hp2:(FloatKind.f64.format.order a 0 == some Ordering.eq)=p2 at hd;generalize ue:(FloatKind.f64.format.order b 0 == some Ordering.lt)=p3 at hd;cases p1<;>cases p2<;>cases p3<;>simp at hd
  all_goals
   go_enter func198,ntmps198
   go_wp2_with (simp only[iH,qO];go_simp)
   refine bodyPost_ret (v:=aC #[aA aK a b,aB aK s]) (by simp[results,results198,go_sem]) rfl ⟨rfl,?_⟩
   exact(aw _ _).alloc af _
 .refine⟨_,_,_,hn,λw=>?_⟩
  unfold Ge.down at hd;rw[<-q1,<-q2,<-q3] at hd;clear h hn q1 q2 q3;generalize Op.negFloat aK a=A at*;generalize Op.negFloat aK b=B at*;generalize Op.negFloat aK s=S at*;generalize hp1:(FloatKind.f64.format.order a 0 == some Ordering.lt)=p1 at hd;generalize hp2:(FloatKind.f64.format.order a 0 == some Ordering.eq)=p2 at hd;generalize ue:(FloatKind.f64.format.order b 0 == some Ordering.lt)=p3 at hd;have hb0:aj w ((w.alloc (.cells #[aA aK a b,aB aK s] 122)).alloc (.cells #[aA aK 0 0,aB aK 0] 122)):=(aw _ _).alloc af _
  have hE:=heap_alloc_new (w.alloc (.cells #[aA aK a b,aB aK s] 122)) (.cells #[aA aK 0 0,aB aK 0] 122);have hz:(w.alloc (.cells #[aA aK a b,aB aK s] 122)).heap.size=w.heap.size+1:=af
  have hz2:((w.alloc (.cells #[aA aK a b,aB aK s] 122)).alloc (.cells #[aA aK 0 0,aB aK 0] 122)).heap.size=w.heap.size+2:=af
  rw[hz] at hE;cases p1<;>cases p2<;>cases p3<;>simp at hd
  all_goals
   go_enter func198,ntmps198
   go_wp2_with fail
   generalize(w.alloc (.cells #[aA aK a b,aB aK s] 122)).alloc (.cells #[aA aK 0 0,aB aK 0] 122)=W at*;refine(HR.out _).mono ?_;rintro e w1 ⟨rfl,hb1⟩;have mI:=(hb1.block (w.heap.size+1) aa).trans hE
   have e0:=cL mI;have e1:=cK mI;have z0:=bK mI 0;have z1:=bK mI 1;have aX:=hb0.trans (hb1.mono hb0.size)
   go_wp2_with (simp only[iH,qO];go_simp)
   refine bodyPost_ret (v:=aC #[aA aK A B,aB aK S]) (by simp[results,results198,go_sem,e0,e1]) rfl ⟨rfl,?_⟩
   exact(aX.setCell (p:=⟨w.heap.size+1,0,none⟩) (pT _) _).setCell (p:=⟨w.heap.size+1,1,none⟩) (pT _) _
end
end Go.Proofs.YtkjhhooecopolaaGreatDoor
