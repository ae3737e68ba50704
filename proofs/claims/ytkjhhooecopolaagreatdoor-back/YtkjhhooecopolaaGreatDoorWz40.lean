import Derived.Test.YtkjhhooecopolaaGreatDoorWz39
set_option maxRecDepth 100000
set_option maxHeartbeats 4000000
namespace Go.Proofs.YtkjhhooecopolaaGreatDoor.Gb
open Ge Ga
theorem aaj(r:Int):takes r 0=false:=by
 unfold takes;split
 ·decide
 ·split
  ·decide
  ·split<;>decide
theorem aln{r:Int}(hr:r=101\/r=110\/r=43):takes r 1=true:=by
 rcases hr with h|h|h<;>subst h<;>decide
theorem mG.dY{rg zJ:List (List Pt)}{r:Int}{T:List UInt8}(e:ae rg=ae zJ)(h:mG rg r T):mG zJ r T:=by
 unfold mG at h⊢;rw[<-e];exact h
theorem alo:qW []=JM:=by rw[Bf];rfl
theorem aak{u v n:Int}(hu:small u)(hv:small v)(h:(1*u-n)*(1*v-n)<=0):fX n:=by
 unfold small at hu hv;unfold fX;apply fV;intro hn;have:n< -50\/50<n:=by omega
 rcases this with q|q
 ·have:=aR (show 0<1*u-n by omega) (show 0<1*v-n by omega)
  omega
 ·have:=Fx (show 1*u-n<0 by omega) (show 1*v-n<0 by omega)
  omega
theorem alp{es:List (Pt×Pt)}{l:List Nd}(hs:∀e∈es,eO e)(hN:bC es l){n:Nd}(hn:n∈l)(h1:n.2.2=1):fX n.1/\fX n.2.1:=by
 have fZ:=hN.can n hn;have hi:isNode es (ax n):=by
  refine((xP _).2.2 _).1 ?_;rw[<-hN.map];exact aN.2 ⟨n,hn,rfl⟩
 have Fj:∀z:Pt,ax n=pt z->n=(z.1,z.2,1):=fun z e=>zT fZ (DW z) (by rw[DX];exact e)
 rcases hi with⟨e,he,q|q⟩|⟨e,he,f,hf,_,hq,o1,_⟩
 ·rw[Fj _ q];exact⟨(hs e he).a,(hs e he).b⟩
 ·rw[Fj _ q];exact⟨(hs e he).c,(hs e he).d⟩
 ·rw[<-hq,zW fZ] at o1;obtain⟨_,k1,k2⟩:=(abx _ _).1 o1;unfold rel at k1 k2;rw[h1] at k1 k2;exact⟨aak (hs e he).a (hs e he).c k1,aak (hs e he).b (hs e he).d k2⟩
theorem alq{rg:List (List Pt)}{r:Int}{T:List UInt8}(hs:∀e∈ae rg,eO e)(h:mG rg r T)(h0:(Pl.err T).1=0):
  Pl.oM T=T/\(∀r' T',(r'=101\/r'=110\/r'=43)->mG (Pl.rings T) r' T'->T'=T)/\∀T',mG (Pl.rings T) 45 T'->T'=JM:=by
 obtain⟨Ps,l,h1,h2,h3,h4,hT⟩:=h;have hX:=AG (r:=r) h1 h2 h3;have hB:=E6 (r:=r) h1 hs h3 h4;generalize kU r (ae rg) Ps=Xs at*;have cF:=SX.canon hX hB;rw[Bf] at hT;have hw:=ali (F:=fin Xs) (by rw[<-hT];exact Pl.alf h0) (fun p hp=>⟨fun n hn=>h2 n ((cF.nd p hp).1 n hn),fun g hg n hn=>h2 n ((cF.nd p hp).2 g hg n hn)⟩)
 have PR:T=Pl.rU ((fin Xs).map cp):=hT.trans (alj hw);have hok:∀gs∈(fin Xs).map cp,∀g∈gs,pN g:=fun gs hgs g hg=>by
  obtain⟨p,hp,rfl⟩:=aN.1 hgs;obtain⟨c,hc,rfl⟩:=aN.1 hg;have hcn:∀n∈c,n.2.2=1/\n∈l:=fun n hn=>by
   rcases aP.1 hc with q|q
   ·rw[q] at hn;exact⟨(hw p hp).1 n hn,(cF.nd p hp).1 n hn⟩
   ·exact⟨(hw p hp).2 c q n hn,(cF.nd p hp).2 c q n hn⟩
  intro x hx;obtain⟨n,hn,rfl⟩:=aN.1 hx;have hn':n∈c:=by
   rcases bQ.1 hn with q|q
   ·exact q
   ·exact qh q
  exact alp hs hX.nl (hcn n hn').2 (hcn n hn').1
 have hlen:=(uk h0).1;obtain⟨k1,k2,k3⟩:=Pl.ak8 hok (by rw[<-PR];exact hlen)
 rw[<-PR] at k1 k2 k3;have hrg:ae (Pl.rings T)=ae ((o9 (fin Xs)).map (·.map dD)):=by
  unfold Pl.rings;rw[k2];exact alm _
 have hs':∀e∈ae ((o9 (fin Xs)).map (·.map dD)),eO e:=by
  rw[<-hrg];exact(Mc h0).2.2.1
 obtain⟨RL,t⟩:=SX.two hX hB (aaj r) hw;refine⟨?_,fun r' T' hr' hF=>?_,fun T' hF=>?_⟩
 ·obtain⟨_,_,m3⟩:=Pl.Tq h0 k3;have e:Pl.oM T=Pl.wt (Pl.took T):=by unfold Pl.oM;rw[aj h0]
  rw[e,m3,k2,<-PR]
 ·obtain⟨PU,l',g1,g2,g3,g4,hT'⟩:=mG.dY hrg hF;have Bp:=AG (r:=r') g1 g2 g3;have hB':=E6 (r:=r') g1 hs' g3 g4;generalize kU r' (ae ((o9 (fin Xs)).map (·.map dD))) PU=iM at*
  have cc:=t.canon Bp hB' (aln hr') (aaj r') rfl cF hw;have e:=(SX.canon Bp hB').eq (SX.wd Bp hB') Bp.nl cc;rw[hT',Bf,e,hT]
 ·obtain⟨PU,l',g1,g2,g3,g4,hT'⟩:=mG.dY hrg hF;have Bp:=AG (r:=45) g1 g2 g3;generalize kU 45 (ae ((o9 (fin Xs)).map (·.map dD))) PU=iM at*
  rw[hT',t.none Bp];exact alo
theorem als{rg:List (List Pt)}{r:Int}{T:List UInt8}(hs:∀e∈ae rg,eO e)(h:mG rg r T):T.length<=20000000000:=by
 obtain⟨Ps,l,h1,h2,h3,h4,hT⟩:=h;have hX:=AG (r:=r) h1 h2 h3;have hB:=E6 (r:=r) h1 hs h3 h4;generalize kU r (ae rg) Ps=Xs at*;have Bg:=hX.pn hB Xs.length (ay _);have ht:=hX.dO hB Xs.length (ay _);have hst:=YP hB Bg;have hJ:=YK hB (YO hB Bg);have hL:=hB.len;rw[hT];unfold qW E5 uO;split
 ·decide
 ·rw[aX,aX];have:yI.length=14:=rfl;simp only[cN,gP];omega
end Go.Proofs.YtkjhhooecopolaaGreatDoor.Gb
namespace Go.Proofs.YtkjhhooecopolaaGreatDoor
open Go.RowKit
namespace Gb
open Ge Ga
def Ke(es:List (Pt×Pt))(l:List Nd):List (Nd×Nd):=es.flatMap fun e=>nexts (held e l)
def Kf(es:List (Pt×Pt))(l:List Nd)(r:Int):List (Nd×Nd):=
 ((Ke es l).filter fun p=>takes r (LL es p.1 p.2)&& !takes r (RR es p.1 p.2))++(((Ke es l).filter fun p=>takes r (RR es p.1 p.2)&& !takes r (LL es p.1 p.2)).map fun p=>(p.2,p.1))
theorem aal{es:List (Pt×Pt)}{l:List Nd}{r:Int}{a b:Nd}:Sd es l (takes r) a b↔(a,b)∈Kf es l r:=by
 have hp:∀f t,cL es l f t↔(f,t)∈Ke es l:=fun f t=>by unfold cL Ke;rw[nu]
 unfold Sd Kf;rw[bQ,eY,aN,hp,hp];constructor
 ·rintro(⟨h1,h2,h3⟩|⟨h1,h2,h3⟩)
  ·exact ag ⟨h1,by simp[h2,h3]⟩
  ·exact ah ⟨(b,a),eY.2 ⟨h1,by simp[h2,h3]⟩,rfl⟩
 ·rintro(⟨h1,h2⟩|⟨q,hq,e⟩)
  ·simp at h2;exact ag ⟨h1,h2.1,h2.2⟩
  ·obtain⟨q1,q2⟩:=q;injection e with e1 e2;subst e1 e2;obtain⟨h1,h2⟩:=eY.1 hq;simp at h2;exact ah ⟨h1,h2.1,h2.2⟩
def PW(p:Nd×Nd):PB:=⟨floatOfInt .f64 (p.2.1-p.1.1),floatOfInt .f64 (p.2.2.1-p.1.2.1),floatOfInt .f64 ((p.2.1-p.1.1)*p.1.2.1-(p.2.2.1-p.1.2.1)*p.1.1),p.1,p.2⟩
def fE:List (List Pt):=[[(0,0),(4,4),(0,4),(4,0)]]
def l0:List Nd:=[(0,0,1),(0,4,1),(2,2,1),(4,0,1),(4,4,1)]
def L0:List (Nd×Nd):=[((0,0,1),(4,0,1)),((0,4,1),(2,2,1)),((2,2,1),(0,0,1)),((2,2,1),(4,4,1)),((4,0,1),(2,2,1)),((4,4,1),(0,4,1))]
theorem nl0:l0.map ax=gV (ae fE):=by decide+kernel
theorem sd0:(∀p∈L0,p∈Kf (ae fE) l0 101)/\(∀p∈Kf (ae fE) l0 101,p∈L0):=by decide+kernel
def X0:List PB:=L0.map PW
theorem PX{x:PB}(h:x∈X0):∃p∈L0,x=PW p:=by
 obtain⟨p,hp,rfl⟩:=aN.1 h;exact⟨p,hp,rfl⟩
theorem aao:∀p∈L0,(p.1.2.2=1/\p.2.2.2=1)/\(p.1.1.natAbs<=4/\p.1.2.1.natAbs<=4/\p.2.1.natAbs<=4/\p.2.2.1.natAbs<=4)/\0<(p.2.1-p.1.1)*(p.2.1-p.1.1)+(p.2.2.1-p.1.2.1)*(p.2.2.1-p.1.2.1)/\((p.2.1-p.1.1)*p.1.2.1-(p.2.2.1-p.1.2.1)*p.1.1).natAbs<=100:=by decide+kernel
theorem Fq{n:Nd}(h:n.2.2=1):Ge.Can n:=by
 obtain⟨a,b,c⟩:=n;have:c=1:=h;subst this;exact DW (a,b)
theorem bd0:BD X0:=by
 refine⟨fun x hx=>?_,fun x hx=>?_,by decide+kernel,by decide⟩
 ·obtain⟨p,hp,rfl⟩:=PX hx;obtain⟨⟨h1,h2⟩,⟨h3,h4,h5,h6⟩,_⟩:=aao p hp;refine⟨⟨by show p.1.1.natAbs<=_;omega,by show p.1.2.1.natAbs<=_;omega,by show 0<p.1.2.2/\p.1.2.2<=_;omega⟩,⟨by show p.2.1.natAbs<=_;omega,by show p.2.2.1.natAbs<=_;omega,by show 0<p.2.2.2/\p.2.2.2<=_;omega⟩,Fq h1,Fq h2⟩
 ·obtain⟨p,hp,rfl⟩:=PX hx;obtain⟨⟨h1,h2⟩,⟨h3,h4,h5,h6⟩,h7,h8⟩:=aao p hp;refine⟨(p.2.1-p.1.1,p.2.2.1-p.1.2.1,(p.2.1-p.1.1)*p.1.2.1-(p.2.2.1-p.1.2.1)*p.1.1),⟨qx (by omega),qx (by omega),qx (by show((p.2.1-p.1.1)*p.1.2.1-(p.2.2.1-p.1.2.1)*p.1.1).natAbs<_;omega)⟩,by show(p.2.1-p.1.1).natAbs<=100;omega,by show(p.2.2.1-p.1.2.1).natAbs<=100;omega,by show((p.2.1-p.1.1)*p.1.2.1-(p.2.2.1-p.1.2.1)*p.1.1).natAbs<=10000;omega,?_,?_,?_,?_⟩
  ·show(p.2.1-p.1.1)*(p.2.2.1*p.1.2.2-p.1.2.1*p.2.2.2)=(p.2.2.1-p.1.2.1)*(p.2.1*p.1.2.2-p.1.1*p.2.2.2);rw[h1,h2];grind
  ·show 0<(p.2.1-p.1.1)*(p.2.1*p.1.2.2-p.1.1*p.2.2.2)+(p.2.2.1-p.1.2.1)*(p.2.2.1*p.1.2.2-p.1.2.1*p.2.2.2);rw[h1,h2];simpa using h7
  ·show(p.2.1-p.1.1)*p.1.2.1-(p.2.2.1-p.1.2.1)*p.1.1=((p.2.1-p.1.1)*p.1.2.1-(p.2.2.1-p.1.2.1)*p.1.1)*p.1.2.2;rw[h1];simp
  ·show(p.2.1-p.1.1)*p.2.2.1-(p.2.2.1-p.1.2.1)*p.2.1=((p.2.1-p.1.1)*p.1.2.1-(p.2.2.1-p.1.2.1)*p.1.1)*p.2.2.2;rw[h2];grind
theorem aap:∀n∈l0,n.2.2=1:=by decide
theorem alv:∀i,i<6->∀j,j<6->(xi X0 i).f=(xi X0 j).f->(xi X0 i).t=(xi X0 j).t->i=j:=by decide+kernel
theorem sx0:SX fE l0 101 X0:=by
 refine⟨⟨nl0,fun n hn=>Fq (aap n hn),fun e he=>GW he⟩,fun x hx=>?_,fun a b h=>?_,fun i j hi hj=>alv i hi j hj⟩
 ·obtain⟨p,hp,rfl⟩:=PX hx;exact aal.2 (sd0.1 p hp)
 ·exact⟨PW (a,b),aN.2 ⟨(a,b),sd0.2 _ (aal.1 h),rfl⟩,rfl,rfl⟩
theorem ps0:(aM X0 X0.length).ps=[([0,4,2],[]),([1,3,5],[])]:=by decide+kernel
theorem fr0:Go.Proofs.YtkjhhooecopolaaGreatDoor.fr X0 [0,4,2]=[(0,0,1),(4,0,1),(2,2,1)]/\Go.Proofs.YtkjhhooecopolaaGreatDoor.fr X0 [1,3,5]=[(0,4,1),(2,2,1),(4,4,1)]:=by decide+kernel
theorem alz:∀e∈ae fE,eO e:=by
 have:∀e∈ae fE,(e.1.1.natAbs<=4/\e.1.2.natAbs<=4)/\e.2.1.natAbs<=4/\e.2.2.natAbs<=4:=by decide+kernel
 intro e he;obtain⟨⟨h1,h2⟩,h3,h4⟩:=this e he;exact⟨⟨by omega,by omega⟩,⟨by omega,by omega⟩,⟨by omega,by omega⟩,⟨by omega,by omega⟩⟩
end Gb
namespace Gb
open Ge Ga
def P0:List Pg:=[([0,4,2],[]),([1,3,5],[])]
theorem alA:∀p∈P0,∀n∈Go.Proofs.YtkjhhooecopolaaGreatDoor.fr X0 p.1,n.2.2=1:=by decide+kernel
theorem alB:mD X0 ([0,4,2],[]) ([1,3,5],[])<0:=by decide+kernel
theorem alC:iZ (mD X0) P0=P0:=by
 obtain⟨s1,s2⟩:=Fa (mD X0) P0 (uM (fun i:Fin P0.length=>Go.Proofs.YtkjhhooecopolaaGreatDoor.fr X0 P0[i].1) fun i a ha=>Fq (alA _ (gw _) a ha))
 generalize iZ (mD X0) P0=Z at s1 s2⊢;have hl:=s1.length_eq;have hn:Z.Nodup:=s1.nodup_iff.2 (by decide)
 match Z,hl,hn,s1,s2 with
 |[x,y],_,hn,s1,s2=>
  have hx:x=([0,4,2],[])\/x=([1,3,5],[]):=by
   have:x∈P0:=s1.mem_iff.1 (by simp)
   simpa[P0] using this
  have hy:y=([0,4,2],[])\/y=([1,3,5],[]):=by
   have:y∈P0:=s1.mem_iff.1 (by simp)
   simpa[P0] using this
  rcases hx with rfl|rfl<;>rcases hy with rfl|rfl
  ·simp at hn
  ·rfl
  ·have:=(fK.1 s2).1 _ (by simp:(([0,4,2],[]):Pg)∈[([0,4,2],[])])
   exact absurd alB this
  ·simp at hn
theorem alD:fin X0=[([(0,0,1),(4,0,1),(2,2,1)],[]),([(0,4,1),(2,2,1),(4,4,1)],[])]:=by
 have hm:(aM X0 X0.length).ps.map (dA X0)=P0:=by
  rw[ps0];simp[dA,iZ,P0]
 unfold fin tA;rw[hm,alC];simp[P0,Zi,fr0.1,fr0.2]
theorem it0:Lib.itoa 0=[48]:=by simp[Lib.itoa,Lib.decDigits]
theorem it2:Lib.itoa 2=[50]:=by simp[Lib.itoa,Lib.decDigits]
theorem it4:Lib.itoa 4=[52]:=by simp[Lib.itoa,Lib.decDigits]
theorem nq(a b:Int)(h:a=0\/a=2\/a=4)(k:b=0\/b=2\/b=4):ax (a,b,1)=((a,1),(b,1)):=by
 rcases h with rfl|rfl|rfl<;>rcases k with rfl|rfl|rfl<;>decide+kernel
def T0:List UInt8:=[77,85,76,84,73,80,79,76,89,71,79,78,32,40,40,40,48,32,48,44,32,52,32,48,44,32,50,32,50,44,32,48,32,48,41,41,44,32,40,40,48,32,52,44,32,50,32,50,44,32,52,32,52,44,32,48,32,52,41,41,41]
theorem text0:qW X0=T0:=by
 rw[Bf,alD];simp[yK,uO,oZ,jD,Pl.bh,Pl.gI,Pl.nM,nq,it0,it2,it4,yI,Lib.join,T0]
theorem alF{T:List UInt8}(h:mG fE 101 T):T=T0:=by
 obtain⟨Ps,l,h1,h2,h3,h4,rfl⟩:=h;have e:l=l0:=ZW h2 (fun n hn=>Fq (aap n hn)) (h1.trans nl0.symm)
 subst e;rw[<-text0];exact akf (AG h1 h2 h3) (E6 h1 alz h3 h4) sx0 bd0 (fun _ _=>Fw)
end Gb
def S0:List UInt8:=[80,79,76,89,71,79,78,32,40,40,48,32,48,44,32,52,32,52,44,32,48,32,52,44,32,52,32,48,41,41]
def S1:List UInt8:=[80,79,76,89,71,79,78,40,40,48,32,48,44,48,52,32,45,48,44,48,32,52,41,41]
def T1:List UInt8:=[80,79,76,89,71,79,78,32,40,40,48,32,48,44,32,52,32,48,44,32,48,32,52,41,41]
theorem alG:Pl.err S0=(0,0):=by decide+kernel
theorem PY:Pl.err S1=(0,0):=by decide+kernel
theorem alH:Pl.rings S0=Gb.fE:=by decide+kernel
theorem aat:(Pl.wd Pl.iq (Pl.all S1)).1=true/\(Pl.cz (Pl.all S1)).2.2=[[[(0,0),(4,0),(0,4)]]]:=by decide+kernel
theorem alI:Pl.oM S1=T1:=by
 obtain⟨gs,h1,_,h3⟩:=Pl.Tp (by rw[PY]) aat.1
 unfold Pl.oM;rw[aj (by rw[PY]),h3]
 have e:gs=[[(0,0),(4,0),(0,4)]]:=(List.cons.inj (h1.symm.trans aat.2)).1;subst e;simp[Pl.fI,Pl.eB,Pl.bh,Pl.jM,Gb.it0,Gb.it4,Pl.iq,T1]
def alJ(w:World)(b o:Nat)(K x y d r:Int)(s:ByteArray):Prop:=
 w.cell? ⟨b,o,none⟩=some (.int .i64 K)/\w.cell? ⟨b,o+1,none⟩=some (.int .i64 x)/\w.cell? ⟨b,o+2,none⟩=some (.int .i64 y)/\w.cell? ⟨b,o+3,none⟩=some (.int .i64 d)/\
  w.cell? ⟨b,o+4,none⟩=some (.int .u8 r)/\w.cell? ⟨b,o+5,none⟩=some (.string s)
def PZ(w:World)(so:Option Addr)(n:Nat):Prop:=
 ∀k,k<n->∃b o K x y d r s,so=some ⟨b,o,none⟩/\b<w.heap.size/\s.size<=maxLen/\alJ w b (o+k*6) K x y d r s
theorem Kg{w w':World}(h:Gl w)(hb:Below w.heap.size w w'):Gl w':=h.below hb h.sz
structure Nx(w W w':World)(o:Obj)(W':World)(X:Nat):Prop where
 eq:W'=w'.alloc o
 gl:Gl W'
 j6:Below w.heap.size w W'
 nw:W'.heap[X]?=some o
 old:∀(k:Nat)(ob:Obj),W.heap[k]?=some ob->W'.heap[k]?=some ob
theorem aau{w W w':World}(o:Obj)(hG:Gl W)(hB:Below w.heap.size w W)(hb:Below W.heap.size W w'):Nx w W w' o (w'.alloc o) w'.heap.size:=by
 have h:=hB.trans (hb.mono hB.size);refine⟨rfl,(Kg hG hb).alloc _,h.alloc h.size _,heap_alloc_new _ _,fun k ob hk=>?_⟩
 have hl:=lt_of_heap hk;rw[Below.heap_alloc _ _ _ (bu hl hb.size),hb.block k hl];exact hk
theorem alK{T:List UInt8}{E P:Nat}(h:wS S0 101 T E P):T=Gb.T0/\E=0/\P=0:=by
 rcases h with⟨a1,_⟩|⟨_,a2,_⟩|⟨_,_,a3,a4,a5⟩
 ·rw[alG] at a1;exact absurd rfl a1
 ·exact absurd a2 (by decide)
 ·rw[alH] at a3;exact⟨Gb.alF a3,a4,a5⟩
theorem aav(w:World)(hG:Gl w):
  Calls Tryz.prog 22 #[] w fun e w'=>e=.returned (.bool true)/\Below w.heap.size w w':=by
 have HP:Hid (∀w1,Gl w1->Calls Tryz.prog 20 #[.string (ba S1)] w1 fun e w'=>e=.returned (.agg #[.string (ba T1),.int .i64 0,.int .i64 0])/\Below w1.heap.size w1 w'):=fun w1 g1=>by
  refine(aab (ba S1) w1 (by unfold maxLen;decide) g1).mono ?_
  rintro e w' ⟨rfl,hb⟩;refine⟨?_,hb⟩;have e1:(ba S1).data.toList=S1:=rfl;rw[e1,PY,alI];rfl
 have HF:Hid (∀w1,Gl w1->Calls Tryz.prog 18 #[.string (ba S0),.int .u8 101] w1 fun e w'=>e=.returned (.agg #[.string (ba Gb.T0),.int .i64 0,.int .i64 0])/\Below w1.heap.size w1 w'):=fun w1 g1=>by
  refine(J9 (ba S0) 101 w1 (by unfold maxLen;decide) g1).mono ?_
  rintro e w' ⟨⟨T,E,P,rfl,h⟩,hb⟩;obtain⟨rfl,rfl,rfl⟩:=alK h;exact⟨rfl,hb⟩
 go_enter Tryz.func22,Tryz.ntmps22
 go_wp2_with fail
 refine(HP.out _ hG).mono ?_;rintro e w1 ⟨rfl,hb1⟩;have g1:Gl w1:=Kg hG hb1;generalize oJ:ba T1=B1;have n1:=aau (.cells #[.string B1,.int .i64 0,.int .i64 0] 38) hG (Below.refl _ _) hb1
 go_wp2_with fail
 generalize w1.alloc (.cells #[.string B1,.int .i64 0,.int .i64 0] 38)=W1 at*;generalize w1.heap.size=X1 at*;have vN:=n1.gl;have hXa:=n1.nw;have hBa:=n1.j6;clear n1 hb1 g1;refine(HF.out _ vN).mono ?_;rintro e w2 ⟨rfl,hb2⟩;generalize M4:ba Gb.T0=B2;have n2:=aau (.cells #[.string B2,.int .i64 0,.int .i64 0] 38) vN hBa hb2;have Kh:=n2.old _ _ hXa;have Ki:=n2.nw;have hBb:=n2.j6;have a0:(w2.alloc (.cells #[.string B2,.int .i64 0,.int .i64 0] 38)).cell? ⟨X1,0,none⟩=some (.string B1):=cell_of Kh 0;have a1:(w2.alloc (.cells #[.string B2,.int .i64 0,.int .i64 0] 38)).cell? ⟨X1,1,none⟩=some (.int .i64 0):=cell_of Kh 1;have a2:(w2.alloc (.cells #[.string B2,.int .i64 0,.int .i64 0] 38)).cell? ⟨X1,2,none⟩=some (.int .i64 0):=cell_of Kh 2;have b0:(w2.alloc (.cells #[.string B2,.int .i64 0,.int .i64 0] 38)).cell? ⟨w2.heap.size,0,none⟩=some (.string B2):=cell_of Ki 0;have b1:(w2.alloc (.cells #[.string B2,.int .i64 0,.int .i64 0] 38)).cell? ⟨w2.heap.size,1,none⟩=some (.int .i64 0):=cell_of Ki 1;have b2:(w2.alloc (.cells #[.string B2,.int .i64 0,.int .i64 0] 38)).cell? ⟨w2.heap.size,2,none⟩=some (.int .i64 0):=cell_of Ki 2;clear n2 hXa Kh Ki vN hb2 hBa
 go_wp2_with fail
 ·go_ret
  exact⟨rfl,hBb⟩
 ·rename_i h
  refine absurd ?_ h;rw[<-M4];exact ByteArray.toList_mk _
 ·rename_i h
  refine absurd ?_ h;rw[<-oJ];exact ByteArray.toList_mk _
theorem alL(T:List UInt8):(ba T).toList=T:=ByteArray.toList_mk _
theorem Qa(T:List UInt8):(ba T).data.toList=T:=rfl
theorem alM(T:List UInt8):(ba T).size=T.length:=by
 show T.toArray.size=_;simp
theorem aax{w:World}{a:Addr}{v:Value}{o:Obj}(h:w.cell? a=some v):(w.alloc o).cell? a=some v:=(World.cell?_alloc_some w a o (by rw[h];rfl)).trans h
theorem Qb(w7:World)(i:Nat)(hi:i<3):(w7.alloc (.cells #[.string ⟨#[]⟩,.int .i64 0,.int .i64 0] 38)).frozen? ⟨w7.heap.size,i,none⟩=false:=by
 match i,hi with
 |0,_=>exact bw (heap_alloc_new _ _) 0
 |1,_=>exact bw (heap_alloc_new _ _) 1
 |2,_=>exact bw (heap_alloc_new _ _) 2
structure Old(w W:World)(bl:List (Nat×Obj)):Prop where
 j6:Below w.heap.size w W
 gl:Gl W
 ob:∀p∈bl,W.heap[p.1]?=some p.2
section
variable{w W W':World}{bl:List (Nat×Obj)}
theorem Old.next(h:Old w W bl)(hb:Below W.heap.size W W'):Old w W' bl:=⟨h.j6.trans (hb.mono h.j6.size),Kg h.gl hb,fun p hp=>(hb.block _ (lt_of_heap (h.ob p hp))).trans (h.ob p hp)⟩
theorem Old.drew(h:Old w W bl):Old w W.drew bl:=⟨h.j6.drew,h.gl.drew,h.ob⟩
theorem Old.alloc(h:Old w W bl)(o:Obj):Old w (W.alloc o) ((W.heap.size,o)::bl):=by
 refine⟨h.j6.alloc h.j6.size _,h.gl.alloc _,fun p hp=>?_⟩
 rcases aP.1 hp with q|q
 ·rw[q];exact heap_alloc_new _ _
 ·exact(Below.heap_alloc _ _ _ (lt_of_heap (h.ob p q))).trans (h.ob p q)
theorem Old.set(hG:Gl w){B o:Nat}{c:Array Value}{T:TypeId}(h:Old w W ((B,.cells c T (0,0))::bl))(hB:w.heap.size<=B)(hn:∀p∈bl,p.1≠B)(v:Value):Old w (W.setCell ⟨B,o,none⟩ v) ((B,.cells (c.setIfInBounds o v) T (0,0))::bl):=by
 have hb:Below w.heap.size w (W.setCell ⟨B,o,none⟩ v):=h.j6.setCell hB _;refine⟨hb,Kg hG hb,fun p hp=>?_⟩
 rcases aP.1 hp with q|q
 ·rw[q];exact heap_set (h.ob _ (FT ..)) v
 ·exact(ir (hn p q) v).trans (h.ob p (aT _ q))
theorem Old.tl{x:Nat×Obj}(h:Old w W (x::bl)):Old w W bl:=⟨h.j6,h.gl,fun p hp=>h.ob p (aT _ hp)⟩
theorem Old.h1{x:Nat×Obj}(h:Old w W (x::bl)):W.heap[x.1]?=some x.2:=h.ob x (FT ..)
end
def GlB(wr:World):Prop:=Gl (wr.alloc (.cells #[.string ⟨#[]⟩,.int .i64 0,.int .i64 0] 38)).drew
theorem alO{w w7:World}{bl:List (Nat×Obj)}(T:ByteArray)(E Pp:Int)(h:Old w w7 bl):∃WF XF,WF=w7.alloc (.cells #[.string T,.int .i64 E,.int .i64 Pp] 38)/\XF=w7.heap.size/\Hid (Old w WF ((XF,.cells #[.string T,.int .i64 E,.int .i64 Pp] 38 (0,0))::bl)):=⟨_,_,rfl,rfl,h.alloc _⟩
theorem alP{w w7:World}{B:Nat}{bl:List (Nat×Obj)}(hG:Gl w)(T:ByteArray)(E Pp:Int)(h:Old w w7 ((B,(.cells #[.string ⟨#[]⟩,.int .i64 0,.int .i64 0] 38 (0,0)))::bl)/\w.heap.size<=B/\∀p∈bl,p.1≠B):∃WF XF,WF=((w7.setCell ⟨B,0,none⟩ (.string T)).setCell ⟨B,1,none⟩ (.int .i64 E)).setCell ⟨B,2,none⟩ (.int .i64 Pp)/\XF=B/\Hid (Old w WF ((XF,.cells #[.string T,.int .i64 E,.int .i64 Pp] 38 (0,0))::bl)):=by
 obtain⟨h1,h2,h3⟩:=h;exact⟨_,_,rfl,rfl,((h1.set hG h2 h3 _).set hG h2 h3 _).set hG h2 h3 _⟩
structure BK(TT:ByteArray)(E P:Nat):Prop where
 le:E<=4
 ne:E=0->TT.toList.isEmpty=false
 pr:E=0->∃PT E2 P2,(∀w1,Gl w1->Calls Tryz.prog 20 #[.string TT] w1 fun e w'=>e=.returned (.agg #[.string PT,.int .i64 ((E2:Nat):Int),.int .i64 ((P2:Nat):Int)])/\Below w1.heap.size w1 w')/\(E2=0->PT=TT/\P=0/\(∀r,(r=101\/r=110\/r=43)->∀w1,Gl w1->Calls Tryz.prog 18 #[.string TT,.int .u8 r] w1 fun e w'=>e=.returned (.agg #[.string TT,.int .i64 0,.int .i64 0])/\Below w1.heap.size w1 w')/\∀w1,Gl w1->Calls Tryz.prog 18 #[.string TT,.int .u8 45] w1 fun e w'=>e=.returned (.agg #[.string (⟨#[77,85,76,84,73,80,79,76,89,71,79,78,32,69,77,80,84,89]⟩:ByteArray),.int .i64 0,.int .i64 0])/\Below w1.heap.size w1 w')
theorem alQ{s:List UInt8}{r:Int}{T:List UInt8}{E P:Nat}(h:wS s r T E P):BK (ba T) E P:=by
 refine⟨h.small,fun h0=>?_,fun h0=>?_⟩
 ·rcases h with⟨a1,_,a3,_⟩|⟨_,_,_,a4,_⟩|⟨_,_,a3,_,_⟩
  ·omega
  ·omega
  ·rw[alL];exact List.isEmpty_eq_false_iff.2 (Gb.akG a3)
 ·rcases h with⟨a1,_,a3,_⟩|⟨_,_,_,a4,_⟩|⟨a1,_,a3,_,a5⟩
  ·omega
  ·omega
  ·have hs:=(Mc a1).2.2.1;have hl:=Gb.als hs a3;have hm:(ba T).size<=maxLen:=by rw[alM];unfold maxLen;omega
   refine⟨_,_,_,fun w1 g=>aab (ba T) w1 hm g,fun e0=>?_⟩
   rw[Qa] at e0⊢;obtain⟨k1,k2,k3⟩:=Gb.alq hs a3 e0;refine⟨by rw[k1];rfl,a5,fun r hr w1 g=>?_,fun w1 g=>?_⟩
   ·refine(J9 (ba T) r w1 hm g).mono ?_;rintro e w' ⟨⟨T',E',P',rfl,hF⟩,hb⟩;rw[Qa] at hF;rcases hF with⟨b1,_⟩|⟨_,b2,_⟩|⟨_,_,b3,b4,b5⟩
    ·exact absurd e0 b1
    ·rcases hr with q|q|q<;>rw[q] at b2<;>exact absurd b2 (by decide)
    ·rw[k2 r T' hr b3,b4,b5];exact⟨rfl,hb⟩
   ·refine(J9 (ba T) 45 w1 hm g).mono ?_;rintro e w' ⟨⟨T',E',P',rfl,hF⟩,hb⟩;rw[Qa] at hF;rcases hF with⟨b1,_⟩|⟨_,b2,_⟩|⟨_,_,b3,b4,b5⟩
    ·exact absurd e0 b1
    ·exact absurd b2 (by decide)
    ·rw[k3 T' b3,b4,b5];exact⟨rfl,hb⟩
def KC(w wr:World)(a a':Addr)(v v':Value):Prop:=∀w7,Below wr.drew.heap.size wr.drew w7->(w7.cell? a=some v/\w7.cell? a'=some v')/\Hid (Old w w7 [])
def KD(w wr:World)(a a':Addr)(v v':Value):Prop:=∀w7,Below (wr.alloc (.cells #[.string ⟨#[]⟩,.int .i64 0,.int .i64 0] 38)).drew.heap.size (wr.alloc (.cells #[.string ⟨#[]⟩,.int .i64 0,.int .i64 0] 38)).drew w7->(w7.cell? a=some v/\w7.cell? a'=some v'/\w7.frozen? ⟨wr.heap.size,0,none⟩=false/\w7.frozen? ⟨wr.heap.size,1,none⟩=false/\w7.frozen? ⟨wr.heap.size,2,none⟩=false/\∃u0 u1 u2,w7.cell? ⟨wr.heap.size,0,none⟩=some u0/\w7.cell? ⟨wr.heap.size,1,none⟩=some u1/\w7.cell? ⟨wr.heap.size,2,none⟩=some u2)/\Hid (Old w w7 [(wr.heap.size,(.cells #[.string ⟨#[]⟩,.int .i64 0,.int .i64 0] 38 (0,0)))]/\w.heap.size<=wr.heap.size/\∀p∈([]:List (Nat×Obj)),p.1≠wr.heap.size)
theorem kC{w wr:World}{a a':Addr}{v v':Value}(h:Old w wr [])(r:wr.cell? a=some v)(r':wr.cell? a'=some v')(hz:a.block<wr.heap.size)(hz':a'.block<wr.heap.size):KC w wr a a' v v':=fun _ hb=>⟨⟨(hb.cell (p:=a) hz).trans r,(hb.cell (p:=a') hz').trans r'⟩,h.drew.next hb⟩
theorem kD{w wr:World}{a a':Addr}{v v':Value}(h:Old w wr [])(r:wr.cell? a=some v)(r':wr.cell? a'=some v')(hz:a.block<wr.heap.size)(hz':a'.block<wr.heap.size):KD w wr a a' v v':=fun w7 hb=>by
 have h7:Old w w7 [(wr.heap.size,(.cells #[.string ⟨#[]⟩,.int .i64 0,.int .i64 0] 38 (0,0)))]:=(h.alloc (.cells #[.string ⟨#[]⟩,.int .i64 0,.int .i64 0] 38)).drew.next hb
 have q2:=h7.h1;have hsz:(wr.alloc (.cells #[.string ⟨#[]⟩,.int .i64 0,.int .i64 0] 38)).drew.heap.size=wr.heap.size+1:=by
  show(wr.alloc (.cells #[.string ⟨#[]⟩,.int .i64 0,.int .i64 0] 38)).heap.size=_;simp
 exact⟨⟨(hb.cell (p:=a) (by omega)).trans (aax r),(hb.cell (p:=a') (by omega)).trans (aax r'),bw q2 0,bw q2 1,bw q2 2,_,_,_,cell_of q2 0,cell_of q2 1,cell_of q2 2⟩,h7,h.j6.size,fun p hp=>by simp at hp⟩
theorem alR(so:Option Addr)(n cap:Nat)(w:World)(hG:Gl w)(hS:PZ w so n)(_hn:n<=maxLen):
  Calls Tryz.prog 11 #[.slice so n cap] w fun e w'=>e=.returned (.bool true)/\Below w.heap.size w w':=by
 have HS:Hid (PZ w so n):=hS;clear hS
 go_enter Tryz.func11,Tryz.ntmps11
 go_wp2_with fail
 go_loopg [3] n (fun g iv wr=>∃k:Nat,k+g=n/\iv=.int .i64 k/\Hid (Below w.heap.size w wr/\Gl wr))
 case atStart=>exact⟨0,by omega,rfl,Below.refl _ _,hG⟩
 case round=>
  obtain⟨k,hkn,rfl,HB⟩:=hrel;obtain⟨aw,pL⟩:=HB.out;by_cases hlt:k<n/\k<1152921504606846976
  ·obtain⟨hlt,hmx⟩:=hlt;obtain⟨b,o,K,x,y,d,r,s,rfl,hb,hs,c0,c1,c2,c3,c4,c5⟩:=HS.out k hlt;have fN:(k:Int)<(n:Int):=by omega
   have yg:(k:Int)<1152921504606846976:=by omega
   have e4:wr.cell? ⟨b,o+k*6+4,none⟩=some (.int .u8 r):=(aw.cell (p:=⟨b,o+k*6+4,none⟩) hb).trans c4;have e5:wr.cell? ⟨b,o+k*6+5,none⟩=some (.string s):=(aw.cell (p:=⟨b,o+k*6+5,none⟩) hb).trans c5;have hbr:b<wr.heap.size:=by have:=aw.size;omega
   have HGd:Hid (Gl wr.drew):=pL.drew;have aaz:GlB wr:=(pL.alloc _).drew;have HO:Hid (Old w wr []):=⟨aw,pL,fun p hp=>by simp at hp⟩
   have H1:KC w wr ⟨b,o+k*6+5,none⟩ ⟨b,o+k*6+4,none⟩ (.string s) (.int .u8 r):=kC HO.out e5 e4 hbr hbr;have H2:KD w wr ⟨b,o+k*6+5,none⟩ ⟨b,o+k*6+4,none⟩ (.string s) (.int .u8 r):=kD HO.out e5 e4 hbr hbr;have Qc:Hid (∀w1,Gl w1->Calls Tryz.prog 18 #[.string s,.int .u8 r] w1 fun e w'=>(∃T E P,e=.returned (.agg #[.string T,.int .i64 ((E:Nat):Int),.int .i64 ((P:Nat):Int)])/\Hid (BK T E P))/\Below w1.heap.size w1 w'):=fun w1 g=>(J9 s r w1 hs g).mono fun e w' hh=>by
    obtain⟨⟨T,E,P,e1,hF⟩,hb⟩:=hh;exact⟨⟨ba T,E,P,e1,alQ hF⟩,hb⟩
   have HGw:Hid (Gl w):=hG;clear c0 c1 c2 c3 c4 c5 HB aw pL
   go_wp2_with fail
   have HM:Hid (k+gk=n/\k<n/\k<1152921504606846976):=⟨by omega,hlt,hmx⟩
   clear hkn hlt hmx yg hb hs HS HO
   go_region_held3 (fun w'=>w'.cell? ⟨b,o+k*6+5,none⟩=some (.string s)/\w'.cell? ⟨b,o+k*6+4,none⟩=some (.int .u8 r)) (go_keep) (first
      |(go_at_call 18;refine(Qc.out _ HGd.out).mono ?_;rintro e w7 ⟨⟨T,E,Pp,rfl,HT⟩,aV⟩;obtain⟨⟨r7,Qd⟩,Fs⟩:=H1 w7 aV;have r8:=World.new_ne w7 _ r7;have y0:=Qb w7 0 (by(omega));have y1:=Qb w7 1 (by(omega));have y2:=Qb w7 2 (by(omega));clear aV)
      |(go_at_call 18;refine(Qc.out _ aaz).mono ?_;rintro e w7 ⟨⟨T,E,Pp,rfl,HT⟩,aV⟩;obtain⟨⟨r7,Qd,y0,y1,y2,u0,u1,u2,x0,x1,x2⟩,Fs⟩:=H2 w7 aV;have r8:=Kt hbr;clear aV))
   all_goals first
    |(obtain⟨WF,XF,e1,e2,HQ⟩:=alO T E Pp Fs.out;rw[<-e1,<-e2];clear e1 e2 r7 Qd r8 y0 y1 y2 Fs)
    |(obtain⟨WF,XF,e1,e2,HQ⟩:=alP HGw.out T E Pp Fs.out;rw[<-e1,<-e2];clear e1 e2 r7 Qd r8 y0 y1 y2 x0 x1 x2 Fs)
   all_goals
    clear HGd aaz H1 H2 e4 e5 hbr Qc;have f0:WF.cell? ⟨XF,0,none⟩=some (.string T):=cell_of HQ.out.h1 0;have f1:WF.cell? ⟨XF,1,none⟩=some (.int .i64 (E:Int)):=cell_of HQ.out.h1 1;by_cases hE:E=0
    ·subst hE
     replace f1:WF.cell? ⟨XF,1,none⟩=some (.int .i64 0):=f1
     obtain⟨PT,E2,P2,Kj,gL⟩:=HT.out.pr rfl
     replace Kj:Hid (∀w1,Gl w1->Calls Tryz.prog 20 #[.string T] w1 fun e w'=>e=.returned (.agg #[.string PT,.int .i64 ((E2:Nat):Int),.int .i64 ((P2:Nat):Int)])/\Below w1.heap.size w1 w'):=Kj
     have nQ:Hid _:=gL;clear gL;have hne:=HT.out.ne rfl;clear HT
     go_wp2_with fail
     refine(Kj.out _ HQ.out.gl).mono ?_;rintro e w2 ⟨rfl,hb2⟩;have o2:=(HQ.out.next hb2).alloc (.cells #[.string PT,.int .i64 (E2:Int),.int .i64 (P2:Int)] 38)
     clear hb2 HQ Kj f0 f1;have f0:(w2.alloc (.cells #[.string PT,.int .i64 (E2:Int),.int .i64 (P2:Int)] 38)).cell? ⟨XF,0,none⟩=some (.string T):=cell_of o2.tl.h1 0;have p1:(w2.alloc (.cells #[.string PT,.int .i64 (E2:Int),.int .i64 (P2:Int)] 38)).cell? ⟨w2.heap.size,1,none⟩=some (.int .i64 (E2:Int)):=cell_of o2.h1 1;by_cases dC:E2=0
     ·subst dC;obtain⟨hPT,hPp,HR,HD⟩:=nQ.out rfl;subst hPT hPp;have HR1:Hid (∀w1,Gl w1->Calls Tryz.prog 18 #[.string PT,.int .u8 101] w1 fun e w'=>e=.returned (.agg #[.string PT,.int .i64 0,.int .i64 0])/\Below w1.heap.size w1 w'):=HR 101 (ag rfl)
      have HR2:Hid (∀w1,Gl w1->Calls Tryz.prog 18 #[.string PT,.int .u8 110] w1 fun e w'=>e=.returned (.agg #[.string PT,.int .i64 0,.int .i64 0])/\Below w1.heap.size w1 w'):=HR 110 (ah (ag rfl))
      have HR3:Hid (∀w1,Gl w1->Calls Tryz.prog 18 #[.string PT,.int .u8 43] w1 fun e w'=>e=.returned (.agg #[.string PT,.int .i64 0,.int .i64 0])/\Below w1.heap.size w1 w'):=HR 43 (ah (ah rfl))
      have HR4:Hid (∀w1,Gl w1->Calls Tryz.prog 18 #[.string PT,.int .u8 45] w1 fun e w'=>e=.returned (.agg #[.string (⟨#[77,85,76,84,73,80,79,76,89,71,79,78,32,69,77,80,84,89]⟩:ByteArray),.int .i64 0,.int .i64 0])/\Below w1.heap.size w1 w'):=HD
      have lL:Hid _:=o2;clear HR HD nQ o2
      replace p1:(w2.alloc (.cells #[.string PT,.int .i64 0,.int .i64 (P2:Int)] 38)).cell? ⟨w2.heap.size,1,none⟩=some (.int .i64 0):=p1
      replace f0:(w2.alloc (.cells #[.string PT,.int .i64 0,.int .i64 (P2:Int)] 38)).cell? ⟨XF,0,none⟩=some (.string PT):=f0
      go_wp2_with fail
      replace lL:Hid (Old w (w2.alloc (.cells #[.string PT,.int .i64 0,.int .i64 (P2:Int)] 38)) [(w2.heap.size,.cells #[.string PT,.int .i64 0,.int .i64 (P2:Int)] 38 (0,0)),(XF,.cells #[.string PT,.int .i64 0,.int .i64 0] 38 (0,0))]):=lL
      generalize(w2.alloc (.cells #[.string PT,.int .i64 0,.int .i64 (P2:Int)] 38))=W2 at*;generalize w2.heap.size=X2 at*;clear p1 f0;refine(HR1.out _ lL.out.gl).mono ?_;rintro e w3 ⟨rfl,hb3⟩;have Kk:Hid (Old w (w3.alloc (.cells #[.string PT,.int .i64 0,.int .i64 0] 38)) [(w3.heap.size,.cells #[.string PT,.int .i64 0,.int .i64 0] 38 (0,0)),(X2,.cells #[.string PT,.int .i64 0,.int .i64 (P2:Int)] 38 (0,0)),(XF,.cells #[.string PT,.int .i64 0,.int .i64 0] 38 (0,0))]):=(lL.out.next hb3).alloc (.cells #[.string PT,.int .i64 0,.int .i64 0] 38)
      have f0:(w3.alloc (.cells #[.string PT,.int .i64 0,.int .i64 0] 38)).cell? ⟨XF,0,none⟩=some (.string PT):=cell_of Kk.out.tl.tl.h1 0;clear hb3 lL
      go_wp2_with fail
      generalize(w3.alloc (.cells #[.string PT,.int .i64 0,.int .i64 0] 38))=W3 at*;generalize w3.heap.size=X3 at*;clear f0;refine(HR2.out _ Kk.out.gl).mono ?_;rintro e w4 ⟨rfl,hb4⟩;have Kl:Hid (Old w (w4.alloc (.cells #[.string PT,.int .i64 0,.int .i64 0] 38)) [(w4.heap.size,.cells #[.string PT,.int .i64 0,.int .i64 0] 38 (0,0)),(X3,.cells #[.string PT,.int .i64 0,.int .i64 0] 38 (0,0)),(X2,.cells #[.string PT,.int .i64 0,.int .i64 (P2:Int)] 38 (0,0)),(XF,.cells #[.string PT,.int .i64 0,.int .i64 0] 38 (0,0))]):=(Kk.out.next hb4).alloc (.cells #[.string PT,.int .i64 0,.int .i64 0] 38)
      have f0:(w4.alloc (.cells #[.string PT,.int .i64 0,.int .i64 0] 38)).cell? ⟨XF,0,none⟩=some (.string PT):=cell_of Kl.out.tl.tl.tl.h1 0;clear hb4 Kk
      go_wp2_with fail
      generalize(w4.alloc (.cells #[.string PT,.int .i64 0,.int .i64 0] 38))=W4 at*;generalize w4.heap.size=X4 at*;clear f0;refine(HR3.out _ Kl.out.gl).mono ?_;rintro e w5 ⟨rfl,az⟩;have wL:Hid (Old w (w5.alloc (.cells #[.string PT,.int .i64 0,.int .i64 0] 38)) [(w5.heap.size,.cells #[.string PT,.int .i64 0,.int .i64 0] 38 (0,0)),(X4,.cells #[.string PT,.int .i64 0,.int .i64 0] 38 (0,0)),(X3,.cells #[.string PT,.int .i64 0,.int .i64 0] 38 (0,0)),(X2,.cells #[.string PT,.int .i64 0,.int .i64 (P2:Int)] 38 (0,0)),(XF,.cells #[.string PT,.int .i64 0,.int .i64 0] 38 (0,0))]):=(Kl.out.next az).alloc (.cells #[.string PT,.int .i64 0,.int .i64 0] 38)
      have f0:(w5.alloc (.cells #[.string PT,.int .i64 0,.int .i64 0] 38)).cell? ⟨XF,0,none⟩=some (.string PT):=cell_of wL.out.tl.tl.tl.tl.h1 0;clear az Kl
      go_wp2_with fail
      generalize(w5.alloc (.cells #[.string PT,.int .i64 0,.int .i64 0] 38))=W5 at*;generalize w5.heap.size=X5 at*;clear f0;refine(HR4.out _ wL.out.gl).mono ?_;rintro e w6 ⟨rfl,aF⟩;have kB:Hid (Old w (w6.alloc (.cells #[.string (⟨#[77,85,76,84,73,80,79,76,89,71,79,78,32,69,77,80,84,89]⟩:ByteArray),.int .i64 0,.int .i64 0] 38)) [(w6.heap.size,.cells #[.string (⟨#[77,85,76,84,73,80,79,76,89,71,79,78,32,69,77,80,84,89]⟩:ByteArray),.int .i64 0,.int .i64 0] 38 (0,0)),(X5,.cells #[.string PT,.int .i64 0,.int .i64 0] 38 (0,0)),(X4,.cells #[.string PT,.int .i64 0,.int .i64 0] 38 (0,0)),(X3,.cells #[.string PT,.int .i64 0,.int .i64 0] 38 (0,0)),(X2,.cells #[.string PT,.int .i64 0,.int .i64 (P2:Int)] 38 (0,0)),(XF,.cells #[.string PT,.int .i64 0,.int .i64 0] 38 (0,0))]):=(wL.out.next aF).alloc (.cells #[.string (⟨#[77,85,76,84,73,80,79,76,89,71,79,78,32,69,77,80,84,89]⟩:ByteArray),.int .i64 0,.int .i64 0] 38)
      have f0:(w6.alloc (.cells #[.string (⟨#[77,85,76,84,73,80,79,76,89,71,79,78,32,69,77,80,84,89]⟩:ByteArray),.int .i64 0,.int .i64 0] 38)).cell? ⟨XF,0,none⟩=some (.string PT):=cell_of kB.out.tl.tl.tl.tl.tl.h1 0;clear aF wL;clear f0;have cf0:(w6.alloc (.cells #[.string (⟨#[77,85,76,84,73,80,79,76,89,71,79,78,32,69,77,80,84,89]⟩:ByteArray),.int .i64 0,.int .i64 0] 38)).cell? ⟨XF,0,none⟩=some (.string PT):=cell_of kB.out.tl.tl.tl.tl.tl.h1 0;have cf1:(w6.alloc (.cells #[.string (⟨#[77,85,76,84,73,80,79,76,89,71,79,78,32,69,77,80,84,89]⟩:ByteArray),.int .i64 0,.int .i64 0] 38)).cell? ⟨XF,1,none⟩=some (.int .i64 0):=cell_of kB.out.tl.tl.tl.tl.tl.h1 1;have cf2:(w6.alloc (.cells #[.string (⟨#[77,85,76,84,73,80,79,76,89,71,79,78,32,69,77,80,84,89]⟩:ByteArray),.int .i64 0,.int .i64 0] 38)).cell? ⟨XF,2,none⟩=some (.int .i64 0):=cell_of kB.out.tl.tl.tl.tl.tl.h1 2;have ce0:(w6.alloc (.cells #[.string (⟨#[77,85,76,84,73,80,79,76,89,71,79,78,32,69,77,80,84,89]⟩:ByteArray),.int .i64 0,.int .i64 0] 38)).cell? ⟨X3,0,none⟩=some (.string PT):=cell_of kB.out.tl.tl.tl.h1 0;have ce1:(w6.alloc (.cells #[.string (⟨#[77,85,76,84,73,80,79,76,89,71,79,78,32,69,77,80,84,89]⟩:ByteArray),.int .i64 0,.int .i64 0] 38)).cell? ⟨X3,1,none⟩=some (.int .i64 0):=cell_of kB.out.tl.tl.tl.h1 1;have ce2:(w6.alloc (.cells #[.string (⟨#[77,85,76,84,73,80,79,76,89,71,79,78,32,69,77,80,84,89]⟩:ByteArray),.int .i64 0,.int .i64 0] 38)).cell? ⟨X3,2,none⟩=some (.int .i64 0):=cell_of kB.out.tl.tl.tl.h1 2;have cn0:(w6.alloc (.cells #[.string (⟨#[77,85,76,84,73,80,79,76,89,71,79,78,32,69,77,80,84,89]⟩:ByteArray),.int .i64 0,.int .i64 0] 38)).cell? ⟨X4,0,none⟩=some (.string PT):=cell_of kB.out.tl.tl.h1 0;have cn1:(w6.alloc (.cells #[.string (⟨#[77,85,76,84,73,80,79,76,89,71,79,78,32,69,77,80,84,89]⟩:ByteArray),.int .i64 0,.int .i64 0] 38)).cell? ⟨X4,1,none⟩=some (.int .i64 0):=cell_of kB.out.tl.tl.h1 1;have cn2:(w6.alloc (.cells #[.string (⟨#[77,85,76,84,73,80,79,76,89,71,79,78,32,69,77,80,84,89]⟩:ByteArray),.int .i64 0,.int .i64 0] 38)).cell? ⟨X4,2,none⟩=some (.int .i64 0):=cell_of kB.out.tl.tl.h1 2;have cu0:(w6.alloc (.cells #[.string (⟨#[77,85,76,84,73,80,79,76,89,71,79,78,32,69,77,80,84,89]⟩:ByteArray),.int .i64 0,.int .i64 0] 38)).cell? ⟨X5,0,none⟩=some (.string PT):=cell_of kB.out.tl.h1 0;have cu1:(w6.alloc (.cells #[.string (⟨#[77,85,76,84,73,80,79,76,89,71,79,78,32,69,77,80,84,89]⟩:ByteArray),.int .i64 0,.int .i64 0] 38)).cell? ⟨X5,1,none⟩=some (.int .i64 0):=cell_of kB.out.tl.h1 1;have cu2:(w6.alloc (.cells #[.string (⟨#[77,85,76,84,73,80,79,76,89,71,79,78,32,69,77,80,84,89]⟩:ByteArray),.int .i64 0,.int .i64 0] 38)).cell? ⟨X5,2,none⟩=some (.int .i64 0):=cell_of kB.out.tl.h1 2;have cp0:(w6.alloc (.cells #[.string (⟨#[77,85,76,84,73,80,79,76,89,71,79,78,32,69,77,80,84,89]⟩:ByteArray),.int .i64 0,.int .i64 0] 38)).cell? ⟨X2,0,none⟩=some (.string PT):=cell_of kB.out.tl.tl.tl.tl.h1 0;have cd0:(w6.alloc (.cells #[.string (⟨#[77,85,76,84,73,80,79,76,89,71,79,78,32,69,77,80,84,89]⟩:ByteArray),.int .i64 0,.int .i64 0] 38)).cell? ⟨w6.heap.size,0,none⟩=some (.string (⟨#[77,85,76,84,73,80,79,76,89,71,79,78,32,69,77,80,84,89]⟩:ByteArray)):=cell_of kB.out.h1 0;have cd1:(w6.alloc (.cells #[.string (⟨#[77,85,76,84,73,80,79,76,89,71,79,78,32,69,77,80,84,89]⟩:ByteArray),.int .i64 0,.int .i64 0] 38)).cell? ⟨w6.heap.size,1,none⟩=some (.int .i64 0):=cell_of kB.out.h1 1;have cI:Hid (Below w.heap.size w (w6.alloc (.cells #[.string (⟨#[77,85,76,84,73,80,79,76,89,71,79,78,32,69,77,80,84,89]⟩:ByteArray),.int .i64 0,.int .i64 0] 38))/\Gl (w6.alloc (.cells #[.string (⟨#[77,85,76,84,73,80,79,76,89,71,79,78,32,69,77,80,84,89]⟩:ByteArray),.int .i64 0,.int .i64 0] 38))):=⟨kB.out.j6,kB.out.gl⟩;clear kB HR1 HR2 HR3 HR4;have yg:(k:Int)<1152921504606846976:=by have:=HM.out;omega
      go_wp2_with fail
      go_roundg (gk-1)
      case measure=>have:=HM.out;omega
      case rel=>
       exact⟨k+1,by have:=HM.out;omega,by go_num,cI⟩
     ·have Qe:¬((E2:Int)=0):=by omega
      have hEb:((E2:Int) == 0)=false:=yU.2 Qe;have cI:Hid (Below w.heap.size w (w2.alloc (.cells #[.string PT,.int .i64 (E2:Int),.int .i64 (P2:Int)] 38))/\Gl (w2.alloc (.cells #[.string PT,.int .i64 (E2:Int),.int .i64 (P2:Int)] 38))):=⟨o2.j6,o2.gl⟩;clear o2 nQ;have yg:(k:Int)<1152921504606846976:=by have:=HM.out;omega
      go_wp2_with fail
      go_roundg (gk-1)
      case measure=>have:=HM.out;omega
      case rel=>
       exact⟨k+1,by have:=HM.out;omega,by go_num,cI⟩
    ·have Qe:¬((E:Int)=0):=by omega
     have hEb:((E:Int) == 0)=false:=yU.2 Qe;have cI:Hid (Below w.heap.size w WF/\Gl WF):=⟨HQ.out.j6,HQ.out.gl⟩;clear HT HQ;have yg:(k:Int)<1152921504606846976:=by have:=HM.out;omega
     go_wp2_with fail
     go_roundg (gk-1)
     case measure=>have:=HM.out;omega
     case rel=>
      exact⟨k+1,by have:=HM.out;omega,by go_num,cI⟩
  ·clear HS;by_cases h1:k<n
   ·have h2:1152921504606846976<=k:=by omega
    have fN:(k:Int)<(n:Int):=by omega
    have yg:decide ((k:Int)<1152921504606846976)=false:=by simp;omega
    clear hlt
    go_wp2_with fail
    refine(aav _ pL).mono ?_;rintro e w1 ⟨rfl,hb1⟩
    go_wp2_with fail
    go_ret
    exact⟨rfl,aw.trans (hb1.mono aw.size)⟩
   ·have fN:decide ((k:Int)<(n:Int))=false:=by simp;omega
    clear hlt
    go_wp2_with fail
    refine(aav _ pL).mono ?_;rintro e w1 ⟨rfl,hb1⟩
    go_wp2_with fail
    go_ret
    exact⟨rfl,aw.trans (hb1.mono aw.size)⟩
end Go.Proofs.YtkjhhooecopolaaGreatDoor
namespace Go.Proofs.YtkjhhooecopolaaGreatDoor
open Go.RowKit Go.Deep
theorem Tryz.opCells:Tryz.prog.cellsOf 26=6:=by kernel_rfl
theorem Tryz.intCells:Tryz.prog.cellsOf 3=1:=by kernel_rfl
theorem Tryz.byteCells:Tryz.prog.cellsOf 5=1:=by kernel_rfl
theorem Tryz.strCells:Tryz.prog.cellsOf 9=1:=by kernel_rfl
section
variable{H:Type}{enc:TypeId×Value->H}{W:World}{spare:Nat->Bool}{held:Bool}
theorem six{α:Type}:∀{l:List α},l.length=6->∃a b c d e f,l=[a,b,c,d,e,f]
 |[a,b,c,d,e,f],_=>⟨a,b,c,d,e,f,rfl⟩
theorem alW{so:Option Addr}{n cap:Nat}{d:DataW H}{p:List MemPlace}(h:DataW.Trod enc Tryz.prog W 0 spare held 22 (.slice so n cap) d p):n<=maxLen/\PZ W so n:=by
 obtain⟨fuel,hf⟩:=h;rcases open_slice Tryz.underlying22 hf with⟨hcs,hx⟩|⟨a,len,cap',m,fl,D,Pl,hcs,hb,hl,hm,hmm,hx,hel⟩
 ·simp[Value.cells] at hcs;obtain⟨rfl,rfl,rfl⟩:=hcs;exact⟨iD _,fun k hk=>absurd hk (Nat.not_lt_zero _)⟩
 ·simp[Value.cells] at hcs;obtain⟨rfl,rfl,rfl⟩:=hcs;refine⟨fg hl hm,fun k hk=>?_⟩
  have hspot:a.spot=none:=by
   obtain⟨cs0,z1,_⟩:=hel 0 (by rw[hmm];split<;>omega)
   rw[Tryz.opCells] at z1;obtain⟨_,zl,zc⟩:=World.cells?_some z1;obtain⟨q0,q1,q2,q3,q4,q5,rfl⟩:=six zl;simpa[Addr.add] using World.cell?_spot (v:=q0) (zc 0 (by omega))
  obtain⟨cs',h1,h2⟩:=hel k (by rw[hmm];split<;>omega)
  rw[Tryz.opCells] at h1;obtain⟨_,hlen,hcell⟩:=World.cells?_some h1;obtain⟨xs,k',hk',hxy,_,hxl,hfl⟩:=DataW.trod_struct Tryz.underlying26 h2;obtain⟨b,o,spot⟩:=a;obtain rfl:spot=none:=hspot;obtain⟨y0,y1,y2,y3,y4,y5,rfl⟩:=six (hxl.trans (by rfl))
  obtain⟨v0,v1,v2,v3,v4,v5,rfl⟩:=six hlen
  ·clear hxl hlen;have g0:=hfl 0 _ rfl;have g1:=hfl 1 _ rfl;have g2:=hfl 2 _ rfl;have g3:=hfl 3 _ rfl;have g4:=hfl 4 _ rfl;have g5:=hfl 5 _ rfl;simp[Tryz.intCells,Tryz.byteCells,Tryz.strCells] at g0 g1 g2 g3 g4 g5;obtain⟨n0,i0,_,_⟩:=DataW.trod_int Tryz.underlying3 g0;obtain⟨n1,i1,_,_⟩:=DataW.trod_int Tryz.underlying3 g1;obtain⟨n2,i2,_,_⟩:=DataW.trod_int Tryz.underlying3 g2;obtain⟨n3,i3,_,_⟩:=DataW.trod_int Tryz.underlying3 g3;obtain⟨n4,i4,_,_⟩:=DataW.trod_int Tryz.underlying5 g4;obtain⟨s,i5,_,hs⟩:=DataW.trod_string Tryz.underlying9 g5;simp only[List.cons.injEq,tL] at i0 i1 i2 i3 i4 i5;subst i0 i1 i2 i3 i4 i5;have e0:=hcell 0 (by omega)
   have e1:=hcell 1 (by omega)
   have e2:=hcell 2 (by omega)
   have e3:=hcell 3 (by omega)
   have e4:=hcell 4 (by omega)
   have e5:=hcell 5 (by omega)
   simp[Go.WideShapes.add_plain] at e0 e1 e2 e3 e4 e5;exact⟨b,o,n0,n1,n2,n3,n4,s,rfl,by simpa using World.block_lt_of_cell? _ _ e0,hs,e0,e1,e2,e3,e4,e5⟩
end
end Go.Proofs.YtkjhhooecopolaaGreatDoor
