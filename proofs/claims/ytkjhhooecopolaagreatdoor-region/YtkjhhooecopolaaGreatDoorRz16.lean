import Derived.Test.YtkjhhooecopolaaGreatDoorRz15
set_option maxRecDepth 100000
set_option maxHeartbeats 4000000
namespace Go.Proofs.YtkjhhooecopolaaGreatDoor
open Tryz
open Value renaming int->az,complex->aA,float->aB,agg->aC,bool->aD,string->aF,slice->aG,pointer->aH,tuple->aI
open IntKind renaming i64->aJ
open FloatKind renaming f64->aK
open Ending renaming returned->aL
open Go renaming World->aM,Value->aN,floatOfInt->aO
section
open Go.RowKit
namespace Gb
open Ge Ga
def Oi(es:List (Pt×Pt))(l:List Nd):List (Nd×Nd):=es.flatMap λe=>nexts (held e l)
def Oj(es:List (Pt×Pt))(l:List Nd)(r:Int):List (Nd×Nd):=
 ((Oi es l).filter λp=>takes r (LL es p.1 p.2)&& !takes r (RR es p.1 p.2))++(((Oi es l).filter λp=>takes r (RR es p.1 p.2)&& !takes r (LL es p.1 p.2)).map λp=>(p.2,p.1))
theorem ae7{es:List (Pt×Pt)}{l:List Nd}{r:Int}{a b:Nd}:Sd es l (takes r) a b↔(a,b)∈Oj es l r:=by
 have hp:∀f t,dF es l f t↔(f,t)∈Oi es l:=λf t=>by unfold dF Oi;rw[qq]
 unfold Sd Oj;rw[dv,iz,bQ,hp,hp];constructor
 .rintro(⟨h1,h2,h3⟩|⟨h1,h2,h3⟩)
  .exact aU ⟨h1,by simp[h2,h3]⟩
  .exact aT ⟨(b,a),iz.2 ⟨h1,by simp[h2,h3]⟩,rfl⟩
 .rintro(⟨h1,h2⟩|⟨q,hq,e⟩)
  .simp at h2;exact aU ⟨h1,h2.1,h2.2⟩
  .obtain⟨q1,q2⟩:=q;injection e with e1 e2;subst e1 e2;obtain⟨h1,h2⟩:=iz.1 hq;simp at h2;exact aT ⟨h1,h2.1,h2.2⟩
def Vd(p:Nd×Nd):PB:=⟨aO aK (p.2.1-p.1.1),aO aK (p.2.2.1-p.1.2.1),aO aK ((p.2.1-p.1.1)*p.1.2.1-(p.2.2.1-p.1.2.1)*p.1.1),p.1,p.2⟩
def gG:List (List Pt):=[[(0,0),(4,4),(0,4),(4,0)]]
def l0:List Nd:=[(0,0,1),(0,4,1),(2,2,1),(4,0,1),(4,4,1)]
def L0:List (Nd×Nd):=[((0,0,1),(4,0,1)),((0,4,1),(2,2,1)),((2,2,1),(0,0,1)),((2,2,1),(4,4,1)),((4,0,1),(2,2,1)),((4,4,1),(0,4,1))]
theorem nl0:l0.map aX=iZ (aR gG):=by decide+kernel
theorem sd0:(∀p∈L0,p∈Oj (aR gG) l0 101)/\(∀p∈Oj (aR gG) l0 101,p∈L0):=by decide+kernel
def X0:List PB:=L0.map Vd
theorem Ve{x:PB}(h:x∈X0):∃p∈L0,x=Vd p:=by
 obtain⟨p,hp,rfl⟩:=bQ.1 h;exact⟨p,hp,rfl⟩
theorem afa:∀p∈L0,(p.1.2.2=1/\p.2.2.2=1)/\(p.1.1.natAbs<=4/\p.1.2.1.natAbs<=4/\p.2.1.natAbs<=4/\p.2.2.1.natAbs<=4)/\0<(p.2.1-p.1.1)*(p.2.1-p.1.1)+(p.2.2.1-p.1.2.1)*(p.2.2.1-p.1.2.1)/\((p.2.1-p.1.1)*p.1.2.1-(p.2.2.1-p.1.2.1)*p.1.1).natAbs<=100:=by decide+kernel
theorem Jv{n:Nd}(h:n.2.2=1):Ge.Can n:=by
 obtain⟨a,b,c⟩:=n;have:c=1:=h;subst this;exact RU (a,b)
theorem bd0:BD X0:=by
 refine⟨λx hx=>?_,λx hx=>?_,by decide+kernel,ah⟩
 .obtain⟨p,hp,rfl⟩:=Ve hx;obtain⟨⟨h1,h2⟩,⟨h3,h4,h5,h6⟩,_⟩:=afa p hp;refine⟨⟨by show p.1.1.natAbs<=_;omega,by show p.1.2.1.natAbs<=_;omega,by show 0<p.1.2.2/\p.1.2.2<=_;omega⟩,⟨by show p.2.1.natAbs<=_;omega,by show p.2.2.1.natAbs<=_;omega,by show 0<p.2.2.2/\p.2.2.2<=_;omega⟩,Jv h1,Jv h2⟩
 .obtain⟨p,hp,rfl⟩:=Ve hx;obtain⟨⟨h1,h2⟩,⟨h3,h4,h5,h6⟩,h7,h8⟩:=afa p hp;refine⟨(p.2.1-p.1.1,p.2.2.1-p.1.2.1,(p.2.1-p.1.1)*p.1.2.1-(p.2.2.1-p.1.2.1)*p.1.1),⟨oU aa,oU aa,oU (by show((p.2.1-p.1.1)*p.1.2.1-(p.2.2.1-p.1.2.1)*p.1.1).natAbs<_;omega)⟩,by show(p.2.1-p.1.1).natAbs<=100;omega,by show(p.2.2.1-p.1.2.1).natAbs<=100;omega,by show((p.2.1-p.1.1)*p.1.2.1-(p.2.2.1-p.1.2.1)*p.1.1).natAbs<=10000;omega,?_,?_,?_,?_⟩
  .show(p.2.1-p.1.1)*(p.2.2.1*p.1.2.2-p.1.2.1*p.2.2.2)=(p.2.2.1-p.1.2.1)*(p.2.1*p.1.2.2-p.1.1*p.2.2.2);rw[h1,h2];grind
  .show 0<(p.2.1-p.1.1)*(p.2.1*p.1.2.2-p.1.1*p.2.2.2)+(p.2.2.1-p.1.2.1)*(p.2.2.1*p.1.2.2-p.1.2.1*p.2.2.2);rw[h1,h2];simpa using h7
  .show(p.2.1-p.1.1)*p.1.2.1-(p.2.2.1-p.1.2.1)*p.1.1=((p.2.1-p.1.1)*p.1.2.1-(p.2.2.1-p.1.2.1)*p.1.1)*p.1.2.2;rw[h1];simp
  .show(p.2.1-p.1.1)*p.2.2.1-(p.2.2.1-p.1.2.1)*p.2.1=((p.2.1-p.1.1)*p.1.2.1-(p.2.2.1-p.1.2.1)*p.1.1)*p.2.2.2;rw[h2];grind
theorem afb:∀n∈l0,n.2.2=1:=ah
theorem aqU:∀i,i<6->∀j,j<6->(xi X0 i).f=(xi X0 j).f->(xi X0 i).t=(xi X0 j).t->i=j:=by decide+kernel
theorem sx0:SX gG l0 101 X0:=by
 refine⟨⟨nl0,λn hn=>Jv (afb n hn),λe he=>KJ he⟩,λx hx=>?_,λa b h=>?_,λi j hi hj=>aqU i hi j hj⟩
 .obtain⟨p,hp,rfl⟩:=Ve hx;exact ae7.2 (sd0.1 p hp)
 .exact⟨Vd (a,b),bQ.2 ⟨(a,b),sd0.2 _ (ae7.1 h),rfl⟩,rfl,rfl⟩
theorem ps0:(bG X0 X0.length).ps=[([0,4,2],[]),([1,3,5],[])]:=by decide+kernel
theorem fr0:Go.Proofs.YtkjhhooecopolaaGreatDoor.fr X0 [0,4,2]=[(0,0,1),(4,0,1),(2,2,1)]/\Go.Proofs.YtkjhhooecopolaaGreatDoor.fr X0 [1,3,5]=[(0,4,1),(2,2,1),(4,4,1)]:=by decide+kernel
theorem aqX:∀e∈aR gG,gz e:=by
 have:∀e∈aR gG,(e.1.1.natAbs<=4/\e.1.2.natAbs<=4)/\e.2.1.natAbs<=4/\e.2.2.natAbs<=4:=by decide+kernel
 intro e he;obtain⟨⟨h1,h2⟩,h3,h4⟩:=this e he;exact⟨⟨aa,aa⟩,⟨aa,aa⟩,⟨aa,aa⟩,⟨aa,aa⟩⟩
end Gb
namespace Gb
open Ge Ga
def P0:List Pg:=[([0,4,2],[]),([1,3,5],[])]
theorem aqY:∀p∈P0,∀n∈Go.Proofs.YtkjhhooecopolaaGreatDoor.fr X0 p.1,n.2.2=1:=by decide+kernel
theorem aqZ:oH X0 ([0,4,2],[]) ([1,3,5],[])<0:=by decide+kernel
theorem aq2:jN (oH X0) P0=P0:=by
 obtain⟨s1,s2⟩:=I8 (oH X0) P0 (xQ (λi:Fin P0.length=>Go.Proofs.YtkjhhooecopolaaGreatDoor.fr X0 P0[i].1) λi a ha=>Jv (aqY _ (gZ _) a ha))
 generalize jN (oH X0) P0=Z at s1 s2⊢;have hl:=s1.length_eq;have hn:Z.Nodup:=s1.nodup_iff.2 ah
 match Z,hl,hn,s1,s2 with
 |[x,y],_,hn,s1,s2=>
  have hx:x=([0,4,2],[])\/x=([1,3,5],[]):=by
   have:x∈P0:=s1.mem_iff.1 af
   simpa[P0] using this
  have hy:y=([0,4,2],[])\/y=([1,3,5],[]):=by
   have:y∈P0:=s1.mem_iff.1 af
   simpa[P0] using this
  rcases hx with rfl|rfl<;>rcases hy with rfl|rfl
  .simp at hn
  .rfl
  .have:=(ik.1 s2).1 _ (by simp:(([0,4,2],[]):Pg)∈[([0,4,2],[])])
   exact absurd aqZ this
  .simp at hn
theorem aq3:fin X0=[([(0,0,1),(4,0,1),(2,2,1)],[]),([(0,4,1),(2,2,1),(4,4,1)],[])]:=by
 have hm:(bG X0 X0.length).ps.map (eA X0)=P0:=by
  rw[ps0];simp[eA,jN,P0]
 unfold fin vP;rw[hm,aq2];simp[P0,ndP,fr0.1,fr0.2]
theorem it0:Lib.itoa 0=[48]:=by simp[Lib.itoa,Lib.decDigits]
theorem it2:Lib.itoa 2=[50]:=by simp[Lib.itoa,Lib.decDigits]
theorem it4:Lib.itoa 4=[52]:=by simp[Lib.itoa,Lib.decDigits]
theorem nq(a b:Int)(h:a=0\/a=2\/a=4)(k:b=0\/b=2\/b=4):aX (a,b,1)=((a,1),(b,1)):=by
 rcases h with rfl|rfl|rfl<;>rcases k with rfl|rfl|rfl<;>decide+kernel
def T0:List UInt8:=[77,85,76,84,73,80,79,76,89,71,79,78,32,40,40,40,48,32,48,44,32,52,32,48,44,32,50,32,50,44,32,48,32,48,41,41,44,32,40,40,48,32,52,44,32,50,32,50,44,32,52,32,52,44,32,48,32,52,41,41,41]
theorem text0:xV X0=T0:=by
 rw[NA,aq3];simp[qm,Cr,vQ,xX,Pl.bI,Pl.dH,Pl.fD,nq,it0,it2,it4,xU,Lib.join,T0]
theorem aq5{T:List UInt8}(h:Cv gG 101 T):T=T0:=by
 obtain⟨Ps,l,h1,h2,h3,h4,rfl⟩:=h;have e:l=l0:=aei h2 (λn hn=>Jv (afb n hn)) (h1.trans nl0.symm)
 subst e;rw[<-text0];exact apD (ML h1 h2 h3) (Nr h1 aqX h3 h4) sx0 bd0 (λ_ _=>JD)
end Gb
def S0:List UInt8:=[80,79,76,89,71,79,78,32,40,40,48,32,48,44,32,52,32,52,44,32,48,32,52,44,32,52,32,48,41,41]
def S1:List UInt8:=[80,79,76,89,71,79,78,40,40,48,32,48,44,48,52,32,45,48,44,48,32,52,41,41]
def T1:List UInt8:=[80,79,76,89,71,79,78,32,40,40,48,32,48,44,32,52,32,48,44,32,48,32,52,41,41]
theorem aq6:Pl.err S0=(0,0):=by decide+kernel
theorem Vf:Pl.err S1=(0,0):=by decide+kernel
theorem aq7:Pl.rings S0=Gb.gG:=by decide+kernel
theorem aff:(Pl.wd Pl.jS (Pl.all S1)).1=true/\(Pl.dK (Pl.all S1)).2.2=[[[(0,0),(4,0),(0,4)]]]:=by decide+kernel
theorem aq8:Pl.uX S1=T1:=by
 obtain⟨gs,h1,_,h3⟩:=Pl.YT (by rw[Vf]) aff.1
 unfold Pl.uX;rw[aV (by rw[Vf]),h3]
 have e:gs=[[(0,0),(4,0),(0,4)]]:=(List.cons.inj (h1.symm.trans aff.2)).1;subst e;simp[Pl.mU,Pl.kj,Pl.bI,Pl.DX,Gb.it0,Gb.it4,Pl.jS,T1]
def aq9(w:aM)(b o:Nat)(K x y d r:Int)(s:ByteArray):Prop:=
 w.cell? ⟨b,o,none⟩=some (az aJ K)/\w.cell? ⟨b,o+1,none⟩=some (az aJ x)/\w.cell? ⟨b,o+2,none⟩=some (az aJ y)/\w.cell? ⟨b,o+3,none⟩=some (az aJ d)/\
  w.cell? ⟨b,o+4,none⟩=some (az .u8 r)/\w.cell? ⟨b,o+5,none⟩=some (aF s)
def Vg(w:aM)(so:Option Addr)(n:Nat):Prop:=
 ∀k,k<n->∃b o K x y d r s,so=some ⟨b,o,none⟩/\b<w.heap.size/\s.size<=maxLen/\aq9 w b (o+k*6) K x y d r s
theorem CH{w w':aM}(h:Gl w)(hb:aj w w'):Gl w':=h.below hb h.sz
structure Nx(w W w':aM)(o:Obj)(W':aM)(X:Nat):Prop where
 eq:W'=w'.alloc o
 gl:Gl W'
 jg:aj w W'
 nw:W'.heap[X]?=some o
 old:∀(k:Nat)(ob:Obj),W.heap[k]?=some ob->W'.heap[k]?=some ob
theorem afg{w W w':aM}(o:Obj)(hG:Gl W)(hB:aj w W)(hb:aj W w'):Nx w W w' o (w'.alloc o) w'.heap.size:=by
 have h:=hB.trans (hb.mono hB.size);refine⟨rfl,(CH hG hb).alloc _,h.alloc h.size _,heap_alloc_new _ _,λk ob hk=>?_⟩
 have hl:=lt_of_heap hk;rw[Below.heap_alloc _ _ _ (bW hl hb.size),hb.block k hl];exact hk
theorem ara{T:List UInt8}{E P:Nat}(h:Ab S0 101 T E P):T=Gb.T0/\E=0/\P=0:=by
 rcases h with⟨a1,_⟩|⟨_,a2,_⟩|⟨_,_,a3,a4,a5⟩
 .rw[aq6] at a1;exact absurd rfl a1
 .exact absurd a2 ah
 .rw[aq7] at a3;exact⟨Gb.aq5 a3,a4,a5⟩
theorem afh(w:aM)(hG:Gl w):
  ak 22 #[] w λe w'=>e=aL (aD true)/\Below w.heap.size w w':=by
 have HP:Hid (∀w1,Gl w1->ak 20 #[aF (ba S1)] w1 λe w'=>e=aL (aC #[aF (ba T1),az aJ 0,az aJ 0])/\Below w1.heap.size w1 w'):=λw1 g1=>by
  refine(aqR (ba S1) w1 (by unfold maxLen;decide) g1).mono ?_
  rintro e w' ⟨rfl,hb⟩;refine⟨?_,hb⟩;have e1:(ba S1).data.toList=S1:=rfl;rw[e1,Vf,aq8];rfl
 have HF:Hid (∀w1,Gl w1->ak 18 #[aF (ba S0),az .u8 101] w1 λe w'=>e=aL (aC #[aF (ba Gb.T0),az aJ 0,az aJ 0])/\Below w1.heap.size w1 w'):=λw1 g1=>by
  refine(ae6 (ba S0) 101 w1 (by unfold maxLen;decide) g1).mono ?_
  rintro e w' ⟨⟨T,E,P,rfl,h⟩,hb⟩;obtain⟨rfl,rfl,rfl⟩:=ara h;exact⟨rfl,hb⟩
 go_enter func22,ntmps22
 go_wp2_with fail
 refine(HP.out _ hG).mono ?_;rintro e w1 ⟨rfl,hb1⟩;have g1:Gl w1:=CH hG hb1;generalize qL:ba T1=B1;have n1:=afg (.cells #[aF B1,az aJ 0,az aJ 0] 38) hG (Below.refl _ _) hb1
 go_wp2_with fail
 generalize w1.alloc (.cells #[aF B1,az aJ 0,az aJ 0] 38)=W1 at*;generalize w1.heap.size=X1 at*;have zb:=n1.gl;have hXa:=n1.nw;have hBa:=n1.jg;clear n1 hb1 g1;refine(HF.out _ zb).mono ?_;rintro e w2 ⟨rfl,hb2⟩;generalize Su:ba Gb.T0=B2;have n2:=afg (.cells #[aF B2,az aJ 0,az aJ 0] 38) zb hBa hb2;have Ol:=n2.old _ _ hXa;have Om:=n2.nw;have hBb:=n2.jg;have a0:(w2.alloc (.cells #[aF B2,az aJ 0,az aJ 0] 38)).cell? ⟨X1,0,none⟩=some (aF B1):=cell_of Ol 0;have a1:(w2.alloc (.cells #[aF B2,az aJ 0,az aJ 0] 38)).cell? ⟨X1,1,none⟩=some (az aJ 0):=cell_of Ol 1;have a2:(w2.alloc (.cells #[aF B2,az aJ 0,az aJ 0] 38)).cell? ⟨X1,2,none⟩=some (az aJ 0):=cell_of Ol 2;have b0:(w2.alloc (.cells #[aF B2,az aJ 0,az aJ 0] 38)).cell? ⟨w2.heap.size,0,none⟩=some (aF B2):=cell_of Om 0;have b1:(w2.alloc (.cells #[aF B2,az aJ 0,az aJ 0] 38)).cell? ⟨w2.heap.size,1,none⟩=some (az aJ 0):=cell_of Om 1;have b2:(w2.alloc (.cells #[aF B2,az aJ 0,az aJ 0] 38)).cell? ⟨w2.heap.size,2,none⟩=some (az aJ 0):=cell_of Om 2;clear n2 hXa Ol Om zb hb2 hBa
 go_wp2_with fail
 .go_ret
  exact⟨rfl,hBb⟩
 .rename_i h
  refine absurd ?_ h;rw[<-Su];exact ByteArray.toList_mk _
 .rename_i h
  refine absurd ?_ h;rw[<-qL];exact ByteArray.toList_mk _
theorem afj(T:List UInt8):(ba T).data.toList=T:=rfl
theorem arb(T:List UInt8):(ba T).size=T.length:=by
 show T.toArray.size=_;simp
structure Old(w W:aM)(bl:List (Nat×Obj)):Prop where
 jg:aj w W
 gl:Gl W
 ob:∀p∈bl,W.heap[p.1]?=some p.2
section
variable{w W W':aM}{bl:List (Nat×Obj)}
theorem Old.next(h:Old w W bl)(hb:aj W W'):Old w W' bl:=⟨h.jg.trans (hb.mono h.jg.size),CH h.gl hb,λp hp=>(hb.block _ (lt_of_heap (h.ob p hp))).trans (h.ob p hp)⟩
theorem Old.alloc(h:Old w W bl)(o:Obj):Old w (W.alloc o) ((W.heap.size,o)::bl):=by
 refine⟨h.jg.alloc h.jg.size _,h.gl.alloc _,λp hp=>?_⟩
 rcases bU.1 hp with q|q
 .rw[q];exact heap_alloc_new _ _
 .exact(Below.heap_alloc _ _ _ (lt_of_heap (h.ob p q))).trans (h.ob p q)
theorem Old.tl{x:Nat×Obj}(h:Old w W (x::bl)):Old w W bl:=⟨h.jg,h.gl,λp hp=>h.ob p (bX _ hp)⟩
theorem Old.h1{x:Nat×Obj}(h:Old w W (x::bl)):W.heap[x.1]?=some x.2:=h.ob x (OU ..)
end
def nT(q0:Ge.Qt):List Ge.Qt->List UInt8
 |[]=>Pl.dH q0++[41]
 |q::g=>Pl.dH q++([44,32]++nT q0 g)
def iT:Bool->List (List Ge.Qt)->List UInt8
 |_,[]=>[41]
 |f,g::gs=>(if f then[] else[44,32])++([40]++(nT (g.headD ((0,1),(0,1))) g++iT false gs))
def oT:Bool->List (List (List Ge.Qt))->List UInt8
 |_,[]=>[41]
 |f,p::ps=>(if f then[] else[44,32])++([40]++(iT true p++oT false ps))
def okq(ps:List (List (List Ge.Qt))):Prop:=∀p∈ps,∀g∈p,g≠[]/\∀q∈g,gb q
theorem Vh(S:ByteArray)(l:List UInt8):(S++(⟨l.toArray⟩:ByteArray)).data.toList=S.data.toList++l:=by
 rw[ByteArray.data_append,Array.toList_append]
theorem Vi(S:ByteArray):S.data.toList.length=S.size:=jr
theorem Ac(S:ByteArray)(l:List UInt8):(S++(⟨l.toArray⟩:ByteArray)).size=S.size+l.length:=by
 rw[<-Vi,Vh,bY,Vi]
theorem arc{S:ByteArray}{T:List UInt8}(h:S.data.toList=T):S=⟨T.toArray⟩:=by
 apply ByteArray.ext;rw[<-h]
structure jA(TT:List UInt8)(S:ByteArray)(R:List UInt8):Prop where
 eq:S.data.toList++R=TT
theorem jA.step{TT:List UInt8}{S:ByteArray}{l R:List UInt8}(h:jA TT S (l++R)):jA TT (S++⟨l.toArray⟩) R:=⟨by rw[Vh,fH];exact h.eq⟩
theorem jA.le{TT:List UInt8}{S:ByteArray}{R:List UInt8}(h:jA TT S R)(hT:TT.length<=20000000402):S.size+R.length<=20000000402:=by
 have:=aZ List.length h.eq;rw[bY,Vi] at this;omega
theorem ard(TT:List UInt8)(ps:List (List (List Ge.Qt)))(v:aN)(w:aM)(hG:Gl w)(hR:nH w v ps)(hne:ps≠[])(hok:okq ps)(rJ:TT=xU++oT true ps)(lR:TT.length<=20000000402)(hl:ps.length<=20000000402)(hl2:∀p∈ps,p.length<=20000000402/\∀g∈p,g.length<=20000000402):
  ak 45 #[v] w λe w'=>e=aL (aF ⟨TT.toArray⟩)/\aj w w':=by
 obtain⟨so,cap,rfl⟩:=GG hR;have HR:Hid (nH w (aG so ps.length cap) ps):=hR;have uY:Hid (okq ps/\∀p∈ps,p.length<=20000000402/\∀g∈p,g.length<=20000000402):=⟨hok,hl2⟩;have hn0:((ps.length:Int) == 0)=false:=by
  have:=jE.2 hne;rw[sM];omega
 have H0:Hid ((⟨#[77,85,76,84,73,80,79,76,89,71,79,78,32,40]⟩:ByteArray).data.toList++oT true ps=TT):=rJ.symm;clear hR hok hne rJ hl2
 go_enter func45,ntmps45
 go_wp2_with fail
 go_loopg [3,4] ps.length (λg sv iv wr=>∃(i:Nat)(S:ByteArray),i+g=ps.length/\iv=az aJ i/\sv=aF S/\S.size<=20000000402/\Hid (jA TT S (oT (decide (i=0)) (ps.drop i)))/\Hid (aj w wr/\Gl wr))
 case atStart=>exact⟨0,_,aa,rfl,rfl,ah,⟨H0.out⟩,Below.refl _ _,hG⟩
 case round=>
  obtain⟨i,S,hin,rfl,rfl,hS,HT,HB⟩:=hrel;clear H0;by_cases hlt:i<ps.length
  .have Ic:(i:Int)<(ps.length:Int):=aa
   obtain⟨p,hp⟩:∃p,ps[i]?=some p:=⟨_,bo hlt⟩;obtain⟨b,u,rfl,hb,e0,tQ⟩:=GH HR.out hp;obtain⟨us,uc,rfl⟩:=GG tQ;have HRU:Hid (z8 w (aG us p.length uc) p):=tQ;have hd:ps.drop i=p::ps.drop (i+1):=by rw[uC hlt,(cG.1 hp).2]
   have jB:=HT.out;rw[hd] at jB;have yj:wr.cell? ⟨b,i,none⟩=some (aG us p.length uc):=aS HB.out.1 e0 hb;obtain⟨S1,Oo,hv1⟩:∃S1:ByteArray,Hid (jA TT S1 (iT true p++oT false (ps.drop (i+1))))/\S1=(if i=0 then S else S++⟨#[44,32]⟩)++⟨#[40]⟩:=by
    refine⟨_,?_,rfl⟩;by_cases h0:i=0
    .subst h0;rw[aV rfl];exact jA.step (l:=[40]) (by simpa[oT] using jB)
    .rw[aQ h0];exact jA.step (l:=[40]) (jA.step (l:=[44,32]) (by simpa[oT,h0] using jB))
   have HIJ:Hid (i+gk=ps.length/\i<ps.length):=⟨hin,hlt⟩;have Oq:Hid ((∀g∈p,g≠[]/\∀q∈g,gb q)/\p.length<=20000000402/\∀g∈p,g.length<=20000000402):=⟨uY.out.1 p (bT hp),uY.out.2 p (bT hp)⟩;have afm:=Oo.out.le lR;have hs1:¬9223372036854775807<S.size+1:=aa
   have hs2:¬9223372036854775807<S.size+2:=aa
   have hs3:¬9223372036854775807<S.size+2+1:=aa
   obtain⟨m1,lM⟩:∃m1,m1=gk:=⟨_,rfl⟩;have E7:Hid (m1=gk):=lM;have E0:Hid (w.cell? ⟨b,i,none⟩=some (aG us p.length uc)):=e0;clear jB HT tQ hd hp e0 lM hin afm;rcases Decidable.em (i=0) with h0|h0
   all_goals first
    |(have hq0:decide (0<(i:Int))=false:=(by(simp;omega));have hq1:decide (0<i)=false:=(by(simp;omega));rw[aV h0] at hv1;clear h0;go_wp2_with fail;rw[<-hv1];clear hv1 hq0 hq1)
    |(have hq0:decide (0<(i:Int))=true:=(by(simp;omega));have hq1:decide (0<i)=true:=(by(simp;omega));rw[aQ h0] at hv1;clear h0;go_wp2_with fail;rw[<-hv1];clear hv1 hq0 hq1)
   all_goals
    clear hs1 hs2 hs3;have afm:=Oo.out.le lR
    go_loopg [3,5] p.length (λg sv iv wr=>∃(k:Nat)(S:ByteArray),k+g=p.length/\iv=az aJ k/\sv=aF S/\S.size<=20000000402/\Hid (jA TT S (iT (decide (k=0)) (p.drop k)++oT false (ps.drop (i+1))))/\Hid (aj w wr/\Gl wr))
    case atStart=>exact⟨0,S1,aa,rfl,rfl,aa,Oo,HB⟩
    case round=>
     obtain⟨k,S,hkn,rfl,rfl,hS,HT,HB⟩:=hrel;clear yj Oo;have yj:wr.cell? ⟨b,i,none⟩=some (aG us p.length uc):=aS HB.out.1 E0.out hb;by_cases ki:k<p.length
     .have hkk:(k:Int)<(p.length:Int):=aa
      obtain⟨g,hg⟩:∃g,p[k]?=some g:=⟨_,bo ki⟩;obtain⟨b2,u2,Ob,hb2,e2,hrg⟩:=GH HRU.out hg;subst Ob;obtain⟨gs,gc,rfl⟩:=YG hrg;have qO:Hid (rL w (aG gs g.length gc) g):=hrg;have hr1:wr.cell? ⟨b2,k,none⟩=some (aG gs g.length gc):=aS HB.out.1 e2 hb2;have E2:Hid (w.cell? ⟨b2,k,none⟩=some (aG gs g.length gc)):=e2;have hd:p.drop k=g::p.drop (k+1):=by rw[uC ki,(cG.1 hg).2]
      have jB:=HT.out;rw[hd] at jB;obtain⟨S2,Cy,hv2⟩:∃S2:ByteArray,Hid (jA TT S2 (nT (g.headD ((0,1),(0,1))) g++(iT false (p.drop (k+1))++oT false (ps.drop (i+1)))))/\S2=(if k=0 then S else S++⟨#[44,32]⟩)++⟨#[40]⟩:=by
       refine⟨_,?_,rfl⟩;by_cases h0:k=0
       .subst h0;rw[aV rfl];exact jA.step (l:=[40]) (by simpa[iT] using jB)
       .rw[aQ h0];exact jA.step (l:=[40]) (jA.step (l:=[44,32]) (by simpa[iT,h0] using jB))
      obtain⟨IH,hgq⟩:=Oq.out.1 g (bT hg);have hgl:=Oq.out.2.2 g (bT hg);obtain⟨q0,hq0⟩:∃q0,g[0]?=some q0:=⟨_,bo (jE.2 IH)⟩;have IK:g.headD ((0,1),(0,1))=q0:=by
       cases g with
       |nil=>simp at hq0
       |cons a g=>simpa using hq0
      rw[IK] at Cy;have Ad:Hid ((∀q∈g,gb q)/\g[0]?=some q0):=⟨hgq,hq0⟩;have HKJ:Hid (k+gk=p.length/\k<p.length/\p.length<=20000000402):=⟨hkn,ki,Oq.out.2.1⟩;have hpl:p.length<=20000000402:=Oq.out.2.1;have arh:=Cy.out.le lR;have hs1:¬9223372036854775807<S.size+1:=aa
      have hs2:¬9223372036854775807<S.size+2:=aa
      have hs3:¬9223372036854775807<S.size+2+1:=aa
      obtain⟨m2,hm2⟩:∃m2,m2=gk:=⟨_,rfl⟩;have NZ:Hid (m2=gk):=hm2;clear jB HT hrg hd hg e2 hm2 hkn arh IH hgq hq0 IK;rcases Decidable.em (k=0) with h0|h0
      all_goals first
       |(have hq0:decide (0<(k:Int))=false:=(by(simp;omega));have hq1:decide (0<k)=false:=(by(simp;omega));rw[aV h0] at hv2;clear h0;go_wp2_with fail;rw[<-hv2];clear hv2 hq0 hq1)
       |(have hq0:decide (0<(k:Int))=true:=(by(simp;omega));have hq1:decide (0<k)=true:=(by(simp;omega));rw[aQ h0] at hv2;clear h0;go_wp2_with fail;rw[<-hv2];clear hv2 hq0 hq1)
      all_goals
       clear hs1 hs2 hs3;have afp:=Cy.out.le lR
       go_loopg [3,6] g.length (λz sv iv wr=>∃(n:Nat)(S:ByteArray),n+z=g.length/\iv=az aJ n/\sv=aF S/\S.size<=20000000402/\Hid (jA TT S (nT q0 (g.drop n)++(iT false (p.drop (k+1))++oT false (ps.drop (i+1)))))/\Hid (aj w wr/\Gl wr))
       case atStart=>exact⟨0,S2,aa,rfl,rfl,aa,Cy,HB⟩
       case round=>
        obtain⟨n,S,hnn,rfl,rfl,hS,HT,HB⟩:=hrel;clear yj hr1 Cy;have yj:wr.cell? ⟨b,i,none⟩=some (aG (some ⟨b2,0,none⟩) p.length uc):=aS HB.out.1 E0.out hb;have hr1:wr.cell? ⟨b2,k,none⟩=some (aG gs g.length gc):=aS HB.out.1 E2.out hb2;by_cases rM:n<g.length
        .have Bx:(n:Int)<(g.length:Int):=aa
         obtain⟨q,hq⟩:∃q,g[n]?=some q:=⟨_,bo rM⟩;obtain⟨b3,uS,hb3,a0,a1,a2,a3⟩:=DY qO.out hq;subst uS;have r0:wr.cell? ⟨b3,n*4,none⟩=some (az aJ q.1.1):=aS HB.out.1 a0 hb3;have r1:wr.cell? ⟨b3,n*4+1,none⟩=some (az aJ q.1.2):=aS HB.out.1 a1 hb3;have r2:wr.cell? ⟨b3,n*4+2,none⟩=some (az aJ q.2.1):=aS HB.out.1 a2 hb3;have r3:wr.cell? ⟨b3,n*4+3,none⟩=some (az aJ q.2.2):=aS HB.out.1 a3 hb3;have Vj:Hid (∀w1,Gl w1->ak 74 #[aC #[az aJ q.1.1,az aJ q.1.2,az aJ q.2.1,az aJ q.2.2]] w1 λe w'=>e=aL (aF ⟨(Pl.dH q).toArray⟩)/\aj w1 w'):=λw1 g1=>YW q w1 g1 (Ad.out.1 q (bT hq))
         have hd:g.drop n=q::g.drop (n+1):=by rw[uC rM,(cG.1 hq).2]
         have jB:=HT.out;rw[hd] at jB;have CJ:Hid (jA TT ((S++⟨(Pl.dH q).toArray⟩)++⟨#[44,32]⟩) (nT q0 (g.drop (n+1))++(iT false (p.drop (k+1))++oT false (ps.drop (i+1))))):=jA.step (l:=[44,32]) (jA.step (by simpa[nT] using jB))
         have CK:=CJ.out.le lR;rw[Ac _ [44,32],Ac] at CK;have HNJ:Hid (n+gk=g.length/\n<g.length):=⟨hnn,rM⟩;clear jB HT hd hq a0 a1 a2 a3 hnn rM;generalize Pl.dH q=X at*;have ui:Hid (S.size+X.length+2<=20000000402):=by simp at CK;show _<=_;omega
         have hs1:¬9223372036854775807<S.size+X.length:=by have:=ui.out;omega
         have hs2:¬9223372036854775807<S.size+X.length+2:=by have:=ui.out;omega
         clear CK
         go_wp2_with fail
         refine(Vj.out _ HB.out.2).mono ?_;rintro e w7 ⟨rfl,bw⟩;have xS:Hid (aj w w7/\Gl w7):=⟨HB.out.1.trans (bw.mono HB.out.1.size),CH HB.out.2 bw⟩;clear bw
         go_wp2_with fail
         go_roundg (gk-1)
         case measure=>have:=HNJ.out;omega
         case rel=>
          refine⟨n+1,_,by have:=HNJ.out;omega,ai,rfl,?_,CJ,xS⟩
          rw[Ac _ [44,32],Ac];exact ui.out
        .have Bx:decide ((n:Int)<(g.length:Int))=false:=by simp;omega
         obtain⟨b3,uS,hb3,a0,a1,a2,a3⟩:=DY qO.out Ad.out.2;subst uS;rw[wq] at a0 a1 a2 a3;rw[jD] at a1 a2 a3;have r0:wr.cell? ⟨b3,0,none⟩=some (az aJ q0.1.1):=aS HB.out.1 a0 hb3;have r1:wr.cell? ⟨b3,1,none⟩=some (az aJ q0.1.2):=aS HB.out.1 a1 hb3;have r2:wr.cell? ⟨b3,2,none⟩=some (az aJ q0.2.1):=aS HB.out.1 a2 hb3;have r3:wr.cell? ⟨b3,3,none⟩=some (az aJ q0.2.2):=aS HB.out.1 a3 hb3;have Vj:Hid (∀w1,Gl w1->ak 74 #[aC #[az aJ q0.1.1,az aJ q0.1.2,az aJ q0.2.1,az aJ q0.2.2]] w1 λe w'=>e=aL (aF ⟨(Pl.dH q0).toArray⟩)/\aj w1 w'):=λw1 g1=>YW q0 w1 g1 (Ad.out.1 q0 (bT Ad.out.2))
         have jB:=HT.out;rw[Ak aa] at jB
         have CJ:Hid (jA TT ((S++⟨(Pl.dH q0).toArray⟩)++⟨#[41]⟩) (iT false (p.drop (k+1))++oT false (ps.drop (i+1)))):=jA.step (l:=[41]) (jA.step (by simpa[nT] using jB))
         have CK:=CJ.out.le lR;rw[Ac _ [41],Ac] at CK;have hg0:(0:Int)<(g.length:Int):=by have:=(cG.1 Ad.out.2).1;omega
         clear jB HT a0 a1 a2 a3 hnn;generalize Pl.dH q0=X at*;have ui:Hid (S.size+X.length+1<=20000000402):=by simp at CK;show _<=_;omega
         have hs1:¬9223372036854775807<S.size+X.length:=by have:=ui.out;omega
         have hs2:¬9223372036854775807<S.size+X.length+1:=by have:=ui.out;omega
         clear CK
         go_wp2_with fail
         refine(Vj.out _ HB.out.2).mono ?_;rintro e w7 ⟨rfl,bw⟩;have xS:Hid (aj w w7/\Gl w7):=⟨HB.out.1.trans (bw.mono HB.out.1.size),CH HB.out.2 bw⟩;clear bw
         go_wp2_with fail
         go_roundg (m2-1)
         case measure=>have:=NZ.out;have:=HKJ.out;omega
         case rel=>
          refine⟨k+1,_,by have:=NZ.out;have:=HKJ.out;omega,ai,rfl,?_,CJ,xS⟩
          rw[Ac _ [41],Ac];exact ui.out
     .have hkk:decide ((k:Int)<(p.length:Int))=false:=by simp;omega
      have jB:=HT.out;rw[Ak aa] at jB
      have Ot:Hid (jA TT (S++⟨#[41]⟩) (oT false (ps.drop (i+1)))):=jA.step (l:=[41]) jB;have afp:=Ot.out.le lR;have hsz:(S++(⟨#[41]⟩:ByteArray)).size<=20000000402:=aa
      have Yr:Hid ((S++(⟨#[41]⟩:ByteArray)).size<=20000000402):=hsz;have hs1:¬9223372036854775807<S.size+1:=aa
      clear jB HT hsz afp
      go_wp2_with fail
      go_roundg (m1-1)
      case measure=>have:=E7.out;have:=HIJ.out;omega
      case rel=>exact⟨i+1,_,by have:=E7.out;have:=HIJ.out;omega,ai,rfl,Yr.out,Ot,HB⟩
  .have Ic:decide ((i:Int)<(ps.length:Int))=false:=by simp;omega
   have jB:=HT.out;rw[Ak aa] at jB
   obtain⟨aW,_⟩:=HB.out;have hs1:¬9223372036854775807<S.size+1:=aa
   have Ot:Hid (jA TT S [41]):=jB;clear jB HT HB
   go_wp2_with fail
   go_ret
   refine⟨?_,aW⟩;rw[<-arc (S:=S++⟨#[41]⟩) ((Vh S [41]).trans Ot.out.eq)];rfl
end
section
theorem Ge.ari{a:Ge.Fr}(h:Ge.Ba a):Ge.bC a.1 a.2=a:=by
 have hp:=h.pos;obtain⟨g,g0,h1,h2,h3⟩:=Ge.tM (n:=a.1) (d:=a.2) aa
 have hr:=Ge.qI (n:=a.1) (d:=a.2) aa
 have hg:0<g:=h3.2 hp;have e:=h.co;rw[h1,h2,VL] at e;have e2:g.natAbs=1:=Nat.eq_one_of_mul_eq_one_right e;have e3:g=1:=aa
 rw[e3,Al] at h1 h2;exact eB h1.symm h2.symm
structure okF(a:Ge.Fr):Prop where
 red:Ge.Ba a
 n: -10000000<=a.1/\a.1<=10000000
 d:a.2<=1000000
namespace Pl
def Fb{α:Type}(ok:α->Prop)(txt:α->List UInt8)(P:List Tk->Tk->List Tk->α->Prop):Prop:=
 ∀x,ok x->∀s i rest,s.drop i=txt x++rest->(∃c r,rest=c::r/\(c=44\/c=41))->∃c,Lex s i c (i+(txt x).length)/\(∀t r,(t.k=44\/t.k=41)->P (c++t::r) t r x)/\c≠[]
def Ou{α:Type}(ok:α->Prop)(txt:α->List UInt8):Prop:=∀x,ok x->∃a r,txt x=a::r/\iX a=false
def Fe{α:Type}(P:List Tk->Tk->List Tk->α->Prop):List Tk->List Tk->List α->Prop
 |_,_,[]=>False
 |l,l',[x]=>∃t r,P l t r x/\t.k=41/\l'=t::r
 |l,l',x::y::xs=>∃t r,P l t r x/\t.k=44/\Fe P r l' (y::xs)
theorem Vk{α:Type}{ok:α->Prop}{txt:α->List UInt8}{P:List Tk->Tk->List Tk->α->Prop}(hI:Fb ok txt P)(hH:Ou ok txt):∀(xs:List α),xs≠[]->(∀x∈xs,ok x)->∀s i rest,s.drop i=bI txt xs++(41::rest)->
  ∃c,Lex s i c (i+(bI txt xs).length)/\(∀t r,t.k=41->Fe P (c++t::r) (t::r) xs)/\c≠[]
 |[],h,_,_,_,_,_=>absurd rfl h
 |[x],_,hok,s,i,rest,h=>by
  obtain⟨c,l1,p1,n1⟩:=hI x (hok x af) s i (41::rest) h ⟨_,_,rfl,aT rfl⟩
  exact⟨c,l1,λt r ht=>⟨t,r,p1 t r (aT ht),ht,rfl⟩,n1⟩
 |x::y::xs,_,hok,s,i,rest,h=>by
  have e0:bI txt (x::y::xs)++(41::rest)=txt x++(44::(32::(bI txt (y::xs)++(41::rest)))):=by simp[bI]
  rw[e0] at h;obtain⟨c,l1,p1,n1⟩:=hI x (hok x af) s i _ h ⟨_,_,rfl,aU rfl⟩
  have d2:=E9 h;have l2:=Fa (c:=44) af d2
  have d3:s.drop (i+(txt x).length+1)=32::(bI txt (y::xs)++(41::rest)):=by rw[<-Ay,d2];rfl
  have d4:s.drop (i+(txt x).length+1+1)=bI txt (y::xs)++(41::rest):=by rw[<-Ay,d3];rfl
  obtain⟨c',l3,p3,n3⟩:=Vk hI hH (y::xs) af (λz hz=>hok z (bX _ hz)) s _ rest d4
  have hb:∀b q,bI txt (y::xs)++(41::rest)=b::q->iX b=false:=by
   obtain⟨a,r2,ea,hb⟩:=hH y (hok y af)
   refine Oh ?_;cases xs with
   |nil=>exact⟨a,r2,ea,hb⟩
   |cons z xs=>exact⟨a,r2++([44,32]++bI txt (z::xs)),by show txt y++([44,32]++bI txt (z::xs))=_;rw[ea];rfl,hb⟩
  have l3':=Lex.blank d3 hb n3 l3;have el:(bI txt (x::y::xs)).length=(txt x).length+2+(bI txt (y::xs)).length:=by simp[bI];omega
  refine⟨c++([⟨(44:UInt8).toNat,[44],0,i+(txt x).length⟩]++c'),?_,λt r ht=>?_,af⟩
  .rw[el,show i+((txt x).length+2+(bI txt (y::xs)).length)=i+(txt x).length+1+1+(bI txt (y::xs)).length by omega]
   exact l1.append (l2.append l3')
  .have e:c++([⟨(44:UInt8).toNat,[44],0,i+(txt x).length⟩]++c')++t::r=c++⟨(44:UInt8).toNat,[44],0,i+(txt x).length⟩::(c'++t::r):=af
   rw[e];exact⟨_,_,p1 _ _ (aU rfl),rfl,p3 t r ht⟩
theorem afr(a:Ge.Fr):∃b r,fD a=b::r/\iX b=false:=by
 obtain⟨b,r,e,hb⟩:=ae5 a.1;unfold fD;split
 .exact⟨b,r,e,hb⟩
 .exact⟨b,r++([47]++Lib.itoa a.2),by rw[e];rfl,hb⟩
theorem afs{a:Ge.Fr}(h:okF a){s rest:List UInt8}{i:Nat}(hd:s.drop i=fD a++rest)(hs:∃c r,rest=c::r/\(c=44\/c=41\/c=32)):∃c,Lex s i c (i+(fD a).length)/\(∀t r,t.k≠47->sH (c++t::r) (t::r) a)/\∃t r,c=t::r/\t.k=110:=by
 have hn:=h.n;have hp:=h.red.pos;have hdd:=h.d;have I4:Sep rest:=by
  obtain⟨c,r,rfl,q⟩:=hs;refine Sep.of _ _ ?_;rcases q with q|q|q<;>simp[q]
 unfold fD at hd⊢;by_cases h1:a.2=1
 .rw[aV h1] at hd⊢;have l1:=Va (n:=a.1) aa aa hd I4
  exact⟨_,l1,λt r ht=>aU ⟨_,t,r,rfl,rfl,rfl,ht,eB rfl h1⟩,_,_,rfl,rfl⟩
 .rw[aQ h1] at hd⊢;have e:Lib.itoa a.1++([47]++Lib.itoa a.2)++rest=Lib.itoa a.1++(47::(Lib.itoa a.2++rest)):=af
  rw[e] at hd;have l1:=Va (n:=a.1) aa aa hd (Sep.of 47 _ af)
  have d2:=E9 hd;have l2:=Fa (c:=47) af d2
  have d3:s.drop (i+(Lib.itoa a.1).length+1)=Lib.itoa a.2++rest:=by rw[<-Ay,d2];rfl
  have l3:=Va (n:=a.2) aa aa d3 I4
  refine⟨[⟨110,Lib.itoa a.1,a.1,i⟩]++([⟨(47:UInt8).toNat,[47],0,i+(Lib.itoa a.1).length⟩]++[⟨110,Lib.itoa a.2,a.2,i+(Lib.itoa a.1).length+1⟩]),?_,λt r _=>aT ⟨⟨110,Lib.itoa a.1,a.1,i⟩,⟨(47:UInt8).toNat,[47],0,i+(Lib.itoa a.1).length⟩,⟨110,Lib.itoa a.2,a.2,i+(Lib.itoa a.1).length+1⟩,t::r,rfl,rfl,rfl,rfl,rfl,by show 2<=a.2;omega,by show a.2<=1000000000;omega,by show -1000000000<=a.1/\a.1<=1000000000;omega,Ge.ari h.red,rfl⟩,⟨110,Lib.itoa a.1,a.1,i⟩,_,rfl,rfl⟩
  have el:(Lib.itoa a.1++([47]++Lib.itoa a.2)).length=(Lib.itoa a.1).length+1+(Lib.itoa a.2).length:=by simp;omega
  rw[el,show i+((Lib.itoa a.1).length+1+(Lib.itoa a.2).length)=i+(Lib.itoa a.1).length+1+(Lib.itoa a.2).length by omega]
  exact l1.append (l2.append l3)
def CL(q:Ge.Qt):Prop:=okF q.1/\okF q.2
def PtT(l:List Tk)(t:Tk)(r:List Tk)(p:Ge.Qt):Prop:=∃l1,sH l l1 p.1/\sH l1 (t::r) p.2
theorem ark:Fb CL dH PtT:=λq hq s i rest h hr=>by
 have e:dH q++rest=fD q.1++(32::(fD q.2++rest)):=by simp[dH]
 rw[e] at h;obtain⟨c1,l1,p1,t1,r1,e1,k1⟩:=afs hq.1 h ⟨32,_,rfl,af⟩
 have d2:=E9 h;have d3:s.drop (i+(fD q.1).length+1)=fD q.2++rest:=by rw[<-Ay,d2];rfl
 obtain⟨c,r,er,hc⟩:=hr;obtain⟨c2,l2,p2,t2,r2,e2,k2⟩:=afs hq.2 d3 ⟨c,r,er,by rcases hc with q|q<;>simp[q]⟩
 have Vl:=Lex.blank d2 (Oh (afr q.2)) (by rw[e2];simp) l2
 refine⟨c1++c2,?_,λt r ht=>⟨c2++t::r,?_,p2 t r aa⟩,by rw[e1];simp⟩
 .have el:(dH q).length=(fD q.1).length+1+(fD q.2).length:=by simp[dH];omega
  rw[el,show i+((fD q.1).length+1+(fD q.2).length)=i+(fD q.1).length+1+(fD q.2).length by omega]
  exact l1.append Vl
 .rw[fH,e2,lU];exact p1 t2 _ aa
theorem arl:Ou CL dH:=λq _=>by
 obtain⟨b,r,e,hb⟩:=afr q.1;exact⟨b,r++([32]++fD q.2),by unfold dH;rw[e];rfl,hb⟩
theorem afv:∀{xs:List Ge.Qt}{l l':List Tk},Fe PtT l l' xs->CC l l' xs
 |[],_,_,h=>h.elim
 |[_],_,_,h=>by
  obtain⟨t,r,⟨l1,h1,h2⟩,h3,h4⟩:=h;exact⟨l1,t,r,h1,h2,h3,h4⟩
 |_::_::_,_,_,h=>by
  obtain⟨t,r,⟨l1,h1,h2⟩,h3,h4⟩:=h;exact⟨l1,t,r,h1,h2,h3,afv h4⟩
theorem afw{α:Type}{ok:α->Prop}{txt:α->List UInt8}{P:List Tk->Tk->List Tk->α->Prop}(hI:Fb ok txt P)(hH:Ou ok txt){Q:List Tk->Tk->List Tk->List α->Prop}{Jw:List α->Prop}(h1:∀xs,Jw xs->xs≠[]/\∀x∈xs,ok x)
  (hQ:∀xs t r t2 t3 r3,Jw xs->t.k=40->Fe P r (t2::t3::r3) xs->t2.k=41->Q (t::r) t3 r3 xs):Fb Jw (λxs=>40::(bI txt xs++[41])) Q:=λxs hxs s i rest h hr=>by
 have e:(40::(bI txt xs++[41]))++rest=40::(bI txt xs++(41::rest)):=af
 rw[e] at h;have l1:=Fa (c:=40) af h
 have d1:s.drop (i+1)=bI txt xs++(41::rest):=by rw[<-Ay,h];rfl
 obtain⟨c,l2,p2,n2⟩:=Vk hI hH xs (h1 xs hxs).1 (h1 xs hxs).2 s (i+1) rest d1;have d2:=E9 d1;have l3:=Fa (c:=41) af d2
 refine⟨[⟨(40:UInt8).toNat,[40],0,i⟩]++(c++[⟨(41:UInt8).toNat,[41],0,i+1+(bI txt xs).length⟩]),?_,λt r _=>?_,af⟩
 .have el:(40::(bI txt xs++[41])).length=1+(bI txt xs).length+1:=by simp;omega
  rw[el,show i+(1+(bI txt xs).length+1)=i+1+(bI txt xs).length+1 by omega]
  exact l1.append (l2.append l3)
 .have e2:[⟨(40:UInt8).toNat,[40],0,i⟩]++(c++[⟨(41:UInt8).toNat,[41],0,i+1+(bI txt xs).length⟩])++t::r=(⟨(40:UInt8).toNat,[40],0,i⟩:Tk)::(c++⟨(41:UInt8).toNat,[41],0,i+1+(bI txt xs).length⟩::t::r):=af
  rw[e2];exact hQ xs _ _ _ t r hxs rfl (p2 _ (t::r) rfl) rfl
theorem afx{α:Type}{Jw:List α->Prop}{txt:α->List UInt8}:Ou Jw (λxs=>40::(bI txt xs++[41])):=λxs _=>⟨40,_,rfl,ah⟩
def rX(g:List Ge.Qt):List UInt8:=40::(bI dH g++[41])
def pX(gs:List (List Ge.Qt)):List UInt8:=40::(bI rX gs++[41])
def okR(g:List Ge.Qt):Prop:=wX g/\∀q∈g,CL q
def Vm(gs:List (List Ge.Qt)):Prop:=gs≠[]/\gs.length<=20000000402/\∀g∈gs,okR g
theorem arn:Fb okR rX Jo:=afw ark arl (λxs h=>⟨λe=>by have:=h.1.1;rw[e] at this;simp at this,h.2⟩) λxs t r t2 t3 r3 h h1 h2 h3=>⟨t,r,t2,rfl,h1,afv h2,h3,h.1⟩
theorem afz:∀{xs:List (List Ge.Qt)}{l l':List Tk},Fe Jo l l' xs->E6 l l' xs
 |[],_,_,h=>h.elim
 |[_],_,_,h=>h
 |_::_::_,_,_,h=>by
  obtain⟨t,r,h1,h3,h4⟩:=h;exact⟨t,r,h1,h3,afz h4⟩
theorem aro:Fb Vm pX Jp:=afw arn afx (λ_ h=>⟨h.1,h.2.2⟩) λ_ t r t2 _ _ h h1 h2 h3=>⟨t,r,t2,rfl,h1,afz h2,h3,h.2.1⟩
theorem afA:∀{xs:List (List (List Ge.Qt))}{l l':List Tk},Fe Jp l l' xs->CE l l' xs
 |[],_,_,h=>h.elim
 |[_],_,_,h=>h
 |_::_::_,_,_,h=>by
  obtain⟨t,r,h1,h3,h4⟩:=h;exact⟨t,r,h1,h3,afA h4⟩
theorem arp{ps:List (List (List Ge.Qt))}(hne:ps≠[])(hok:∀p∈ps,Vm p):∃t1 r1 t2 te,all (fA++([32,40]++(bI pX ps++[41])))=⟨119,fA,0,0⟩::t1::r1/\t1.k=40/\CE r1 [t2,te] ps/\t2.k=41/\te.k=101:=by
 generalize hs:fA++([32,40]++(bI pX ps++[41]))=s;have h0:s.drop 0=fA++(32::(40::(bI pX ps++(41::[])))):=by rw[<-hs];simp
 have l1:=aqP (q:=fA) ah aqQ.2.2 h0 (Sep.of 32 _ af)
 have d1:=E9 h0;rw[jD] at l1 d1;have d2:s.drop (fA.length+1)=40::(bI pX ps++(41::[])):=by rw[<-Ay,d1];rfl
 have l2:=Fa (c:=40) af d2
 have Vl:=Lex.blank d1 (λc r e=>by injection e with e _;rw[<-e];decide) af l2
 have d3:s.drop (fA.length+1+1)=bI pX ps++(41::[]):=by rw[<-Ay,d2];rfl
 obtain⟨c,l3,p3,_⟩:=Vk aro afx ps hne hok s _ [] d3;have d4:=E9 d3;have l4:=Fa (c:=41) af d4
 have L:=l1.append (Vl.append (l3.append l4));have hend:s.length=fA.length+1+1+(bI pX ps).length+1:=by rw[<-hs];simp;omega
 have htk:tk s (fA.length+1+1+(bI pX ps).length+1)=⟨101,[],0,fA.length+1+1+(bI pX ps).length+1⟩:=by
  rw[Og (l:=[]) (by rw[List.drop_eq_nil_iff];omega) (λc r e=>by cases e)]
  rfl
 have hlen:=(L.len (iA _)).1;obtain⟨K,hK⟩:∃K:List Tk,K=[⟨119,fA,0,0⟩]++([⟨(40:UInt8).toNat,[40],0,fA.length+1⟩]++(c++[⟨(41:UInt8).toNat,[41],0,fA.length+1+1+(bI pX ps).length⟩])):=⟨_,rfl⟩;rw[<-hK] at L hlen;have hf:s.length+1-K.length+K.length=s.length+1:=aa
 have ht:=L.iq (s.length+1-K.length);rw[hf] at ht;have he:∀f,iq s f (fA.length+1+1+(bI pX ps).length+1)=[⟨101,[],0,fA.length+1+1+(bI pX ps).length+1⟩]:=λf=>by
  cases f with
  |zero=>rw[Pl.iq,htk]
  |succ f=>rw[Pl.iq,htk,aV (aU rfl)]
 rw[he] at ht;refine⟨⟨(40:UInt8).toNat,[40],0,fA.length+1⟩,c++[⟨(41:UInt8).toNat,[41],0,fA.length+1+1+(bI pX ps).length⟩,⟨101,[],0,fA.length+1+1+(bI pX ps).length+1⟩],_,_,?_,rfl,afA (p3 _ [_] rfl),rfl,rfl⟩
 .show Pl.iq _ _ 0=_;rw[ht,hK];simp
end Pl
end
namespace Gb
open Ge Ga
section
variable{M:Int}{S:List Sg}{nx:Sg->Sg}{RL:List (List Sg)}{DG:List (List Pt)}{l':List Nd}
end
section
variable{M:Int}{S:List Sg}{nx:Sg->Sg}{RL:List (List Sg)}{DG:List (List Pt)}{l':List Nd}{r':Int}{Ja:List PB}
end
section
variable{rg:List (List Pt)}{l:List Nd}{r:Int}{Xs:List PB}
end
end Gb
section
namespace Pl
end Pl
end
namespace Gb
open Ge Ga
theorem Jx{α:Type}(f:α->List UInt8):∀l:List α,Lib.join (l.map f) [44,32]=Pl.bI f l
 |[]=>by simp[Lib.join,List.intercalate,Pl.bI]
 |[x]=>by simp[Lib.join,List.intercalate,Pl.bI]
 |x::y::r=>by
  have ih:=Jx f (y::r);simp only[Lib.join,List.intercalate,ij,List.intersperse,yz,Pl.bI] at ih⊢;rw[ih]
theorem arq{rg:List (List Pt)}{r:Int}{T:List UInt8}(hs:∀e∈aR rg,gz e)(h:Cv rg r T):T.length<=20000000000:=by
 obtain⟨Ps,l,h1,h2,h3,h4,hT⟩:=h;have hX:=ML (r:=r) h1 h2 h3;have hB:=Nr (r:=r) h1 hs h3 h4;generalize od r (aR rg) Ps=Xs at*;have xY:=hX.pn hB Xs.length (aY _);have ht:=hX.eW hB Xs.length (aY _);have hst:=adI hB xY;have hJ:=adD hB (adH hB xY);have hL:=hB.len;rw[hT];unfold xV Nq Cr;split
 .decide
 .rw[bY,bY];have:xU.length=14:=rfl;simp only[dw,iJ];omega
end Gb
end Go.Proofs.YtkjhhooecopolaaGreatDoor
namespace Go.Proofs.YtkjhhooecopolaaGreatDoor
open Tryz
open Value renaming int->az,complex->aA,float->aB,agg->aC,bool->aD,string->aF,slice->aG,pointer->aH,tuple->aI
open IntKind renaming i64->aJ
open FloatKind renaming f64->aK
open Ending renaming returned->aL
open Go renaming World->aM,Value->aN,floatOfInt->aO
namespace Gb
open Ge Ga
theorem LR.ars{S:List Sg}{nx:Sg->Sg}(h:Wd S nx){R:List Sg}(k:LR S nx R):3<=(dE R).length:=by
 obtain⟨a,T,t,U,rfl,e2,e3,hd⟩:=k.F6 h;rw[e3];cases U with
 |cons u U=>simp
 |nil=>
  exfalso;have hl:(a::T).getLast?=some (T.getLastD a):=by rw[VC,nK]
  have hz:=k.ring.mem _ (sK hl);have ha:=k.ring.mem a af
  have hp:=k.ring.path (a:=a) rfl;have go:∀(T:List Sg)(b:Sg)(e:Pt),b∈S->(∀s∈T,s∈S)->Path b.2 T e->∀t,tG b T=[t]->bh (dr (t.1,e)) (dr (T.getLastD b))=true:=by
   intro T;induction T with
   |nil=>intro b e _ _ _ t ht;simp[tG] at ht
   |cons s T ih=>
    intro b e hb hT hp t ht;have hs:=hT s af
    have hT':∀x∈T,x∈S:=λx hx=>hT x (bX _ hx)
    rw[List.getLastD_cons];have ht':(if cr (dr b) (dr s)=0 then tG s T else s::tG s T)=[t]:=ht
    by_cases q:cr (dr b) (dr s)=0
    .rw[aV q] at ht';exact ih s e hs hT' hp.2 t ht'
    .rw[aQ q] at ht';injection ht' with h1 h2;subst h1;have k1:=(h.PJ T s e hs hT' hp.2).1 h2;have k2:=h.Ns T s s e hs hT' hp.2 (tB (h.iK hs));rw[h2] at k2;exact Dr k1 k2
  have g:=go T a a.1 ha (λs hs=>k.ring.mem s (bX _ hs)) hp.2 t e2
  have z2:a.1=(T.getLastD a).2:=(k.ring.cls _ a hl rfl).1;have tw:=h.two a ha _ hz z2;have e:dr (t.1,a.1)=neg (dr (a.1,t.1)):=wI (a.1,t.1);rw[e] at g;have g2:bh (dr (a.1,t.1)) (neg (dr (T.getLastD a)))=true:=by
   rw[dP] at g⊢;rw[gu,sZ] at g;rw[gF,mD];omega
  rw[Dr (F5 hd) g2] at tw;cases tw
end Gb
open Ge Go.RowKit
def cq(c:List Nd):List Qt:=(c++c.take 1).map aX
def pq(p:Gb.NP):List (List Qt):=(p.1::p.2).map cq
def oq(p:Gb.NP):List (List Qt):=(p.1::p.2).map (·.map aX)
theorem art{c:List Nd}(h:c≠[]):opn (cq c)=c.map aX:=by
 cases c with
 |nil=>exact absurd rfl h
 |cons a r=>
  show((a::r++[a]).map aX).dropLast=_;rw[jC,List.map_singleton,List.dropLast_concat]
theorem Vn{F:List Gb.NP}(h:F≠[]):Gb.qm F=Pl.fA++([32,40]++(Pl.bI Pl.pX (F.map pq)++[41])):=by
 have e:(F.map λp=>vQ (Gb.xX p.1) (p.2.map Gb.xX))=(F.map pq).map Pl.pX:=by
  rw[iC];refine yE λp _=>?_
  show vQ (Gb.xX p.1) (p.2.map Gb.xX)=Pl.pX (pq p);unfold vQ Pl.pX;rw[<-Gb.Jx];unfold pq;rw[iC];rfl
 unfold Gb.qm Cr;rw[e,aQ (by simpa using h),Gb.Jx]
 simp[xU,Pl.fA]
def jT{α:Type}(f:α->List UInt8):Bool->List α->List UInt8
 |_,[]=>[41]
 |b,x::xs=>(if b then[] else[44,32])++(f x++jT f false xs)
theorem Vo{α:Type}(f:α->List UInt8):∀xs:List α,jT f true xs=Pl.bI f xs++[41]
 |[]=>rfl
 |[x]=>by simp[jT,Pl.bI]
 |x::y::xs=>by
  have ih:=Vo f (y::xs);simp[jT,Pl.bI] at ih⊢;exact ih
theorem afB(q0:Qt):∀g:List Qt,nT q0 g=Pl.bI Pl.dH (g++[q0])++[41]
 |[]=>rfl
 |[x]=>by simp[nT,Pl.bI]
 |x::y::g=>by
  have ih:=afB q0 (y::g);simp[nT,Pl.bI] at ih⊢;exact ih
def rO(g:List Qt):List UInt8:=[40]++nT (g.headD ((0,1),(0,1))) g
def pO(gs:List (List Qt)):List UInt8:=[40]++iT true gs
theorem afC:∀(b:Bool)(gs:List (List Qt)),iT b gs=jT rO b gs
 |_,[]=>rfl
 |b,g::gs=>by
  unfold iT jT rO;rw[afC false gs,fH];rfl
theorem afD:∀(b:Bool)(ps:List (List (List Qt))),oT b ps=jT pO b ps
 |_,[]=>rfl
 |b,p::ps=>by
  unfold oT jT pO;rw[afD false ps,fH];rfl
theorem afE{α β:Type}{f:α->List UInt8}{g:β->List UInt8}:∀{xs:List α}{ys:List β},xs.map f=ys.map g->Pl.bI f xs=Pl.bI g ys:=λ{xs ys} h=>by
 rw[<-Gb.Jx,<-Gb.Jx,h]
theorem aru{c:List Nd}(h:c≠[]):rO (c.map aX)=Pl.rX (cq c):=by
 cases c with
 |nil=>exact absurd rfl h
 |cons a r=>
  unfold rO Pl.rX cq;rw[afB];simp
theorem arv{F:List Gb.NP}(h:F≠[])(hne:∀p∈F,p.1≠[]/\∀g∈p.2,g≠[]):Gb.qm F=xU++oT true (F.map oq):=by
 rw[Vn h,afD,Vo];have e:Pl.bI pO (F.map oq)=Pl.bI Pl.pX (F.map pq):=afE (by
  rw[iC,iC];refine yE λp hp=>?_
  show pO (oq p)=Pl.pX (pq p);unfold pO Pl.pX;rw[afC,Vo];have e2:Pl.bI rO (oq p)=Pl.bI Pl.rX (pq p):=afE (by
   unfold oq pq;rw[iC,iC];refine yE λc hc=>?_
   show rO (c.map aX)=Pl.rX (cq c);refine aru ?_;rcases bU.1 hc with q|q
   .rw[q];exact(hne p hp).1
   .exact(hne p hp).2 c q)
  rw[e2];rfl)
 rw[e];simp[xU,Pl.fA]
theorem CM{α:Type}{f:α->List UInt8}(hf:∀x,1<=(f x).length):∀xs:List α,xs.length<=(Pl.bI f xs).length
 |[]=>af
 |[x]=>by simpa[Pl.bI] using hf x
 |x::y::xs=>by
  have ih:=CM hf (y::xs);simp[Pl.bI] at ih⊢;omega
theorem Jy{α:Type}{f:α->List UInt8}:∀{xs:List α}{x:α},x∈xs->(f x).length<=(Pl.bI f xs).length
 |[],_,h=>by simp at h
 |[y],x,h=>by
  have:x=y:=by simpa using h
  rw[this];exact aY _
 |y::z::xs,x,h=>by
  rcases bU.1 h with q|q
  .rw[q];simp[Pl.bI]
  .have ih:=Jy (f:=f) q;simp[Pl.bI] at ih⊢;omega
theorem afF(s:List UInt8):∀(f i:Nat),(Pl.iq s f i).length<=f+1
 |0,i=>by simp[Pl.iq]
 |f+1,i=>by
  rw[Pl.iq];split
  .simp
  .have:=afF s f ((Pl.tk s i).pl+(Pl.tk s i).raw.length);simp;omega
theorem afG{n d:Int}(hd:0<d):(bC n d).1.natAbs<=n.natAbs/\(bC n d).2<=d/\0<(bC n d).2:=by
 obtain⟨g,g0,h1,h2,h3⟩:=tM (n:=n) (d:=d) aa
 have hg:0<g:=h3.2 hd;have hp:=(qI (n:=n) (d:=d) aa).pos
 refine⟨?_,?_,hp⟩
 .have e:=aZ Int.natAbs h1;rw[mq] at e;rw[e];exact OL _ aa
 .have:=agx (show 1<=g by omega) (show 0<=(bC n d).2 by omega)
  rw[Al,<-h2] at this;exact this
theorem arw{n:Nd}(hc:Ge.Can n)(hn:mJ n):Pl.CL (aX n):=by
 have hp:=hc.pos;have h1:=afG (n:=n.1) hp;have h2:=afG (n:=n.2.1) hp;have hx:=hn.x;have hy:=hn.y;have hd:=hn.d;refine⟨⟨qI aa,?_,?_⟩,⟨qI aa,?_,?_⟩⟩
 .show -10000000<=(bC n.1 n.2.2).1/\(bC n.1 n.2.2).1<=10000000;omega
 .show(bC n.1 n.2.2).2<=1000000;omega
 .show -10000000<=(bC n.2.1 n.2.2).1/\(bC n.2.1 n.2.2).1<=10000000;omega
 .show(bC n.2.1 n.2.2).2<=1000000;omega
theorem afH{q:Qt}(h:Pl.CL q):gb q:=⟨h.1.n,⟨h.1.red.pos,h.1.d⟩,h.2.n,⟨h.2.red.pos,h.2.d⟩⟩
structure Vp(F:List Gb.NP):Prop where
 q:∀p∈F,∀c∈p.1::p.2,3<=c.length/\∀n∈c,Pl.CL (aX n)
theorem arx{F:List Gb.NP}(hF:Vp F)(hne:F≠[])(hl:(Gb.qm F).length<=20000000000)(w:aM)(hG:Gl w):
  ak 24 #[aF (ba (Gb.qm F))] w λe w'=>∃v,e=aL (aI #[v,aD true])/\nH w' v (F.map oq)/\aj w w':=by
 have e1:=Vn hne;have Ov:∀p∈F,∀c∈p.1::p.2,c≠[]:=λp hp c hc e=>by
  have:=(hF.q p hp c hc).1;rw[e] at this;simp at this
 have e2:=arv hne λp hp=>⟨Ov p hp _ af,λg hg=>Ov p hp g (by simp[hg])⟩
 have hJ:(Pl.bI Pl.pX (F.map pq)).length<=20000000000:=by
  rw[e1] at hl;simp at hl;omega
 have hpl:∀gs:List (List Qt),gs∈F.map pq->gs.length<=20000000000/\∀g∈gs,g.length<=20000000000:=λgs uS=>by
  have h1:=Jy (f:=Pl.pX) uS;have h2:(Pl.pX gs).length=(Pl.bI Pl.rX gs).length+2:=by simp[Pl.pX]
  have h3:=CM (f:=Pl.rX) (λx=>by simp[Pl.rX]) gs
  refine⟨aa,λg hg=>?_⟩
  have h4:=Jy (f:=Pl.rX) hg;have h5:(Pl.rX g).length=(Pl.bI Pl.dH g).length+2:=by simp[Pl.rX]
  have h6:=CM (f:=Pl.dH) (λx=>by simp[Pl.dH];omega) g
  omega
 have hok:∀gs∈F.map pq,Pl.Vm gs:=λgs uS=>by
  obtain⟨p,hp,rfl⟩:=bQ.1 uS;obtain⟨k1,k2⟩:=hpl _ uS;refine⟨by unfold pq;simp,aa,λg hg=>?_⟩
  have hgl:=k2 g hg;obtain⟨c,hc,rfl⟩:=bQ.1 hg;obtain⟨c3,cn⟩:=hF.q p hp c hc;cases c with
  |nil=>simp at c3
  |cons a r=>
   refine⟨⟨?_,aa,?_⟩,λq hq=>?_⟩
   .simp[cq] at c3⊢;omega
   .simp[cq]
   .obtain⟨n,hn,rfl⟩:=bQ.1 hq;rcases dv.1 hn with z|z
    .exact cn n z
    .exact cn n (rB z)
 obtain⟨t1,r1,t2,te,ha,ht1,N7,ht2,hte⟩:=Pl.arp (ps:=F.map pq) (by simpa using hne) hok
 rw[<-e1] at ha;have Kq:(F.map pq).map (·.map opn)=F.map oq:=by
  rw[iC];refine yE λp hp=>?_
  show(pq p).map opn=oq p;unfold pq oq;rw[iC];exact yE λc hc=>art (Ov p hp c hc)
 have hal:(Pl.all (Gb.qm F)).length<=(Gb.qm F).length+2:=afF _ _ _;have hFl:F.length<=20000000000:=by
  have:=CM (f:=Pl.pX) (λx=>by simp[Pl.pX]) (F.map pq)
  rw[ia] at this;omega
 have main:=aqv (ba (Gb.qm F)) w (by rw[arb];omega) ⟨119,Pl.fA,0,0⟩ te (t1::r1) [] (F.map pq) (by rw[afj];exact ha) (by rw[afj];omega) rfl rfl (by rw[ia];omega) ⟨t1,r1,t2,rfl,ht1,N7,ht2⟩ hte (λw1 v hb hR=>by
  rw[Kq] at hR;refine ard (Gb.qm F) (F.map oq) v w1 (CH hG hb) hR (by simpa using hne) ?_ e2 aa (by rw[ia];omega) ?_
  .intro o ho g hg;obtain⟨p,hp,rfl⟩:=bQ.1 ho;obtain⟨c,hc,rfl⟩:=bQ.1 hg;refine⟨by simpa using Ov p hp c hc,λq hq=>?_⟩
   obtain⟨n,hn,rfl⟩:=bQ.1 hq;exact afH ((hF.q p hp c hc).2 n hn)
  .intro o ho;obtain⟨p,hp,rfl⟩:=bQ.1 ho;obtain⟨k1,k2⟩:=hpl (pq p) (bQ.2 ⟨p,hp,rfl⟩);refine⟨by simp[oq,pq] at k1⊢;omega,λg hg=>?_⟩
   obtain⟨c,hc,rfl⟩:=bQ.1 hg;have:=k2 (cq c) (bQ.2 ⟨c,hc,rfl⟩);simp[cq] at this⊢;omega)
 rw[Kq] at main;exact main
end Go.Proofs.YtkjhhooecopolaaGreatDoor
namespace Go.Proofs.YtkjhhooecopolaaGreatDoor
open Tryz
open Value renaming int->az,complex->aA,float->aB,agg->aC,bool->aD,string->aF,slice->aG,pointer->aH,tuple->aI
open IntKind renaming i64->aJ
open FloatKind renaming f64->aK
open Ending renaming returned->aL
open Go renaming World->aM,Value->aN,floatOfInt->aO
section
open Ge
namespace Gb
open Ga
theorem Ff{M:Int}(hM:0<M){a:Nd}(ha:OK M a):0<(aX a).1.2/\0<(aX a).2.2/\(PM M a).1*(aX a).1.2=(aX a).1.1*M/\(PM M a).2*(aX a).2.2=(aX a).2.1*M:=by
 obtain⟨k,_,e1,e2⟩:=xy hM ha.p ha.d;obtain⟨g,_,g1,g2,g3⟩:=tM (n:=a.1) (d:=a.2.2) (by have:=ha.p;omega)
 obtain⟨g',_,g1',g2',g3'⟩:=tM (n:=a.2.1) (d:=a.2.2) (by have:=ha.p;omega)
 have p1:=(qI (n:=a.1) (d:=a.2.2) (by have:=ha.p;omega)).pos
 have p2:=(qI (n:=a.2.1) (d:=a.2.2) (by have:=ha.p;omega)).pos
 refine⟨p1,p2,?_,?_⟩
 .rw[e2];show a.1*k*(bC a.1 a.2.2).2=(bC a.1 a.2.2).1*M;rw[<-e1]
  grind
 .rw[e2];show a.2.1*k*(bC a.2.1 a.2.2).2=(bC a.2.1 a.2.2).1*M;rw[<-e1]
  grind
theorem Gh{x:Int}:(0<x.sign↔0<x)/\(x.sign<0↔x<0)/\(x.sign=0↔x=0):=by
 rcases fX x 0 with q|q|q
 .rw[Af q];omega
 .subst q;simp
 .rw[oJ q];omega
theorem afI{M:Int}(hM:0<M){a b c:Nd}(ha:OK M a)(hb:OK M b)(hc:OK M c):(0<uu (aX a) (aX b) (aX c)↔0<cr (dr (PM M a,PM M b)) (dr (PM M a,PM M c)))/\(uu (aX a) (aX b) (aX c)<0↔cr (dr (PM M a,PM M b)) (dr (PM M a,PM M c))<0)/\(uu (aX a) (aX b) (aX c)=0↔cr (dr (PM M a,PM M b)) (dr (PM M a,PM M c))=0):=by
 obtain⟨a1,a2,a3,a4⟩:=Ff hM ha;obtain⟨b1,b2,b3,b4⟩:=Ff hM hb;obtain⟨c1,c2,c3,c4⟩:=Ff hM hc;unfold uu;generalize aX a=a' at*;generalize aX b=b' at*;generalize aX c=c' at*;generalize PM M a=A at*;generalize PM M b=B at*;generalize PM M c=C at*;obtain⟨⟨ax,ad⟩,ay,ae⟩:=a';obtain⟨⟨bx,bd⟩,by',be⟩:=b'
 obtain⟨⟨cx,cd⟩,cy,ce⟩:=c';simp only at*;have K:0<(ad*bd*cd)*(ae*be*ce):=bJ (bJ (bJ a1 b1) c1) (bJ (bJ a2 b2) c2);have M2:0<M*M:=bJ hM hM;have u:M*(bx*ad-ax*bd)=(B.1-A.1)*(ad*bd):=by grind
 have v:M*(cy*ae-ay*ce)=(C.2-A.2)*(ae*ce):=by grind
 have w:M*(by'*ae-ay*be)=(B.2-A.2)*(ae*be):=by grind
 have x:M*(cx*ad-ax*cd)=(C.1-A.1)*(ad*cd):=by grind
 generalize bx*ad-ax*bd=U at*;generalize cy*ae-ay*ce=V at*;generalize by'*ae-ay*be=Y at*
 generalize cx*ad-ax*cd=X at*;have e:(M*M)*(U*V*(be*cd)-Y*X*(bd*ce))=((ad*bd*cd)*(ae*be*ce))*cr (dr (A,B)) (dr (A,C)):=by
  have i1:(M*M)*(U*V*(be*cd)-Y*X*(bd*ce))=(M*U)*(M*V)*(be*cd)-(M*Y)*(M*X)*(bd*ce):=by grind
  rw[i1,u,v,w,x];unfold cr dr;simp only
  grind
 have s:=jl M2 K e;have t:=Gh (x:=U*V*(be*cd)-Y*X*(bd*ce));exact⟨t.1.trans s.1,t.2.1.trans s.2.1,t.2.2.trans s.2.2⟩
theorem Vq{M x y A B p q:Int}(hM:0<M)(hp:0<p)(hq:0<q)(h1:A*p=x*M)(h2:B*q=y*M):(0<fc (x,p) (y,q)↔B<A)/\(fc (x,p) (y,q)<0↔A<B)/\(fc (x,p) (y,q)=0↔A=B):=by
 unfold fc;simp only;have e:M*(x*q-y*p)=(p*q)*(A-B):=by grind
 have s:=jl hM (bJ hp hq) e;have t:=Gh (x:=x*q-y*p);refine⟨t.1.trans (s.1.trans aa),t.2.1.trans (s.2.1.trans aa),t.2.2.trans (s.2.2.trans aa)⟩
end Gb
theorem ary(g:List Pt):eN g=closing g:=by cases g<;>rfl
namespace Gb
open Ga
section
variable{S:List Sg}{nx:Sg->Sg}{RL:List (List Sg)}
end
end Gb
end
section
open Go.RowKit
variable{b a c d p1 p2 p3 p4:Int}{w w':aM}
def Q4(w:aM)(b k:Nat)(e:Ge.Qt):Prop:=w.cell? ⟨b,k*4,none⟩=some (az aJ e.1.1)/\w.cell? ⟨b,k*4+1,none⟩=some (az aJ e.1.2)/\w.cell? ⟨b,k*4+2,none⟩=some (az aJ e.2.1)/\w.cell? ⟨b,k*4+3,none⟩=some (az aJ e.2.2)
theorem Q4.below{b k:Nat}{e:Ge.Qt}(h:Q4 w b k e){n:Nat}(hb:Below n w w')(hn:b<n):Q4 w' b k e:=
 ⟨(aS hb h.1 hn),(aS hb h.2.1 hn),(aS hb h.2.2.1 hn),(aS hb h.2.2.2 hn)⟩
theorem arz{so:Option Addr}{n cap:Nat}{g:List Ge.Qt}(h:rL w (aG so n cap) g)(hg:0<g.length):∃b,so=some ⟨b,0,none⟩/\b<w.heap.size/\∀k e,g[k]?=some e->Q4 w b k e:=by
 obtain⟨b,rfl,hb,_⟩:=DY h (bo hg);refine⟨b,rfl,hb,λk e he=>?_⟩
 obtain⟨b',hb',_,c⟩:=DY h he;injection hb' with hb';injection hb' with hb';subst hb';exact c
theorem Ow(W:aM)(a b c d:Int):P4 (W.alloc (.cells #[az aJ a,az aJ b,az aJ c,az aJ d] 100)) W.heap.size a b c d:=heap_alloc_new W _
theorem P4.cs{X:Nat}(h:P4 w X a b c d):w.cell? ⟨X,0,none⟩=some (az aJ a)/\w.cell? ⟨X,1,none⟩=some (az aJ b)/\w.cell? ⟨X,2,none⟩=some (az aJ c)/\w.cell? ⟨X,3,none⟩=some (az aJ d):=⟨cell_of h 0,cell_of h 1,cell_of h 2,cell_of h 3⟩
theorem afJ{X:Nat}{p q r s:Int}(h:P4 w X p q r s)(x y z t:Int):∃V1 V2 V3 V4,w.setCell ⟨X,0,none⟩ (az aJ x)=V1/\V1.setCell ⟨X,1,none⟩ (az aJ y)=V2/\V2.setCell ⟨X,2,none⟩ (az aJ z)=V3/\V3.setCell ⟨X,3,none⟩ (az aJ t)=V4/\w.cell? ⟨X,0,none⟩=some (az aJ p)/\V1.cell? ⟨X,1,none⟩=some (az aJ q)/\V2.cell? ⟨X,2,none⟩=some (az aJ r)/\V3.cell? ⟨X,3,none⟩=some (az aJ s)/\w.frozen? ⟨X,0,none⟩=false/\V1.frozen? ⟨X,1,none⟩=false/\V2.frozen? ⟨X,2,none⟩=false/\V3.frozen? ⟨X,3,none⟩=false/\Hid (P4 V4 X x y z t)/\Hid (∀{Y:Nat}{a b c d:Int},Y≠X->P4 w Y a b c d->P4 V4 Y a b c d)/\Hid (∀{W:aM},Bw W w->W.heap.size<=X->Bw W V4):=by
 have k1:P4 (w.setCell ⟨X,0,none⟩ (az aJ x)) X x q r s:=by
  show _=_;rw[heap_set h];rfl
 have k2:P4 ((w.setCell ⟨X,0,none⟩ (az aJ x)).setCell ⟨X,1,none⟩ (az aJ y)) X x y r s:=by
  show _=_;rw[heap_set k1];rfl
 have k3:P4 (((w.setCell ⟨X,0,none⟩ (az aJ x)).setCell ⟨X,1,none⟩ (az aJ y)).setCell ⟨X,2,none⟩ (az aJ z)) X x y z s:=by
  show _=_;rw[heap_set k2];rfl
 have k4:P4 ((((w.setCell ⟨X,0,none⟩ (az aJ x)).setCell ⟨X,1,none⟩ (az aJ y)).setCell ⟨X,2,none⟩ (az aJ z)).setCell ⟨X,3,none⟩ (az aJ t)) X x y z t:=by
  show _=_;rw[heap_set k3];rfl
 exact⟨_,_,_,_,rfl,rfl,rfl,rfl,cell_of h 0,cell_of k1 1,cell_of k2 2,cell_of k3 3,bK h 0,bK k1 1,bK k2 2,bK k3 3,k4,λhn hy=>(dQ hn _).trans ((dQ hn _).trans ((dQ hn _).trans ((dQ hn _).trans hy))),λhb hx=>(((Below.setCell hb hx _).setCell hx _).setCell hx _).setCell hx _⟩
theorem arA(a1 a2 a3 a4 b1 b2 b3 b4:Int)(w:aM)(ha:gb ((a1,a2),(a3,a4)))(hb:gb ((b1,b2),(b3,b4))):
  ak 47 #[aC #[az aJ a1,az aJ a2,az aJ a3,az aJ a4],aC #[az aJ b1,az aJ b2,az aJ b3,az aJ b4]] w λe w'=>e=aL (az aJ (Ge.pc ((a1,a2),(a3,a4)) ((b1,b2),(b3,b4))))/\aj w w':=aiA ((a1,a2),(a3,a4)) ((b1,b2),(b3,b4)) w ha hb
abbrev E2:=Ge.Qt×Ge.Qt
theorem arB{α:Type}{g:List α}{n:Nat}{a c:α}(ha:g[n]?=some a)(hc:g[(n+1)%g.length]?=some c):(eN g)[n]?=some (a,c):=by
 cases g with
 |nil=>simp at ha
 |cons x r=>
  show((x::r).zip (r++[x]))[n]?=_;rw[VJ];refine⟨ha,?_⟩;have hn:=(cG.1 ha).1;by_cases q:n+1<(x::r).length
  .rw[OP q] at hc;simp only[dw] at q;rw[fI aa]
   simpa using hc
  .have e:n=r.length:=by simp only[dw] at q hn;omega
   rw[e,show r.length+1=(x::r).length by simp,Nat.mod_self] at hc
   rw[e,nJ (aY _)];simpa using hc
theorem arC{α:Type}(g:List α):(eN g).length=g.length:=by
 cases g with
 |nil=>rfl
 |cons a r=>simp[eN]
theorem arD(r t:Int)(w:aM):ak 23 #[az .u8 r,az aJ t] w λe w'=>e=aL (aI #[aD (Ge.rule r&&Ge.takes r t),aD (Ge.rule r)])/\w'=w:=by
 have hk:r=101\/r=110\/r=43\/r=45\/(Ge.rule r=false/\(r == 101)=false/\(r == 110)=false/\(r == 43)=false/\(r == 45)=false):=by
  by_cases h1:r=101
  .exact aU h1
  by_cases h2:r=110
  .exact aT (aU h2)
  by_cases h3:r=43
  .exact aT (aT (aU h3))
  by_cases h4:r=45
  .exact aT (aT (aT (aU h4)))
  .refine aT (aT (aT (aT ⟨?_,sM.2 h1,sM.2 h2,sM.2 h3,sM.2 h4⟩)));unfold Ge.rule;simp[h1,h2,h3,h4]
 rcases hk with rfl|rfl|rfl|rfl|⟨h0,b1,b2,b3,b4⟩
 .go_enter func23,ntmps23
  go_wp2_with fail
  refine bodyPost_ret (v:=aI #[aD (t.tmod 2 != 0),aD true]) (by simp[results,results23,go_sem]) rfl ⟨?_,rfl⟩
  by_cases h:t.tmod 2=0<;>simp[h,Ge.takes,Ge.rule]
 .go_enter func23,ntmps23
  go_wp2_with fail
  refine bodyPost_ret (v:=aI #[aD (t != 0),aD true]) (by simp[results,results23,go_sem]) rfl ⟨?_,rfl⟩
  by_cases h:t=0<;>simp[h,Ge.takes,Ge.rule]
 .go_enter func23,ntmps23
  go_wp2_with fail
  refine bodyPost_ret (v:=aI #[aD (decide (0<t)),aD true]) (by simp[results,results23,go_sem]) rfl ⟨?_,rfl⟩
  simp[Ge.takes,Ge.rule]
 .go_enter func23,ntmps23
  go_wp2_with fail
  refine bodyPost_ret (v:=aI #[aD (decide (t<0)),aD true]) (by simp[results,results23,go_sem]) rfl ⟨?_,rfl⟩
  simp[Ge.takes,Ge.rule]
 .rw[h0];clear h0
  go_enter func23,ntmps23
  go_wp2_with fail
  refine bodyPost_ret (v:=aI #[aD false,aD false]) (by simp[results,results23,go_sem]) rfl ⟨rfl,rfl⟩
def hit(p:Ge.Qt)(e:E2):Bool:=
 if 0<Ge.fc e.1.1 e.2.1 then decide (0<=Ge.fc p.1 e.2.1)&&decide (Ge.fc p.1 e.1.1<0)&&decide (uu e.2 e.1 p<0)
 else decide (0<=Ge.fc p.1 e.1.1)&&decide (Ge.fc p.1 e.2.1<0)&&decide (uu e.1 e.2 p<0)
def par(p:Ge.Qt)(l:List E2):Bool:=l.foldl (λb e=>b != hit p e) false
structure qp(w:aM)(B:Nat)(p1 p2 p3 p4:Int)(wr:aM):Prop where
 jg:aj w wr
 p:P4 wr B p1 p2 p3 p4
theorem qp.next{wr:aM}{B:Nat}(h:qp w B p1 p2 p3 p4 wr)(hb:aj wr w'):qp w B p1 p2 p3 p4 w':=⟨h.jg.trans (hb.mono h.jg.size),h.p.mv hb⟩
theorem afK(h:gb ((a,b),(c,d))):gb ((a,b),(0,1)):=⟨h.xn,h.xd,⟨af,af⟩,⟨af,af⟩⟩
theorem arE(a b c d:Int):Ge.pc ((a,b),(0,1)) ((c,d),(0,1))=Ge.fc (a,b) (c,d):=by
 have h0:Ge.fc (0,1) (0,1)=0:=rfl;unfold Ge.pc;simp only[h0];split
 .rename_i h;exact h.symm
 .rfl
theorem afL(a b c d:Int)(w:aM){e f g h:Int}(h1:gb ((a,b),(e,f)))(h2:gb ((c,d),(g,h))):ak 49 #[aC #[az aJ a,az aJ b],aC #[az aJ c,az aJ d]] w λe w'=>e=aL (az aJ (Ge.fc (a,b) (c,d)))/\aj w w':=by
 have m1:=DB h1.xn h2.xd;have m2:=DB h2.xn h1.xd;simp only at m1 m2;exact Qr a b c d (a*d) (c*b) w rfl rfl aa aa
theorem arF(a1 a2 a3 a4 b1 b2 b3 b4 c1 c2 c3 c4:Int)(w:aM)(ha:gb ((a1,a2),(a3,a4)))(hb:gb ((b1,b2),(b3,b4)))(hc:gb ((c1,c2),(c3,c4))):ak 48 #[aC #[az aJ a1,az aJ a2,az aJ a3,az aJ a4],aC #[az aJ b1,az aJ b2,az aJ b3,az aJ b4],aC #[az aJ c1,az aJ c2,az aJ c3,az aJ c4]] w λe w'=>e=aL (az aJ (uu ((a1,a2),(a3,a4)) ((b1,b2),(b3,b4)) ((c1,c2),(c3,c4))))/\aj w w':=ap5 _ _ _ w ha hb hc
theorem afM{a1 a2 a3 a4 c1 c2 c3 c4:Int}(ha:gb ((a1,a2),(a3,a4)))(hc:gb ((c1,c2),(c3,c4)))(hp:gb ((p1,p2),(p3,p4))):∃v1 v2 v3:Int,Hid (∀w1,ak 48 #[aC #[az aJ a1,az aJ a2,az aJ a3,az aJ a4],aC #[az aJ c1,az aJ c2,az aJ c3,az aJ c4],aC #[az aJ p1,az aJ p2,az aJ p3,az aJ p4]] w1 λe w'=>e=aL (az aJ v1)/\aj w1 w')/\Hid (∀w1,ak 49 #[aC #[az aJ p1,az aJ p2],aC #[az aJ a1,az aJ a2]] w1 λe w'=>e=aL (az aJ v2)/\aj w1 w')/\Hid (∀w1,ak 49 #[aC #[az aJ p1,az aJ p2],aC #[az aJ c1,az aJ c2]] w1 λe w'=>e=aL (az aJ v3)/\aj w1 w')/\v1=uu ((a1,a2),(a3,a4)) ((c1,c2),(c3,c4)) ((p1,p2),(p3,p4))/\v2=Ge.fc (p1,p2) (a1,a2)/\v3=Ge.fc (p1,p2) (c1,c2):=
 ⟨_,_,_,λw1=>arF _ _ _ _ _ _ _ _ _ _ _ _ w1 ha hc hp,λw1=>afL _ _ _ _ w1 hp ha,λw1=>afL _ _ _ _ w1 hp hc,rfl,rfl,rfl⟩
theorem arG(p:Ge.Qt)(l:List E2)(e:E2):par p (l++[e])=(par p l != hit p e):=by unfold par;rw[JX];rfl
theorem arH(ps:List (List (List Ge.Qt)))(x y d:Int)(v:aN)(w:aM)(hR:nH w v ps)(hq:∀p∈ps,p.length<=20000000402/\∀g∈p,g.length<=20000000402/\∀q∈g,gb q)(hl:ps.length<=20000000402)
  (P:Ge.Qt)(hP:gb P)(H1:Hid (∀w1,ak 46 #[az aJ x,az aJ d] w1 λe w'=>e=aL (aC #[az aJ P.1.1,az aJ P.1.2])/\Below w1.heap.size w1 w'))(H2:Hid (∀w1,ak 46 #[az aJ y,az aJ d] w1 λe w'=>e=aL (aC #[az aJ P.2.1,az aJ P.2.2])/\Below w1.heap.size w1 w')):
  ak 25 #[v,az aJ x,az aJ y,az aJ d] w λe w'=>e=aL (aD (par P (ps.flatMap λp=>p.flatMap eN)))/\Below w.heap.size w w':=by
 obtain⟨so,cap,rfl⟩:=GG hR;have HR:Hid (nH w (aG so ps.length cap) ps):=hR;have uY:Hid (∀p∈ps,p.length<=20000000402/\∀g∈p,g.length<=20000000402/\∀q∈g,gb q):=hq;have HP:Hid (gb P):=hP;clear hR hq hP;obtain⟨⟨P1,P2⟩,P3,gV⟩:=P
 go_enter func25,ntmps25
 go_wp2_with fail
 refine(H1.out _).mono ?_;rintro e w1 ⟨rfl,hb1⟩
 go_wp2_with fail
 refine(H2.out _).mono ?_;rintro e w2 ⟨rfl,hb2⟩;have zr:Hid (qp w w2.heap.size P1 P2 P3 gV (w2.alloc (.cells #[az aJ P1,az aJ P2,az aJ P3,az aJ gV] 100))):=⟨(hb1.trans (hb2.mono hb1.size)).alloc (hb1.trans (hb2.mono hb1.size)).size _,Ow w2 P1 P2 P3 gV⟩;clear hb1 hb2 H1 H2
 go_wp2_with fail
 generalize w2.alloc (.cells #[az aJ P1,az aJ P2,az aJ P3,az aJ gV] 100)=W at*;generalize w2.heap.size=B at*
 go_loopg [10,11] ps.length (λm inv iv wr=>∃i:Nat,i+m=ps.length/\iv=az aJ i/\inv=aD (par ((P1,P2),P3,gV) ((ps.take i).flatMap λp=>p.flatMap eN))/\Hid (qp w B P1 P2 P3 gV wr))
 case atStart=>exact⟨0,aa,rfl,rfl,zr⟩
 case round=>
  obtain⟨i,him,rfl,rfl,HE⟩:=hrel;clear zr;by_cases hlt:i<ps.length
  .obtain⟨p,hp⟩:∃p,ps[i]?=some p:=⟨_,bo hlt⟩;obtain⟨b,u,rfl,hb,e0,tQ⟩:=GH HR.out hp;obtain⟨us,uc,rfl⟩:=GG tQ;have Vr:Hid (p.length<=20000000402/\∀g∈p,g.length<=20000000402/\∀q∈g,gb q):=uY.out p (bT hp);have My:Hid (z8 w (aG us p.length uc) p):=tQ;have HCP:Hid (w.cell? ⟨b,i,none⟩=some (aG us p.length uc)/\b<w.heap.size):=⟨e0,hb⟩;have hpl:p.length<=20000000402:=Vr.out.1;have HT:Hid (((ps.take (i+1)).flatMap λp=>p.flatMap eN)=((ps.take i).flatMap λp=>p.flatMap eN)++p.flatMap eN):=by
    show _=_;rw[jF,hp];simp
   have gH:(i:Int)<(ps.length:Int):=aa
   obtain⟨m1,lM⟩:∃m1,m1=gk:=⟨_,rfl⟩;have HIM:Hid (i+m1=ps.length/\i<ps.length):=⟨aa,hlt⟩
   generalize((ps.take i).flatMap λp=>p.flatMap eN)=A1 at*
   clear hp e0 tQ hb him hlt
   go_wp2_with fail
   go_loopg [10,12] p.length (λm inv kv wr=>∃k:Nat,k+m=p.length/\kv=az aJ k/\inv=aD (par ((P1,P2),P3,gV) (A1++(p.take k).flatMap eN))/\Hid (qp w B P1 P2 P3 gV wr))
   case atStart=>exact⟨0,aa,rfl,by rw[show A1++(p.take 0).flatMap eN=A1 by simp],HE⟩
   case round=>
    obtain⟨k,Hw,rfl,rfl,oD⟩:=hrel;have d0:=aS oD.out.jg HCP.out.1 HCP.out.2;clear HE;by_cases ki:k<p.length
    .obtain⟨g,hg⟩:∃g,p[k]?=some g:=⟨_,bo ki⟩;obtain⟨b2,u2,rfl,hb2,e2,Vs⟩:=GH My.out hg;obtain⟨gs,gc,rfl⟩:=YG Vs;have d1:=aS oD.out.jg e2 hb2;have aaJ:(k:Int)<(p.length:Int):=aa
     have qO:Hid (rL w (aG gs g.length gc) g):=Vs;obtain⟨m2,hm2⟩:∃m2,m2=gk:=⟨_,rfl⟩;have Vt:Hid (k+m2=p.length/\k<p.length):=⟨aa,ki⟩
     have Ad:Hid (∀q∈g,gb q):=(Vr.out.2 g (bT hg)).2;have hgl:g.length<=20000000402:=(Vr.out.2 g (bT hg)).1;have CJ:Hid (A1++(p.take (k+1)).flatMap eN=(A1++(p.take k).flatMap eN)++eN g):=by
      show _=_;rw[jF,hg];simp
     generalize A1++(p.take k).flatMap eN=A2 at*;clear hg e2 Vs hb2 Hw ki
     go_wp2_with fail
     go_loopg [10,14] g.length (λm inv nv wr=>∃n:Nat,n+m=g.length/\nv=az aJ n/\inv=aD (par ((P1,P2),P3,gV) (A2++(eN g).take n))/\Hid (qp w B P1 P2 P3 gV wr))
     case atStart=>exact⟨0,aa,rfl,by rw[show A2++(eN g).take 0=A2 by simp],oD⟩
     case round=>
      obtain⟨n,Lr,rfl,rfl,kX⟩:=hrel;clear oD d0 d1;by_cases rM:n<g.length
      .obtain⟨X,hXe,hX,hcs⟩:=arz qO.out aa
       subst hXe;obtain⟨j,hj⟩:∃j,j=(n+1)%g.length:=⟨_,rfl⟩;have hjl:j<g.length:=hj▸yB _ aa
       obtain⟨a,ha⟩:∃a,g[n]?=some a:=⟨_,bo rM⟩;obtain⟨c,hc⟩:∃c,g[j]?=some c:=⟨_,bo hjl⟩;have HCE:Hid (A2++(eN g).take (n+1)=(A2++(eN g).take n)++[(a,c)]):=by
        show _=_;rw[jF,arB ha (hj▸hc)];simp
       obtain⟨x0,x1,x2,x3⟩:=(hcs n a ha).below kX.out.jg hX;have HC4:Hid (Q4 wr X j c):=(hcs j c hc).below kX.out.jg hX;have CN:Hid (gb a/\gb c):=⟨Ad.out a (bT ha),Ad.out c (bT hc)⟩;have HXr:Hid (X<wr.heap.size):=bW hX kX.out.jg.size;obtain⟨u,hu⟩:∃u,u=n+1:=⟨_,rfl⟩;have k4:IntKind.i64.wrap ((n:Int)+1)=(u:Int):=by rw[IntKind.wrap_i64];omega
       have k5:(u:Int).tmod (g.length:Int)=(j:Int):=by rw[hj,hu];rfl
       have k7:u%g.length=j:=by rw[hj,hu]
       have l1:(n:Int)<(g.length:Int):=aa
       have l2:(j:Int)<(g.length:Int):=aa
       have n0:¬((g.length:Int)=0):=aa
       have n3:¬g.length=0:=aa
       have HM:Hid (n+gk=g.length/\n<g.length/\u=n+1):=⟨Lr,rM,hu⟩;obtain⟨⟨a1,a2⟩,a3,a4⟩:=a;obtain⟨⟨c1,c2⟩,c3,c4⟩:=c;simp only at x0 x1 x2 x3;obtain⟨y0,y1,y2,y3⟩:=HC4.out.below (pC wr (.cells #[az aJ a1,az aJ a2,az aJ a3,az aJ a4] 100)) HXr.out;simp only at y0 y1 y2 y3;generalize A2++(eN g).take n=A3 at*;clear hu hj ha hc hcs rM Lr hX qO
       go_wp2_with fail
       have hL:P4 ((wr.alloc (.cells #[az aJ a1,az aJ a2,az aJ a3,az aJ a4] 100)).alloc (.cells #[az aJ c1,az aJ c2,az aJ c3,az aJ c4] 100)) wr.heap.size a1 a2 a3 a4:=P4.mv (Ow wr a1 a2 a3 a4) (pC _ _);have hH:P4 ((wr.alloc (.cells #[az aJ a1,az aJ a2,az aJ a3,az aJ a4] 100)).alloc (.cells #[az aJ c1,az aJ c2,az aJ c3,az aJ c4] 100)) (wr.heap.size+1) c1 c2 c3 c4:=by
        have:=Ow (wr.alloc (.cells #[az aJ a1,az aJ a2,az aJ a3,az aJ a4] 100)) c1 c2 c3 c4;simpa using this
       have HI:Hid (qp w B P1 P2 P3 gV ((wr.alloc (.cells #[az aJ a1,az aJ a2,az aJ a3,az aJ a4] 100)).alloc (.cells #[az aJ c1,az aJ c2,az aJ c3,az aJ c4] 100))):=(kX.out.next (pC _ _)).next (pC _ _)
       have hBL:B<wr.heap.size:=lt_of_heap kX.out.p;have hwz:w.heap.size<=wr.heap.size:=kX.out.jg.size;obtain⟨L,Qi⟩:∃L,L=wr.heap.size:=⟨_,rfl⟩;rw[<-Qi] at hL hH hBL hwz⊢;clear x0 x1 x2 x3 y0 y1 y2 y3 HC4 HXr kX Qi k5 k7 n0 n3 l2;generalize(wr.alloc (.cells #[az aJ a1,az aJ a2,az aJ a3,az aJ a4] 100)).alloc (.cells #[az aJ c1,az aJ c2,az aJ c3,az aJ c4] 100)=W6 at*;refine(arA a1 a2 0 1 c1 c2 0 1 _ (afK CN.out.1) (afK CN.out.2)).mono ?_;rintro e w5 ⟨rfl,hb⟩;rw[arE]
       replace HI:Hid (qp w B P1 P2 P3 gV w5):=HI.out.next hb
       replace hL:=hL.mv hb
       replace hH:=hH.mv hb
       obtain⟨z,hz⟩:∃z,z=Ge.fc (a1,a2) (c1,c2):=⟨_,rfl⟩;rw[<-hz];have HZ:Hid (z=Ge.fc (a1,a2) (c1,c2)):=hz;clear hz hb;by_cases hz:0<z
       all_goals first
        |(have hz:0<z:=hz;obtain⟨i0,i1,i2,i3⟩:=hL.cs;have Ti:=lt_of_heap hH;have hLn:=lt_of_heap hL;replace hL:=hL.mv (pC w5 (.cells #[az aJ a1,az aJ a2,az aJ a3,az aJ a4] 100));replace hH:=hH.mv (pC w5 (.cells #[az aJ a1,az aJ a2,az aJ a3,az aJ a4] 100));have hT:=Ow w5 a1 a2 a3 a4;have Vu:Hid (qp w B P1 P2 P3 gV (w5.alloc (.cells #[az aJ a1,az aJ a2,az aJ a3,az aJ a4] 100))):=HI.out.next (pC _ _);obtain⟨j0,j1,j2,j3⟩:=hH.cs;obtain⟨V1,V2,V3,V4,s1,s2,s3,s4,l0,l1,l2,l3,u0,u1,u2,u3,kL,kF,kB⟩:=afJ hL c1 c2 c3 c4;obtain⟨V5,V6,V7,V8,s5,s6,s7,s8,l4,l5,l6,l7,u4,u5,u6,u7,kH,kG,kC⟩:=afJ (kF.out (show L+1≠L by omega) hH) a1 a2 a3 a4;obtain⟨m0,m1',m2',m3⟩:=(kF.out (show w5.heap.size≠L by omega) hT).cs;replace HI:Hid (qp w B P1 P2 P3 gV V8):=⟨kC.out (kB.out (W:=w) Vu.out.jg hwz) (show w.heap.size<=L+1 by omega),kG.out (show B≠L+1 by omega) (kF.out (show B≠L by omega) Vu.out.p)⟩;replace hL:=kG.out (show L≠L+1 by omega) kL.out;replace hH:=kH.out;obtain⟨v1,v2,v3,HO,HF,HG,e1,e2,e3⟩:=afM CN.out.2 CN.out.1 HP.out;have HH:Hid (hit ((P1,P2),(P3,gV)) (((a1,a2),(a3,a4)),((c1,c2),(c3,c4)))=(decide (0<=v2)&&decide (v3<0)&&decide (v1<0))):=(by show _=_;rw[e1,e2,e3];unfold hit;rw[aV (by rw[<-HZ.out];exact hz)]);clear e1 e2 e3 Vu)
        |(have hz:¬0<z:=hz;obtain⟨V8,hV8⟩:∃V8,V8=w5:=⟨_,rfl⟩;rw[<-hV8] at HI hL hH⊢;clear hV8;obtain⟨v1,v2,v3,HO,HF,HG,e1,e2,e3⟩:=afM CN.out.1 CN.out.2 HP.out;have HH:Hid (hit ((P1,P2),(P3,gV)) (((a1,a2),(a3,a4)),((c1,c2),(c3,c4)))=(decide (0<=v2)&&decide (v3<0)&&decide (v1<0))):=(by show _=_;rw[e1,e2,e3];unfold hit;rw[aQ (by rw[<-HZ.out];exact hz)]);clear e1 e2 e3)
       all_goals
        obtain⟨i0,i1,i2,i3⟩:=hL.cs;obtain⟨j0,j1,j2,j3⟩:=hH.cs;obtain⟨t0,t1,t2,t3⟩:=HI.out.p.cs
        go_wp2_with fail
        clear i0 i1 i2 i3 j0 j1 j2 j3 t0 t1 t2 t3;refine(HO.out _).mono ?_;rintro e w6 ⟨rfl,hb⟩
        replace HI:Hid (qp w B P1 P2 P3 gV w6):=HI.out.next hb
        replace hL:=hL.mv hb
        replace hH:=hH.mv hb
        clear hb;obtain⟨i0,i1,i2,i3⟩:=hL.cs;obtain⟨t0,t1,t2,t3⟩:=HI.out.p.cs
        go_wp2_with fail
        clear i0 i1 i2 i3 t0 t1 t2 t3 hL;refine(HF.out _).mono ?_;rintro e w7 ⟨rfl,hb⟩
        replace HI:Hid (qp w B P1 P2 P3 gV w7):=HI.out.next hb
        replace hH:=hH.mv hb
        clear hb;obtain⟨j0,j1,j2,j3⟩:=hH.cs;obtain⟨t0,t1,t2,t3⟩:=HI.out.p.cs
        go_wp2_with fail
        clear j0 j1 j2 j3 t0 t1 t2 t3 hH;refine(HG.out _).mono ?_;rintro e w8 ⟨rfl,hb⟩
        replace HI:Hid (qp w B P1 P2 P3 gV w8):=HI.out.next hb
        clear hb HO HF HG CN HZ hz;have xY:par ((P1,P2),P3,gV) (A2++(eN g).take (n+1))=(par ((P1,P2),P3,gV) A3 != (decide (0<=v2)&&decide (v3<0)&&decide (v1<0))):=by rw[HCE.out,arG,HH.out]
        have Jz:Hid (par ((P1,P2),P3,gV) (A2++(eN g).take (n+1))=(par ((P1,P2),P3,gV) A3 != (decide (0<=v2)&&decide (v3<0)&&decide (v1<0)))):=xY;clear xY HCE HH;generalize par ((P1,P2),P3,gV) A3=F at*;have hcs:(¬0<=v2/\Hid (par ((P1,P2),P3,gV) (A2++(eN g).take (n+1))=F))\/(0<=v2/\¬v3<0/\Hid (par ((P1,P2),P3,gV) (A2++(eN g).take (n+1))=F))\/(0<=v2/\v3<0/\¬v1<0/\Hid (par ((P1,P2),P3,gV) (A2++(eN g).take (n+1))=F))\/(0<=v2/\v3<0/\v1<0/\Hid (par ((P1,P2),P3,gV) (A2++(eN g).take (n+1))= !F)):=by
         by_cases h1:0<=v2
         .by_cases h2:v3<0
          .by_cases h3:v1<0
           .exact aT (aT (aT ⟨h1,h2,h3,by show _=_;rw[Jz.out,dO h1,dO h2,dO h3];simp⟩))
           .exact aT (aT (aU ⟨h1,h2,h3,by show _=_;rw[Jz.out,dO h1,dO h2,fY h3];simp⟩))
          .exact aT (aU ⟨h1,h2,by show _=_;rw[Jz.out,dO h1,fY h2];simp⟩)
         .exact aU ⟨h1,by show _=_;rw[Jz.out,fY h1];simp⟩
        clear Jz;rcases hcs with⟨h1,HV⟩|⟨h1,h2,HV⟩|⟨h1,h2,h3,HV⟩|⟨h1,h2,h3,HV⟩
        all_goals
         go_wp2_with fail
         go_roundg (gk-1)
         case measure=>have:=HM.out;omega
         case rel=>exact⟨n+1,by have:=HM.out;omega,by rw[HM.out.2.2],by rw[HV.out],HI⟩
      .have hn:n=g.length:=aa
       subst hn;have vU:Hid (par ((P1,P2),P3,gV) (A2++(eN g).take g.length)=par ((P1,P2),P3,gV) (A1++(p.take (k+1)).flatMap eN)):=by
        show _=_;rw[CJ.out,<-arC g,fO]
       have hkl:(k:Int)<(p.length:Int):=by have:=Vt.out;omega
       rw[vU.out];clear rM Lr
       go_wp2_with fail
       go_roundg (m2-1)
       case measure=>have:=Vt.out;omega
       case rel=>exact⟨k+1,by have:=Vt.out;omega,ai,rfl,kX⟩
    .have hk:k=p.length:=aa
     subst hk;have vU:Hid (par ((P1,P2),P3,gV) (A1++(p.take p.length).flatMap eN)=par ((P1,P2),P3,gV) ((ps.take (i+1)).flatMap λp=>p.flatMap eN)):=by
      show _=_;rw[HT.out,fO]
     rw[vU.out];clear ki Hw
     go_wp2_with fail
     go_roundg (m1-1)
     case measure=>have:=HIM.out;omega
     case rel=>exact⟨i+1,by have:=HIM.out;omega,ai,rfl,oD⟩
  .have hk:i=ps.length:=aa
   subst hk;rw[fO];clear hlt him
   go_wp2_with fail
   go_ret
   exact⟨rfl,HE.out.jg⟩
end
end Go.Proofs.YtkjhhooecopolaaGreatDoor
namespace Go.Proofs.YtkjhhooecopolaaGreatDoor.Ga
open Tryz
open Value renaming int->az,complex->aA,float->aB,agg->aC,bool->aD,string->aF,slice->aG,pointer->aH,tuple->aI
open IntKind renaming i64->aJ
open FloatKind renaming f64->aK
open Ending renaming returned->aL
open Go renaming World->aM,Value->aN,floatOfInt->aO
open Ge
theorem arJ{es:List (Pt×Pt)}{l:List Nd}(hN:cS es l){n:N3}(hn:0<n.2.2){e:Pt×Pt}(he:e∈es){a b:Pt}(hab:(a=e.1/\b=e.2)\/(a=e.2/\b=e.1))(h1:(rl n a).1<=0)(h2:0<(rl n b).1):
  ∃f t,dF es l f t/\(wv n f).1<=0/\0<(wv n t).1/\0<(wv f t).1/\lam (wv f t) f a=0/\lam (wv f t) f b=0:=by
 have h0:∀p:Pt,rl (p.1,p.2,1) p=(0,0):=λp=>by unfold rl rel;exact eB (by simp only;omega) (by simp only;omega)
 have hend:(a.1,a.2,1)∈held e l/\(b.1,b.2,1)∈held e l:=by
  have k:=hN.Ew he;rcases hab with⟨ha,hb⟩|⟨ha,hb⟩<;>rw[ha,hb]
  .exact⟨gm.2 ⟨k.1,nP _ _ (aU (h0 _))⟩,gm.2 ⟨k.2,nP _ _ (aT (h0 _))⟩⟩
  .exact⟨gm.2 ⟨k.2,nP _ _ (aT (h0 _))⟩,gm.2 ⟨k.1,nP _ _ (aU (h0 _))⟩⟩
 obtain⟨f,t,hft,hf,ht⟩:=Si (P:=λx=>(wv n x).1<=0) (hN.Eu e) (λx hx y hy hlt hy'=>by
   have cx:=hN.can x (gm.1 hx).1;have cy:=hN.can y (gm.1 hy).1;have hr:=yK ((oc cx cy).1 hlt);have m:=(BN n x y).1;have k1:=jo (eY hn) hr;have k2:=bO (z:=(wv n y).1) cx.pos;have k3:=bO (z:=(wv n x).1) cy.pos;show(wv n x).1<=0
   change(wv n y).1<=0 at hy'
   omega) hend.1 (by show(wv n (a.1,a.2,1)).1<=0;rw[BF];exact h1) hend.2 (by show ¬(wv n (b.1,b.2,1)).1<=0;rw[BF];omega)
 have hpc:dF es l f t:=⟨e,he,hft⟩;obtain⟨hfl,htl,hr⟩:=hpc.facts hN;have cf:=hN.can f hfl;have ct:=hN.can t htl;have hD:0<(wv f t).1:=by
  have m:=(BN n f t).1;have k1:=bO (z:=(wv n t).1) cf.pos;have k2:=bO (z:=(wv n f).1) ct.pos;have k3:=bO (z:=(wv f t).1) hn;omega
 have hL:=Ev ct.pos hr (gm.1 (qV hft).1).2 (gm.1 (qV hft).2).2;refine⟨f,t,hpc,hf,aa,hD,?_,?_⟩
 .rcases hab with⟨ha,_⟩|⟨ha,_⟩<;>rw[ha]
  .exact hL.1
  .exact hL.2
 .rcases hab with⟨_,hb⟩|⟨_,hb⟩<;>rw[hb]
  .exact hL.2
  .exact hL.1
end Go.Proofs.YtkjhhooecopolaaGreatDoor.Ga
namespace Go.Proofs.YtkjhhooecopolaaGreatDoor.Gb
open Tryz
open Value renaming int->az,complex->aA,float->aB,agg->aC,bool->aD,string->aF,slice->aG,pointer->aH,tuple->aI
open IntKind renaming i64->aJ
open FloatKind renaming f64->aK
open Ending renaming returned->aL
open Go renaming World->aM,Value->aN,floatOfInt->aO
open Ge Ga
def nM(M:Int)(n:N3):N3:=(M*n.1,M*n.2.1,n.2.2)
theorem Ox{M:Int}(hM:0<M)(n:N3)(u:Pt):Pm (rl (nM M n) (cz M u)) (rl n u):=⟨1,M,ah,hM,by unfold rl rel nM cz;simp only;grind,by unfold rl rel nM cz;simp only;grind⟩
theorem afT{M:Int}(hM:0<M)(n:N3){a:Nd}(ha:OK M a):Pm (rl (nM M n) (PM M a)) (wv n a):=by
 obtain⟨k,hk,e,e1⟩:=xy hM ha.p ha.d;rw[e1];refine⟨1,k,ah,hk,?_,?_⟩<;>(unfold rl rel nM wv;simp only;rw[<-e];grind)
section
variable{rg:List (List Pt)}{l:List Nd}{r:Int}{Xs:List PB}
theorem SX.run(h:SX rg l r Xs)(h0:takes r 0=false){iY:List (List Pt)}(hc:(aR iY).Perm (sS (aP l) Xs)){n N:N3}(hn:0<n.2.2)(hN':N=nM (aP l) n):
  ∀T:Sg->Bool,(∀x y,T y=true->bH N y x=false->T x=true)->cU (wt N) T (aR iY)=bb (takes r (cU (wt N) T (aR (rg.map (·.map (cz (aP l))))))):=by
 have hN:=h.nl;obtain⟨hM,hO⟩:=cS.ok hN;have vF:0<N.2.2:=by rw[hN'];exact hn
 have Il:∀{x y:Nd},x∈l->y∈l->(Gb.fE N (PM (aP l) x) (PM (aP l) y)↔(wv n x).1<=0/\0<(wv n y).1):=λ{x y} hx hy=>by
  obtain⟨p,q,hp,hq,e1,_⟩:=afT hM n (hO x hx);obtain⟨p',q',hp',hq',lY,_⟩:=afT hM n (hO y hy);have g1:=jl hp hq e1;have g2:=jl hp' hq' lY;rw[hN'];unfold Gb.fE;omega
 have lev:∀{f' t':Nd},dF (aR rg) l f' t'->Gb.fE N (PM (aP l) f') (PM (aP l) t')->∀z,bH N z (PM (aP l) f',PM (aP l) t')=false->bH N (PM (aP l) f',PM (aP l) t') z=false->
   cU (wt N) (λy=> !bH N y z&& !bH N z y) (aR iY)=bb (takes r (cU (wt N) (λy=>bH N y z) (aR (rg.map (·.map (cz (aP l)))))+cU (wt N) (λy=> !bH N y z&& !bH N z y) (aR (rg.map (·.map (cz (aP l)))))))-bb (takes r (cU (wt N) (λy=>bH N y z) (aR (rg.map (·.map (cz (aP l))))))):=by
  intro f' t' hp' hc' z z1 z2;obtain⟨hf',ht',hr'⟩:=hp'.facts hN;obtain⟨i1,i2⟩:=SR hN hp';obtain⟨j1,j2⟩:=hts vF hc' (MN hN hp');have iE:=(SX.oP h) hc hp';obtain⟨k1,k2⟩:=hts vF hc' iE;have cg:∀x,bH N x (PM (aP l) f',PM (aP l) t')=bH N x z/\bH N (PM (aP l) f',PM (aP l) t') x=bH N z x:=λx=>⟨(MQ z1 z2).1.symm,(MQ z1 z2).2.symm⟩
  have sp:∀E:List Sg,cU (wt N) (λe=> !bH N (PM (aP l) f',PM (aP l) t') e) E=cU (wt N) (λe=>bH N e z) E+cU (wt N) (λe=> !bH N e z&& !bH N z e) E:=λE=>by
   refine xA _ λx _=>?_
   rw[(cg x).2];cases q1:bH N x z<;>cases q2:bH N z x
   .rfl
   .rfl
   .rfl
   .have:=zB _ _ _ _ q1 q2;rw[ub] at this;cases this
  rw[sp] at j2 k2;rw[Ms _ λx _=>(cg x).1] at j1 k1
  rw[<-j2,<-j1,i1,i2];obtain⟨a1,a2⟩:=wH iE;rw[lX] at a1 a2;have ea:fS (aR iY) (n1 (PM (aP l) f')) (dr (PM (aP l) f',PM (aP l) t'))=eD (aR iY) (n1 (PM (aP l) f')) (dr (PM (aP l) f',PM (aP l) t'))+Ga.AS (aR iY) (n1 (PM (aP l) f')) (λz=>bh z (dr (PM (aP l) f',PM (aP l) t'))):=rfl
  have eS:Ga.AS (aR iY) (n1 (PM (aP l) f')) (λz=>bh z (dr (PM (aP l) f',PM (aP l) t')))=Ga.AS (sS (aP l) Xs) (n1 (PM (aP l) f')) (λz=>bh z (dr (PM (aP l) f',PM (aP l) t'))):=Kf hc
  rw[eS,(SX.apF h) (aU hp')] at ea;have inj:∀{a b:Nd},a∈l->b∈l->((PM (aP l) a,PM (aP l) b)∈sS (aP l) Xs↔Sd (aR rg) l (takes r) a b):=λ{a b} ha hb=>by
   rw[(SX.NG h)];constructor
   .rintro⟨x,y,hs,e⟩;obtain⟨_,hx,hy⟩:=gS hN hs.pc;rw[qX hN ha hx (aZ Prod.fst e),qX hN hb hy (aZ Prod.snd e)];exact hs
   .intro hs;exact⟨a,b,hs,rfl⟩
  have no:¬dF (aR rg) l t' f':=λq=>by
   have:=(q.facts hN).2.2;rw[fT] at this;exact H6 hr' this
  have s1:Sd (aR rg) l (takes r) f' t'↔takes r (LL (aR rg) f' t')=true/\takes r (RR (aR rg) f' t')=false:=by
   constructor
   .rintro(⟨_,q⟩|⟨q,_⟩)
    .exact q
    .exact absurd q no
   .intro q;exact aU ⟨hp',q⟩
  have s2:Sd (aR rg) l (takes r) t' f'↔takes r (RR (aR rg) f' t')=true/\takes r (LL (aR rg) f' t')=false:=by
   constructor
   .rintro(⟨q,_⟩|⟨_,q⟩)
    .exact absurd q no
    .exact q
   .intro q;exact aT ⟨hp',q⟩
  have g1:=(inj hf' ht').trans s1;have g2:=(inj ht' hf').trans s2;have goal:cU (wt N) (λy=> !bH N y z&& !bH N z y) (aR iY)=bb (decide ((PM (aP l) f',PM (aP l) t')∈sS (aP l) Xs))-bb (decide ((PM (aP l) t',PM (aP l) f')∈sS (aP l) Xs)):=aa
  rw[goal];have d1:decide ((PM (aP l) f',PM (aP l) t')∈sS (aP l) Xs)=(takes r (LL (aR rg) f' t')&& !takes r (RR (aR rg) f' t')):=by
   refine lF.2 ?_;rw[pK,g1];simp
  have d2:decide ((PM (aP l) t',PM (aP l) f')∈sS (aP l) Xs)=(takes r (RR (aR rg) f' t')&& !takes r (LL (aR rg) f' t')):=by
   refine lF.2 ?_;rw[pK,g2];simp
  rw[d1,d2];cases takes r (LL (aR rg) f' t')<;>cases takes r (RR (aR rg) f' t')<;>simp[bb]
 have SV:∀u v:Pt,Gb.fE N (cz (aP l) u) (cz (aP l) v)↔(rl n u).1<=0/\0<(rl n v).1:=λu v=>by
  obtain⟨p,q,hp,hq,e1,_⟩:=Ox hM n u;obtain⟨p',q',hp',hq',lY,_⟩:=Ox hM n v;have g1:=jl hp hq e1;have g2:=jl hp' hq' lY;rw[hN'];unfold Gb.fE;omega
 have find:∀z∈aR (rg.map (·.map (cz (aP l))))++aR iY,wt N z≠0->∃f' t',dF (aR rg) l f' t'/\Gb.fE N (PM (aP l) f') (PM (aP l) t')/\bH N z (PM (aP l) f',PM (aP l) t')=false/\bH N (PM (aP l) f',PM (aP l) t') z=false:=by
  intro z hz hwz;rcases dv.1 hz with hz|hz
  .rw[EG hM] at hz;obtain⟨z0,hz0,hzz⟩:=bQ.1 hz;obtain⟨u,v,Im,Io⟩:∃u v,((u=z0.1/\v=z0.2)\/(u=z0.2/\v=z0.1))/\Gb.fE N (cz (aP l) u) (cz (aP l) v):=by
    rcases abT hwz with q|q
    .rw[<-hzz] at q;exact⟨z0.1,z0.2,aU ⟨rfl,rfl⟩,q⟩
    .rw[<-hzz] at q;exact⟨z0.2,z0.1,aT ⟨rfl,rfl⟩,q⟩
   have Ip:=(SV u v).1 Io;obtain⟨f',t',hft,g1,g2,g3,la,lb⟩:=arJ hN hn hz0 Im Ip.1 Ip.2;obtain⟨hfl,htl,_⟩:=hft.facts hN;have afU:Gb.fE N (PM (aP l) f') (PM (aP l) t'):=(Il hfl htl).2 ⟨g1,g2⟩;have p0:=iP hM (hO f' hfl) (hO t' htl);have rC:∀w,lam (wv f' t') f' w=0->cr (dr (PM (aP l) f',PM (aP l) t')) (dr (PM (aP l) f',cz (aP l) w))=0:=λw hw=>by
    have:=vE hM (hO f' hfl) w;rw[fk] at this;exact(p0.cr this).2.2.2 hw
   obtain⟨s1,s2⟩:=abV Io afU (rC u la) (rC v lb) vF;refine⟨f',t',hft,afU,?_⟩;rcases Im with⟨rfl,rfl⟩|⟨rfl,rfl⟩
   .rw[<-hzz];exact⟨s1,s2⟩
   .have e:z=rv (cz (aP l) z0.2,cz (aP l) z0.1):=by rw[<-hzz];rfl
    rw[e,(zN _ _ _).1,(zN _ _ _).2];exact⟨s1,s2⟩
  .obtain⟨a,b,hs,rfl⟩:=(SX.NG h).1 (hc.mem_iff.1 hz);obtain⟨_,ha,hb⟩:=gS hN hs.pc;have ori:∀{x y:Nd},x∈l->y∈l->Gb.fE N (PM (aP l) x) (PM (aP l) y)->¬dF (aR rg) l y x:=λ{x y} hx hy q w=>by
    have hw:=(Il hx hy).1 q;have hr:=yK (w.facts hN).2.2;have cx:=(hN.can x hx).pos;have cy:=(hN.can y hy).pos;obtain⟨m1,_⟩:=BN n y x;have h1:n.2.2*(wv y x).1<0:=by
     have x1:=JZ hw.1 cy;have x2:=bJ hw.2 cx;rw[fg] at x1 x2;omega
    have:=(Ga.neg_mul (z:=(wv y x).1) hn).1 h1;omega
   rcases abT hwz with q|q
   .have k:=hs.pc.resolve_right (ori ha hb q);exact⟨a,b,k,q,ub _ _,ub _ _⟩
   .have k:=hs.pc.resolve_left (ori hb ha q);refine⟨b,a,k,q,?_,?_⟩
    .have:=(zN N (PM (aP l) b,PM (aP l) a) (PM (aP l) b,PM (aP l) a)).1;rw[ub] at this;exact this
    .have:=(zN N (PM (aP l) b,PM (aP l) a) (PM (aP l) b,PM (aP l) a)).2;rw[ub] at this;exact this
 intro T hT;have:=apE (zB N) (ub _) (BM _) (wt N) (λx=>bb (takes r x)) (by rw[h0];rfl) ((aR (rg.map (·.map (cz (aP l))))++aR iY).filter λx=>decide (wt N x≠0)) ((aR (rg.map (·.map (cz (aP l))))).filter λx=>decide (wt N x≠0)) ((aR iY).filter λx=>decide (wt N x≠0))
  (λz hz=>by obtain⟨q1,q2⟩:=iz.1 hz;exact iz.2 ⟨vX _ q1,q2⟩) (λz hz=>by obtain⟨q1,q2⟩:=iz.1 hz;exact iz.2 ⟨CQ _ q1,q2⟩)
  (λz hz=>by
   obtain⟨q1,q2⟩:=iz.1 hz;obtain⟨f',t',w1,w2,w3,w4⟩:=find z q1 (fV q2);rw[Jb,Jb,Jb];exact lev w1 w2 z w3 w4) _ T hT (aY _)
 rw[Jb,Jb] at this;exact this
end
end Go.Proofs.YtkjhhooecopolaaGreatDoor.Gb
namespace Go.Proofs.YtkjhhooecopolaaGreatDoor
open Tryz
open Value renaming int->az,complex->aA,float->aB,agg->aC,bool->aD,string->aF,slice->aG,pointer->aH,tuple->aI
open IntKind renaming i64->aJ
open FloatKind renaming f64->aK
open Ending renaming returned->aL
open Go renaming World->aM,Value->aN,floatOfInt->aO
namespace Gb
open Ge Ga
def fl(u:Pt):Pt:=(u.1, -u.2)
theorem afW(u v:Pt):cr (fl u) (fl v)= -cr u v:=by unfold cr fl;grind
theorem JA(u v:Pt):up u v= -right (fl u) (fl v):=by
 unfold up right;rw[afW];unfold fl;simp only
 repeat' split
 all_goals omega
theorem arL{u m v:Pt}(h:bh (m.1-u.1,m.2-u.2) (v.1-m.1,v.2-m.2)=true):up u m+up m v=up u v:=by
 have e:∀a b:Pt,((fl a).1-(fl b).1,(fl a).2-(fl b).2)=fl (a.1-b.1,a.2-b.2):=λa b=>eB rfl (by show -a.2- -b.2= -(a.2-b.2);omega)
 have:=apH (u:=fl u) (m:=fl m) (v:=fl v) (by
  rw[e,e];obtain⟨h1,h2⟩:=(dP _ _).1 h;refine(dP _ _).2 ⟨by rw[afW,h1];rfl,?_⟩
  unfold dt fl at*;simp only at*;rw[Ar];exact h2)
 rw[JA,JA,JA];omega
def UU(es:List Sg)(n:N3):Int:=total (λu v=>up (rl n u) (rl n v)) es
theorem afX(u:Pt):up u u=0:=by
 unfold up;rw[aQ aa,aQ aa]
theorem Vv(a b:List Sg)(n:N3):UU (a++b) n=UU a n+UU b n:=AA _ _ _
theorem Rs.up{S:List Sg}{nx:Sg->Sg}{RL:List (List Sg)}(r:Rs S nx RL)(h:Wd S nx){n:N3}(hn:0<n.2.2):UU (aR (RL.map dE)) n=UU S n:=by
 have key:∀Ae:List (List Sg),(∀R∈Ae,R∈RL)->UU (aR (Ae.map dE)) n=UU Ae.flatten n:=by
  intro Ae;induction Ae with
  |nil=>intro _;rfl
  |cons R Ae ih=>
   intro hR;have i1:=ih λR hR'=>hR R (bX _ hR')
   have Vw:=hR R af
   have one:UU (fZ (dE R)) n=UU R n:=by
    unfold UU fZ;rw[C8 (λu v=>Ge.up (rl n u) (rl n v)) λa=>afX _]
    cases R with
    |nil=>rfl
    |cons a T=>
     obtain⟨g1,g2⟩:=r.gpC h Vw;rw[g1];refine apI (F:=λu v=>Ge.up (rl n u) (rl n v)) (λp c e _ hs=>?_) ((r.lr _ Vw).ring.path rfl) (λs hs=>h.ne s ((r.lr _ Vw).ring.mem s hs)) g2
     have d:∀a b:Pt,((rl n a).1-(rl n b).1,(rl n a).2-(rl n b).2)=Ga.sc n.2.2 (dr (b,a)):=λa b=>by
      unfold rl rel Ga.sc dr;exact eB (by simp only;grind) (by simp only;grind)
     refine arL ?_;rw[d,d,(xz hn _).bh (xz hn _)];exact hs
   have e:aR ((R::Ae).map dE)=fZ (dE R)++aR (Ae.map dE):=by simp[aR]
   rw[e,yz,Vv,Vv,i1,one]
 rw[key RL λ_ h=>h]
 exact Kf r.per
theorem afY(n:N3):∀rg:List (List Pt),cU (wt n) (λ_=>true) (aR rg)=0
 |[]=>rfl
 |g::rg=>by
  have e:aR (g::rg)=fZ g++aR rg:=nI;have s:∀es:List Sg,cU (wt n) (λ_=>true) es=total (λu v=>wt n (u,v)) es:=λes=>(Ez λe _=>rfl).symm
  have q:∀u v:Pt,wt n (u,v)-0=Ge.q (rl n v)-Ge.q (rl n u):=λu v=>by
   unfold wt Ge.q;simp only
   repeat' split
   all_goals omega
  have z:total (λu v=>wt n (u,v)) (fZ g)=0:=by
   unfold fZ;rw[C8 _ λa=>by have:=q a a;omega]
   cases g with
   |nil=>rfl
   |cons a t=>
    have:=J0 (λu v=>wt n (u,v)) (λ_ _=>0) (λp=>Ge.q (rl n p)) t a a λp _=>q p.1 p.2
    have z:∀l:List Sg,total (λ_ _=>0) l=0:=λl=>by
     induction l with
     |nil=>rfl
     |cons e l ih=>rw[fJ,ih];rfl
    rw[z] at this;show total _ ((a::t).zip (t++[a]))=0;omega
  have:=afY n rg;rw[s] at this⊢;rw[e,AA,z,this];rfl
theorem afZ(rg:List (List Pt))(n:N3):UU (aR rg) n=cU (wt n) (λe=>decide (kY n e<=0)) (aR rg):=by
 have h1:total (λu v=> -up (rl n u) (rl n v)) (aR rg)=cU (wt n) (λe=>decide (0<kY n e)) (aR rg):=by
  refine Ez λe _=>?_
  unfold up wt kY;have:=di (rl n e.1) (rl n e.2)
  repeat' split
  all_goals simp_all
  all_goals omega
 have h2:=xA (wt n) (p:=λ_=>true) (q:=λe=>decide (kY n e<=0)) (r:=λe=>decide (0<kY n e)) (l:=aR rg) λe _=>by
  by_cases q:0<kY n e
  .rw[dO q,fY aa];rfl
  .rw[fY q,dO aa];rfl
 rw[afY,<-h1] at h2;have h3:=FK (λ_ _=>0) (λu v=>up (rl n u) (rl n v)) (aR rg)
 have z:∀l:List Sg,total (λ_ _=>0) l=0:=λl=>by
  induction l with
  |nil=>rfl
  |cons e l ih=>rw[fJ,ih];rfl
 rw[z] at h3;have h4:total (λu v=> -up (rl n u) (rl n v)) (aR rg)=total (λu v=>0-up (rl n u) (rl n v)) (aR rg):=nO λe _=>aa
 unfold UU;omega
section
variable{rg:List (List Pt)}{l:List Nd}{r:Int}{Xs:List PB}
theorem SX.around(h:SX rg l r Xs)(hB:BD Xs)(h0:takes r 0=false){n:N3}(hn:0<n.2.2):UU (sS (aP l) Xs) (nM (aP l) n)=bb (takes r (UU (aR rg) n)):=by
 obtain⟨hM,_⟩:=cS.ok h.nl;obtain⟨iY,hc⟩:=SX.chain h hB;have e1:UU (sS (aP l) Xs) (nM (aP l) n)=UU (aR iY) (nM (aP l) n):=(Kf hc).symm;have e2:UU (aR rg) n=UU (aR (rg.map (·.map (cz (aP l))))) (nM (aP l) n):=by
  rw[EG hM];unfold UU om;rw[SQ];refine nO λe _=>?_
  have a:=Ox hM n e.1;have b:=Ox hM n e.2;have f:∀{x y:Pt},Pm x y->Pm (fl x) (fl y):=λ{x y} k=>by
   obtain⟨p,q,hp,hq,k1,k2⟩:=k;exact⟨p,q,hp,hq,k1,by show p* -x.2=q* -y.2;rw[vY,vY,k2]⟩
  show Ge.up _ _=Ge.up _ _;rw[JA,JA,abQ (f a) (f b)]
 rw[e1,e2,afZ,afZ];refine SX.run h h0 hc hn rfl _ λx y hy hyx=>?_
 have h':¬_:=λk=>by rw[BK.2 k] at hyx;cases hyx
 have px:=rW (nM (aP l) n) x;have py:=rW (nM (aP l) n) y;have q1:=JZ (fV hy) px;refine dO ?_;have q2:=Ga.bO (z:=kY (nM (aP l) n) x) py;rw[fg] at q2;omega
end
theorem CO{M D:Int}(hM:0<M)(hD:0<D){a:Nd}(ha:OK M a):OK (M*D) a/\PM (M*D) a=(D*(PM M a).1,D*(PM M a).2):=by
 obtain⟨k,hk,e,e1⟩:=xy hM ha.p ha.d;have h:OK (M*D) a:=⟨ha.p,Int.dvd_mul_of_dvd_left ha.d⟩;refine⟨h,?_⟩;obtain⟨j,hj,f,f1⟩:=xy (bJ hM hD) h.p h.d;have:j=k*D:=by
  rw[<-e,OB] at f;exact Ao (by have:=ha.p;omega) f
 rw[e1,f1,this];exact eB (by simp only;grind) (by simp only;grind)
theorem arM{M:Int}(hM:0<M){n:Nd}(hn:0<n.2.2){a b:Nd}(ha:OK M a)(hb:OK M b):hit (aX n) (aX a,aX b)=decide (up (rl (nM M n) (PM M a)) (rl (nM M n) (PM M b))≠0):=by
 have yq:0<M*n.2.2:=bJ hM hn;have hc:OK (M*n.2.2) n:=⟨hn,agv ..⟩;have eC:PM (M*n.2.2) n=(M*n.1,M*n.2.1):=by
  unfold PM;rw[Int.mul_ediv_cancel _ aa]
  exact eB (fg _ _) (fg _ _)
 have er:∀{x:Nd},OK M x->rl (nM M n) (PM M x)=dr (PM (M*n.2.2) n,PM (M*n.2.2) x):=λ{x} hx=>by
  rw[(CO hM hn hx).2,eC];rfl
 have o1:=afI yq (CO hM hn ha).1 (CO hM hn hb).1 hc;have o2:=afI yq (CO hM hn hb).1 (CO hM hn ha).1 hc;obtain⟨a1,_,a3,_⟩:=Ff yq (CO hM hn ha).1;obtain⟨b1,_,b3,_⟩:=Ff yq (CO hM hn hb).1;obtain⟨c1,_,c3,_⟩:=Ff yq hc;have f1:=Vq yq a1 b1 a3 b3;have f2:=Vq yq c1 a1 c3 a3;have f3:=Vq yq c1 b1 c3 b3;rw[er ha,er hb];generalize PM (M*n.2.2) a=A at*;generalize PM (M*n.2.2) b=B at*;generalize PM (M*n.2.2) n=C at*;have k1:cr (dr (A,B)) (dr (A,C))=cr (dr (C,A)) (dr (C,B)):=by unfold cr dr;grind
 have k2:cr (dr (B,A)) (dr (B,C))= -cr (dr (C,A)) (dr (C,B)):=by unfold cr dr;grind
 rw[k1] at o1;rw[k2] at o2;have x1:(dr (C,A)).1=A.1-C.1:=rfl;have x2:(dr (C,B)).1=B.1-C.1:=rfl;unfold hit up;generalize cr (dr (C,A)) (dr (C,B))=k at*;rw[x1,x2];simp only
 change(0<fc (aX a).1 (aX b).1↔_)/\(fc (aX a).1 (aX b).1<0↔_)/\_ at f1
 change(0<fc (aX n).1 (aX a).1↔_)/\(fc (aX n).1 (aX a).1<0↔_)/\_ at f2
 change(0<fc (aX n).1 (aX b).1↔_)/\(fc (aX n).1 (aX b).1<0↔_)/\_ at f3
 generalize fc (aX a).1 (aX b).1=F1 at*;generalize fc (aX n).1 (aX a).1=F2 at*;generalize fc (aX n).1 (aX b).1=F3 at*;generalize uu (aX a) (aX b) (aX n)=O1 at*;generalize uu (aX b) (aX a) (aX n)=O2 at*;clear er a1 a3 b1 b3 c1 c3 k1 k2 x1 x2 yq hc eC;refine lF.2 ?_;by_cases q:0<F1
 .rw[aV q];simp only[qs,pK];rw[aQ aa]
  split<;>omega
 .rw[aQ q];simp only[qs,pK];by_cases w:A.1-C.1<=0/\0<B.1-C.1/\k<0
  .rw[aV w];omega
  .rw[aQ w,aQ aa]
   omega
theorem af0{α:Type}{φ:α->E2}{g:α->Int}{P:Qt}:∀(L:List α)(b:Bool),(∀x∈L,hit P (φ x)=decide (g x≠0)/\ -1<=g x/\g x<=1)->(L.map φ).foldl (λb e=>b != hit P e) b=(b != decide ((L.map g).sum%2=1))
 |[],b,_=>by cases b<;>rfl
 |x::L,b,h=>by
  obtain⟨h1,h2,h3⟩:=h x af
  rw[ij,sL,af0 L _ λy hy=>h y (bX _ hy),h1,ij,C6]
  generalize(L.map g).sum=S;rcases(show g x=0\/g x≠0 by omega) with q|q
  .rw[q];cases b<;>simp
  .rw[dO q];by_cases w:S%2=1
   .rw[dO w,fY aa]
    cases b<;>rfl
   .rw[fY w,dO aa]
    cases b<;>rfl
theorem arN(u v:Pt): -1<=up u v/\up u v<=1:=by
 unfold up
 repeat' split
 all_goals omega
section
variable{rg:List (List Pt)}{l:List Nd}{r:Int}{Xs:List PB}
theorem SX.par(h:SX rg l r Xs)(hB:BD Xs)(h0:takes r 0=false){n:Nd}(hn:0<n.2.2):Go.Proofs.YtkjhhooecopolaaGreatDoor.par (aX n) (((fin Xs).map oq).flatMap λp=>p.flatMap eN)=takes r (UU (aR rg) n):=by
 obtain⟨hM,hO⟩:=cS.ok h.nl;obtain⟨RL,hr,hp⟩:=SX.rsF h hB;have c:=SX.canon h hB;have ef:((fin Xs).map oq).flatMap (λp=>p.flatMap eN)=((x9 (fin Xs)).flatMap eN).map λe=>(aX e.1,aX e.2):=by
  unfold x9 oq;rw[Wb,agV,List.flatMap_assoc];congr 1;funext p;rw[Wb];congr 1;funext g;exact aeA aX g
 have ok:∀e∈(x9 (fin Xs)).flatMap eN,OK (aP l) e.1/\OK (aP l) e.2:=λe he=>by
  obtain⟨g,hg,he⟩:=qq.1 he;obtain⟨p,hp,hg⟩:=qq.1 hg;obtain⟨m1,m2⟩:=ap6 he;rcases bU.1 hg with q|q
  .subst q;exact⟨hO _ ((c.nd p hp).1 _ m1),hO _ ((c.nd p hp).1 _ m2)⟩
  .exact⟨hO _ ((c.nd p hp).2 g q _ m1),hO _ ((c.nd p hp).2 g q _ m2)⟩
 have es:(((x9 (fin Xs)).flatMap eN).map λe=>Ge.up (rl (nM (aP l) n) (PM (aP l) e.1)) (rl (nM (aP l) n) (PM (aP l) e.2))).sum=UU (aR (RL.map dE)) (nM (aP l) n):=by
  have e1:UU (aR (RL.map dE)) (nM (aP l) n)=UU (aR ((x9 (fin Xs)).map (·.map (PM (aP l))))) (nM (aP l) n):=(Kf (hp.flatMap_right fZ)).symm
  rw[e1];generalize x9 (fin Xs)=G;clear e1 hp ok ef c;induction G with
  |nil=>rfl
  |cons g G ih=>
   have e:aR ((g::G).map (·.map (PM (aP l))))=fZ (g.map (PM (aP l)))++aR (G.map (·.map (PM (aP l)))):=by simp[aR]
   rw[e,Vv,nI,jC,List.sum_append,ih];congr 1;unfold UU fZ;rw[C8 (λu v=>Ge.up (rl (nM (aP l) n) u) (rl (nM (aP l) n) v)) λa=>afX _,<-ary,aeA]
   unfold total;rw[iC];rfl
 have hW:=SX.wd h hB;unfold Go.Proofs.YtkjhhooecopolaaGreatDoor.par;rw[ef,af0 (g:=λe=>Ge.up (rl (nM (aP l) n) (PM (aP l) e.1)) (rl (nM (aP l) n) (PM (aP l) e.2))) _ _ λe he=>⟨arM hM hn (ok e he).1 (ok e he).2,arN _ _⟩,es,hr.up hW (show 0<(nM (aP l) n).2.2 from hn),SX.around h hB h0 hn]
 cases takes r (UU (aR rg) n)<;>rfl
end
end Gb
section
open Ge
namespace Gb
open Ga
section
variable{rg:List (List Pt)}{l:List Nd}{r:Int}{Xs:List PB}
end
end Gb
end
section
open Go.RowKit
theorem arO:∃t0 t1 te re,Pl.all vR=t0::t1::te::re/\t0.k=119/\t0.raw=Pl.fA/\t1.k=119/\(⟨t1.raw.toArray⟩:ByteArray)=⟨#[69,77,80,84,89]⟩/\te.k=101/\(Pl.all vR).length<=20000000402:=
 ⟨_,_,_,_,rfl,rfl,rfl,rfl,rfl,rfl,ah⟩
theorem arP(w:aM):ak 45 #[aG none 0 0] w λe w'=>e=aL (aF ⟨vR.toArray⟩)/\aj w w':=by
 go_enter func45,ntmps45
 go_wp2_with fail
 go_ret
 exact⟨rfl,Below.refl _ _⟩
theorem arQ(w:aM):
  ak 24 #[aF ⟨vR.toArray⟩] w λe w'=>∃v,e=aL (aI #[v,aD true])/\nH w' v []/\Below w.heap.size w w':=by
 obtain⟨t0,t1,te,re,hA,wL,yj,hk1,hr1,hte,ny⟩:=arO;obtain⟨s,hs⟩:∃s:ByteArray,s=⟨vR.toArray⟩:=⟨_,rfl⟩;have HTE:Hid (∀w1,ak 45 #[aG none 0 0] w1 λe w'=>e=aL (aF s)/\Below w1.heap.size w1 w'):=by rw[hs];exact arP
 have oz:=aeC s w (by rw[hs];decide)
 rw[show s.data.toList=vR by rw[hs]] at oz
 rw[<-hs];have HA:Hid (Pl.all vR=t0::t1::te::re):=hA;have hne:(Pl.all vR).length≠0:=by rw[hA];simp
 clear hA hs;generalize Pl.all vR=A at*
 go_enter func24,ntmps24
 go_wp2_with fail
 refine oz.mono ?_;rintro e w1 ⟨v,rfl,hown1,hb1⟩;obtain⟨tb,cap,cur,rfl,pD,fL,hcap⟩:∃tb cap cur,v=aG (some ⟨tb,0,none⟩) A.length cap/\w.heap.size<=tb/\w1.heap[tb]?=some (.cells cur 61 (0,0))/\∀(j:Nat) u,(qJ A)[j]?=some u->cur[j]?=some u:=by
  rcases hown1.2 with⟨_,h0⟩|⟨g,cap,cur,hv,hg,hc,_,_,_,h6⟩
  .exact absurd h0 hne
  .refine⟨g,cap,cur,hv,hg,hc,λj u hj=>?_⟩
   rw[<-h6,kQ] at hj;split at hj
   .rw[<-hj];simp
   .cases hj
 clear oz hown1 hne
 go_wp2_with fail
 have iE:PX w1.heap.size tb cap A (t0::t1::te::re) (w1.alloc (.cells #[aG (some ⟨tb,0,none⟩) A.length cap,az aJ 0,aD false,az aJ (-1)] 55)):=
  ⟨wE (lt_of_heap fL),⟨cur,(Below.heap_alloc _ _ _ (lt_of_heap fL)).trans fL,hcap⟩,[],HA.out.symm,heap_alloc_new _ _⟩
 have jw:Below w.heap.size w (w1.alloc (.cells #[aG (some ⟨tb,0,none⟩) A.length cap,az aJ 0,aD false,az aJ (-1)] 55)):=hb1.alloc hb1.size _;have U2:w.heap.size<=w1.heap.size:=hb1.size;clear fL hcap pD hb1 cur HA;generalize w1.alloc (.cells #[aG (some ⟨tb,0,none⟩) A.length cap,az aJ 0,aD false,az aJ (-1)] 55)=W1 at*;generalize w1.heap.size=pb at*;refine(UZ pb tb cap A (t1::te::re) t0 W1 ⟨#[77,85,76,84,73,80,79,76,89,71,79,78]⟩ iE ny wL (by rw[yj];rfl)).mono ?_
 rintro e w2 ⟨rfl,jJ,hf2⟩
 go_wp2_with fail
 refine(UZ pb tb cap A (te::re) t1 w2 ⟨#[69,77,80,84,89]⟩ jJ ny hk1 hr1).mono ?_;rintro e w6 ⟨rfl,nG,vW⟩;have vV:=hf2.trans vW;obtain⟨c6,U3,bp,e0,e1,e2,e3,hcl,pD⟩:=nG.cells;have p0:=cH bp;have p1:=cD bp;have p2:=dU bp;have hib:(c6.length:Int)<(A.length:Int):=aa
 rw[hte] at e0;have qf:Hid (Below w.heap.size w w6):=jw.trans (vV.below w.heap.size U2 jw.size);clear iE jJ hf2 vW nG bp U3 vV jw
 go_wp2_with fail
 go_region_held3 (λw'=>w'.cell? ⟨pb,0,none⟩=some (aG (some ⟨tb,0,none⟩) A.length cap)/\w'.cell? ⟨pb,1,none⟩=some (az aJ c6.length)/\w'.cell? ⟨pb,2,none⟩=some (aD false)/\w'.cell? ⟨tb,c6.length*4,none⟩=some (az .u8 101)) (go_keep) (fail)
 go_wp2_with fail
 refine(HTE.out _).mono ?_;rintro e w7 ⟨rfl,bw⟩;have U5:Hid (Below w.heap.size w w7):=qf.out.drew.trans (bw.mono qf.out.drew.size);clear bw qf
 go_wp2_with fail
 exact bodyPost_ret (v:=aI #[aG none 0 0,aD true]) (by simp[results,results24,go_sem]) rfl ⟨_,rfl,⟨[],rfl,World.ownsRow_nil _ _ _ _,af⟩,U5.out⟩
end
end Go.Proofs.YtkjhhooecopolaaGreatDoor
