import Derived.Test.YtkjhhooecopolaaGreatDoorYz41
import Derived.Test.YtkjhhooecopolaaGreatDoorRows
import Derived.Test.YtkjhhooecopolaaGreatDoorCards
import Derived.Test.YtkjhhooecopolaaGreatDoorTie
set_option maxRecDepth 100000
set_option maxHeartbeats 4000000
namespace Go.Proofs.YtkjhhooecopolaaGreatDoor
open Go.RowKit
def abz(s:List UInt8):Prop:=(Pl.err s).1=0
theorem zG{w w':World}(h:Gl w)(hb:Below w.heap.size w w'):Gl w':=h.below hb h.sz
structure Nx(w W w':World)(o:Obj)(W':World)(X:Nat):Prop where
 eq:W'=w'.alloc o
 gl:Gl W'
 fY:Below w.heap.size w W'
 nw:W'.heap[X]?=some o
 old:∀(k:Nat)(ob:Obj),W.heap[k]?=some ob->W'.heap[k]?=some ob
theorem Cm{w W w':World}(o:Obj)(hG:Gl W)(hB:Below w.heap.size w W)(hb:Below W.heap.size W w'):Nx w W w' o (w'.alloc o) w'.heap.size:=by
 have h:=hB.trans (hb.mono hB.size);refine⟨rfl,(zG hG hb).alloc _,h.alloc h.size _,heap_alloc_new _ _,fun k ob hk=>?_⟩
 have hl:=lt_of_heap hk;rw[Below.heap_alloc _ _ _ (aQ hl hb.size),hb.block k hl];exact hk
theorem am8(so:Option Addr)(n cap:Nat)(w:World)(hG:Gl w)(hS:QX w so n)(_hn:n<=maxLen):
  Calls Tryz.prog 6 #[.slice so n cap] w fun e w'=>e=.returned (.bool true)/\Below w.heap.size w w':=by
 have HS:Hid (QX w so n):=hS;clear hS
 go_enter Tryz.func6,Tryz.ntmps6
 go_wp2_with fail
 go_loopg [3] n (fun g iv wr=>∃k:Nat,k+g=n/\iv=.int .i64 k/\Hid (Below w.heap.size w wr/\Gl wr))
 case atStart=>exact⟨0,by omega,rfl,Below.refl _ _,hG⟩
 case round=>
  obtain⟨k,hkn,rfl,HB⟩:=hrel;obtain⟨ak,iC⟩:=HB.out;by_cases hlt:k<n/\k<1152921504606846976
  ·obtain⟨hlt,hmx⟩:=hlt;obtain⟨b,o,K,x,y,d,r,s,rfl,hb,hs,c0,c1,c2,c3,c4,c5⟩:=HS.out k hlt;have eK:(k:Int)<(n:Int):=by omega
   have NQ:(k:Int)<1152921504606846976:=by omega
   have e0:wr.cell? ⟨b,o+k*6,none⟩=some (.int .i64 K):=(ak.cell (p:=⟨b,o+k*6,none⟩) hb).trans c0;have e1:wr.cell? ⟨b,o+k*6+1,none⟩=some (.int .i64 x):=(ak.cell (p:=⟨b,o+k*6+1,none⟩) hb).trans c1;have e2:wr.cell? ⟨b,o+k*6+2,none⟩=some (.int .i64 y):=(ak.cell (p:=⟨b,o+k*6+2,none⟩) hb).trans c2;have e3:wr.cell? ⟨b,o+k*6+3,none⟩=some (.int .i64 d):=(ak.cell (p:=⟨b,o+k*6+3,none⟩) hb).trans c3;have e4:wr.cell? ⟨b,o+k*6+4,none⟩=some (.int .u8 r):=(ak.cell (p:=⟨b,o+k*6+4,none⟩) hb).trans c4;have e5:wr.cell? ⟨b,o+k*6+5,none⟩=some (.string s):=(ak.cell (p:=⟨b,o+k*6+5,none⟩) hb).trans c5;have hbr:b<wr.heap.size:=by have:=ak.size;omega
   have HA:Hid (∀o',Below w.heap.size w (wr.alloc o')):=fun o'=>ak.alloc ak.size _
   have F9:Hid (∀w1,Calls Tryz.prog 14 #[.string s] w1 fun e w'=>Below w1.heap.size w1 w'/\∃W so pn pc,e=.returned (.tuple #[.agg #[.string W,.slice so pn pc,.int .i64 0],.int .i64 (Pl.err s.data.toList).1,.int .i64 (Pl.err s.data.toList).2])/\
     Hid (abz s.data.toList->∃S,Tn (Pl.aM (Pl.all s.data.toList)).2.2 W S/\kT w' (.slice so pn pc) (Pl.aM (Pl.all s.data.toList)).2.2)):=fun w1=>by
    refine(afV s w1 hs).mono ?_;rintro e w' ⟨hb,W,so,pn,pc,rfl,hc⟩;refine⟨hb,W,so,pn,pc,rfl,fun h0=>?_⟩
    rcases hc h0 with⟨gs,k1,rfl,k3,k4,_⟩|⟨rfl,k2,k3,_⟩
    ·obtain⟨S,hS⟩:=am5 k4;rw[k1];exact⟨S,hS,k3⟩
    ·obtain⟨S,hS⟩:=am6 k3;exact⟨S,hS,k2⟩
   clear c0 c1 c2 c3 c4 c5 HB HS ak;by_cases h0:(Pl.err s.data.toList).1=0
   ·have iV:Hid (mG (Pl.aM (Pl.all s.data.toList)).2.2):=Vt h0;have HP2:Hid ((Pl.err s.data.toList).2=0):=(yK h0).2.1;have Gc:Hid (abz s.data.toList):=h0;have HWI:Hid (∀w1,Gl w1->Calls Tryz.prog 17 #[.string s,.int .i64 x,.int .i64 y,.int .i64 d] w1 fun e w'=>e=.returned (.tuple #[.int .i64 (Pl.dQ s.data.toList x y d).1,.bool (Pl.dQ s.data.toList x y d).2.1,.int .i64 (Pl.dQ s.data.toList x y d).2.2.1,.int .i64 (Pl.dQ s.data.toList x y d).2.2.2])/\Below w1.heap.size w1 w'):=fun w1 g1=>Wu s x y d w1 hs g1
    have HF:Hid (∀w1 rr,Gl w1->Calls Tryz.prog 18 #[.string s,.int .u8 rr] w1 fun e w'=>(∃T E P,e=.returned (.agg #[.string (ba T),.int .i64 (E:Nat),.int .i64 (P:Nat)])/\Hid (ug s.data.toList rr T E P))/\Below w1.heap.size w1 w'):=fun w1 rr g1=>abt s rr w1 hs g1
    generalize(Pl.err s.data.toList).1=ER at*;subst h0
    go_wp2_with fail
    refine(F9.out _).mono ?_;rintro e w1 ⟨hb1,W,Cn,pn,pc,rfl,jw⟩
    go_wp2_with fail
    obtain⟨S,Fq,abB⟩:=jw.out Gc.out;have MB:w1.heap[wr.heap.size]?=some (.cells #[.int .i64 K,.int .i64 x,.int .i64 y,.int .i64 d,.int .u8 r,.string s] 26 (0,0)):=(hb1.block _ (by simp)).trans (heap_alloc_new _ _)
    have hz1:wr.heap.size<w1.heap.size:=by have:=hb1.size;simp at this;omega
    have cH:Gl w1:=zG (iC.alloc _) hb1;have qy:Hid (Below w.heap.size w w1):=(HA.out _).trans (hb1.mono (HA.out _).size);have Gd:Hid (Tn (Pl.aM (Pl.all s.data.toList)).2.2 W S):=Fq;have hTU:=amU (Pl.aM (Pl.all s.data.toList)).2.2 W (.slice Cn pn pc) (w1.alloc (.cells #[.string W,.slice Cn pn pc,.int .i64 0] 29)) (DL DG abB ((Below.refl _ _).alloc (ai _) _)) iV.out;clear jw F9 hb1 abB Fq iC;refine hTU.mono ?_;rintro e w2 ⟨pv2,rfl,QY,hb2⟩;have vS:Below w1.heap.size w1 w2:=by
     have h:=(Below.refl w1.heap.size w1).alloc (ai _) (.cells #[.string W,.slice Cn pn pc,.int .i64 0] 29);exact h.trans (hb2.mono h.size)
    have jL:Gl w2:=zG cH vS;have hO2:=(vS.block _ hz1).trans MB;have hz2:wr.heap.size<w2.heap.size:=aQ hz1 vS.size;have gz:Hid (Below w.heap.size w w2):=qy.out.trans (vS.mono qy.out.size);have hWR:=Gd.out.wr w2 pv2 jL QY;obtain⟨so2,pc2,anb⟩:=qW QY;subst anb;clear hTU hb2 vS MB hz1 cH qy QY;generalize(Gb.turn (Pl.aM (Pl.all s.data.toList)).2.2).length=PN2 at*
    go_wp2_with fail
    refine hWR.mono ?_;rintro e w3 ⟨rfl,hb3⟩;have yD:Gl w3:=zG jL hb3;have Co:=(hb3.block _ hz2).trans hO2;have hz3:wr.heap.size<w3.heap.size:=aQ hz2 hb3.size;have oK:Hid (Below w.heap.size w w3):=gz.out.trans (hb3.mono gz.out.size);have q1:w3.cell? ⟨wr.heap.size,1,none⟩=some (.int .i64 x):=cell_of Co 1;have q2:w3.cell? ⟨wr.heap.size,2,none⟩=some (.int .i64 y):=cell_of Co 2;have q3:w3.cell? ⟨wr.heap.size,3,none⟩=some (.int .i64 d):=cell_of Co 3;have q5:w3.cell? ⟨wr.heap.size,5,none⟩=some (.string s):=cell_of Co 5;have QZ:S.size<=maxLen:=dY Gd.out.size (by unfold maxLen;omega)
    have abF:Hid (∀w1,Gl w1->Calls Tryz.prog 17 #[.string S,.int .i64 x,.int .i64 y,.int .i64 d] w1 fun e w'=>e=.returned (.tuple #[.int .i64 (Pl.dQ S.data.toList x y d).1,.bool (Pl.dQ S.data.toList x y d).2.1,.int .i64 (Pl.dQ S.data.toList x y d).2.2.1,.int .i64 (Pl.dQ S.data.toList x y d).2.2.2])/\Below w1.heap.size w1 w'):=fun w1 g1=>Wu S x y d w1 QZ g1
    have KM:Hid (∀w1 rr,Gl w1->Calls Tryz.prog 18 #[.string S,.int .u8 rr] w1 fun e w'=>(∃T E P,e=.returned (.agg #[.string (ba T),.int .i64 (E:Nat),.int .i64 (P:Nat)])/\Hid (ug S.data.toList rr T E P))/\Below w1.heap.size w1 w'):=fun w1 rr g1=>abt S rr w1 QZ g1
    have hSz:=Gd.out.size;have KN:Hid (S.size<=400->(Pl.err S.data.toList).1=0/\(Ge.ag (Pl.rings S.data.toList)).Perm ((Ge.ag (Pl.rings s.data.toList)).map Gb.rv)):=fun h=>by
     obtain⟨k1,k2⟩:=Gd.out.rd h;refine⟨by rw[k1],?_⟩
     rw[k2];exact Gb.amF _
    have Q0:Hid (S.size<=400->(Pl.dQ s.data.toList x y d).1= -(Pl.dQ S.data.toList x y d).1/\(Pl.dQ s.data.toList x y d).2.1=(Pl.dQ S.data.toList x y d).2.1/\(Pl.dQ s.data.toList x y d).2.2.1=(Pl.dQ S.data.toList x y d).2.2.1):=fun h=>am7 Gc.out (KN.out h).1 (KN.out h).2 x y d
    have vH:=aby (s:=s.data.toList) x y d;have abG:=aby (s:=S.data.toList) x y d;have tP:Hid (S.size<=400->∀rr T E P T' E' P',(rr=101\/rr=110\/rr=43)->ug s.data.toList rr T E P->ug S.data.toList (Gb.F5 rr) T' E' P'->T=T'/\E=0/\E'=0/\P=0/\P'=0/\T'≠[]):=fun h rr T E P T' E' P' rp h1 h2=>by
     obtain⟨k1,k2⟩:=KN.out h;have jt:Ge.rule rr=true/\Ge.rule (Gb.F5 rr)=true:=by rcases rp with q|q|q<;>subst q<;>exact⟨by decide,by decide⟩
     rcases h1 with⟨a1,_⟩|⟨_,a2,_⟩|⟨_,_,a3,a4,a5⟩
     ·exact absurd Gc.out a1
     ·rw[jt.1] at a2;cases a2
     ·rcases h2 with⟨b1,_⟩|⟨_,b2,_⟩|⟨_,_,b3,b4,b5⟩
      ·exact absurd k1 b1
      ·rw[jt.2] at b2;cases b2
      ·exact⟨Gb.pW.mirror rp k2 (IH Gc.out).2.2.1 a3 b3,a4,b4,a5,b5,Gb.amA b3⟩
    clear Gd hWR hb3 hO2 hz2 jL gz iV HP2 KN;generalize(Pl.dQ s.data.toList x y d).1=v1 at*;generalize(Pl.dQ s.data.toList x y d).2.1=v2 at*;generalize(Pl.dQ s.data.toList x y d).2.2.1=v3 at*;generalize(Pl.dQ s.data.toList x y d).2.2.2=v4 at*;generalize(Pl.dQ S.data.toList x y d).1=t1 at*;generalize(Pl.dQ S.data.toList x y d).2.1=t2 at*;generalize(Pl.dQ S.data.toList x y d).2.2.1=t3 at*;generalize(Pl.dQ S.data.toList x y d).2.2.2=t4 at*
    go_wp2_with fail
    refine(HWI.out _ yD).mono ?_;rintro e w4 ⟨rfl,hb4⟩;have Q3:Gl w4:=zG yD hb4;have Gf:=(hb4.block _ hz3).trans Co;have zC:wr.heap.size<w4.heap.size:=aQ hz3 hb4.size;have qD:Hid (Below w.heap.size w w4):=oK.out.trans (hb4.mono oK.out.size);have r1:w4.cell? ⟨wr.heap.size,1,none⟩=some (.int .i64 x):=cell_of Gf 1;have r2:w4.cell? ⟨wr.heap.size,2,none⟩=some (.int .i64 y):=cell_of Gf 2;have r3:w4.cell? ⟨wr.heap.size,3,none⟩=some (.int .i64 d):=cell_of Gf 3;clear q1 q2 q3 q5 hb4 Co hz3 yD oK HWI
    go_wp2_with fail
    refine(abF.out _ Q3).mono ?_;rintro e w5 ⟨rfl,ax⟩;have mF:Gl w5:=zG Q3 ax;have Q4:=(ax.block _ zC).trans Gf;have Pq:wr.heap.size<w5.heap.size:=aQ zC ax.size;have eT:Hid (Below w.heap.size w w5):=qD.out.trans (ax.mono qD.out.size);have r5:w5.cell? ⟨wr.heap.size,5,none⟩=some (.string s):=cell_of Q4 5;clear r1 r2 r3 ax Gf zC Q3 qD abF
    go_wp2_with fail
    refine(HF.out _ 101 mF).mono ?_;rintro e w6 ⟨⟨T1,E1,P1,rfl,Q5⟩,aC⟩;have tK:w5.heap.size<=w6.heap.size:=aC.size;generalize Q6:ba T1=B1;have abH:w5.heap[wr.heap.size]?=some (.cells #[.int .i64 K,.int .i64 x,.int .i64 y,.int .i64 d,.int .u8 r,.string s] 26 (0,0)):=Q4;have n1:=Cm (.cells #[.string B1,.int .i64 (E1:Int),.int .i64 (P1:Int)] 38) mF eT.out aC;clear r5 aC eT mF Q4 tK
    go_wp2_with fail
    generalize w6.alloc (.cells #[.string B1,.int .i64 (E1:Int),.int .i64 (P1:Int)] 38)=W1 at*;generalize w6.heap.size=X1 at*;have Gg:=n1.old _ _ abH;have hXa:=n1.nw;have Q7:=n1.gl;have HBa:Hid (Below w.heap.size w W1):=n1.fY;clear n1 abH Pq;refine(KM.out _ 101 Q7).mono ?_;rintro e w7 ⟨⟨T2,E2,P2,rfl,Q8⟩,aY⟩;generalize iK:ba T2=B2;have n2:=Cm (.cells #[.string B2,.int .i64 (E2:Int),.int .i64 (P2:Int)] 38) Q7 HBa.out aY;have r5:w7.cell? ⟨wr.heap.size,5,none⟩=some (.string s):=cell_of ((aY.block _ (lt_of_heap Gg)).trans Gg) 5;have r5b:(w7.alloc (.cells #[.string B2,.int .i64 (E2:Int),.int .i64 (P2:Int)] 38)).cell? ⟨wr.heap.size,5,none⟩=some (.string s):=cell_of (n2.old _ _ Gg) 5;clear aY HBa Q7
    go_wp2_with fail
    generalize w7.alloc (.cells #[.string B2,.int .i64 (E2:Int),.int .i64 (P2:Int)] 38)=W2 at*;generalize w7.heap.size=X2 at*;have hOb:=n2.old _ _ Gg;have abL:=n2.old _ _ hXa;have hXb:=n2.nw;have Q9:=n2.gl;have HBb:Hid (Below w.heap.size w W2):=n2.fY;clear n2 Gg hXa r5 r5b;refine(HF.out _ 110 Q9).mono ?_;rintro e w8 ⟨⟨T3,E3,P3,rfl,Ba⟩,lH⟩;generalize Ra:ba T3=B3;have n3:=Cm (.cells #[.string B3,.int .i64 (E3:Int),.int .i64 (P3:Int)] 38) Q9 HBb.out lH;clear lH HBb Q9
    go_wp2_with fail
    generalize w8.alloc (.cells #[.string B3,.int .i64 (E3:Int),.int .i64 (P3:Int)] 38)=W3 at*;generalize w8.heap.size=X3 at*;have hOc:=n3.old _ _ hOb;have abP:=n3.old _ _ abL;have abQ:=n3.old _ _ hXb;have hXc:=n3.nw;have Rb:=n3.gl;have FE:Hid (Below w.heap.size w W3):=n3.fY;clear n3 hOb abL hXb;refine(KM.out _ 110 Rb).mono ?_;rintro e w9 ⟨⟨T4,E4,P4,rfl,uY⟩,mP⟩;generalize nS:ba T4=B4;have n4:=Cm (.cells #[.string B4,.int .i64 (E4:Int),.int .i64 (P4:Int)] 38) Rb FE.out mP;have r5:(w9.alloc (.cells #[.string B4,.int .i64 (E4:Int),.int .i64 (P4:Int)] 38)).cell? ⟨wr.heap.size,5,none⟩=some (.string s):=cell_of (n4.old _ _ hOc) 5;clear mP FE Rb
    go_wp2_with fail
    generalize w9.alloc (.cells #[.string B4,.int .i64 (E4:Int),.int .i64 (P4:Int)] 38)=W4 at*;generalize w9.heap.size=X4 at*;have abS:=n4.old _ _ abP;have abT:=n4.old _ _ abQ;have abU:=n4.old _ _ hXc;have hXd:=n4.nw;have wZ:=n4.gl;have HBd:Hid (Below w.heap.size w W4):=n4.fY;clear n4 hOc abP abQ hXc r5;refine(HF.out _ 43 wZ).mono ?_;rintro e Ni ⟨⟨T5,E5,P5,rfl,Rc⟩,abX⟩;generalize rK:ba T5=B5;have n5:=Cm (.cells #[.string B5,.int .i64 (E5:Int),.int .i64 (P5:Int)] 38) wZ HBd.out abX;clear abX HBd wZ
    go_wp2_with fail
    generalize Ni.alloc (.cells #[.string B5,.int .i64 (E5:Int),.int .i64 (P5:Int)] 38)=W5 at*;generalize Ni.heap.size=X5 at*;have Re:=n5.old _ _ abS;have Rf:=n5.old _ _ abT;have Rh:=n5.old _ _ abU;have Ri:=n5.old _ _ hXd;have Rj:=n5.nw;have vp:=n5.gl;have HBe:Hid (Below w.heap.size w W5):=n5.fY;clear n5 abS abT abU hXd;refine(KM.out _ 45 vp).mono ?_;rintro e dV ⟨⟨T6,E6,P6,rfl,Rk⟩,Rl⟩;generalize Rm:ba T6=B6;have n6:=Cm (.cells #[.string B6,.int .i64 (E6:Int),.int .i64 (P6:Int)] 38) vp HBe.out Rl;have hs6:X1<dV.heap.size/\X2<dV.heap.size/\X3<dV.heap.size/\X4<dV.heap.size/\X5<dV.heap.size:=by
     have:=Rl.size;have l1:=lt_of_heap Re;have l2:=lt_of_heap Rf;have l3:=lt_of_heap Rh;have l4:=lt_of_heap Ri;have l5:=lt_of_heap Rj;omega
    obtain⟨s1,s2,s3,s4,s5⟩:=hs6;have HN:Hid (Below w.heap.size w (dV.alloc (.cells #[.string B6,.int .i64 (E6:Int),.int .i64 (P6:Int)] 38))/\Gl (dV.alloc (.cells #[.string B6,.int .i64 (E6:Int),.int .i64 (P6:Int)] 38))):=⟨n6.fY,n6.gl⟩;have KO:=n6.old _ _ Re;have KP:=n6.old _ _ Rf;have KQ:=n6.old _ _ Rh;have KR:=n6.old _ _ Ri;have KS:=n6.old _ _ Rj;have KT:=n6.nw;have a0:(dV.alloc (.cells #[.string B6,.int .i64 (E6:Int),.int .i64 (P6:Int)] 38)).cell? ⟨X1,0,none⟩=some (.string B1):=cell_of KO 0;have a1:(dV.alloc (.cells #[.string B6,.int .i64 (E6:Int),.int .i64 (P6:Int)] 38)).cell? ⟨X1,1,none⟩=some (.int .i64 (E1:Int)):=cell_of KO 1;have a2:(dV.alloc (.cells #[.string B6,.int .i64 (E6:Int),.int .i64 (P6:Int)] 38)).cell? ⟨X1,2,none⟩=some (.int .i64 (P1:Int)):=cell_of KO 2;have b0:(dV.alloc (.cells #[.string B6,.int .i64 (E6:Int),.int .i64 (P6:Int)] 38)).cell? ⟨X2,0,none⟩=some (.string B2):=cell_of KP 0;have b1:(dV.alloc (.cells #[.string B6,.int .i64 (E6:Int),.int .i64 (P6:Int)] 38)).cell? ⟨X2,1,none⟩=some (.int .i64 (E2:Int)):=cell_of KP 1;have b2:(dV.alloc (.cells #[.string B6,.int .i64 (E6:Int),.int .i64 (P6:Int)] 38)).cell? ⟨X2,2,none⟩=some (.int .i64 (P2:Int)):=cell_of KP 2;have cc0:(dV.alloc (.cells #[.string B6,.int .i64 (E6:Int),.int .i64 (P6:Int)] 38)).cell? ⟨X3,0,none⟩=some (.string B3):=cell_of KQ 0;have cc1:(dV.alloc (.cells #[.string B6,.int .i64 (E6:Int),.int .i64 (P6:Int)] 38)).cell? ⟨X3,1,none⟩=some (.int .i64 (E3:Int)):=cell_of KQ 1;have cc2:(dV.alloc (.cells #[.string B6,.int .i64 (E6:Int),.int .i64 (P6:Int)] 38)).cell? ⟨X3,2,none⟩=some (.int .i64 (P3:Int)):=cell_of KQ 2;have dd0:(dV.alloc (.cells #[.string B6,.int .i64 (E6:Int),.int .i64 (P6:Int)] 38)).cell? ⟨X4,0,none⟩=some (.string B4):=cell_of KR 0;have dd1:(dV.alloc (.cells #[.string B6,.int .i64 (E6:Int),.int .i64 (P6:Int)] 38)).cell? ⟨X4,1,none⟩=some (.int .i64 (E4:Int)):=cell_of KR 1;have dd2:(dV.alloc (.cells #[.string B6,.int .i64 (E6:Int),.int .i64 (P6:Int)] 38)).cell? ⟨X4,2,none⟩=some (.int .i64 (P4:Int)):=cell_of KR 2;have ee0:(dV.alloc (.cells #[.string B6,.int .i64 (E6:Int),.int .i64 (P6:Int)] 38)).cell? ⟨X5,0,none⟩=some (.string B5):=cell_of KS 0;have ee1:(dV.alloc (.cells #[.string B6,.int .i64 (E6:Int),.int .i64 (P6:Int)] 38)).cell? ⟨X5,1,none⟩=some (.int .i64 (E5:Int)):=cell_of KS 1;have ee2:(dV.alloc (.cells #[.string B6,.int .i64 (E6:Int),.int .i64 (P6:Int)] 38)).cell? ⟨X5,2,none⟩=some (.int .i64 (P5:Int)):=cell_of KS 2;have f0:(dV.alloc (.cells #[.string B6,.int .i64 (E6:Int),.int .i64 (P6:Int)] 38)).cell? ⟨dV.heap.size,0,none⟩=some (.string B6):=cell_of KT 0;have f1:(dV.alloc (.cells #[.string B6,.int .i64 (E6:Int),.int .i64 (P6:Int)] 38)).cell? ⟨dV.heap.size,1,none⟩=some (.int .i64 (E6:Int)):=cell_of KT 1;have f2:(dV.alloc (.cells #[.string B6,.int .i64 (E6:Int),.int .i64 (P6:Int)] 38)).cell? ⟨dV.heap.size,2,none⟩=some (.int .i64 (P6:Int)):=cell_of KT 2;have HNU:Hid (∀(m:Nat) w1,m<=5->Calls Tryz.prog 19 #[.int .i64 (m:Int)] w1 fun e w'=>e=.returned (.int .i64 (m:Int))/\w'=w1):=fun m w1 h=>abq m w1 (by omega) (by omega)
    clear n6 Rl HBe vp Re Rf Rh Ri Rj KO KP KQ KR KS KT HF KM;by_cases KU:S.size<=400
    ·obtain⟨m1,m2,m3⟩:=Q0.out KU;obtain⟨u1,u2,u3',u4,u5',u6⟩:=tP.out KU 101 T1 E1 P1 T2 E2 P2 (ae rfl) Q5.out Q8.out;obtain⟨x1,x2,x3,x4,x5,x6⟩:=tP.out KU 110 T3 E3 P3 T4 E4 P4 (af (ae rfl)) Ba.out uY.out;obtain⟨y1,y2,y3,y4,y5,y6⟩:=tP.out KU 43 T5 E5 P5 T6 E6 P6 (af (af rfl)) Rc.out Rk.out;have hB4:B2.toList≠[]:=by
      rw[<-iK,show(ba T2).toList=T2 from ByteArray.toList_mk _]
      exact u6
     subst u1 x1 y1;rw[Q6] at iK;rw[Ra] at nS;rw[rK] at Rm;subst iK nS Rm;subst u2 u3' u4 u5' x2 x3 x4 x5 y2 y3 y4 y5;subst m2 m3;have hv1:v1= -t1:=m1;subst hv1;have hw1:IntKind.i64.wrap (-t1)= -t1:=by rw[IntKind.wrap_i64];omega
     have hv3:=vH.2.2;have NV:(S.size:Int)<=400:=by omega
     clear Q5 Q8 Ba uY Rc Rk tP Q0 vH abG u6 x6 y6 Q6 Ra rK m1;have s6:dV.heap.size<(dV.alloc (.cells #[.string B5,.int .i64 0,.int .i64 0] 38)).heap.size:=by simp
     have s7:X1<(dV.alloc (.cells #[.string B5,.int .i64 0,.int .i64 0] 38)).heap.size/\X2<(dV.alloc (.cells #[.string B5,.int .i64 0,.int .i64 0] 38)).heap.size/\X3<(dV.alloc (.cells #[.string B5,.int .i64 0,.int .i64 0] 38)).heap.size/\X4<(dV.alloc (.cells #[.string B5,.int .i64 0,.int .i64 0] 38)).heap.size/\X5<(dV.alloc (.cells #[.string B5,.int .i64 0,.int .i64 0] 38)).heap.size:=by simp;omega
     go_wp2_with fail
     have Qr:Hid (Below w.heap.size w (dV.alloc (.cells #[.string B5,.int .i64 0,.int .i64 0] 38))/\Gl (dV.alloc (.cells #[.string B5,.int .i64 0,.int .i64 0] 38))):=HN.out;clear HN;generalize dV.alloc (.cells #[.string B5,.int .i64 0,.int .i64 0] 38)=WF at*;clear s1 s2 s3 s4 s5;obtain⟨s1,s2,s3,s4,s5⟩:=s7;generalize dV.heap.size=X6 at*;clear hSz QZ e0 e1 e2 e3 e4 e5 hbr HA Gc
     replace a1:WF.cell? ⟨X1,1,none⟩=some (.int .i64 0):=a1
     replace a2:WF.cell? ⟨X1,2,none⟩=some (.int .i64 0):=a2
     replace b1:WF.cell? ⟨X2,1,none⟩=some (.int .i64 0):=b1
     replace b2:WF.cell? ⟨X2,2,none⟩=some (.int .i64 0):=b2
     replace cc1:WF.cell? ⟨X3,1,none⟩=some (.int .i64 0):=cc1
     replace cc2:WF.cell? ⟨X3,2,none⟩=some (.int .i64 0):=cc2
     replace dd1:WF.cell? ⟨X4,1,none⟩=some (.int .i64 0):=dd1
     replace dd2:WF.cell? ⟨X4,2,none⟩=some (.int .i64 0):=dd2
     replace ee1:WF.cell? ⟨X5,1,none⟩=some (.int .i64 0):=ee1
     replace ee2:WF.cell? ⟨X5,2,none⟩=some (.int .i64 0):=ee2
     replace f1:WF.cell? ⟨X6,1,none⟩=some (.int .i64 0):=f1
     replace f2:WF.cell? ⟨X6,2,none⟩=some (.int .i64 0):=f2
     refine(HNU.out v3 _ hv3).mono ?_;rintro e w12 ⟨rfl,rfl⟩
     go_wp2_with fail
     refine(HNU.out v3 _ hv3).mono ?_;rintro e w13 ⟨rfl,rfl⟩;dsimp only;obtain⟨EM,Rn⟩:∃EM:ByteArray,EM=⟨#[]⟩:=⟨_,rfl⟩;have hBE:(B1.toList == EM.toList)=false:=by
      refine uv.2 fun e=>hB4 ?_
      rw[e,Rn];exact ByteArray.toList_mk []
     iterate 76 (first |go_skip|go_guarded|go_step|go_upon|go_values|skip)
     rw[<-Rn];clear Rn hB4
     go_wp2_with fail
     go_roundg (gk-1)
     case measure=>omega
     case rel=>exact⟨k+1,by omega,by go_num,Qr⟩
    ·have NV:decide ((S.size:Int)<=400)=false:=by simp;omega
     clear Q5 Q8 Ba uY Rc Rk tP Q0 vH abG Q6 iK Ra nS rK Rm
     go_wp2_with fail
     go_roundg (gk-1)
     case measure=>omega
     case rel=>exact⟨k+1,by omega,by go_num,HN⟩
   ·have jN:Hid (∃E:Nat,E=(Pl.err s.data.toList).1/\E≠0):=⟨_,rfl,h0⟩;obtain⟨E,hE,nI⟩:=jN.out;rw[<-hE] at F9;have hEb:((E:Int) == 0)=false:=uv.2 (by omega)
    have hEd:¬((E:Int)=0):=by omega
    clear jN h0 hE
    go_wp2_with fail
    refine(F9.out _).mono ?_;rintro e w1 ⟨hb1,W,Cn,pn,pc,rfl,jw⟩;have HN:Hid (Below w.heap.size w (w1.alloc (.cells #[.string W,.slice Cn pn pc,.int .i64 0] 29))/\Gl (w1.alloc (.cells #[.string W,.slice Cn pn pc,.int .i64 0] 29))):=by
     have h:=(HA.out (.cells #[.int .i64 K,.int .i64 x,.int .i64 y,.int .i64 d,.int .u8 r,.string s] 26)).trans (hb1.mono (HA.out _).size);exact⟨h.alloc h.size _,(zG (iC.alloc _) hb1).alloc _⟩
    clear jw F9 hb1
    go_wp2_with fail
    go_roundg (gk-1)
    case measure=>omega
    case rel=>exact⟨k+1,by omega,by go_num,HN⟩
  ·clear HS;by_cases h1:k<n
   ·have h2:1152921504606846976<=k:=by omega
    have eK:(k:Int)<(n:Int):=by omega
    have NQ:decide ((k:Int)<1152921504606846976)=false:=by simp;omega
    clear hlt
    go_wp2_with fail
    go_ret
    exact⟨rfl,ak⟩
   ·have eK:decide ((k:Int)<(n:Int))=false:=by simp;omega
    clear hlt
    go_wp2_with fail
    go_ret
    exact⟨rfl,ak⟩
end Go.Proofs.YtkjhhooecopolaaGreatDoor
namespace Go.Proofs.YtkjhhooecopolaaGreatDoor
open Go.RowKit Go.Deep
theorem Tryz.opCells:Tryz.prog.cellsOf 26=6:=by kernel_rfl
theorem Tryz.intCells:Tryz.prog.cellsOf 3=1:=by kernel_rfl
theorem Tryz.byteCells:Tryz.prog.cellsOf 5=1:=by kernel_rfl
theorem Tryz.strCells:Tryz.prog.cellsOf 9=1:=by kernel_rfl
section
variable{H:Type}{enc:TypeId×Value->H}{W:World}{spare:Nat->Bool}{held:Bool}
theorem six{α:Type}:∀{l:List α},l.length=6->∃a b c d e f,l=[a,b,c,d,e,f]
 |[a,b,c,d,e,f],_=>⟨a,b,c,d,e,f,rfl⟩
theorem anj{so:Option Addr}{n cap:Nat}{d:DataW H}{p:List MemPlace}(h:DataW.Trod enc Tryz.prog W 0 spare held 22 (.slice so n cap) d p):n<=maxLen/\QX W so n:=by
 obtain⟨fuel,hf⟩:=h;rcases open_slice Tryz.underlying22 hf with⟨hcs,hx⟩|⟨a,len,cap',m,fl,D,Pl,hcs,hb,hl,hm,hmm,hx,hel⟩
 ·simp[Value.cells] at hcs;obtain⟨rfl,rfl,rfl⟩:=hcs;exact⟨iI _,fun k hk=>absurd hk (Nat.not_lt_zero _)⟩
 ·simp[Value.cells] at hcs;obtain⟨rfl,rfl,rfl⟩:=hcs;refine⟨dY hl hm,fun k hk=>?_⟩
  have hspot:a.spot=none:=by
   obtain⟨cs0,z1,_⟩:=hel 0 (by rw[hmm];split<;>omega)
   rw[Tryz.opCells] at z1;obtain⟨_,zl,zc⟩:=World.cells?_some z1;obtain⟨q0,q1,q2,q3,q4,q5,rfl⟩:=six zl;simpa[Addr.add] using World.cell?_spot (v:=q0) (zc 0 (by omega))
  obtain⟨cs',h1,h2⟩:=hel k (by rw[hmm];split<;>omega)
  rw[Tryz.opCells] at h1;obtain⟨_,hlen,hcell⟩:=World.cells?_some h1;obtain⟨xs,k',hk',hxy,_,hxl,hfl⟩:=DataW.trod_struct Tryz.underlying26 h2;obtain⟨b,o,spot⟩:=a;obtain rfl:spot=none:=hspot;obtain⟨y0,y1,y2,y3,y4,y5,rfl⟩:=six (hxl.trans (by rfl))
  obtain⟨v0,v1,v2,v3,v4,v5,rfl⟩:=six hlen
  ·clear hxl hlen;have g0:=hfl 0 _ rfl;have g1:=hfl 1 _ rfl;have g2:=hfl 2 _ rfl;have g3:=hfl 3 _ rfl;have g4:=hfl 4 _ rfl;have g5:=hfl 5 _ rfl;simp[Tryz.intCells,Tryz.byteCells,Tryz.strCells] at g0 g1 g2 g3 g4 g5;obtain⟨n0,i0,_,_⟩:=DataW.trod_int Tryz.underlying3 g0;obtain⟨n1,i1,_,_⟩:=DataW.trod_int Tryz.underlying3 g1;obtain⟨n2,i2,_,_⟩:=DataW.trod_int Tryz.underlying3 g2;obtain⟨n3,i3,_,_⟩:=DataW.trod_int Tryz.underlying3 g3;obtain⟨n4,i4,_,_⟩:=DataW.trod_int Tryz.underlying5 g4;obtain⟨s,i5,_,hs⟩:=DataW.trod_string Tryz.underlying9 g5;simp only[List.cons.injEq,ur] at i0 i1 i2 i3 i4 i5;subst i0 i1 i2 i3 i4 i5;have e0:=hcell 0 (by omega)
   have e1:=hcell 1 (by omega)
   have e2:=hcell 2 (by omega)
   have e3:=hcell 3 (by omega)
   have e4:=hcell 4 (by omega)
   have e5:=hcell 5 (by omega)
   simp[Go.WideShapes.add_plain] at e0 e1 e2 e3 e4 e5;exact⟨b,o,n0,n1,n2,n3,n4,s,rfl,by simpa using World.block_lt_of_cell? _ _ e0,hs,e0,e1,e2,e3,e4,e5⟩
end
end Go.Proofs.YtkjhhooecopolaaGreatDoor
namespace Go.Proofs.YtkjhhooecopolaaGreatDoor
open Go.ChangeShapes Go.WideShapes Go.ChangeAt Go.RowKit
theorem own:ownKnob Tryz.prog.godebug=none:=by kernel_rfl
theorem laidOut:laidOutB Tryz.prog=true:=by kernel_rfl
theorem ank:mapsRowed Tryz.prog=true:=by kernel_rfl
theorem anl:Tryz.prog.stopsHeard=true:=by kernel_rfl
theorem anm:Tryz.prog.mayEnter=true:=by kernel_rfl
theorem ann:true=Tryz.prog.looks []:=by kernel_rfl
end Go.Proofs.YtkjhhooecopolaaGreatDoor
namespace Go.Proofs.YtkjhhooecopolaaGreatDoor
open Go.ChangeShapes Go.WideShapes Go.ChangeAt Go.RowKit Go.Deep
theorem ab6:Tryz.prog.globalNamed "strconv.ErrSyntax" =some 0:=by kernel_rfl
theorem ab7:Tryz.prog.globalNamed "strconv.ErrRange" =some 1:=by kernel_rfl
theorem ab8:Tryz.prog.globalNamed "internal/strconv.uint64pow10" =some 3:=by kernel_rfl
theorem ano:Tryz.prog.globalNamed "math/bits.deBruijn32tab" =some 4:=by kernel_rfl
theorem anp:Tryz.prog.globalNamed "math/bits.deBruijn64tab" =some 5:=by kernel_rfl
theorem anq:(Tryz.prog.globals[0]?).map (·.type)=some 199:=by kernel_rfl
theorem anr:(Tryz.prog.globals[1]?).map (·.type)=some 199:=by kernel_rfl
theorem ans:(Tryz.prog.globals[3]?).map (·.type)=some 356:=by kernel_rfl
theorem ab9: "*" ++ "errors.errorString" = "*errors.errorString" :=by decide
theorem aca(u:TypeId)(h:Tryz.prog.typeName? 3 u=some "*errors.errorString"):u=359:=
 typeName_ptr_named (nm:= "errors.errorString") (by rw[ab9];kernel_rfl) (by kernel_rfl) (by decide) u (by rw[ab9];exact h)
theorem cellsE:Tryz.prog.cellsOf 361=1:=by kernel_rfl
theorem ant:Tryz.prog.cellsOf 282=1:=by kernel_rfl
theorem anu:Tryz.prog.cellsOf 356=20:=by kernel_rfl
theorem Gh{W:World}{n:String}{g:Nat}{cs:Array Value}(hg:Tryz.prog.globalNamed n=some g)(hv:W.var? Tryz.prog n=some cs):g<W.heap.size:=by
 simp only[World.var?,hg,Option.bind_some] at hv;split at hv
 ·rename_i h;exact lt_of_heap h
 ·cases hv
theorem anv{W:World}(h:laidMetH Tryz.prog Rows.printsRow.laid W):Gl W:=by
 rw[MakeChecks.laidMetH_plain _ _ _ (by kernel_rfl)] at h
 have h1:=h.tail;have h2:=h1.tail;have h3:=h2.tail;have h4:=h3.tail;obtain⟨a0,sa,qi,_,_,_⟩:=laid_sentinel h3 ab7 anr Tryz.underlying199 aca Tryz.underlying359 Tryz.underlying361 rfl rfl Tryz.underlying9 cellsE Tryz.strCells;obtain⟨b0,sb,hvb,_,_,_⟩:=laid_sentinel h4 ab6 anq Tryz.underlying199 aca Tryz.underlying359 Tryz.underlying361 rfl rfl Tryz.underlying9 cellsE Tryz.strCells;refine⟨?_,⟨_,_,hvb⟩,⟨_,_,qi⟩,?_⟩
 ·obtain⟨ps,⟨g0,t0,cs0,f0,p0,q0,hg0,ht0,hv0,hd0,_⟩,_,_⟩:=h1;obtain⟨ps',⟨g1,t1,cs1,f1,p1,q1,hg1,ht1,hv1,hd1,_⟩,_,_⟩:=h;obtain⟨apG,⟨g2,t2,cs2,f2,p2,q2,hg2,ht2,hv2,hd2,_⟩,_,_⟩:=h2;have i0:=Gh anp hv0;have i1:=Gh ano hv1;have i2:=Gh ab8 hv2;have i3:=Gh ab7 qi;have i4:=Gh ab6 hvb;omega
 ·exact Lib.tabIs_of_head (k:=.u64) (zs:=Lib.pow10Tab) ab8 ans Tryz.underlying356 Tryz.underlying282 ant anu h2
theorem anw(os:Os)(args:Array Value):laidMetH Tryz.prog Rows.printsRow.laid ((World.doorLaid Tryz.prog 400 os).forCall (fun _ _=>0) ⟨#[],args,[]⟩).memory:=
 laidMetH_of_parts3 (fuel:=8) (laidMet_of_run' 8 (by kernel_rfl) (by kernel_rfl)) (by kernel_rfl) (by kernel_rfl)
end Go.Proofs.YtkjhhooecopolaaGreatDoor
namespace Go.Proofs.YtkjhhooecopolaaGreatDoor
open Go.ChangeShapes Go.WideShapes Go.ChangeAt Go.RowKit
theorem anx:(Rows.mirrorRow.inPlace == Tryz.prog.inPlace 6)=true:=by kernel_rfl
theorem anz:(Rows.mirrorRow.unfollowed == Tryz.prog.unfollowed 6)=true:=by kernel_rfl
theorem anA:(Rows.mirrorRow.recurses == Tryz.prog.recurses 6)=true:=by kernel_rfl
theorem anB:(Rows.mirrorRow.named == Tryz.prog.varsNamed 6)=true:=by kernel_rfl
theorem anC:(Rows.mirrorRow.lifted == Tryz.prog.liftsFinal)=true:=by kernel_rfl
theorem anD:(Rows.mirrorRow.plainKeys == Tryz.prog.plainKeys)=true:=by kernel_rfl
theorem anE:false=Rows.mirrorRow.goesBy Tryz.prog:=by kernel_rfl
theorem anF:joinedFacts Tryz.prog 6 Tryz.f6 Rows.mirrorSpec Rows.mirrorRow=true:=by
 unfold joinedFacts;simp only[laidOut,ank,anl,anm,anx,anz,anA,anB,anC,anD,Bool.and_true]
 kernel_rfl
end Go.Proofs.YtkjhhooecopolaaGreatDoor
namespace Go.Proofs.YtkjhhooecopolaaGreatDoor
open Go.ChangeShapes Go.WideShapes Go.ChangeAt Go.RowKit Go.Deep
theorem anG(os:Os)(started:os.Started)(H:Type)(enc:TypeId×Value->H):
  ReturnsInHanded {} Tryz.checked os 6 .any (fun w args=>(Rows.mirrorSpec.pre enc Tryz.prog Tryz.f6 [] false w args/\laidMetH Tryz.prog Rows.mirrorRow.laid w)/\sizedMet enc Tryz.prog Tryz.f6 (OpenSpec.ofChange Rows.mirrorSpec) false w args)
   (Rows.mirrorSpec.post enc Tryz.prog Tryz.f6 false true false false):=by
 refine returnsInHanded_of_change_and (C:=Tryz.checked) (X:=fun w _=>laidMetH Tryz.prog Rows.mirrorRow.laid w) (fun _ _ _ hh h=>h.of_heap hh) own started (by kernel_rfl) Tryz.func6
  (ChangeSpec.witness_shaped (enc:=enc) (C:=Tryz.checked) (os:=os) (X:=fun w _=>laidMetH Tryz.prog Rows.mirrorRow.laid w) false (World.doorLaid Tryz.prog 400 os) #[.slice none 0 0] 8 rfl (World.shaped_of_RefB (by kernel_rfl) (by kernel_rfl)) (by kernel_rfl) (by kernel_rfl) (by kernel_rfl) (anw os _)) ?_
 intro W base args ds gs before acb hW _ _ hL _;have hval:∀(j:Nat) t v,Tryz.f6.params[j]?=some t->args[j]?=some v->Value.okWide Tryz.prog W .any base t v:=acb;have hW':=hW;obtain⟨p,q,qm,hV,rfl,hfz,hnd⟩:=hW;have hA:DataW.TrodAll enc Tryz.prog W 0 (fun _=>true) true Tryz.f6.params.toList args.toList ds p:=qm
 rw[Tryz.params6] at hA hval;obtain⟨v0,d0,rfl,rfl,h0⟩:=trodAll_one hA;obtain⟨rfl,rfl⟩:=trodVars_none hV;obtain⟨so,n,cap,rfl⟩:=okWide_slice Tryz.underlying22 (hval 0 22 v0 rfl rfl);clear qm acb;simp only[rM] at hW';have hlt:∀x∈p,x.block<W.heap.size:=fun x hx=>by simpa using hW'.lt x hx
 obtain⟨hn,hS⟩:=anj h0;refine(am8 so n cap W (anv hL) hS hn).mono fun e W'⟨he,hb⟩=>?_
 subst he;refine⟨_,rfl,_,_,_,[],p,[],hW',trodAll_mk1 (shut_bool Tryz.underlying4 _),trodAll_mk1 (Below.trod laidOut (by kernel_rfl) (eW (by kernel_rfl)) h0 hb hlt),rfl,hb.frame _,fun h=>by cases h⟩
theorem anH:Rows.MirrorSaid:=
 OpenClaim.holds_of_wide 6 Tryz.f6 rfl rfl rfl rfl rfl rfl rfl ⟨rfl,rfl,rfl,rfl,rfl⟩ rfl rfl rfl rfl rfl (by kernel_rfl) Tryz.func6 anF
  (eW (by kernel_rfl)) (by unfold Func.isWrapper;first |(rw[ah (by decide+kernel)];kernel_rfl)|(rw[aa (by decide+kernel)];exact⟨rfl,rfl⟩))
  (fun os started H enc _=>anG os started H enc)
end Go.Proofs.YtkjhhooecopolaaGreatDoor
namespace Go.Proofs.YtkjhhooecopolaaGreatDoor
theorem mirror_card:Rows.MirrorCardSaid:=
 Claim7.holds_tied_plain_at .later [] [.data,.data,.data,.sentinel,.sentinel] true Rows.mirrorCard.stood.harness true
  anH (fun _ h=>by cases h) (by kernel_rfl) (fun _ h=>by cases h) mirror_row_tie rfl ⟨rfl,rfl⟩ (by kernel_rfl) rfl
  (fun f fn hf hfn=>by
   obtain rfl:f=6:=ni ((show Tryz.prog.funcNamed "mend/mendlaw.Mirror" =some 6 by kernel_rfl).symm.trans hf) |>.symm
   obtain rfl:fn=Tryz.f6:=(ni (Tryz.func6.symm.trans hfn)).symm;exact⟨ann,fun j t ht=>by
    rw[Tryz.params6] at ht;have h3:t=22:=by
     rcases j with _|j
     ·simpa using ht.symm
     ·simp at ht
    subst h3;exact(show Tryz.prog.wantsStandIn 22=false by kernel_rfl)⟩)
  anE
end Go.Proofs.YtkjhhooecopolaaGreatDoor
