import Derived.Test.YtkjhhooecopolaaGreatDoorMz46
import Derived.Deep.Slices
import Derived.ChangeSame
import Derived.Test.YtkjhhooecopolaaGreatDoorRows
import Derived.ProofKit
import Derived.LaidMore
import Derived.OpenShut
import Derived.Stop.Joined
import Derived.Stop.LaidErr
import Derived.Lib.LaidTab
import Derived.SevenTiedAt
import Derived.Test.YtkjhhooecopolaaGreatDoorCards
import Derived.Test.YtkjhhooecopolaaGreatDoorTie
set_option maxRecDepth 100000
set_option maxHeartbeats 4000000
namespace Go.Proofs.YtkjhhooecopolaaGreatDoor
open Go.RowKit
def aa4(s:List UInt8):Prop:=(Pl.err s).1=0
theorem y9{w w':World}(h:Gl w)(hb:Below w.heap.size w w'):Gl w':=h.below hb h.sz
structure Nx(w W w':World)(o:Obj)(W':World)(X:Nat):Prop where
 eq:W'=w'.alloc o
 gl:Gl W'
 fS:Below w.heap.size w W'
 nw:W'.heap[X]?=some o
 old:∀(k:Nat)(ob:Obj),W.heap[k]?=some ob->W'.heap[k]?=some ob
theorem BC{w W w':World}(o:Obj)(hG:Gl W)(hB:Below w.heap.size w W)(hb:Below W.heap.size W w'):Nx w W w' o (w'.alloc o) w'.heap.size:=by
 have h:=hB.trans (hb.mono hB.size);refine⟨rfl,(y9 hG hb).alloc _,h.alloc h.size _,heap_alloc_new _ _,fun k ob hk=>?_⟩
 have hl:=lt_of_heap hk;rw[Below.heap_alloc _ _ _ (aL hl hb.size),hb.block k hl];exact hk
theorem amG(so:Option Addr)(n cap:Nat)(w:World)(hG:Gl w)(hS:Qv w so n)(_hn:n<=maxLen):
  Calls Tryz.prog 6 #[.slice so n cap] w fun e w'=>e=.returned (.bool true)/\Below w.heap.size w w':=by
 have HS:Hid (Qv w so n):=hS;clear hS
 go_enter Tryz.func6,Tryz.ntmps6
 go_wp2_with fail
 go_loopg [3] n (fun g iv wr=>∃k:Nat,k+g=n/\iv=.int .i64 k/\Hid (Below w.heap.size w wr/\Gl wr))
 case atStart=>exact⟨0,by omega,rfl,Below.refl _ _,hG⟩
 case round=>
  obtain⟨k,hkn,rfl,HB⟩:=hrel;obtain⟨ag,il⟩:=HB.out;by_cases hlt:k<n/\k<1152921504606846976
  ·obtain⟨hlt,hmx⟩:=hlt;obtain⟨b,o,K,x,y,d,r,s,rfl,hb,hs,c0,c1,c2,c3,c4,c5⟩:=HS.out k hlt;have eD:(k:Int)<(n:Int):=by omega
   have Nf:(k:Int)<1152921504606846976:=by omega
   have e0:wr.cell? ⟨b,o+k*6,none⟩=some (.int .i64 K):=(ag.cell (p:=⟨b,o+k*6,none⟩) hb).trans c0;have e1:wr.cell? ⟨b,o+k*6+1,none⟩=some (.int .i64 x):=(ag.cell (p:=⟨b,o+k*6+1,none⟩) hb).trans c1;have e2:wr.cell? ⟨b,o+k*6+2,none⟩=some (.int .i64 y):=(ag.cell (p:=⟨b,o+k*6+2,none⟩) hb).trans c2;have e3:wr.cell? ⟨b,o+k*6+3,none⟩=some (.int .i64 d):=(ag.cell (p:=⟨b,o+k*6+3,none⟩) hb).trans c3;have e4:wr.cell? ⟨b,o+k*6+4,none⟩=some (.int .u8 r):=(ag.cell (p:=⟨b,o+k*6+4,none⟩) hb).trans c4;have e5:wr.cell? ⟨b,o+k*6+5,none⟩=some (.string s):=(ag.cell (p:=⟨b,o+k*6+5,none⟩) hb).trans c5;have hbr:b<wr.heap.size:=by have:=ag.size;omega
   have HA:Hid (∀o',Below w.heap.size w (wr.alloc o')):=fun o'=>ag.alloc ag.size _
   have Fz:Hid (∀w1,Calls Tryz.prog 14 #[.string s] w1 fun e w'=>Below w1.heap.size w1 w'/\∃W so pn pc,e=.returned (.tuple #[.agg #[.string W,.slice so pn pc,.int .i64 0],.int .i64 (Pl.err s.data.toList).1,.int .i64 (Pl.err s.data.toList).2])/\
     Hid (aa4 s.data.toList->∃S,Tn (Pl.aH (Pl.all s.data.toList)).2.2 W S/\kI w' (.slice so pn pc) (Pl.aH (Pl.all s.data.toList)).2.2)):=fun w1=>by
    refine(afs s w1 hs).mono ?_;rintro e w' ⟨hb,W,so,pn,pc,rfl,hc⟩;refine⟨hb,W,so,pn,pc,rfl,fun h0=>?_⟩
    rcases hc h0 with⟨gs,k1,rfl,k3,k4,_⟩|⟨rfl,k2,k3,_⟩
    ·obtain⟨S,hS⟩:=amD k4;rw[k1];exact⟨S,hS,k3⟩
    ·obtain⟨S,hS⟩:=amE k3;exact⟨S,hS,k2⟩
   clear c0 c1 c2 c3 c4 c5 HB HS ag;by_cases h0:(Pl.err s.data.toList).1=0
   ·have iL:Hid (mh (Pl.aH (Pl.all s.data.toList)).2.2):=U0 h0;have HP2:Hid ((Pl.err s.data.toList).2=0):=(yh h0).2.1;have FB:Hid (aa4 s.data.toList):=h0;have HWI:Hid (∀w1,Gl w1->Calls Tryz.prog 17 #[.string s,.int .i64 x,.int .i64 y,.int .i64 d] w1 fun e w'=>e=.returned (.tuple #[.int .i64 (Pl.dL s.data.toList x y d).1,.bool (Pl.dL s.data.toList x y d).2.1,.int .i64 (Pl.dL s.data.toList x y d).2.2.1,.int .i64 (Pl.dL s.data.toList x y d).2.2.2])/\Below w1.heap.size w1 w'):=fun w1 g1=>VV s x y d w1 hs g1
    have HF:Hid (∀w1 rr,Gl w1->Calls Tryz.prog 18 #[.string s,.int .u8 rr] w1 fun e w'=>(∃T E P,e=.returned (.agg #[.string (ba T),.int .i64 (E:Nat),.int .i64 (P:Nat)])/\Hid (tS s.data.toList rr T E P))/\Below w1.heap.size w1 w'):=fun w1 rr g1=>aaY s rr w1 hs g1
    generalize(Pl.err s.data.toList).1=ER at*;subst h0
    go_wp2_with fail
    refine(Fz.out _).mono ?_;rintro e w1 ⟨hb1,W,BF,pn,pc,rfl,jl⟩
    go_wp2_with fail
    obtain⟨S,EI,aa6⟩:=jl.out FB.out;have L8:w1.heap[wr.heap.size]?=some (.cells #[.int .i64 K,.int .i64 x,.int .i64 y,.int .i64 d,.int .u8 r,.string s] 26 (0,0)):=(hb1.block _ (by simp)).trans (heap_alloc_new _ _)
    have hz1:wr.heap.size<w1.heap.size:=by have:=hb1.size;simp at this;omega
    have cz:Gl w1:=y9 (il.alloc _) hb1;have qi:Hid (Below w.heap.size w w1):=(HA.out _).trans (hb1.mono (HA.out _).size);have FC:Hid (Tn (Pl.aH (Pl.all s.data.toList)).2.2 W S):=EI;have hTU:=ams (Pl.aH (Pl.all s.data.toList)).2.2 W (.slice BF pn pc) (w1.alloc (.cells #[.string W,.slice BF pn pc,.int .i64 0] 29)) (Df Db aa6 ((Below.refl _ _).alloc (ae _) _)) iL.out;clear jl Fz hb1 aa6 EI il;refine hTU.mono ?_;rintro e w2 ⟨pv2,rfl,Qw,hb2⟩;have vz:Below w1.heap.size w1 w2:=by
     have h:=(Below.refl w1.heap.size w1).alloc (ae _) (.cells #[.string W,.slice BF pn pc,.int .i64 0] 29);exact h.trans (hb2.mono h.size)
    have jB:Gl w2:=y9 cz vz;have hO2:=(vz.block _ hz1).trans L8;have hz2:wr.heap.size<w2.heap.size:=aL hz1 vz.size;have gf:Hid (Below w.heap.size w w2):=qi.out.trans (vz.mono qi.out.size);have hWR:=FC.out.wr w2 pv2 jB Qw;obtain⟨so2,pc2,amJ⟩:=qJ Qw;subst amJ;clear hTU hb2 vz L8 hz1 cz qi Qw;generalize(Gb.turn (Pl.aH (Pl.all s.data.toList)).2.2).length=PN2 at*
    go_wp2_with fail
    refine hWR.mono ?_;rintro e w3 ⟨rfl,hb3⟩;have xW:Gl w3:=y9 jB hb3;have BG:=(hb3.block _ hz2).trans hO2;have hz3:wr.heap.size<w3.heap.size:=aL hz2 hb3.size;have om:Hid (Below w.heap.size w w3):=gf.out.trans (hb3.mono gf.out.size);have q1:w3.cell? ⟨wr.heap.size,1,none⟩=some (.int .i64 x):=cell_of BG 1;have q2:w3.cell? ⟨wr.heap.size,2,none⟩=some (.int .i64 y):=cell_of BG 2;have q3:w3.cell? ⟨wr.heap.size,3,none⟩=some (.int .i64 d):=cell_of BG 3;have q5:w3.cell? ⟨wr.heap.size,5,none⟩=some (.string s):=cell_of BG 5;have Qx:S.size<=maxLen:=dS FC.out.size (by unfold maxLen;omega)
    have aba:Hid (∀w1,Gl w1->Calls Tryz.prog 17 #[.string S,.int .i64 x,.int .i64 y,.int .i64 d] w1 fun e w'=>e=.returned (.tuple #[.int .i64 (Pl.dL S.data.toList x y d).1,.bool (Pl.dL S.data.toList x y d).2.1,.int .i64 (Pl.dL S.data.toList x y d).2.2.1,.int .i64 (Pl.dL S.data.toList x y d).2.2.2])/\Below w1.heap.size w1 w'):=fun w1 g1=>VV S x y d w1 Qx g1
    have Kg:Hid (∀w1 rr,Gl w1->Calls Tryz.prog 18 #[.string S,.int .u8 rr] w1 fun e w'=>(∃T E P,e=.returned (.agg #[.string (ba T),.int .i64 (E:Nat),.int .i64 (P:Nat)])/\Hid (tS S.data.toList rr T E P))/\Below w1.heap.size w1 w'):=fun w1 rr g1=>aaY S rr w1 Qx g1
    have hSz:=FC.out.size;have Kh:Hid (S.size<=400->(Pl.err S.data.toList).1=0/\(Ge.aa (Pl.rings S.data.toList)).Perm ((Ge.aa (Pl.rings s.data.toList)).map Gb.rv)):=fun h=>by
     obtain⟨k1,k2⟩:=FC.out.rd h;refine⟨by rw[k1],?_⟩
     rw[k2];exact Gb.amc _
    have Qy:Hid (S.size<=400->(Pl.dL s.data.toList x y d).1= -(Pl.dL S.data.toList x y d).1/\(Pl.dL s.data.toList x y d).2.1=(Pl.dL S.data.toList x y d).2.1/\(Pl.dL s.data.toList x y d).2.2.1=(Pl.dL S.data.toList x y d).2.2.1):=fun h=>amF FB.out (Kh.out h).1 (Kh.out h).2 x y d
    have ve:=aa3 (s:=s.data.toList) x y d;have abb:=aa3 (s:=S.data.toList) x y d;have tz:Hid (S.size<=400->∀rr T E P T' E' P',(rr=101\/rr=110\/rr=43)->tS s.data.toList rr T E P->tS S.data.toList (Gb.Fv rr) T' E' P'->T=T'/\E=0/\E'=0/\P=0/\P'=0/\T'≠[]):=fun h rr T E P T' E' P' qR h1 h2=>by
     obtain⟨k1,k2⟩:=Kh.out h;have ji:Ge.rule rr=true/\Ge.rule (Gb.Fv rr)=true:=by rcases qR with q|q|q<;>subst q<;>exact⟨by decide,by decide⟩
     rcases h1 with⟨a1,_⟩|⟨_,a2,_⟩|⟨_,_,a3,a4,a5⟩
     ·exact absurd FB.out a1
     ·rw[ji.1] at a2;cases a2
     ·rcases h2 with⟨b1,_⟩|⟨_,b2,_⟩|⟨_,_,b3,b4,b5⟩
      ·exact absurd k1 b1
      ·rw[ji.2] at b2;cases b2
      ·exact⟨Gb.pL.mirror qR k2 (H9 FB.out).2.2.1 a3 b3,a4,b4,a5,b5,Gb.al7 b3⟩
    clear FC hWR hb3 hO2 hz2 jB gf iL HP2 Kh;generalize(Pl.dL s.data.toList x y d).1=v1 at*;generalize(Pl.dL s.data.toList x y d).2.1=v2 at*;generalize(Pl.dL s.data.toList x y d).2.2.1=v3 at*;generalize(Pl.dL s.data.toList x y d).2.2.2=v4 at*;generalize(Pl.dL S.data.toList x y d).1=t1 at*;generalize(Pl.dL S.data.toList x y d).2.1=t2 at*;generalize(Pl.dL S.data.toList x y d).2.2.1=t3 at*;generalize(Pl.dL S.data.toList x y d).2.2.2=t4 at*
    go_wp2_with fail
    refine(HWI.out _ xW).mono ?_;rintro e w4 ⟨rfl,hb4⟩;have Qz:Gl w4:=y9 xW hb4;have FD:=(hb4.block _ hz3).trans BG;have yY:wr.heap.size<w4.heap.size:=aL hz3 hb4.size;have qp:Hid (Below w.heap.size w w4):=om.out.trans (hb4.mono om.out.size);have r1:w4.cell? ⟨wr.heap.size,1,none⟩=some (.int .i64 x):=cell_of FD 1;have r2:w4.cell? ⟨wr.heap.size,2,none⟩=some (.int .i64 y):=cell_of FD 2;have r3:w4.cell? ⟨wr.heap.size,3,none⟩=some (.int .i64 d):=cell_of FD 3;clear q1 q2 q3 q5 hb4 BG hz3 xW om HWI
    go_wp2_with fail
    refine(aba.out _ Qz).mono ?_;rintro e w5 ⟨rfl,ai⟩;have mg:Gl w5:=y9 Qz ai;have QA:=(ai.block _ yY).trans FD;have OP:wr.heap.size<w5.heap.size:=aL yY ai.size;have eI:Hid (Below w.heap.size w w5):=qp.out.trans (ai.mono qp.out.size);have r5:w5.cell? ⟨wr.heap.size,5,none⟩=some (.string s):=cell_of QA 5;clear r1 r2 r3 ai FD yY Qz qp aba
    go_wp2_with fail
    refine(HF.out _ 101 mg).mono ?_;rintro e w6 ⟨⟨T1,E1,P1,rfl,QB⟩,ax⟩;have sU:w5.heap.size<=w6.heap.size:=ax.size;generalize QC:ba T1=B1;have abc:w5.heap[wr.heap.size]?=some (.cells #[.int .i64 K,.int .i64 x,.int .i64 y,.int .i64 d,.int .u8 r,.string s] 26 (0,0)):=QA;have n1:=BC (.cells #[.string B1,.int .i64 (E1:Int),.int .i64 (P1:Int)] 38) mg eI.out ax;clear r5 ax eI mg QA sU
    go_wp2_with fail
    generalize w6.alloc (.cells #[.string B1,.int .i64 (E1:Int),.int .i64 (P1:Int)] 38)=W1 at*;generalize w6.heap.size=X1 at*;have FE:=n1.old _ _ abc;have hXa:=n1.nw;have QD:=n1.gl;have HBa:Hid (Below w.heap.size w W1):=n1.fS;clear n1 abc OP;refine(Kg.out _ 101 QD).mono ?_;rintro e w7 ⟨⟨T2,E2,P2,rfl,QE⟩,aT⟩;generalize iB:ba T2=B2;have n2:=BC (.cells #[.string B2,.int .i64 (E2:Int),.int .i64 (P2:Int)] 38) QD HBa.out aT;have r5:w7.cell? ⟨wr.heap.size,5,none⟩=some (.string s):=cell_of ((aT.block _ (lt_of_heap FE)).trans FE) 5;have r5b:(w7.alloc (.cells #[.string B2,.int .i64 (E2:Int),.int .i64 (P2:Int)] 38)).cell? ⟨wr.heap.size,5,none⟩=some (.string s):=cell_of (n2.old _ _ FE) 5;clear aT HBa QD
    go_wp2_with fail
    generalize w7.alloc (.cells #[.string B2,.int .i64 (E2:Int),.int .i64 (P2:Int)] 38)=W2 at*;generalize w7.heap.size=X2 at*;have hOb:=n2.old _ _ FE;have abg:=n2.old _ _ hXa;have hXb:=n2.nw;have QF:=n2.gl;have HBb:Hid (Below w.heap.size w W2):=n2.fS;clear n2 FE hXa r5 r5b;refine(HF.out _ 110 QF).mono ?_;rintro e w8 ⟨⟨T3,E3,P3,rfl,Ap⟩,kX⟩;generalize QG:ba T3=B3;have n3:=BC (.cells #[.string B3,.int .i64 (E3:Int),.int .i64 (P3:Int)] 38) QF HBb.out kX;clear kX HBb QF
    go_wp2_with fail
    generalize w8.alloc (.cells #[.string B3,.int .i64 (E3:Int),.int .i64 (P3:Int)] 38)=W3 at*;generalize w8.heap.size=X3 at*;have hOc:=n3.old _ _ hOb;have abl:=n3.old _ _ abg;have abm:=n3.old _ _ hXb;have hXc:=n3.nw;have QH:=n3.gl;have EZ:Hid (Below w.heap.size w W3):=n3.fS;clear n3 hOb abg hXb;refine(Kg.out _ 110 QH).mono ?_;rintro e w9 ⟨⟨T4,E4,P4,rfl,uF⟩,mF⟩;generalize nH:ba T4=B4;have n4:=BC (.cells #[.string B4,.int .i64 (E4:Int),.int .i64 (P4:Int)] 38) QH EZ.out mF;have r5:(w9.alloc (.cells #[.string B4,.int .i64 (E4:Int),.int .i64 (P4:Int)] 38)).cell? ⟨wr.heap.size,5,none⟩=some (.string s):=cell_of (n4.old _ _ hOc) 5;clear mF EZ QH
    go_wp2_with fail
    generalize w9.alloc (.cells #[.string B4,.int .i64 (E4:Int),.int .i64 (P4:Int)] 38)=W4 at*;generalize w9.heap.size=X4 at*;have abo:=n4.old _ _ abl;have abp:=n4.old _ _ abm;have abq:=n4.old _ _ hXc;have hXd:=n4.nw;have wC:=n4.gl;have HBd:Hid (Below w.heap.size w W4):=n4.fS;clear n4 hOc abl abm hXc r5;refine(HF.out _ 43 wC).mono ?_;rintro e MK ⟨⟨T5,E5,P5,rfl,QI⟩,abu⟩;generalize rq:ba T5=B5;have n5:=BC (.cells #[.string B5,.int .i64 (E5:Int),.int .i64 (P5:Int)] 38) wC HBd.out abu;clear abu HBd wC
    go_wp2_with fail
    generalize MK.alloc (.cells #[.string B5,.int .i64 (E5:Int),.int .i64 (P5:Int)] 38)=W5 at*;generalize MK.heap.size=X5 at*;have QJ:=n5.old _ _ abo;have QK:=n5.old _ _ abp;have QL:=n5.old _ _ abq;have QM:=n5.old _ _ hXd;have QN:=n5.nw;have uO:=n5.gl;have HBe:Hid (Below w.heap.size w W5):=n5.fS;clear n5 abo abp abq hXd;refine(Kg.out _ 45 uO).mono ?_;rintro e dP ⟨⟨T6,E6,P6,rfl,QO⟩,QP⟩;generalize QQ:ba T6=B6;have n6:=BC (.cells #[.string B6,.int .i64 (E6:Int),.int .i64 (P6:Int)] 38) uO HBe.out QP;have hs6:X1<dP.heap.size/\X2<dP.heap.size/\X3<dP.heap.size/\X4<dP.heap.size/\X5<dP.heap.size:=by
     have:=QP.size;have l1:=lt_of_heap QJ;have l2:=lt_of_heap QK;have l3:=lt_of_heap QL;have l4:=lt_of_heap QM;have l5:=lt_of_heap QN;omega
    obtain⟨s1,s2,s3,s4,s5⟩:=hs6;have HN:Hid (Below w.heap.size w (dP.alloc (.cells #[.string B6,.int .i64 (E6:Int),.int .i64 (P6:Int)] 38))/\Gl (dP.alloc (.cells #[.string B6,.int .i64 (E6:Int),.int .i64 (P6:Int)] 38))):=⟨n6.fS,n6.gl⟩;have Ki:=n6.old _ _ QJ;have Kj:=n6.old _ _ QK;have Kk:=n6.old _ _ QL;have Kl:=n6.old _ _ QM;have Km:=n6.old _ _ QN;have Kn:=n6.nw;have a0:(dP.alloc (.cells #[.string B6,.int .i64 (E6:Int),.int .i64 (P6:Int)] 38)).cell? ⟨X1,0,none⟩=some (.string B1):=cell_of Ki 0;have a1:(dP.alloc (.cells #[.string B6,.int .i64 (E6:Int),.int .i64 (P6:Int)] 38)).cell? ⟨X1,1,none⟩=some (.int .i64 (E1:Int)):=cell_of Ki 1;have a2:(dP.alloc (.cells #[.string B6,.int .i64 (E6:Int),.int .i64 (P6:Int)] 38)).cell? ⟨X1,2,none⟩=some (.int .i64 (P1:Int)):=cell_of Ki 2;have b0:(dP.alloc (.cells #[.string B6,.int .i64 (E6:Int),.int .i64 (P6:Int)] 38)).cell? ⟨X2,0,none⟩=some (.string B2):=cell_of Kj 0;have b1:(dP.alloc (.cells #[.string B6,.int .i64 (E6:Int),.int .i64 (P6:Int)] 38)).cell? ⟨X2,1,none⟩=some (.int .i64 (E2:Int)):=cell_of Kj 1;have b2:(dP.alloc (.cells #[.string B6,.int .i64 (E6:Int),.int .i64 (P6:Int)] 38)).cell? ⟨X2,2,none⟩=some (.int .i64 (P2:Int)):=cell_of Kj 2;have cc0:(dP.alloc (.cells #[.string B6,.int .i64 (E6:Int),.int .i64 (P6:Int)] 38)).cell? ⟨X3,0,none⟩=some (.string B3):=cell_of Kk 0;have cc1:(dP.alloc (.cells #[.string B6,.int .i64 (E6:Int),.int .i64 (P6:Int)] 38)).cell? ⟨X3,1,none⟩=some (.int .i64 (E3:Int)):=cell_of Kk 1;have cc2:(dP.alloc (.cells #[.string B6,.int .i64 (E6:Int),.int .i64 (P6:Int)] 38)).cell? ⟨X3,2,none⟩=some (.int .i64 (P3:Int)):=cell_of Kk 2;have dd0:(dP.alloc (.cells #[.string B6,.int .i64 (E6:Int),.int .i64 (P6:Int)] 38)).cell? ⟨X4,0,none⟩=some (.string B4):=cell_of Kl 0;have dd1:(dP.alloc (.cells #[.string B6,.int .i64 (E6:Int),.int .i64 (P6:Int)] 38)).cell? ⟨X4,1,none⟩=some (.int .i64 (E4:Int)):=cell_of Kl 1;have dd2:(dP.alloc (.cells #[.string B6,.int .i64 (E6:Int),.int .i64 (P6:Int)] 38)).cell? ⟨X4,2,none⟩=some (.int .i64 (P4:Int)):=cell_of Kl 2;have ee0:(dP.alloc (.cells #[.string B6,.int .i64 (E6:Int),.int .i64 (P6:Int)] 38)).cell? ⟨X5,0,none⟩=some (.string B5):=cell_of Km 0;have ee1:(dP.alloc (.cells #[.string B6,.int .i64 (E6:Int),.int .i64 (P6:Int)] 38)).cell? ⟨X5,1,none⟩=some (.int .i64 (E5:Int)):=cell_of Km 1;have ee2:(dP.alloc (.cells #[.string B6,.int .i64 (E6:Int),.int .i64 (P6:Int)] 38)).cell? ⟨X5,2,none⟩=some (.int .i64 (P5:Int)):=cell_of Km 2;have f0:(dP.alloc (.cells #[.string B6,.int .i64 (E6:Int),.int .i64 (P6:Int)] 38)).cell? ⟨dP.heap.size,0,none⟩=some (.string B6):=cell_of Kn 0;have f1:(dP.alloc (.cells #[.string B6,.int .i64 (E6:Int),.int .i64 (P6:Int)] 38)).cell? ⟨dP.heap.size,1,none⟩=some (.int .i64 (E6:Int)):=cell_of Kn 1;have f2:(dP.alloc (.cells #[.string B6,.int .i64 (E6:Int),.int .i64 (P6:Int)] 38)).cell? ⟨dP.heap.size,2,none⟩=some (.int .i64 (P6:Int)):=cell_of Kn 2;have HNU:Hid (∀(m:Nat) w1,m<=5->Calls Tryz.prog 19 #[.int .i64 (m:Int)] w1 fun e w'=>e=.returned (.int .i64 (m:Int))/\w'=w1):=fun m w1 h=>aaW m w1 (by omega) (by omega)
    clear n6 QP HBe uO QJ QK QL QM QN Ki Kj Kk Kl Km Kn HF Kg;by_cases Ko:S.size<=400
    ·obtain⟨m1,m2,m3⟩:=Qy.out Ko;obtain⟨u1,u2,u3',u4,u5',u6⟩:=tz.out Ko 101 T1 E1 P1 T2 E2 P2 (Or.inl rfl) QB.out QE.out;obtain⟨x1,x2,x3,x4,x5,x6⟩:=tz.out Ko 110 T3 E3 P3 T4 E4 P4 (Or.inr (Or.inl rfl)) Ap.out uF.out;obtain⟨y1,y2,y3,y4,y5,y6⟩:=tz.out Ko 43 T5 E5 P5 T6 E6 P6 (Or.inr (Or.inr rfl)) QI.out QO.out;have hB4:B2.toList≠[]:=by
      rw[<-iB,show(ba T2).toList=T2 from ByteArray.toList_mk _]
      exact u6
     subst u1 x1 y1;rw[QC] at iB;rw[QG] at nH;rw[rq] at QQ;subst iB nH QQ;subst u2 u3' u4 u5' x2 x3 x4 x5 y2 y3 y4 y5;subst m2 m3;have hv1:v1= -t1:=m1;subst hv1;have hw1:IntKind.i64.wrap (-t1)= -t1:=by rw[IntKind.wrap_i64];omega
     have hv3:=ve.2.2;have Ni:(S.size:Int)<=400:=by omega
     clear QB QE Ap uF QI QO tz Qy ve abb u6 x6 y6 QC QG rq m1;have s6:dP.heap.size<(dP.alloc (.cells #[.string B5,.int .i64 0,.int .i64 0] 38)).heap.size:=by simp
     have s7:X1<(dP.alloc (.cells #[.string B5,.int .i64 0,.int .i64 0] 38)).heap.size/\X2<(dP.alloc (.cells #[.string B5,.int .i64 0,.int .i64 0] 38)).heap.size/\X3<(dP.alloc (.cells #[.string B5,.int .i64 0,.int .i64 0] 38)).heap.size/\X4<(dP.alloc (.cells #[.string B5,.int .i64 0,.int .i64 0] 38)).heap.size/\X5<(dP.alloc (.cells #[.string B5,.int .i64 0,.int .i64 0] 38)).heap.size:=by simp;omega
     go_wp2_with fail
     have PF:Hid (Below w.heap.size w (dP.alloc (.cells #[.string B5,.int .i64 0,.int .i64 0] 38))/\Gl (dP.alloc (.cells #[.string B5,.int .i64 0,.int .i64 0] 38))):=HN.out;clear HN;generalize dP.alloc (.cells #[.string B5,.int .i64 0,.int .i64 0] 38)=WF at*;clear s1 s2 s3 s4 s5;obtain⟨s1,s2,s3,s4,s5⟩:=s7;generalize dP.heap.size=X6 at*;clear hSz Qx e0 e1 e2 e3 e4 e5 hbr HA FB
     replace a1:WF.cell? ⟨X1,1,none⟩=some (.int .i64 0):=a1
     replace a2:WF.cell? ⟨X1,2,none⟩=some (.int .i64 0):=a2
     replace b1:WF.cell? ⟨X2,1,none⟩=some (.int .i64 0):=b1
     replace b2:WF.cell? ⟨X2,2,none⟩=some (.int .i64 0):=b2
     replace cc1:WF.cell? ⟨X3,1,none⟩=some (.int .i64 0):=cc1
     replace cc2:WF.cell? ⟨X3,2,none⟩=some (.int .i64 0):=cc2
     replace dd1:WF.cell? ⟨X4,1,none⟩=some (.int .i64 0):=dd1
     replace dd2:WF.cell? ⟨X4,2,none⟩=some (.int .i64 0):=dd2
     replace ee1:WF.cell? ⟨X5,1,none⟩=some (.int .i64 0):=ee1
     replace ee2:WF.cell? ⟨X5,2,none⟩=some (.int .i64 0):=ee2
     replace f1:WF.cell? ⟨X6,1,none⟩=some (.int .i64 0):=f1
     replace f2:WF.cell? ⟨X6,2,none⟩=some (.int .i64 0):=f2
     refine(HNU.out v3 _ hv3).mono ?_;rintro e w12 ⟨rfl,rfl⟩
     go_wp2_with fail
     refine(HNU.out v3 _ hv3).mono ?_;rintro e w13 ⟨rfl,rfl⟩;dsimp only;obtain⟨EM,QR⟩:∃EM:ByteArray,EM=⟨#[]⟩:=⟨_,rfl⟩;have hBE:(B1.toList == EM.toList)=false:=by
      refine beq_eq_false_iff_ne.2 fun e=>hB4 ?_
      rw[e,QR];exact ByteArray.toList_mk []
     iterate 76 (first |go_skip|go_guarded|go_step|go_upon|go_values|skip)
     rw[<-QR];clear QR hB4
     go_wp2_with fail
     go_roundg (gk-1)
     case measure=>omega
     case rel=>exact⟨k+1,by omega,by go_num,PF⟩
    ·have Ni:decide ((S.size:Int)<=400)=false:=by simp;omega
     clear QB QE Ap uF QI QO tz Qy ve abb QC iB QG nH rq QQ
     go_wp2_with fail
     go_roundg (gk-1)
     case measure=>omega
     case rel=>exact⟨k+1,by omega,by go_num,HN⟩
   ·have jD:Hid (∃E:Nat,E=(Pl.err s.data.toList).1/\E≠0):=⟨_,rfl,h0⟩;obtain⟨E,hE,mZ⟩:=jD.out;rw[<-hE] at Fz;have hEb:((E:Int) == 0)=false:=beq_eq_false_iff_ne.2 (by omega)
    have hEd:¬((E:Int)=0):=by omega
    clear jD h0 hE
    go_wp2_with fail
    refine(Fz.out _).mono ?_;rintro e w1 ⟨hb1,W,BF,pn,pc,rfl,jl⟩;have HN:Hid (Below w.heap.size w (w1.alloc (.cells #[.string W,.slice BF pn pc,.int .i64 0] 29))/\Gl (w1.alloc (.cells #[.string W,.slice BF pn pc,.int .i64 0] 29))):=by
     have h:=(HA.out (.cells #[.int .i64 K,.int .i64 x,.int .i64 y,.int .i64 d,.int .u8 r,.string s] 26)).trans (hb1.mono (HA.out _).size);exact⟨h.alloc h.size _,(y9 (il.alloc _) hb1).alloc _⟩
    clear jl Fz hb1
    go_wp2_with fail
    go_roundg (gk-1)
    case measure=>omega
    case rel=>exact⟨k+1,by omega,by go_num,HN⟩
  ·clear HS;by_cases h1:k<n
   ·have h2:1152921504606846976<=k:=by omega
    have eD:(k:Int)<(n:Int):=by omega
    have Nf:decide ((k:Int)<1152921504606846976)=false:=by simp;omega
    clear hlt
    go_wp2_with fail
    go_ret
    exact⟨rfl,ag⟩
   ·have eD:decide ((k:Int)<(n:Int))=false:=by simp;omega
    clear hlt
    go_wp2_with fail
    go_ret
    exact⟨rfl,ag⟩
end Go.Proofs.YtkjhhooecopolaaGreatDoor
namespace Go.Proofs.YtkjhhooecopolaaGreatDoor
open Go.RowKit Go.Deep
theorem Tryz.opCells:Tryz.prog.cellsOf 26=6:=by kernel_rfl
theorem Tryz.intCells:Tryz.prog.cellsOf 3=1:=by kernel_rfl
theorem Tryz.byteCells:Tryz.prog.cellsOf 5=1:=by kernel_rfl
theorem Tryz.strCells:Tryz.prog.cellsOf 9=1:=by kernel_rfl
section
variable{H:Type}{enc:TypeId×Value->H}{W:World}{spare:Nat->Bool}{held:Bool}
theorem six{α:Type}:∀{l:List α},l.length=6->∃a b c d e f,l=[a,b,c,d,e,f]
 |[a,b,c,d,e,f],_=>⟨a,b,c,d,e,f,rfl⟩
theorem amP{so:Option Addr}{n cap:Nat}{d:DataW H}{p:List MemPlace}(h:DataW.Trod enc Tryz.prog W 0 spare held 22 (.slice so n cap) d p):n<=maxLen/\Qv W so n:=by
 obtain⟨fuel,hf⟩:=h;rcases open_slice Tryz.underlying22 hf with⟨hcs,hx⟩|⟨a,len,cap',m,fl,D,Pl,hcs,hb,hl,hm,hmm,hx,hel⟩
 ·simp[Value.cells] at hcs;obtain⟨rfl,rfl,rfl⟩:=hcs;exact⟨iz _,fun k hk=>absurd hk (Nat.not_lt_zero _)⟩
 ·simp[Value.cells] at hcs;obtain⟨rfl,rfl,rfl⟩:=hcs;refine⟨dS hl hm,fun k hk=>?_⟩
  have hspot:a.spot=none:=by
   obtain⟨cs0,z1,_⟩:=hel 0 (by rw[hmm];split<;>omega)
   rw[Tryz.opCells] at z1;obtain⟨_,zl,zc⟩:=World.cells?_some z1;obtain⟨q0,q1,q2,q3,q4,q5,rfl⟩:=six zl;simpa[Addr.add] using World.cell?_spot (v:=q0) (zc 0 (by omega))
  obtain⟨cs',h1,h2⟩:=hel k (by rw[hmm];split<;>omega)
  rw[Tryz.opCells] at h1;obtain⟨_,hlen,hcell⟩:=World.cells?_some h1;obtain⟨xs,k',hk',hxy,_,hxl,hfl⟩:=DataW.trod_struct Tryz.underlying26 h2;obtain⟨b,o,spot⟩:=a;obtain rfl:spot=none:=hspot;obtain⟨y0,y1,y2,y3,y4,y5,rfl⟩:=six (hxl.trans (by rfl))
  obtain⟨v0,v1,v2,v3,v4,v5,rfl⟩:=six hlen
  ·clear hxl hlen;have g0:=hfl 0 _ rfl;have g1:=hfl 1 _ rfl;have g2:=hfl 2 _ rfl;have g3:=hfl 3 _ rfl;have g4:=hfl 4 _ rfl;have g5:=hfl 5 _ rfl;simp[Tryz.intCells,Tryz.byteCells,Tryz.strCells] at g0 g1 g2 g3 g4 g5;obtain⟨n0,i0,_,_⟩:=DataW.trod_int Tryz.underlying3 g0;obtain⟨n1,i1,_,_⟩:=DataW.trod_int Tryz.underlying3 g1;obtain⟨n2,i2,_,_⟩:=DataW.trod_int Tryz.underlying3 g2;obtain⟨n3,i3,_,_⟩:=DataW.trod_int Tryz.underlying3 g3;obtain⟨n4,i4,_,_⟩:=DataW.trod_int Tryz.underlying5 g4;obtain⟨s,i5,_,hs⟩:=DataW.trod_string Tryz.underlying9 g5;simp only[List.cons.injEq,and_true] at i0 i1 i2 i3 i4 i5;subst i0 i1 i2 i3 i4 i5;have e0:=hcell 0 (by omega)
   have e1:=hcell 1 (by omega)
   have e2:=hcell 2 (by omega)
   have e3:=hcell 3 (by omega)
   have e4:=hcell 4 (by omega)
   have e5:=hcell 5 (by omega)
   simp[Go.WideShapes.add_plain] at e0 e1 e2 e3 e4 e5;exact⟨b,o,n0,n1,n2,n3,n4,s,rfl,by simpa using World.block_lt_of_cell? _ _ e0,hs,e0,e1,e2,e3,e4,e5⟩
end
end Go.Proofs.YtkjhhooecopolaaGreatDoor
namespace Go.Proofs.YtkjhhooecopolaaGreatDoor
open Go.ChangeShapes Go.WideShapes Go.ChangeAt Go.RowKit
theorem own:ownKnob Tryz.prog.godebug=none:=by kernel_rfl
theorem laidOut:laidOutB Tryz.prog=true:=by kernel_rfl
theorem amQ:mapsRowed Tryz.prog=true:=by kernel_rfl
theorem amR:Tryz.prog.stopsHeard=true:=by kernel_rfl
theorem amS:Tryz.prog.mayEnter=true:=by kernel_rfl
theorem amT:true=Tryz.prog.looks []:=by kernel_rfl
end Go.Proofs.YtkjhhooecopolaaGreatDoor
namespace Go.Proofs.YtkjhhooecopolaaGreatDoor
open Go.ChangeShapes Go.WideShapes Go.ChangeAt Go.RowKit Go.Deep
theorem abD:Tryz.prog.globalNamed "strconv.ErrSyntax" =some 0:=by kernel_rfl
theorem abE:Tryz.prog.globalNamed "strconv.ErrRange" =some 1:=by kernel_rfl
theorem abF:Tryz.prog.globalNamed "internal/strconv.uint64pow10" =some 3:=by kernel_rfl
theorem amU:Tryz.prog.globalNamed "math/bits.deBruijn32tab" =some 4:=by kernel_rfl
theorem amV:Tryz.prog.globalNamed "math/bits.deBruijn64tab" =some 5:=by kernel_rfl
theorem amW:(Tryz.prog.globals[0]?).map (·.type)=some 199:=by kernel_rfl
theorem amX:(Tryz.prog.globals[1]?).map (·.type)=some 199:=by kernel_rfl
theorem amY:(Tryz.prog.globals[3]?).map (·.type)=some 356:=by kernel_rfl
theorem abG: "*" ++ "errors.errorString" = "*errors.errorString" :=by decide
theorem abH(u:TypeId)(h:Tryz.prog.typeName? 3 u=some "*errors.errorString"):u=359:=
 typeName_ptr_named (nm:= "errors.errorString") (by rw[abG];kernel_rfl) (by kernel_rfl) (by decide) u (by rw[abG];exact h)
theorem cellsE:Tryz.prog.cellsOf 361=1:=by kernel_rfl
theorem amZ:Tryz.prog.cellsOf 282=1:=by kernel_rfl
theorem am0:Tryz.prog.cellsOf 356=20:=by kernel_rfl
theorem FH{W:World}{n:String}{g:Nat}{cs:Array Value}(hg:Tryz.prog.globalNamed n=some g)(hv:W.var? Tryz.prog n=some cs):g<W.heap.size:=by
 simp only[World.var?,hg,Option.bind_some] at hv;split at hv
 ·rename_i h;exact lt_of_heap h
 ·cases hv
theorem am1{W:World}(h:laidMetH Tryz.prog Rows.printsRow.laid W):Gl W:=by
 rw[MakeChecks.laidMetH_plain _ _ _ (by kernel_rfl)] at h
 have h1:=h.tail;have h2:=h1.tail;have h3:=h2.tail;have h4:=h3.tail;obtain⟨a0,sa,pT,_,_,_⟩:=laid_sentinel h3 abE amX Tryz.underlying199 abH Tryz.underlying359 Tryz.underlying361 rfl rfl Tryz.underlying9 cellsE Tryz.strCells;obtain⟨b0,sb,hvb,_,_,_⟩:=laid_sentinel h4 abD amW Tryz.underlying199 abH Tryz.underlying359 Tryz.underlying361 rfl rfl Tryz.underlying9 cellsE Tryz.strCells;refine⟨?_,⟨_,_,hvb⟩,⟨_,_,pT⟩,?_⟩
 ·obtain⟨ps,⟨g0,t0,cs0,f0,p0,q0,hg0,ht0,hv0,hd0,_⟩,_,_⟩:=h1;obtain⟨ps',⟨g1,t1,cs1,f1,p1,q1,hg1,ht1,hv1,hd1,_⟩,_,_⟩:=h;obtain⟨aph,⟨g2,t2,cs2,f2,p2,q2,hg2,ht2,hv2,hd2,_⟩,_,_⟩:=h2;have i0:=FH amV hv0;have i1:=FH amU hv1;have i2:=FH abF hv2;have i3:=FH abE pT;have i4:=FH abD hvb;omega
 ·exact Lib.tabIs_of_head (k:=.u64) (zs:=Lib.pow10Tab) abF amY Tryz.underlying356 Tryz.underlying282 amZ am0 h2
theorem am2(os:Os)(args:Array Value):laidMetH Tryz.prog Rows.printsRow.laid ((World.doorLaid Tryz.prog 400 os).forCall (fun _ _=>0) ⟨#[],args,[]⟩).memory:=
 laidMetH_of_parts3 (fuel:=8) (laidMet_of_run' 8 (by kernel_rfl) (by kernel_rfl)) (by kernel_rfl) (by kernel_rfl)
end Go.Proofs.YtkjhhooecopolaaGreatDoor
namespace Go.Proofs.YtkjhhooecopolaaGreatDoor
open Go.ChangeShapes Go.WideShapes Go.ChangeAt Go.RowKit
theorem am3:(Rows.mirrorRow.inPlace == Tryz.prog.inPlace 6)=true:=by kernel_rfl
theorem am4:(Rows.mirrorRow.unfollowed == Tryz.prog.unfollowed 6)=true:=by kernel_rfl
theorem am5:(Rows.mirrorRow.recurses == Tryz.prog.recurses 6)=true:=by kernel_rfl
theorem am6:(Rows.mirrorRow.named == Tryz.prog.varsNamed 6)=true:=by kernel_rfl
theorem am7:(Rows.mirrorRow.lifted == Tryz.prog.liftsFinal)=true:=by kernel_rfl
theorem am8:(Rows.mirrorRow.plainKeys == Tryz.prog.plainKeys)=true:=by kernel_rfl
theorem am9:false=Rows.mirrorRow.goesBy Tryz.prog:=by kernel_rfl
theorem ana:joinedFacts Tryz.prog 6 Tryz.f6 Rows.mirrorSpec Rows.mirrorRow=true:=by
 unfold joinedFacts;simp only[laidOut,amQ,amR,amS,am3,am4,am5,am6,am7,am8,Bool.and_true]
 kernel_rfl
end Go.Proofs.YtkjhhooecopolaaGreatDoor
namespace Go.Proofs.YtkjhhooecopolaaGreatDoor
open Go.ChangeShapes Go.WideShapes Go.ChangeAt Go.RowKit Go.Deep
theorem anb(os:Os)(started:os.Started)(H:Type)(enc:TypeId×Value->H):
  ReturnsInHanded {} Tryz.checked os 6 .any (fun w args=>(Rows.mirrorSpec.pre enc Tryz.prog Tryz.f6 [] false w args/\laidMetH Tryz.prog Rows.mirrorRow.laid w)/\sizedMet enc Tryz.prog Tryz.f6 (OpenSpec.ofChange Rows.mirrorSpec) false w args)
   (Rows.mirrorSpec.post enc Tryz.prog Tryz.f6 false true false false):=by
 refine returnsInHanded_of_change_and (C:=Tryz.checked) (X:=fun w _=>laidMetH Tryz.prog Rows.mirrorRow.laid w) (fun _ _ _ hh h=>h.of_heap hh) own started (by kernel_rfl) Tryz.func6
  (ChangeSpec.witness_shaped (enc:=enc) (C:=Tryz.checked) (os:=os) (X:=fun w _=>laidMetH Tryz.prog Rows.mirrorRow.laid w) false (World.doorLaid Tryz.prog 400 os) #[.slice none 0 0] 8 rfl (World.shaped_of_RefB (by kernel_rfl) (by kernel_rfl)) (by kernel_rfl) (by kernel_rfl) (by kernel_rfl) (am2 os _)) ?_
 intro W base args ds gs before abI hW _ _ hL _;have hval:∀(j:Nat) t v,Tryz.f6.params[j]?=some t->args[j]?=some v->Value.okWide Tryz.prog W .any base t v:=abI;have hW':=hW;obtain⟨p,q,pW,hV,rfl,hfz,hnd⟩:=hW;have hA:DataW.TrodAll enc Tryz.prog W 0 (fun _=>true) true Tryz.f6.params.toList args.toList ds p:=pW
 rw[Tryz.params6] at hA hval;obtain⟨v0,d0,rfl,rfl,h0⟩:=trodAll_one hA;obtain⟨rfl,rfl⟩:=trodVars_none hV;obtain⟨so,n,cap,rfl⟩:=okWide_slice Tryz.underlying22 (hval 0 22 v0 rfl rfl);clear pW abI;simp only[rA] at hW';have hlt:∀x∈p,x.block<W.heap.size:=fun x hx=>by simpa using hW'.lt x hx
 obtain⟨hn,hS⟩:=amP h0;refine(amG so n cap W (am1 hL) hS hn).mono fun e W'⟨he,hb⟩=>?_
 subst he;refine⟨_,rfl,_,_,_,[],p,[],hW',trodAll_mk1 (shut_bool Tryz.underlying4 _),trodAll_mk1 (Below.trod laidOut (by kernel_rfl) (of_decide_eq_true (by kernel_rfl)) h0 hb hlt),rfl,hb.frame _,fun h=>by cases h⟩
theorem anc:Rows.MirrorSaid:=
 OpenClaim.holds_of_wide 6 Tryz.f6 rfl rfl rfl rfl rfl rfl rfl ⟨rfl,rfl,rfl,rfl,rfl⟩ rfl rfl rfl rfl rfl (by kernel_rfl) Tryz.func6 ana
  (of_decide_eq_true (by kernel_rfl)) (by unfold Func.isWrapper;first |(rw[if_pos (by decide+kernel)];kernel_rfl)|(rw[if_neg (by decide+kernel)];exact⟨rfl,rfl⟩))
  (fun os started H enc _=>anb os started H enc)
end Go.Proofs.YtkjhhooecopolaaGreatDoor
namespace Go.Proofs.YtkjhhooecopolaaGreatDoor
theorem mirror_card:Rows.MirrorCardSaid:=
 Claim7.holds_tied_plain_at .later [] [.data,.data,.data,.sentinel,.sentinel] true Rows.mirrorCard.stood.harness true
  anc (fun _ h=>by cases h) (by kernel_rfl) (fun _ h=>by cases h) mirror_row_tie rfl ⟨rfl,rfl⟩ (by kernel_rfl) rfl
  (fun f fn hf hfn=>by
   obtain rfl:f=6:=mN ((show Tryz.prog.funcNamed "mend/mendlaw.Mirror" =some 6 by kernel_rfl).symm.trans hf) |>.symm
   obtain rfl:fn=Tryz.f6:=(mN (Tryz.func6.symm.trans hfn)).symm;exact⟨amT,fun j t ht=>by
    rw[Tryz.params6] at ht;have h3:t=22:=by
     rcases j with _|j
     ·simpa using ht.symm
     ·simp at ht
    subst h3;exact(show Tryz.prog.wantsStandIn 22=false by kernel_rfl)⟩)
  am9
end Go.Proofs.YtkjhhooecopolaaGreatDoor
