import Derived.Test.YtkjhhooecopolaaGreatDoorMz07
import Derived.Deep.LoopGhost
set_option maxRecDepth 100000
set_option maxHeartbeats 4000000
namespace Go.Proofs.YtkjhhooecopolaaGreatDoor
open Go.RowKit
theorem Tj(xb:EB)(ed:Ed){na nb:Nat}{X Y D:Int}(hx:iT xb ed)(hs:fg ed)(g1:Fl na X)(g2:Fl nb Y)(hn:dm X Y D)(w:World):
  Calls Tryz.prog 63 #[.agg xb.cells,.agg #[.complex .f64 na nb,.int .i64 D]] w fun e w'=>e=.returned (.int .i64 (Ge.fr (X,Y) D ed.1 ed.2))/\Below w.heap.size w w':=by
 have sX:sm X:=by have:=hn.x;unfold sm;omega
 have sY:sm Y:=by have:=hn.y;unfold sm;omega
 have sD:sm D:=by have:=hn.d;unfold sm;omega
 have s1:sm (ed.2.1-ed.1.1):=by have:=hs.a;have:=hs.c;unfold small at*;unfold sm;omega
 have s2:sm (ed.2.2-ed.1.2):=by have:=hs.b;have:=hs.d;unfold small at*;unfold sm;omega
 obtain⟨r,fr,hL⟩:=LY hx.wa hx.wb hx.sh g1 g2 s1 s2 (GZ hs) sD sX sY;have HL:Hid (∀w,Calls Tryz.prog 97 #[.agg #[.complex .f64 xb.wa xb.wb,.float .f64 xb.sh],.agg #[.complex .f64 na nb,.int .i64 D]] w fun e w'=>e=.returned (.float .f64 r)/\Below w.heap.size w w'):=hL
 have s1':sm 1:=by unfold sm;decide
 have HU:Hid (∀w,Calls Tryz.prog 100 #[.agg #[.complex .f64 na nb,.int .i64 D],.agg #[.complex .f64 xb.fa xb.fb,.int .i64 1]] w fun e w'=>e=.returned (.bool (decide (X*1<ed.1.1*D)))/\Below w.heap.size w w'):=fun w=>G6 g1 g2 hx.fa hx.fb (vT hs.a) (vT hs.b) sD s1' sX sY w
 have HV:Hid (∀w,Calls Tryz.prog 100 #[.agg #[.complex .f64 na nb,.int .i64 D],.agg #[.complex .f64 xb.ta xb.tb,.int .i64 1]] w fun e w'=>e=.returned (.bool (decide (X*1<ed.2.1*D)))/\Below w.heap.size w w'):=fun w=>G6 g1 g2 hx.ta hx.tb (vT hs.c) (vT hs.d) sD s1' sX sY w
 have q1:=GU fr kE;have q2:=zS fr kE;have eK:=ad2 X Y D ed hn.d.1;unfold lf at eK;rw[eK];generalize(ed.2.1-ed.1.1)*Y-(ed.2.2-ed.1.2)*X-((ed.2.1-ed.1.1)*ed.1.2-(ed.2.2-ed.1.2)*ed.1.1)*D=L at*;generalize Tm:decide (X*1<ed.1.1*D)=FA at*;generalize oX:decide (X*1<ed.2.1*D)=TA at*;have hval:(if ¬X*1<ed.1.1*D/\X*1<ed.2.1*D/\0<L then(1:Int) else if X*1<ed.1.1*D/\¬X*1<ed.2.1*D/\L<0 then -1 else 0)=(if FA=false/\TA=true/\0<L then 1 else if FA=true/\TA=false/\L<0 then -1 else 0):=by
  rw[<-Tm,<-oX];simp
 rw[hval];clear hval eK hL fr hx hs hn g1 g2 sX sY sD s1 s2 s1' Tm oX;obtain⟨wa,wb,sh,fa,fb,ta,tb⟩:=xb;simp only[EB.cells] at*;have hE:((w.alloc (.cells #[.complex .f64 wa wb,.float .f64 sh,.complex .f64 fa fb,.complex .f64 ta tb] 124)).alloc (.cells #[.complex .f64 na nb,.int .i64 D] 83)).heap[w.heap.size]?=some (.cells #[.complex .f64 wa wb,.float .f64 sh,.complex .f64 fa fb,.complex .f64 ta tb] 124 (0,0)):=by
  rw[Below.heap_alloc _ _ _ (by simp)];exact heap_alloc_new _ _
 have hP:((w.alloc (.cells #[.complex .f64 wa wb,.float .f64 sh,.complex .f64 fa fb,.complex .f64 ta tb] 124)).alloc (.cells #[.complex .f64 na nb,.int .i64 D] 83)).heap[w.heap.size+1]?=some (.cells #[.complex .f64 na nb,.int .i64 D] 83 (0,0)):=by
  have:=heap_alloc_new (w.alloc (.cells #[.complex .f64 wa wb,.float .f64 sh,.complex .f64 fa fb,.complex .f64 ta tb] 124)) (.cells #[.complex .f64 na nb,.int .i64 D] 83);simpa using this
 have hb0:Below w.heap.size w ((w.alloc (.cells #[.complex .f64 wa wb,.float .f64 sh,.complex .f64 fa fb,.complex .f64 ta tb] 124)).alloc (.cells #[.complex .f64 na nb,.int .i64 D] 83)):=((Below.refl _ _).alloc (ae _) _).alloc (by simp) _
 have hsz:w.heap.size+2=((w.alloc (.cells #[.complex .f64 wa wb,.float .f64 sh,.complex .f64 fa fb,.complex .f64 ta tb] 124)).alloc (.cells #[.complex .f64 na nb,.int .i64 D] 83)).heap.size:=by simp
 go_enter Tryz.func63,Tryz.ntmps63
 go_wp2_with fail
 generalize(w.alloc (.cells #[.complex .f64 wa wb,.float .f64 sh,.complex .f64 fa fb,.complex .f64 ta tb] 124)).alloc (.cells #[.complex .f64 na nb,.int .i64 D] 83)=W at*;generalize hB:w.heap.size=B at*;have cK:B<W.heap.size:=by omega
 have hzb:B+1<W.heap.size:=by omega
 have z0:W.cell? ⟨B,0,none⟩=some (.complex .f64 wa wb):=cell_of hE 0;have z1:W.cell? ⟨B,1,none⟩=some (.float .f64 sh):=cell_of hE 1;have z2:W.cell? ⟨B,2,none⟩=some (.complex .f64 fa fb):=cell_of hE 2;have z3:W.cell? ⟨B,3,none⟩=some (.complex .f64 ta tb):=cell_of hE 3;have z4:W.cell? ⟨B+1,0,none⟩=some (.complex .f64 na nb):=cell_of hP 0;have z5:W.cell? ⟨B+1,1,none⟩=some (.int .i64 D):=cell_of hP 1
 go_region_held3 (fun w'=>w'.cell? ⟨B,0,none⟩=some (.complex .f64 wa wb)/\w'.cell? ⟨B,1,none⟩=some (.float .f64 sh)/\w'.cell? ⟨B,2,none⟩=some (.complex .f64 fa fb)/\w'.cell? ⟨B,3,none⟩=some (.complex .f64 ta tb)/\w'.cell? ⟨B+1,0,none⟩=some (.complex .f64 na nb)/\w'.cell? ⟨B+1,1,none⟩=some (.int .i64 D)) (go_keep) (first
   |(go_at_call_of 100 (Value.agg #[Value.complex FloatKind.f64 fa fb,Value.int IntKind.i64 1]);refine(HU.out _).mono ?_;rintro e w6 ⟨rfl,ax⟩;have iJ:B<w6.heap.size:=aL cK ax.size;have kF:B+1<w6.heap.size:=aL hzb ax.size;have u0:=(ax.cell (p:=⟨B,0,none⟩) cK).trans z0;have u1:=(ax.cell (p:=⟨B,1,none⟩) cK).trans z1;have u2:=(ax.cell (p:=⟨B,2,none⟩) cK).trans z2;have u3:=(ax.cell (p:=⟨B,3,none⟩) cK).trans z3;have u4:=(ax.cell (p:=⟨B+1,0,none⟩) hzb).trans z4;have u5:=(ax.cell (p:=⟨B+1,1,none⟩) hzb).trans z5)
   |(go_at_call_of 100 (Value.agg #[Value.complex FloatKind.f64 ta tb,Value.int IntKind.i64 1]);refine(HV.out _).mono ?_;rintro e w7 ⟨rfl,aT⟩;have pT:B<w7.heap.size:=aL iJ aT.size;have hvb:B+1<w7.heap.size:=aL kF aT.size;have v0:=(aT.cell (p:=⟨B,0,none⟩) iJ).trans u0;have v1:=(aT.cell (p:=⟨B,1,none⟩) iJ).trans u1;have v2:=(aT.cell (p:=⟨B,2,none⟩) iJ).trans u2;have v3:=(aT.cell (p:=⟨B,3,none⟩) iJ).trans u3;have v4:=(aT.cell (p:=⟨B+1,0,none⟩) kF).trans u4;have v5:=(aT.cell (p:=⟨B+1,1,none⟩) kF).trans u5))
 have ag:Below w.heap.size w w7:=by
  rw[hB];exact(hb0.drew.trans (ax.mono (eo cK))).trans (aT.mono (eo iJ))
 clear ax aT hb0;cases FA<;>cases TA
 ·go_wp2_with fail
  go_ret
  exact⟨rfl,by rw[hB] at ag;exact ag⟩
 ·go_wp2_with fail
  refine(HL.out _).mono ?_;rintro e w8 ⟨rfl,kX⟩;have uu:=ag.trans (kX.mono (by rw[hB];exact eo pT))
  by_cases hl:0<L
  ·have hq:(FloatKind.f64.format.order r 0 == some Ordering.gt)=true:=by rw[q1];simp[hl]
   clear q1 q2
   go_wp2_with fail
   go_ret
   exact⟨rfl,by rw[hB] at uu;exact uu⟩
  ·have hq:(FloatKind.f64.format.order r 0 == some Ordering.gt)=false:=by rw[q1];simp[hl]
   clear q1 q2
   go_wp2_with fail
   go_ret
   exact⟨rfl,by rw[hB] at uu;exact uu⟩
 ·go_wp2_with fail
  refine(HL.out _).mono ?_;rintro e w8 ⟨rfl,kX⟩;have uu:=ag.trans (kX.mono (by rw[hB];exact eo pT))
  by_cases hl:L<0
  ·have hq:(FloatKind.f64.format.order r 0 == some Ordering.lt)=true:=by rw[q2];simp[hl]
   clear q1 q2
   go_wp2_with fail
   go_ret
   exact⟨rfl,by rw[hB] at uu;exact uu⟩
  ·have hq:(FloatKind.f64.format.order r 0 == some Ordering.lt)=false:=by rw[q2];simp[hl]
   clear q1 q2
   go_wp2_with fail
   go_ret
   exact⟨rfl,by rw[hB] at uu;exact uu⟩
 ·go_wp2_with fail
  go_ret
  exact⟨rfl,by rw[hB] at ag;exact ag⟩
def nS(l:List EB):List Value:=l.flatMap fun x=>x.cells.toList
def gu(w:World)(v:Value)(es:List Ed):Prop:=
 ∃xs:List EB,xs.length=es.length/\w.ownsRow 0 124 4 v es.length (nS xs)/\∀(i:Nat) x e,xs[i]?=some x->es[i]?=some e->iT x e
theorem Tp:∀(l:List EB)(k:Nat)(e:EB),l[k]?=some e->∀j,j<4->(nS l)[k*4+j]?=e.cells[j]?
 |[],_,_,h,_,_=>by simp at h
 |q::r,0,e,h,j,hj=>by
  simp at h;subst h;have e1:nS (q::r)=q.cells.toList++nS r:=by simp[nS]
  rw[e1,dZ (by simp[EB.cells];omega)]
  simp
 |q::r,k+1,e,h,j,hj=>by
  have ih:=Tp r k e (by simpa using h) j hj
  have e1:nS (q::r)=q.cells.toList++nS r:=by simp[nS]
  rw[e1,nI (by simp[EB.cells];omega)]
  have e2:(k+1)*4+j-q.cells.toList.length=k*4+j:=by simp[EB.cells];omega
  rw[e2,ih]
theorem CU{w:World}{v:Value}{l:List Ed}(h:gu w v l):∃so cap,v=.slice so l.length cap:=by
 obtain⟨xs,_,h,_⟩:=h;rcases h.2 with⟨hv,h0⟩|⟨b,cap,cur,hv,_⟩
 ·exact⟨none,0,by rw[hv,h0]⟩
 ·exact⟨_,cap,hv⟩
theorem CV{w:World}{so:Option Addr}{n cap:Nat}{l:List Ed}(h:gu w (.slice so n cap) l){k:Nat}{e:Ed}(he:l[k]?=some e):
  ∃b x,so=some ⟨b,0,none⟩/\b<w.heap.size/\iT x e/\w.cell? ⟨b,k*4,none⟩=some (.complex .f64 x.wa x.wb)/\w.cell? ⟨b,k*4+1,none⟩=some (.float .f64 x.sh)/\w.cell? ⟨b,k*4+2,none⟩=some (.complex .f64 x.fa x.fb)/\w.cell? ⟨b,k*4+3,none⟩=some (.complex .f64 x.ta x.tb):=by
 obtain⟨xs,hl,ho,hr⟩:=h;have hk:k<xs.length:=by rw[hl];exact(bT.1 he).1
 obtain⟨x,hx⟩:∃x,xs[k]?=some x:=⟨_,ay hk⟩;have g:=Tp xs k x hx;obtain⟨b,c,hv,hb,hc⟩:=CS ho (g 0 (by omega))
 injection hv with hv;exact⟨b,x,hv,hb,hr k x e hx he,hc _ _ (g 0 (by omega)),hc _ _ (g 1 (by omega)),hc _ _ (g 2 (by omega)),hc _ _ (g 3 (by omega))⟩
theorem ad4(es:List Ed)(v:Value){na nb:Nat}{X Y D:Int}(w:World)(hR:gu w v es)(hl:es.length<=65000000)(hs:∀e∈es,fg e)(g1:Fl na X)(g2:Fl nb Y)(hn:dm X Y D):
  Calls Tryz.prog 35 #[v,.agg #[.complex .f64 na nb,.int .i64 D]] w fun e w'=>e=.returned (if es.any (Ge.fo (X,Y) D) then .tuple #[.int .i64 0,.bool true] else .tuple #[.int .i64 (Ge.total (Ge.fr (X,Y) D) es),.bool false])/\Below w.heap.size w w':=by
 obtain⟨so,cap,rfl⟩:=CU hR;have HR:Hid (gu w (.slice so es.length cap) es):=hR;have HH:Hid (∀(x:EB)(e:Ed),iT x e->e∈es->∀w1,Calls Tryz.prog 62 #[.agg #[.complex .f64 x.wa x.wb,.float .f64 x.sh,.complex .f64 x.fa x.fb,.complex .f64 x.ta x.tb],.agg #[.complex .f64 na nb,.int .i64 D]] w1 fun e' w'=>e'=.returned (.bool (Ge.fo (X,Y) D e))/\Below w1.heap.size w1 w'):=fun x e hx he w1=>CT x e hx (hs e he) g1 g2 hn w1
 have HP:Hid (∀(x:EB)(e:Ed),iT x e->e∈es->∀w1,Calls Tryz.prog 63 #[.agg #[.complex .f64 x.wa x.wb,.float .f64 x.sh,.complex .f64 x.fa x.fb,.complex .f64 x.ta x.tb],.agg #[.complex .f64 na nb,.int .i64 D]] w1 fun e' w'=>e'=.returned (.int .i64 (Ge.fr (X,Y) D e.1 e.2))/\Below w1.heap.size w1 w'):=fun x e hx he w1=>Tj x e hx (hs e he) g1 g2 hn w1
 have HT:Hid (∀k:Nat, -(k:Int)<=Ge.total (Ge.fr (X,Y) D) (es.take k)/\Ge.total (Ge.fr (X,Y) D) (es.take k)<=(k:Int)):=fun k=>by
  have h:=GW (Ge.fr (X,Y) D) (GX _ _) (es.take k);have h2:(es.take k).length<=k:=by simp;omega
  omega
 clear hR hs g1 g2 hn;have hb0:Below w.heap.size w (w.alloc (.cells #[.complex .f64 na nb,.int .i64 D] 83)):=(Below.refl _ _).alloc (ae _) _;have vU:=heap_alloc_new w (.cells #[.complex .f64 na nb,.int .i64 D] 83);have nT:Hid (Below w.heap.size w (w.alloc (.cells #[.complex .f64 na nb,.int .i64 D] 83))/\(w.alloc (.cells #[.complex .f64 na nb,.int .i64 D] 83)).heap[w.heap.size]?=some (.cells #[.complex .f64 na nb,.int .i64 D] 83 (0,0))):=⟨hb0,vU⟩;clear hb0 vU
 go_enter Tryz.func35,Tryz.ntmps35
 go_wp2_with fail
 go_loopg [6,11] es.length (fun n tv iv wr=>∃k:Nat,k+n=es.length/\iv=.int .i64 k/\tv=.int .i64 (Ge.total (Ge.fr (X,Y) D) (es.take k))/\Hid ((∀e∈es.take k,Ge.fo (X,Y) D e=false)/\Below w.heap.size w wr/\w.heap.size<wr.heap.size/\wr.heap[w.heap.size]?=some (.cells #[.complex .f64 na nb,.int .i64 D] 83 (0,0))))
 case atStart=>exact⟨0,by omega,rfl,rfl,by simp,nT.out.1,by simp,nT.out.2⟩
 case round=>
  obtain⟨k,hkn,rfl,rfl,HB⟩:=hrel;obtain⟨hno,ag,hwz,qD⟩:=HB.out;have Tq:Hid (∀e∈es.take k,Ge.fo (X,Y) D e=false):=hno;have Tt:=HT.out k;clear nT HB hno;by_cases hlt:k<es.length
  ·obtain⟨e,lY⟩:∃e,es[k]?=some e:=⟨_,ay hlt⟩;obtain⟨b,x,rfl,hb,hok,c0,c1,c2,c3⟩:=CV HR.out lY;have r0:=(ag.cell (p:=⟨b,k*4,none⟩) hb).trans c0;have r1:=(ag.cell (p:=⟨b,k*4+1,none⟩) hb).trans c1;have r2:=(ag.cell (p:=⟨b,k*4+2,none⟩) hb).trans c2;have r3:=(ag.cell (p:=⟨b,k*4+3,none⟩) hb).trans c3;have p0:wr.cell? ⟨w.heap.size,0,none⟩=some (.complex .f64 na nb):=cell_of qD 0;have p1:wr.cell? ⟨w.heap.size,1,none⟩=some (.int .i64 D):=cell_of qD 1;have hbr:b<wr.heap.size:=aL hb ag.size;have eD:(k:Int)<(es.length:Int):=by omega
   have hmem:=aY lY;have nU:Hid (Ge.total (Ge.fr (X,Y) D) (es.take (k+1))=Ge.total (Ge.fr (X,Y) D) (es.take k)+Ge.fr (X,Y) D e.1 e.2):=L4 _ lY;have qE:Hid (∀w1,Calls Tryz.prog 62 #[.agg #[.complex .f64 x.wa x.wb,.float .f64 x.sh,.complex .f64 x.fa x.fb,.complex .f64 x.ta x.tb],.agg #[.complex .f64 na nb,.int .i64 D]] w1 fun e' w'=>e'=.returned (.bool (Ge.fo (X,Y) D e))/\Below w1.heap.size w1 w'):=HH.out x e hok hmem
   have CW:Hid (∀w1,Calls Tryz.prog 63 #[.agg #[.complex .f64 x.wa x.wb,.float .f64 x.sh,.complex .f64 x.fa x.fb,.complex .f64 x.ta x.tb],.agg #[.complex .f64 na nb,.int .i64 D]] w1 fun e' w'=>e'=.returned (.int .i64 (Ge.fr (X,Y) D e.1 e.2))/\Below w1.heap.size w1 w'):=HP.out x e hok hmem
   have hfin:=GX (X,Y) D e.1 e.2;have HEK:Hid (es[k]?=some e):=lY;obtain⟨wa,wb,sh,fa,fb,ta,tb⟩:=x;simp only at r0 r1 r2 r3 qE CW;generalize Ge.total (Ge.fr (X,Y) D) (es.take k)=T at*;generalize Ge.fr (X,Y) D e.1 e.2=FR at*;clear c0 c1 c2 c3 lY HR HH HP hok;have xO:Below w.heap.size w (wr.alloc (.cells #[.complex .f64 wa wb,.float .f64 sh,.complex .f64 fa fb,.complex .f64 ta tb] 124)):=ag.alloc ag.size _;have mZ:=heap_alloc_new wr (.cells #[.complex .f64 wa wb,.float .f64 sh,.complex .f64 fa fb,.complex .f64 ta tb] 124);have vU:(wr.alloc (.cells #[.complex .f64 wa wb,.float .f64 sh,.complex .f64 fa fb,.complex .f64 ta tb] 124)).heap[w.heap.size]?=some (.cells #[.complex .f64 na nb,.int .i64 D] 83 (0,0)):=by
    rw[Below.heap_alloc _ _ _ hwz];exact qD
   have hsz:wr.heap.size+1=(wr.alloc (.cells #[.complex .f64 wa wb,.float .f64 sh,.complex .f64 fa fb,.complex .f64 ta tb] 124)).heap.size:=by simp
   cases hfo:Ge.fo (X,Y) D e
   ·rw[hfo] at qE;have HN:Hid (∀e∈es.take (k+1),Ge.fo (X,Y) D e=false):=fun e' he'=>by
     obtain⟨h1,h2⟩:=bT.1 HEK.out;rw[oK h1,h2] at he';rcases bW.1 he' with h|h
     ·exact Tq.out e' h
     ·rw[bJ.1 h];exact hfo
    clear hfo hmem
    go_wp2_with (simp only[fA,lX];go_simp)
    generalize wr.alloc (.cells #[.complex .f64 wa wb,.float .f64 sh,.complex .f64 fa fb,.complex .f64 ta tb] 124)=w0 at*;generalize hEe:wr.heap.size=E at*;clear r0 r1 r2 r3 p0 p1;refine(qE.out _).mono ?_;rintro e' w1 ⟨rfl,hb1⟩;have jz:=(hb1.block _ (show E<w0.heap.size by omega)).trans mZ
    have eF:=(hb1.block _ (show w.heap.size<w0.heap.size by omega)).trans vU
    have anK:=hb1.size;have zT:=xO.trans (hb1.mono (by omega))
    have e0:w1.cell? ⟨E,0,none⟩=some (.complex .f64 wa wb):=cell_of jz 0;have e1:w1.cell? ⟨E,1,none⟩=some (.float .f64 sh):=cell_of jz 1;have e2:w1.cell? ⟨E,2,none⟩=some (.complex .f64 fa fb):=cell_of jz 2;have e3:w1.cell? ⟨E,3,none⟩=some (.complex .f64 ta tb):=cell_of jz 3;have q0:w1.cell? ⟨w.heap.size,0,none⟩=some (.complex .f64 na nb):=cell_of eF 0;have q1:w1.cell? ⟨w.heap.size,1,none⟩=some (.int .i64 D):=cell_of eF 1
    go_wp2_with fail
    refine(CW.out _).mono ?_;rintro e' w2 ⟨rfl,hb2⟩;have dQ:=(hb2.block _ (show w.heap.size<w1.heap.size by omega)).trans eF
    have ad7:=hb2.size;have hL2:=zT.trans (hb2.mono (by omega))
    clear mZ jz vU eF hb1 hb2 xO zT qD
    go_wp2_with fail
    go_roundg (gk-1)
    case measure=>omega
    case rel=>exact⟨k+1,by omega,by go_num,by rw[nU.out],HN.out,hL2,by omega,dQ⟩
   ·rw[hfo] at qE;have HA:Hid (es.any (Ge.fo (X,Y) D)=true):=xn.2 ⟨e,hmem,hfo⟩;clear hfo hmem
    go_wp2_with (simp only[fA,lX];go_simp)
    generalize wr.alloc (.cells #[.complex .f64 wa wb,.float .f64 sh,.complex .f64 fa fb,.complex .f64 ta tb] 124)=w0 at*;refine(qE.out _).mono ?_;rintro e' w1 ⟨rfl,hb1⟩;have zT:=xO.trans (hb1.mono (by have:=xO.size;omega))
    go_wp2_with fail
    refine bodyPost_ret (v:=.tuple #[.int .i64 0,.bool true]) (by simp[results,Tryz.results35,go_sem]) rfl ⟨?_,zT⟩
    first
     |rfl
     |rw[if_pos HA.out]
  ·have hk:k=es.length:=by omega
   subst hk;rw[dI];have HA:Hid (¬es.any (Ge.fo (X,Y) D)=true):=fun h=>by
    obtain⟨e,h1,h2⟩:=xn.1 h;rw[Tq.out e (by rw[dI];exact h1)] at h2;cases h2
   clear HR HH HP HT
   go_wp2_with fail
   refine bodyPost_ret (v:=.tuple #[.int .i64 (Ge.total (Ge.fr (X,Y) D) es),.bool false]) (by simp[results,Tryz.results35,go_sem]) rfl ⟨?_,ag⟩
   first
    |rfl
    |rw[if_neg HA.out]
theorem ad8(a b:Int):Int.gcd b (a.tmod b)=Int.gcd a b:=by
 unfold Int.gcd;rw[Int.natAbs_tmod];exact adZ _ _
theorem CZ(x y:Int)(w:World)(hx: -1000000000000<=x/\x<=1000000000000)(hy: -1000000000000<=y/\y<=1000000000000):
  Calls Tryz.prog 65 #[.int .i64 x,.int .i64 y] w fun e w'=>e=.returned (.int .i64 (Int.gcd x y:Int))/\Below w.heap.size w w':=by
 generalize hG:Int.gcd x y=G;have HG:Hid (Int.gcd x y=G):=hG;clear hG
 go_enter Tryz.func65,Tryz.ntmps65
 go_wp2_with fail
 go_loopg [0,1] y.natAbs (fun m av bv wr=>∃a b:Int,av=.int .i64 a/\bv=.int .i64 b/\m=b.natAbs/\Int.gcd a b=G/\(-1000000000000<=a/\a<=1000000000000)/\(-1000000000000<=b/\b<=1000000000000)/\Hid (Below w.heap.size w wr))
 case atStart=>exact⟨x,y,rfl,rfl,rfl,HG.out,hx,hy,Below.refl _ _⟩
 case round=>
  obtain⟨a,b,rfl,rfl,rfl,hg,ha,hb,HB⟩:=hrel;clear HG;by_cases hz:b=0
  ·subst hz;have hv:(G:Int)=max a (-a):=by
    rw[<-hg,Int.gcd_zero_right];omega
   have HV:Hid ((G:Int)=max a (-a)):=hv;clear hg hv;have hw:IntKind.i64.wrap (-a)= -a:=by rw[IntKind.wrap_i64];omega
   go_wp2_with fail
   go_ret
   exact⟨by rw[HV.out];rfl,HB.out⟩
  ·have hgt:=ad8 a b;have hlt:(a.tmod b).natAbs<b.natAbs:=by rw[Int.natAbs_tmod];exact KD _ (by omega)
   have cC:Hid (Int.gcd b (a.tmod b)=G/\(-1000000000000<=a.tmod b/\a.tmod b<=1000000000000)):=⟨hgt.trans hg,by omega⟩
   have hbz:¬b=0:=hz;clear hg hgt;generalize hR:a.tmod b=R at*
   go_wp2_with fail
   go_region_held3 (fun _=>True) (trivial) (fail)
   go_wp2_with fail
   go_roundg R.natAbs
   case measure=>omega
   case rel=>exact⟨b,R,rfl,rfl,rfl,cC.out.1,hb,cC.out.2,HB.out.drew⟩
theorem Tu{a b:Nat}{x y:Int}(D:Int)(h1:Fl a x)(h2:Fl b y)(hx: -16000000<=x/\x<=16000000)(hy: -16000000<=y/\y<=16000000)(hD:0<D/\D<=300000)(G:Nat)(hG:Int.gcd (Int.gcd x y:Nat) D=G)(w:World):
  Calls Tryz.prog 37 #[.complex .f64 a b,.int .i64 D] w fun e w'=>e=.returned (.agg #[.complex .f64 (floatOfInt .f64 (x.tdiv G)) (floatOfInt .f64 (y.tdiv G)),.int .i64 (D.tdiv G)])/\Below w.heap.size w w':=by
 have uv:0<G:=by rw[<-hG];exact rY (by omega)
 have ad9:Int.gcd x y<=16000000:=by
  by_cases hz:x=0
  ·rw[hz,Int.gcd_zero_left];omega
  ·have:=anm (b:=y) hz;omega
 have hGD:G<=300000:=by
  have:=ann (a:=(Int.gcd x y:Nat)) (b:=D) (by omega)
  omega
 have c1:=h1.int (by omega) (by omega)
 have c2:=h2.int (by omega) (by omega)
 have hc1:∀w,(convert 120 3 (.float .f64 a)).run Tryz.prog w=.ok (.int .i64 x) w:=fun w=>run_convert_float_int w 120 3 .f64 .i64 a x (by rw[Tryz.underlying120];rfl) Tryz.underlying3 c1
 have hc2:∀w,(convert 120 3 (.float .f64 b)).run Tryz.prog w=.ok (.int .i64 y) w:=fun w=>run_convert_float_int w 120 3 .f64 .i64 b y (by rw[Tryz.underlying120];rfl) Tryz.underlying3 c2
 have zU:Hid (∀w1,Calls Tryz.prog 65 #[.int .i64 x,.int .i64 y] w1 fun e w'=>e=.returned (.int .i64 (Int.gcd x y:Nat))/\Below w1.heap.size w1 w'):=fun w1=>CZ x y w1 (by omega) (by omega)
 have zV:Hid (∀w1,Calls Tryz.prog 65 #[.int .i64 (Int.gcd x y:Nat),.int .i64 D] w1 fun e w'=>e=.returned (.int .i64 (G:Int))/\Below w1.heap.size w1 w'):=fun w1=>by rw[<-hG];exact CZ _ D w1 (by omega) (by omega)
 obtain⟨XQ,xP⟩:∃q,q=x.tdiv (G:Int):=⟨_,rfl⟩;obtain⟨YQ,xQ⟩:∃q,q=y.tdiv (G:Int):=⟨_,rfl⟩;obtain⟨DQ,xR⟩:∃q,q=D.tdiv (G:Int):=⟨_,rfl⟩;rw[<-xP,<-xQ,<-xR];have HP:Hid (∀w1,Calls Tryz.prog 38 #[.int .i64 XQ,.int .i64 YQ] w1 fun e w'=>e=.returned (.complex .f64 (floatOfInt .f64 XQ) (floatOfInt .f64 YQ))/\w'=w1):=fun w1=>CK _ _ w1
 have hw1:IntKind.i64.wrap (x.tdiv (G:Int))=XQ:=by rw[xP];exact IntWalk.i64_quo' _ _ ⟨by omega,by omega,by omega⟩
 have hw2:IntKind.i64.wrap (y.tdiv (G:Int))=YQ:=by rw[xQ];exact IntWalk.i64_quo' _ _ ⟨by omega,by omega,by omega⟩
 have hw3:IntKind.i64.wrap (D.tdiv (G:Int))=DQ:=by rw[xR];exact IntWalk.i64_quo' _ _ ⟨by omega,by omega,by omega⟩
 have hw4:IntKind.i64.wrap (D/(G:Int))=DQ:=by rw[<-hw3,abY (by omega)]
 clear xP xQ xR;have Tv:¬G=0:=by omega
 have Tw:(0:Int)<G:=by omega
 generalize Int.gcd x y=GXY at*;clear c1 c2 h1 h2 hG;have hE:=heap_alloc_new w (.cells #[.complex .f64 0 0,.int .i64 0] 83);have hb0:Below w.heap.size w (w.alloc (.cells #[.complex .f64 0 0,.int .i64 0] 83)):=(Below.refl _ _).alloc (ae _) _;have hz:w.heap.size<(w.alloc (.cells #[.complex .f64 0 0,.int .i64 0] 83)).heap.size:=by simp
 go_enter Tryz.func37,Tryz.ntmps37
 go_wp2_with (first |(simp only[hc1])|(simp only[hc2]))
 generalize w.alloc (.cells #[.complex .f64 0 0,.int .i64 0] 83)=W at*;generalize hB:w.heap.size=B at*;refine(zU.out _).mono ?_;rintro e w1 ⟨rfl,hb1⟩
 go_wp2_with fail
 refine(zV.out _).mono ?_;rintro e w2 ⟨rfl,hb2⟩;have hs1:=hb1.size;have dv:=(hb2.block _ (show B<w1.heap.size by omega)).trans ((hb1.block _ hz).trans hE)
 have ag:=(hb0.trans (hb1.mono (eo hz))).trans (hb2.mono (by omega))
 have e0:w2.cell? ⟨B,0,none⟩=some (.complex .f64 0 0):=cell_of dv 0;have e1:w2.cell? ⟨B,1,none⟩=some (.int .i64 0):=cell_of dv 1;have z0:w2.frozen? ⟨B,0,none⟩=false:=aB dv 0;have z1:w2.frozen? ⟨B,1,none⟩=false:=aB dv 1;clear hE dv hb1 hb2 hb0
 go_wp2_with fail
 go_region_held3 (fun w'=>w'.frozen? ⟨B,0,none⟩=false/\w'.frozen? ⟨B,1,none⟩=false) (go_keep) (first
  |(go_at_call 38;refine(HP.out _).mono ?_;rintro e w5 ⟨rfl,rX⟩;subst rX)
  |(simp only[fA];go_simp))
 go_wp2_with fail
 refine bodyPost_ret (v:=.agg #[.complex .f64 (floatOfInt .f64 XQ) (floatOfInt .f64 YQ),.int .i64 DQ]) (by simp[results,Tryz.results37,go_sem,e0,e1]) rfl ⟨rfl,?_⟩
 rw[hB];exact((ag.setCell (ae _) _).setCell (ae _) _).drew
namespace Ge
abbrev Fr:=Int×Int
abbrev Qt:=Fr×Fr
def fc(a b:Fr):Int:=(a.1*b.2-b.1*a.2).sign
def pc(p q:Qt):Int:=if fc p.1 q.1=0 then fc p.2 q.2 else fc p.1 q.1
structure C0(a:Fr):Prop where
 pos:0<a.2
 co:Int.gcd a.1 a.2=1
structure fJ(p:Qt):Prop where
 x:C0 p.1
 y:C0 p.2
theorem Ty(a b:Fr):fc b a= -fc a b:=by
 unfold fc;rw[<-Q6];congr 1;omega
theorem L9{k m n:Int}(h:Int.gcd k m=1)(hd:k∣m*n):k∣n:=by
 have h1:=ano.2 hd;rw[nK] at h1;exact ano.1 (Nat.Coprime.dvd_of_dvd_mul_left h h1)
theorem Ma{a b:Fr}(ha:C0 a)(hb:C0 b)(h:fc a b=0):a=b:=by
 unfold fc at h;have h':a.1*b.2=b.1*a.2:=by have:=vE.1 h;omega
 have d1:a.2∣b.2:=by
  have:a.2∣a.1*b.2:=by rw[h'];exact Int.dvd_mul_left _ _
  exact L9 (by rw[abZ];exact ha.co) this
 have d2:b.2∣a.2:=by
  have:b.2∣b.1*a.2:=by rw[<-h'];exact Int.dvd_mul_left _ _
  exact L9 (by rw[abZ];exact hb.co) this
 have e2:a.2=b.2:=Int.dvd_antisymm (dH ha.pos) (dH hb.pos) d1 d2;have e1:a.1=b.1:=by
  rw[e2] at h';exact Q4 (abV hb.pos) h'
 exact dY e1 e2
theorem zW(a:Fr):fc a a=0:=by
 unfold fc;rw[show a.1*a.2-a.1*a.2=0 by omega]
 rfl
theorem Tz(z:Int):(z.sign= -1/\z<0)\/(z.sign=0/\z=0)\/(z.sign=1/\0<z):=by
 rcases fk z 0 with h|h|h
 ·exact Or.inl ⟨FL h,h⟩
 ·exact Or.inr (Or.inl ⟨by rw[h];rfl,h⟩)
 ·exact Or.inr (Or.inr ⟨pM h,h⟩)
theorem TB{a b:Fr}:fc a b<0↔a.1*b.2<b.1*a.2:=by
 unfold fc;have:=Tz (a.1*b.2-b.1*a.2);omega
theorem TC{a b:Fr}:fc a b=0↔a.1*b.2=b.1*a.2:=by
 unfold fc;have:=Tz (a.1*b.2-b.1*a.2);omega
theorem vV{a b c d e f:Int}(hb:0<b)(hd:0<d)(hf:0<f)(h1:a*d<c*b)(h2:c*f<=e*d):a*f<e*b:=by
 have k1:a*d*f<c*b*f:=Q3 h1 hf;have k2:c*f*b<=e*d*b:=anp h2 (dH hb);have k3:d*(a*f)<d*(e*b):=by
  have e1:d*(a*f)=a*d*f:=by ac_rfl
  have e2:d*(e*b)=e*d*b:=by ac_rfl
  have e3:c*b*f=c*f*b:=by ac_rfl
  rw[e1,e2];omega
 exact anq k3 (dH hd)
theorem Mb{a b c d e f:Int}(hb:0<b)(hd:0<d)(hf:0<f)(h1:a*d<=c*b)(h2:c*f<e*d):a*f<e*b:=by
 have k1:a*d*f<=c*b*f:=anp h1 (dH hf);have k2:c*f*b<e*d*b:=Q3 h2 hb;have k3:d*(a*f)<d*(e*b):=by
  have e1:d*(a*f)=a*d*f:=by ac_rfl
  have e2:d*(e*b)=e*d*b:=by ac_rfl
  have e3:c*b*f=c*f*b:=by ac_rfl
  rw[e1,e2];omega
 exact anq k3 (dH hd)
theorem Mc{a b c d e f:Int}(hd:0<d)(h1:a*d=c*b)(h2:c*f=e*d):a*f=e*b:=by
 have k3:d*(a*f)=d*(e*b):=by
  have e1:d*(a*f)=a*d*f:=by ac_rfl
  have e2:d*(e*b)=e*d*b:=by ac_rfl
  have e3:c*b*f=c*f*b:=by ac_rfl
  rw[e1,e2,h1,e3,h2]
 exact zn (abV hd) k3
def lt(p q:Qt):Prop:=pc p q<0
theorem aec{p q:Qt}:pc p q<0↔fc p.1 q.1<0\/(fc p.1 q.1=0/\fc p.2 q.2<0):=by
 unfold pc;split<;>omega
theorem G7(p q:Qt):pc q p= -pc p q:=by
 unfold pc;rw[Ty p.1 q.1,Ty p.2 q.2];split<;>split<;>omega
theorem aed{p q:Qt}(hp:fJ p)(hq:fJ q)(h:pc p q=0):p=q:=by
 unfold pc at h;split at h
 ·rename_i h1
  exact dY (Ma hp.x hq.x h1) (Ma hp.y hq.y h)
 ·rename_i h1;exact absurd h h1
theorem xS(p:Qt):pc p p=0:=by
 unfold pc;rw[zW,if_pos rfl,zW]
theorem lt_trans{p q r:Qt}(hp:fJ p)(hq:fJ q)(hr:fJ r)(h1:lt p q)(h2:lt q r):lt p r:=by
 unfold lt at*;rw[aec] at*;rw[TB,TC,TB] at*;rcases h1 with h1|⟨h1,h1'⟩
 ·rcases h2 with h2|⟨h2,_⟩
  ·exact Or.inl (vV hp.x.pos hq.x.pos hr.x.pos h1 (dH h2))
  ·exact Or.inl (vV hp.x.pos hq.x.pos hr.x.pos h1 (KE h2))
 ·rcases h2 with h2|⟨h2,h2'⟩
  ·exact Or.inl (Mb hp.x.pos hq.x.pos hr.x.pos (KE h1) h2)
  ·exact Or.inr ⟨Mc hq.x.pos h1 h2,vV hp.y.pos hq.y.pos hr.y.pos h1' (dH h2')⟩
theorem lt_irrefl(p:Qt):¬lt p p:=by unfold lt;rw[xS];decide
def rZ(l:List Qt):Prop:=l.Pairwise lt
def ins(p:Qt):List Qt->List Qt
 |[]=>[p]
 |q::l=>if pc q p=0 then q::l else if pc q p<0 then q::ins p l else p::q::l
theorem r7{p:Qt}(hp:fJ p):∀{l:List Qt},(∀q∈l,fJ q)->∀r,r∈ins p l↔r=p\/r∈l
 |[],_,r=>by simp[ins]
 |q::l,hl,r=>by
  unfold ins;split
  ·rename_i h
   have e:=aed (hl q (by simp)) hp h
   subst e;simp
  ·split
   ·have ih:=r7 hp (l:=l) (fun x hx=>hl x (by simp[hx])) r
    simp only[aQ,ih];constructor
    ·rintro(h|h|h)
     ·exact Or.inr (Or.inl h)
     ·exact Or.inl h
     ·exact Or.inr (Or.inr h)
    ·rintro(h|h|h)
     ·exact Or.inr (Or.inl h)
     ·exact Or.inl h
     ·exact Or.inr (Or.inr h)
   ·simp
theorem vW{p:Qt}(hp:fJ p){l:List Qt}(hl:∀q∈l,fJ q):∀q∈ins p l,fJ q:=fun q hq=>by
 rcases(r7 hp hl q).1 hq with h|h
 ·rw[h];exact hp
 ·exact hl q h
theorem TD{p:Qt}(hp:fJ p):∀{l:List Qt},(∀q∈l,fJ q)->rZ l->rZ (ins p l)
 |[],_,_=>by simp[ins,rZ]
 |q::l,hl,ha=>by
  have ha':=fZ.1 ha;unfold ins;split
  ·exact ha
  ·split
   ·rename_i _ h
    refine fZ.2 ⟨fun r hr=>?_,TD hp (fun x hx=>hl x (by simp[hx])) ha'.2⟩
    rcases(r7 hp (fun x hx=>hl x (by simp[hx])) r).1 hr with e|e
    ·rw[e];exact h
    ·exact ha'.1 r e
   ·rename_i h0 h1
    have kD:lt p q:=by unfold lt;have:=G7 q p;omega
    refine fZ.2 ⟨fun r hr=>?_,ha⟩
    rcases aQ.1 hr with e|e
    ·rw[e];exact kD
    ·exact lt_trans hp (hl q (by simp)) (hl r (by simp[e])) kD (ha'.1 r e)
theorem TE:∀{a b:List Qt},(∀q∈a,fJ q)->(∀q∈b,fJ q)->rZ a->rZ b->(∀q,q∈a↔q∈b)->a=b
 |[],[],_,_,_,_,_=>rfl
 |[],q::l,_,_,_,_,h=>by have:=(h q).2 (by simp);simp at this
 |q::l,[],_,_,_,_,h=>by have:=(h q).1 (by simp);simp at this
 |p::a,q::b,ra,rb,ha,hb,h=>by
  have ha':=fZ.1 ha;have hb':=fZ.1 hb;have e:p=q:=by
   rcases aQ.1 ((h p).1 (by simp)) with e|e
   ·exact e
   ·rcases aQ.1 ((h q).2 (by simp)) with e'|e'
    ·exact e'.symm
    ·have h1:=hb'.1 p e;have h2:=ha'.1 q e';exact absurd (lt_trans (ra p (by simp)) (rb q (by simp)) (ra p (by simp)) h2 h1) (lt_irrefl p)
  subst e;congr 1;refine TE (fun x hx=>ra x (by simp[hx])) (fun x hx=>rb x (by simp[hx])) ha'.2 hb'.2 fun r=>?_
  constructor
  ·intro hr;rcases aQ.1 ((h r).1 (by simp[hr])) with e|e
   ·exact absurd (ha'.1 r hr) (by rw[e];exact lt_irrefl p)
   ·exact e
  ·intro hr;rcases aQ.1 ((h r).2 (by simp[hr])) with e|e
   ·exact absurd (hb'.1 r hr) (by rw[e];exact lt_irrefl p)
   ·exact e
end Ge
namespace Ge
def aR(n d:Int):Fr:=if d<0 then(CQ (-n) (-d),xN (-n) (-d)) else(CQ n d,xN n d)
theorem TF{n d g:Int}{a b:Int}(hg:(Int.gcd n d:Int)=g)(hp:0<g)(h1:n=g*a)(h2:d=g*b):Int.gcd a b=1:=by
 have e:Int.gcd (g*a) (g*b)=g.natAbs*Int.gcd a b:=ab0 ..;rw[<-h1,<-h2] at e;have e2:(Int.gcd n d)=g.natAbs:=by omega
 rw[e2] at e;have hpos:0<g.natAbs:=by omega
 have e3:g.natAbs*1=g.natAbs*Int.gcd a b:=by rw[Nat.mul_one];exact e
 exact(anr hpos e3).symm
theorem zX{n d:Int}(hd:d≠0):C0 (aR n d):=by
 unfold aR;split
 ·rename_i h
  exact⟨Td (by omega),TF rfl (by have:=rY (n:= -n) (d:= -d) (by omega);omega) (GV (-n) (-d)) (CR (-n) (-d))⟩
 ·exact⟨Td (by omega),TF rfl (by have:=rY (n:=n) hd;omega) (GV n d) (CR n d)⟩
theorem zY{n d:Int}(hd:d≠0):∃g,g≠0/\n=g*(aR n d).1/\d=g*(aR n d).2/\(0<g↔0<d):=by
 unfold aR;split
 ·rename_i h
  have hg:=rY (n:= -n) (d:= -d) (by omega)
  have e1:=GV (-n) (-d);have e2:=CR (-n) (-d);refine⟨-(Int.gcd (-n) (-d):Int),by omega,?_,?_,by omega⟩
  ·simp only;rw[iw,<-e1];omega
  ·simp only;rw[iw,<-e2];omega
 ·have hg:=rY (n:=n) hd;exact⟨_,by omega,GV n d,CR n d,by omega⟩
theorem G8(n:Int):aR n 1=(n,1):=by
 unfold aR;rw[if_neg (by decide)]
 unfold CQ xN;rw[Q7];simp
theorem zZ{n d m e:Int}(hd:d≠0)(he:e≠0)(h:n*e=m*d):aR n d=aR m e:=by
 obtain⟨g,g0,h1,h2,_⟩:=zY (n:=n) hd;obtain⟨k,k0,h3,h4,_⟩:=zY (n:=m) he;refine Ma (zX hd) (zX he) (TC.2 ?_);have e1:g*(aR n d).1*(k*(aR m e).2)=k*(aR m e).1*(g*(aR n d).2):=by rw[<-h1,<-h2,<-h3,<-h4];exact h
 have e2:(g*k)*((aR n d).1*(aR m e).2)=(g*k)*((aR m e).1*(aR n d).2):=by
  calc (g*k)*((aR n d).1*(aR m e).2)=g*(aR n d).1*(k*(aR m e).2):=by ac_rfl
   _=k*(aR m e).1*(g*(aR n d).2):=e1
   _=(g*k)*((aR m e).1*(aR n d).2):=by ac_rfl
 exact zn (ab1 g0 k0) e2
end Ge
theorem z8(c:UInt8)(w:World):
  Calls Tryz.prog 85 #[.int .u8 c.toNat] w fun e w'=>e=.returned (.bool (Pl.isLet c))/\w'=w:=by
 go_enter Tryz.func85,Tryz.ntmps85
 go_wp2
 all_goals
  go_ret
  refine⟨rO ?_,rfl⟩;unfold Pl.isLet;rw[mO];simp;omega
theorem lZ(c:UInt8)(w:World):
  Calls Tryz.prog 86 #[.int .u8 c.toNat] w fun e w'=>e=.returned (.bool (Pl.aM c))/\w'=w:=by
 go_enter Tryz.func86,Tryz.ntmps86
 go_wp2
 all_goals
  go_ret
  refine⟨rO ?_,rfl⟩;unfold Pl.aM;rw[mO];simp;omega
def Pl.rS(t:Pl.Tk):List UInt8:=if t.k=110 then[] else t.raw
def r8(t:Pl.Tk):Array Value:= #[.int .u8 t.k,.string ⟨(Pl.rS t).toArray⟩,.int .i64 t.n,.int .i64 t.pl]
theorem aee(s:ByteArray)(i:Nat)(w:World)(hi:s.size<=i)(_hi2:i<=400)(_hs:s.size<=400):
  Calls Tryz.prog 57 #[.string s,.int .i64 i] w fun e w'=>e=.returned (.tuple #[.agg (r8 ⟨101,[],0,i⟩),.int .i64 i])/\Below w.heap.size w w':=by
 go_enter Tryz.func57,Tryz.ntmps57
 go_wp2
 exact bodyPost_ret (v:=.tuple #[.agg #[.int .u8 101,.string ⟨#[]⟩,.int .i64 0,.int .i64 i],.int .i64 i]) (by simp[results,Tryz.results57,go_sem]) rfl ⟨rfl,(Below.refl _ _).alloc (ae _) _⟩
theorem aeg(s:ByteArray)(i:Nat)(w:World)(hi:i<s.size)(hs:s.size<=400)(hc:s[i].toNat=40\/s[i].toNat=41\/s[i].toNat=44\/s[i].toNat=47):
  Calls Tryz.prog 57 #[.string s,.int .i64 i] w fun e w'=>e=.returned (.tuple #[.agg #[.int .u8 s[i].toNat,.string (s.extract i (i+1)),.int .i64 0,.int .i64 i],.int .i64 ((i+1:Nat):Int)])/\Below w.heap.size w w':=by
 have key:∀a b c d:Bool,((s[i].toNat:Int) == 40)=a->((s[i].toNat:Int) == 41)=b->((s[i].toNat:Int) == 44)=c->((s[i].toNat:Int) == 47)=d->(a||b||c||d)=true->
   Calls Tryz.prog 57 #[.string s,.int .i64 i] w fun e w'=>e=.returned (.tuple #[.agg #[.int .u8 s[i].toNat,.string (s.extract i (i+1)),.int .i64 0,.int .i64 i],.int .i64 ((i+1:Nat):Int)])/\Below w.heap.size w w':=by
  intro a b c d ha hb hc' hd hor;clear hc;cases a
  ·cases b
   ·cases c
    ·cases d
     ·cases hor
     ·go_enter Tryz.func57,Tryz.ntmps57
      go_wp2
      exact bodyPost_ret (v:=.tuple #[.agg #[.int .u8 s[i].toNat,.string (s.extract i (i+1)),.int .i64 0,.int .i64 i],.int .i64 ((i+1:Nat):Int)]) (by simp[results,Tryz.results57,go_sem]) rfl ⟨rfl,(Below.refl _ _).alloc (ae _) _⟩
    ·go_enter Tryz.func57,Tryz.ntmps57
     go_wp2
     exact bodyPost_ret (v:=.tuple #[.agg #[.int .u8 s[i].toNat,.string (s.extract i (i+1)),.int .i64 0,.int .i64 i],.int .i64 ((i+1:Nat):Int)]) (by simp[results,Tryz.results57,go_sem]) rfl ⟨rfl,(Below.refl _ _).alloc (ae _) _⟩
   ·go_enter Tryz.func57,Tryz.ntmps57
    go_wp2
    exact bodyPost_ret (v:=.tuple #[.agg #[.int .u8 s[i].toNat,.string (s.extract i (i+1)),.int .i64 0,.int .i64 i],.int .i64 ((i+1:Nat):Int)]) (by simp[results,Tryz.results57,go_sem]) rfl ⟨rfl,(Below.refl _ _).alloc (ae _) _⟩
  ·go_enter Tryz.func57,Tryz.ntmps57
   go_wp2
   exact bodyPost_ret (v:=.tuple #[.agg #[.int .u8 s[i].toNat,.string (s.extract i (i+1)),.int .i64 0,.int .i64 i],.int .i64 ((i+1:Nat):Int)]) (by simp[results,Tryz.results57,go_sem]) rfl ⟨rfl,(Below.refl _ _).alloc (ae _) _⟩
 refine key _ _ _ _ rfl rfl rfl rfl ?_;simp;omega
end Go.Proofs.YtkjhhooecopolaaGreatDoor
