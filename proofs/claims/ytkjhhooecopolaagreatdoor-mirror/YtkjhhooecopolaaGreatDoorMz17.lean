import Derived.Test.YtkjhhooecopolaaGreatDoorMz16
import Derived.Deep.LoopGhost
set_option maxRecDepth 100000
set_option maxHeartbeats 4000000
namespace Go.Proofs.YtkjhhooecopolaaGreatDoor
open Go.RowKit
theorem Il{e:Ed}(h:fg e):(-100<=e.2.1-e.1.1/\e.2.1-e.1.1<=100)/\(-100<=e.2.2-e.1.2/\e.2.2-e.1.2<=100):=by
 obtain⟨a,b,c,d⟩:=h;unfold small at a b c d;omega
theorem U8(x y:EB)(e f:Ed)(hx:iT x e)(hy:iT y f)(he:fg e)(hf:fg f)(w:World):
  Calls Tryz.prog 179 #[.agg #[.complex .f64 x.wa x.wb,.float .f64 x.sh],.agg #[.complex .f64 y.wa y.wb,.float .f64 y.sh]] w fun r w'=>r=.returned (.bool (decide (Ge.bw e f=0)))/\Below w.heap.size w w':=by
 have we:=Il he;have wf:=Il hf;obtain⟨im,f1,hl⟩:=CN hx.wa hx.wb hy.wa hy.wb (by unfold sm;omega) (by unfold sm;omega) (by unfold sm;omega) (by unfold sm;omega)
 have HL:Hid (∀w,Calls Tryz.prog 101 #[.complex .f64 x.wa x.wb,.complex .f64 y.wa y.wb] w fun e w'=>e=.returned (.float .f64 im)/\w'=w):=hl
 have q:=rW f1 kE;have hc:decide (Ge.bw e f=0)=(FloatKind.f64.format.order im 0 == some .eq):=by rw[q];rfl
 rw[hc];clear hl q hc f1 hx hy he hf we wf;obtain⟨wa,wb,sh,fa,fb,ta,tb⟩:=x;obtain⟨iV,iW,sh',mi,mj,mn,mq⟩:=y;simp only at*;have hb0:Below w.heap.size w ((w.alloc (.cells #[.complex .f64 wa wb,.float .f64 sh] 122)).alloc (.cells #[.complex .f64 iV iW,.float .f64 sh'] 122)):=((Below.refl _ _).alloc (ae _) _).alloc (by simp) _
 go_enter Tryz.func179,Tryz.ntmps179
 go_wp2_with fail
 refine(HL.out _).mono ?_;rintro e w1 ⟨rfl,rfl⟩
 go_wp2_with fail
 go_ret
 exact⟨rfl,hb0⟩
theorem afT(e f:Ed):(f.2.1-f.1.1)*((e.2.1-e.1.1)*e.1.2-(e.2.2-e.1.2)*e.1.1)-(e.2.1-e.1.1)*((f.2.1-f.1.1)*f.1.2-(f.2.2-f.1.2)*f.1.1)=Ge.mX e f:=by
 unfold Ge.mX Ge.mT Ge.bw;grind
theorem afU(e f:Ed):(f.2.2-f.1.2)*((e.2.1-e.1.1)*e.1.2-(e.2.2-e.1.2)*e.1.1)-(e.2.2-e.1.2)*((f.2.1-f.1.1)*f.1.2-(f.2.2-f.1.2)*f.1.1)=Ge.mY e f:=by
 unfold Ge.mY Ge.mT Ge.bw;grind
theorem U9{a b s z:Nat}{x y t:Int}(h1:Fl a x)(h2:Fl b y)(h3:Fl s t)(hz:Fl z 0)(b1:sm x)(b2:sm y)(b3:sm t):
  ∃re im,(∀ty w,(binOp .mul ty (.complex .f64 a b) (.complex .f64 s z)).run Tryz.prog w=.ok (.complex .f64 re im) w)/\Fl re (x*t)/\Fl im (y*t):=by
 have m1:=oU b1 b3;have m2:=oU b2 b3;obtain⟨re,im,e,f1,f2⟩:=LP h1 h2 h3 hz (by omega) (by omega) (by omega) (by omega) (by omega) (by omega)
 refine⟨re,im,fun ty w=>run_complex_mul (P:=Tryz.prog) w ty a b s z re im e,?_,?_⟩
 ·have:x*t=x*t-y*0:=by omega
  rw[this];exact f1
 ·have:y*t=x*0+y*t:=by omega
  rw[this];exact f2
theorem afV(x y:EB)(e f:Ed)(hx:iT x e)(hy:iT y f)(he:fg e)(hf:fg f)(hc:Ge.bw e f≠0):
  ∃n:Ge.Nd,Ge.Can n/\Ge.aj n=Ge.dE e f/\dm n.1 n.2.1 n.2.2/\∀w,Calls Tryz.prog 180 #[.agg #[.complex .f64 x.wa x.wb,.float .f64 x.sh],.agg #[.complex .f64 y.wa y.wb,.float .f64 y.sh]] w fun r w'=>r=.returned (gS n)/\Below w.heap.size w w':=by
 have we:=Il he;have wf:=Il hf;have cin:=Uu he hf;obtain⟨im,f1,hl⟩:=CN hx.wa hx.wb hy.wa hy.wb (by unfold sm;omega) (by unfold sm;omega) (by unfold sm;omega) (by unfold sm;omega)
 have hcr:(e.2.1-e.1.1)*(f.2.2-f.1.2)-(e.2.2-e.1.2)*(f.2.1-f.1.1)=Ge.bw e f:=rfl;rw[hcr] at f1;have c1:=f1.int (by omega) (by omega)
 obtain⟨p1,p2,o1,g1,g2⟩:=U9 hy.wa hy.wb hx.sh kE (by unfold sm;omega) (by unfold sm;omega) (GZ he)
 obtain⟨r1,r2,o2,k1,k2⟩:=U9 hx.wa hx.wb hy.sh kE (by unfold sm;omega) (by unfold sm;omega) (GZ hf)
 have cx:=afT e f;have cy:=afU e f;obtain⟨s1,s2,e3,j1,j2⟩:=LO g1 g2 k1 k2 (by rw[cx];omega) (by rw[cy];omega)
 have o3:=fun t w=>run_complex_sum (P:=Tryz.prog) w .sub (Or.inr rfl) t .f64 p1 p2 r1 r2 s1 s2 e3
 rw[cx] at j1;rw[cy] at j2;obtain⟨n,n1,n2,n3,hN⟩:=Ik (Ge.bw e f) j1 j2 (by omega) (by omega) (by omega)
 refine⟨n,n1,n2,n3,fun w=>?_⟩
 have HL:Hid (∀w,Calls Tryz.prog 101 #[.complex .f64 x.wa x.wb,.complex .f64 y.wa y.wb] w fun e w'=>e=.returned (.float .f64 im)/\w'=w):=hl
 generalize Ge.bw e f=C at*;have hc1:∀w,(convert 120 3 (.float .f64 im)).run Tryz.prog w=.ok (.int .i64 C) w:=fun w=>run_convert_float_int w 120 3 .f64 .i64 im C (by rw[Tryz.underlying120];rfl) Tryz.underlying3 c1
 unfold gS at*;generalize floatOfInt .f64 n.1=N1 at*;generalize floatOfInt .f64 n.2.1=N2 at*;have HN:Hid (∀w,Calls Tryz.prog 37 #[.complex .f64 s1 s2,.int .i64 C] w fun e w'=>e=.returned (.agg #[.complex .f64 N1 N2,.int .i64 n.2.2])/\Below w.heap.size w w'):=hN
 clear hl hN c1 cx cy j1 j2 e3 g1 g2 k1 k2 n1 n2 n3 f1 hcr cin we wf hx hy he hf hc;obtain⟨wa,wb,sh,fa,fb,ta,tb⟩:=x;obtain⟨iV,iW,sh',mi,mj,mn,mq⟩:=y;simp only at*;have hb1:Below w.heap.size w ((w.alloc (.cells #[.complex .f64 wa wb,.float .f64 sh] 122)).alloc (.cells #[.complex .f64 iV iW,.float .f64 sh'] 122)):=((Below.refl _ _).alloc (ae _) _).alloc (by simp) _
 go_enter Tryz.func180,Tryz.ntmps180
 go_wp2_with (first |(simp only[o1])|(simp only[o2])|(simp only[o3]))
 have hs1:w.heap.size+2=((w.alloc (.cells #[.complex .f64 wa wb,.float .f64 sh] 122)).alloc (.cells #[.complex .f64 iV iW,.float .f64 sh'] 122)).heap.size:=by simp
 generalize(w.alloc (.cells #[.complex .f64 wa wb,.float .f64 sh] 122)).alloc (.cells #[.complex .f64 iV iW,.float .f64 sh'] 122)=W1 at*;have hE:=heap_alloc_new W1 (.cells #[.complex .f64 0 0,.int .i64 0] 83);have hb0:=hb1.alloc (by omega) (.cells #[.complex .f64 0 0,.int .i64 0] 83)
 have hz:W1.heap.size<(W1.alloc (.cells #[.complex .f64 0 0,.int .i64 0] 83)).heap.size:=by simp
 generalize W1.alloc (.cells #[.complex .f64 0 0,.int .i64 0] 83)=W at*;generalize hB:w.heap.size=B at*;generalize W1.heap.size=B1 at*;have hB1:B1=B+1+1:=by omega
 have qO:B<=B+1+1:=by omega
 subst hB1;clear hs1;refine(HL.out _).mono ?_;rintro e w1 ⟨rfl,rfl⟩
 go_wp2_with (simp only)
 refine(HN.out _).mono ?_;rintro e w2 ⟨rfl,hb2⟩;have dv:=(hb2.block _ hz).trans hE;have ag:=hb0.trans (hb2.mono (by omega))
 have e0:w2.cell? ⟨B+1+1,0,none⟩=some (.complex .f64 0 0):=cell_of dv 0;have e1:w2.cell? ⟨B+1+1,1,none⟩=some (.int .i64 0):=cell_of dv 1;have z0:w2.frozen? ⟨B+1+1,0,none⟩=false:=aB dv 0;have z1:w2.frozen? ⟨B+1+1,1,none⟩=false:=aB dv 1;clear hE dv hb2 hb0 hb1
 go_wp2_with (simp only[fA];go_simp)
 refine bodyPost_ret (v:=.agg #[.complex .f64 N1 N2,.int .i64 n.2.2]) (by simp[results,Tryz.results180,go_sem,e0,e1]) rfl ⟨rfl,?_⟩
 rw[hB];exact(ag.setCell qO _).setCell qO _
theorem afX(x y:EB)(w:World)
  (HP:Hid (∀w,Calls Tryz.prog 179 #[.agg #[.complex .f64 x.wa x.wb,.float .f64 x.sh],.agg #[.complex .f64 y.wa y.wb,.float .f64 y.sh]] w fun r w'=>r=.returned (.bool true)/\Below w.heap.size w w')):
  Calls Tryz.prog 123 #[.agg x.cells,.agg y.cells] w fun r w'=>r=.returned (.tuple #[.agg #[.complex .f64 0 0,.int .i64 0],.bool false])/\Below w.heap.size w w':=by
 obtain⟨wa,wb,sh,fa,fb,ta,tb⟩:=x;obtain⟨iV,iW,sh',mi,mj,mn,mq⟩:=y;simp only[EB.cells] at*
 go_enter Tryz.func123,Tryz.ntmps123
 go_wp2_with fail
 have hs1:w.heap.size+1+1=((w.alloc (.cells #[.complex .f64 wa wb,.float .f64 sh,.complex .f64 fa fb,.complex .f64 ta tb] 124)).alloc (.cells #[.complex .f64 iV iW,.float .f64 sh',.complex .f64 mi mj,.complex .f64 mn mq] 124)).heap.size:=by simp
 have hb0:Below w.heap.size w ((w.alloc (.cells #[.complex .f64 wa wb,.float .f64 sh,.complex .f64 fa fb,.complex .f64 ta tb] 124)).alloc (.cells #[.complex .f64 iV iW,.float .f64 sh',.complex .f64 mi mj,.complex .f64 mn mq] 124)):=((Below.refl _ _).alloc (ae _) _).alloc (by simp) _
 generalize(w.alloc (.cells #[.complex .f64 wa wb,.float .f64 sh,.complex .f64 fa fb,.complex .f64 ta tb] 124)).alloc (.cells #[.complex .f64 iV iW,.float .f64 sh',.complex .f64 mi mj,.complex .f64 mn mq] 124)=W1 at*;have hE:=heap_alloc_new W1 (.cells #[.complex .f64 0 0,.int .i64 0] 83);have hb2:=hb0.alloc (by omega) (.cells #[.complex .f64 0 0,.int .i64 0] 83)
 have hz:W1.heap.size<(W1.alloc (.cells #[.complex .f64 0 0,.int .i64 0] 83)).heap.size:=by simp
 generalize W1.alloc (.cells #[.complex .f64 0 0,.int .i64 0] 83)=W at*;generalize hB:w.heap.size=B at*;rw[<-hs1] at hE hz;refine(HP.out _).mono ?_;rintro e w1 ⟨rfl,hb1⟩;have dv:=(hb1.block _ hz).trans hE;have ag:=hb2.trans (hb1.mono (by omega))
 have e0:w1.cell? ⟨B+1+1,0,none⟩=some (.complex .f64 0 0):=cell_of dv 0;have e1:w1.cell? ⟨B+1+1,1,none⟩=some (.int .i64 0):=cell_of dv 1;have z0:w1.frozen? ⟨B+1+1,0,none⟩=false:=aB dv 0;have z1:w1.frozen? ⟨B+1+1,1,none⟩=false:=aB dv 1;have qO:B<=B+1+1:=by omega
 clear hE dv hb2 hb0 hb1 hs1
 go_wp2_with (simp only[fA];go_simp)
 refine bodyPost_ret (v:=.tuple #[.agg #[.complex .f64 0 0,.int .i64 0],.bool false]) (by simp[results,Tryz.results123,go_sem,e0,e1]) rfl ⟨rfl,?_⟩
 rw[hB];exact(ag.setCell qO _).setCell qO _
theorem afY(x y:EB)(N1 N2:Nat)(P:Int)(u1 u2:Bool)(w:World)
  (HP:Hid (∀w,Calls Tryz.prog 179 #[.agg #[.complex .f64 x.wa x.wb,.float .f64 x.sh],.agg #[.complex .f64 y.wa y.wb,.float .f64 y.sh]] w fun r w'=>r=.returned (.bool false)/\Below w.heap.size w w'))
  (HC:Hid (∀w,Calls Tryz.prog 180 #[.agg #[.complex .f64 x.wa x.wb,.float .f64 x.sh],.agg #[.complex .f64 y.wa y.wb,.float .f64 y.sh]] w fun r w'=>r=.returned (.agg #[.complex .f64 N1 N2,.int .i64 P])/\Below w.heap.size w w'))
  (HX:Hid (∀w,Calls Tryz.prog 62 #[.agg x.cells,.agg #[.complex .f64 N1 N2,.int .i64 P]] w fun r w'=>r=.returned (.bool u1)/\Below w.heap.size w w'))
  (HY:Hid (∀w,Calls Tryz.prog 62 #[.agg y.cells,.agg #[.complex .f64 N1 N2,.int .i64 P]] w fun r w'=>r=.returned (.bool u2)/\Below w.heap.size w w')):
  Calls Tryz.prog 123 #[.agg x.cells,.agg y.cells] w fun r w'=>r=.returned (.tuple #[.agg #[.complex .f64 N1 N2,.int .i64 P],.bool (u1&&u2)])/\Below w.heap.size w w':=by
 obtain⟨wa,wb,sh,fa,fb,ta,tb⟩:=x;obtain⟨iV,iW,sh',mi,mj,mn,mq⟩:=y;simp only[EB.cells] at*
 go_enter Tryz.func123,Tryz.ntmps123
 go_wp2_with fail
 have hs1:w.heap.size+1+1=((w.alloc (.cells #[.complex .f64 wa wb,.float .f64 sh,.complex .f64 fa fb,.complex .f64 ta tb] 124)).alloc (.cells #[.complex .f64 iV iW,.float .f64 sh',.complex .f64 mi mj,.complex .f64 mn mq] 124)).heap.size:=by simp
 have hb0:Below w.heap.size w ((w.alloc (.cells #[.complex .f64 wa wb,.float .f64 sh,.complex .f64 fa fb,.complex .f64 ta tb] 124)).alloc (.cells #[.complex .f64 iV iW,.float .f64 sh',.complex .f64 mi mj,.complex .f64 mn mq] 124)):=((Below.refl _ _).alloc (ae _) _).alloc (by simp) _
 have hX:((w.alloc (.cells #[.complex .f64 wa wb,.float .f64 sh,.complex .f64 fa fb,.complex .f64 ta tb] 124)).alloc (.cells #[.complex .f64 iV iW,.float .f64 sh',.complex .f64 mi mj,.complex .f64 mn mq] 124)).heap[w.heap.size]?=some (.cells #[.complex .f64 wa wb,.float .f64 sh,.complex .f64 fa fb,.complex .f64 ta tb] 124 (0,0)):=by
  rw[Below.heap_alloc _ _ _ (by simp)];exact heap_alloc_new _ _
 have hY:((w.alloc (.cells #[.complex .f64 wa wb,.float .f64 sh,.complex .f64 fa fb,.complex .f64 ta tb] 124)).alloc (.cells #[.complex .f64 iV iW,.float .f64 sh',.complex .f64 mi mj,.complex .f64 mn mq] 124)).heap[w.heap.size+1]?=some (.cells #[.complex .f64 iV iW,.float .f64 sh',.complex .f64 mi mj,.complex .f64 mn mq] 124 (0,0)):=by
  have:=heap_alloc_new (w.alloc (.cells #[.complex .f64 wa wb,.float .f64 sh,.complex .f64 fa fb,.complex .f64 ta tb] 124)) (.cells #[.complex .f64 iV iW,.float .f64 sh',.complex .f64 mi mj,.complex .f64 mn mq] 124);simpa using this
 generalize(w.alloc (.cells #[.complex .f64 wa wb,.float .f64 sh,.complex .f64 fa fb,.complex .f64 ta tb] 124)).alloc (.cells #[.complex .f64 iV iW,.float .f64 sh',.complex .f64 mi mj,.complex .f64 mn mq] 124)=W1 at*;have hE:=heap_alloc_new W1 (.cells #[.complex .f64 0 0,.int .i64 0] 83);have Va:=(Below.heap_alloc W1 (.cells #[.complex .f64 0 0,.int .i64 0] 83) w.heap.size (by omega)).trans hX
 have Vb:=(Below.heap_alloc W1 (.cells #[.complex .f64 0 0,.int .i64 0] 83) (w.heap.size+1) (by omega)).trans hY
 have hb2:=hb0.alloc (by omega) (.cells #[.complex .f64 0 0,.int .i64 0] 83)
 have hz:W1.heap.size<(W1.alloc (.cells #[.complex .f64 0 0,.int .i64 0] 83)).heap.size:=by simp
 generalize W1.alloc (.cells #[.complex .f64 0 0,.int .i64 0] 83)=W at*;generalize hB:w.heap.size=B at*;rw[<-hs1] at hE hz;clear hX hY hb0 hs1;refine(HP.out _).mono ?_;rintro e w1 ⟨rfl,hb1⟩;have hz1:B+1+1<w1.heap.size:=aL hz hb1.size;have dv:=(hb1.block _ hz).trans hE;have Av:=(hb1.block B (by omega)).trans Va
 have Im:=(hb1.block (B+1) (by omega)).trans Vb
 have sM:=hb2.trans (hb1.mono (by omega))
 clear hE Va Vb hb2 hb1;have x0:w1.cell? ⟨B,0,none⟩=some (.complex .f64 wa wb):=cell_of Av 0;have x1:w1.cell? ⟨B,1,none⟩=some (.float .f64 sh):=cell_of Av 1;have y0:w1.cell? ⟨B+1,0,none⟩=some (.complex .f64 iV iW):=cell_of Im 0;have y1:w1.cell? ⟨B+1,1,none⟩=some (.float .f64 sh'):=cell_of Im 1
 go_wp2_with fail
 refine(HC.out _).mono ?_;rintro e w2 ⟨rfl,hb3⟩;have hz2:B+1+1<w2.heap.size:=aL hz1 hb3.size;have Vc:=(hb3.block _ hz1).trans dv;have Vd:=(hb3.block B (by omega)).trans Av
 have Ve:=(hb3.block (B+1) (by omega)).trans Im
 have pC:=sM.trans (hb3.mono (by omega))
 clear dv Av Im sM hb3 x0 x1 y0 y1
 go_wp2_with fail
 have hN:=heap_alloc_new w2 (.cells #[.complex .f64 0 0,.int .i64 0] 83);have Dt:=(Below.heap_alloc w2 (.cells #[.complex .f64 0 0,.int .i64 0] 83) _ hz2).trans Vc;have Vf:=(Below.heap_alloc w2 (.cells #[.complex .f64 0 0,.int .i64 0] 83) B (by omega)).trans Vd
 have nj:=(Below.heap_alloc w2 (.cells #[.complex .f64 0 0,.int .i64 0] 83) (B+1) (by omega)).trans Ve
 have jP:=pC.alloc (by omega) (.cells #[.complex .f64 0 0,.int .i64 0] 83)
 have hz3:w2.heap.size<(w2.alloc (.cells #[.complex .f64 0 0,.int .i64 0] 83)).heap.size:=by simp
 generalize w2.alloc (.cells #[.complex .f64 0 0,.int .i64 0] 83)=W3 at*;generalize w2.heap.size=M at*;clear Vc Vd Ve pC;have n0:W3.cell? ⟨M,0,none⟩=some (.complex .f64 0 0):=cell_of hN 0;have n1:W3.cell? ⟨M,1,none⟩=some (.int .i64 0):=cell_of hN 1;have f0:W3.frozen? ⟨M,0,none⟩=false:=aB hN 0;have f1:W3.frozen? ⟨M,1,none⟩=false:=aB hN 1
 go_wp2_with (simp only[fA];go_simp)
 have yo:M≠B/\M≠B+1/\M≠B+1+1:=by omega
 have Du:=(bg (o:=1) yo.1.symm (.int .i64 P)).trans ((bg (o:=0) yo.1.symm (.complex .f64 N1 N2)).trans Vf);have Dv:=(bg (o:=1) yo.2.1.symm (.int .i64 P)).trans ((bg (o:=0) yo.2.1.symm (.complex .f64 N1 N2)).trans nj);have Aw:=(bg (o:=1) yo.2.2.symm (.int .i64 P)).trans ((bg (o:=0) yo.2.2.symm (.complex .f64 N1 N2)).trans Dt);have a8:((W3.setCell ⟨M,0,none⟩ (.complex .f64 N1 N2)).setCell ⟨M,1,none⟩ (.int .i64 P)).cell? ⟨M,0,none⟩=some (.complex .f64 N1 N2):=by simp[go_sem,n0]
 have a9:((W3.setCell ⟨M,0,none⟩ (.complex .f64 N1 N2)).setCell ⟨M,1,none⟩ (.int .i64 P)).cell? ⟨M,1,none⟩=some (.int .i64 P):=by simp[go_sem,n1]
 have pD:=(jP.setCell (p:=⟨M,0,none⟩) (by show B<=M;omega) (.complex .f64 N1 N2)).setCell (p:=⟨M,1,none⟩) (by show B<=M;omega) (.int .i64 P)
 have yq:M<((W3.setCell ⟨M,0,none⟩ (.complex .f64 N1 N2)).setCell ⟨M,1,none⟩ (.int .i64 P)).heap.size:=by simpa using hz3
 generalize(W3.setCell ⟨M,0,none⟩ (.complex .f64 N1 N2)).setCell ⟨M,1,none⟩ (.int .i64 P)=W4 at*;have dA:B+1+1<W4.heap.size:=ab7 hz2 yq;have kO:B<=W4.heap.size:=by omega
 clear Vf nj Dt jP n0 n1 f0 f1 hN hz3;have a0:=cell_of Du 0;have a1:=cell_of Du 1;have a2:=cell_of Du 2;have a3:=cell_of Du 3;have a4:=cell_of Dv 0;have a5:=cell_of Dv 1;have a6:=cell_of Dv 2;have a7:=cell_of Dv 3;simp at a0 a1 a2 a3 a4 a5 a6 a7;have aq0:W4.cell? ⟨B+1+1,0,none⟩=some (.complex .f64 0 0):=cell_of Aw 0;have aq1:W4.cell? ⟨B+1+1,1,none⟩=some (.int .i64 0):=cell_of Aw 1;have ay0:W4.frozen? ⟨B+1+1,0,none⟩=false:=aB Aw 0;have ay1:W4.frozen? ⟨B+1+1,1,none⟩=false:=aB Aw 1;clear Du Dv;obtain⟨m1,m2,m3⟩:=yo;have m4:=Ne.symm m3;have lU:¬(B=B+1+1):=by omega
 have xJ:¬(B+1+1=B):=by omega
 have hn3:¬(B+1=B+1+1):=by omega
 have hn4:¬(B+1+1=B+1):=by omega
 have hn5:¬(B=B+2):=by omega
 have hn6:¬(B+2=B):=by omega
 cases u1
 ·refine wp_region_held_drew (S:=(fun w'=>w'.cell? ⟨B,0,none⟩=some (.complex .f64 wa wb)/\w'.cell? ⟨B,1,none⟩=some (.float .f64 sh)/\w'.cell? ⟨B,2,none⟩=some (.complex .f64 fa fb)/\w'.cell? ⟨B,3,none⟩=some (.complex .f64 ta tb)/\w'.cell? ⟨B+1,0,none⟩=some (.complex .f64 iV iW)/\w'.cell? ⟨B+1,1,none⟩=some (.float .f64 sh')/\w'.cell? ⟨B+1,2,none⟩=some (.complex .f64 mi mj)/\w'.cell? ⟨B+1,3,none⟩=some (.complex .f64 mn mq)/\w'.cell? ⟨M,0,none⟩=some (.complex .f64 N1 N2)/\w'.cell? ⟨M,1,none⟩=some (.int .i64 P)/\w'.frozen? ⟨B+1+1,0,none⟩=false/\w'.frozen? ⟨B+1+1,1,none⟩=false)) (by kernel_rfl) ⟨a0,a1,a2,a3,a4,a5,a6,a7,a8,a9,ay0,ay1⟩ (fun hHeld=>?_)
  refine wpAnyH_take (i:=0) (oi:={dst:=some 18,op:=_,type:=_,pos:=_,after:=_,guard:=_}) (v:=?_) rfl (by kernel_rfl) (by kernel_rfl) (by kernel_rfl) (fun _ _ _ h=>h) (Or.inl ⟨by rfl,?_⟩) hHeld ?_
  rotate_left
  ·intro w' aw;obtain⟨s0,s1,s2,s3,s4,s5,s6,s7,s8,s9,Dw,Dx⟩:=aw
   go_simp
   try with_reducible rfl
  simp only[Act.put,aC,aD,aA];refine wpAnyH_take (i:=1) (oi:={dst:=some 19,op:=_,type:=_,pos:=_,after:=_,guard:=_}) (v:=?_) rfl (by kernel_rfl) (by kernel_rfl) (by kernel_rfl) (fun _ _ _ h=>h) (Or.inl ⟨by rfl,?_⟩) hHeld ?_
  rotate_left
  ·intro w' aw;obtain⟨s0,s1,s2,s3,s4,s5,s6,s7,s8,s9,Dw,Dx⟩:=aw
   go_simp
   try with_reducible rfl
  simp only[Act.put,aC,aD,aA];refine wpAnyH_take (i:=2) (oi:={dst:=some 20,op:=_,type:=_,pos:=_,after:=_,guard:=_}) (v:=?_) rfl (by kernel_rfl) (by kernel_rfl) (by kernel_rfl) (fun _ _ _ h=>h) (Or.inl ⟨by rfl,?_⟩) hHeld ?_
  rotate_left
  ·intro w' aw;obtain⟨s0,s1,s2,s3,s4,s5,s6,s7,s8,s9,Dw,Dx⟩:=aw
   go_simp
   try with_reducible rfl
  simp only[Act.put,aC,aD,aA];refine wpAnyH_ready (rs:=[3]) (by kernel_rfl) (by simp) ?_
  refine AllReadyH.cons rfl (fun K hK=>?_) AllReadyH.nil
  go_simp
  refine(HX.out _).mono ?_;rintro e w6 ⟨rfl,ax⟩;have hbz:B+1+1<w6.heap.size:=aL dA ax.size;have jQ:M<w6.heap.size:=aL yq ax.size;have b0:=(ax.cell (p:=⟨B,0,none⟩) (df (df dA))).trans a0;have b1:=(ax.cell (p:=⟨B,1,none⟩) (df (df dA))).trans a1;have b2:=(ax.cell (p:=⟨B,2,none⟩) (df (df dA))).trans a2;have b3:=(ax.cell (p:=⟨B,3,none⟩) (df (df dA))).trans a3;have b4:=(ax.cell (p:=⟨B+1,0,none⟩) (df dA)).trans a4;have b5:=(ax.cell (p:=⟨B+1,1,none⟩) (df dA)).trans a5;have b6:=(ax.cell (p:=⟨B+1,2,none⟩) (df dA)).trans a6;have b7:=(ax.cell (p:=⟨B+1,3,none⟩) (df dA)).trans a7;have b8:=(ax.cell (p:=⟨M,0,none⟩) yq).trans a8;have b9:=(ax.cell (p:=⟨M,1,none⟩) yq).trans a9;have sO:=(ax.block (B+1+1) dA).trans Aw;have Vg:w6.cell? ⟨B+1+1,0,none⟩=some (.complex .f64 0 0):=cell_of sO 0;have Vh:w6.cell? ⟨B+1+1,1,none⟩=some (.int .i64 0):=cell_of sO 1;have MI:w6.frozen? ⟨B+1+1,0,none⟩=false:=aB sO 0;have MJ:w6.frozen? ⟨B+1+1,1,none⟩=false:=aB sO 1
  go_wp2_with fail
  refine hK.out _ _ ⟨b0,b1,b2,b3,b4,b5,b6,b7,b8,b9,MI,MJ⟩ (fun hHeld=>?_)
  clear hK K
  try simp only[Act.put,aC,aD,aA]
  refine wpAnyH_take (i:=4) (oi:={dst:=some 22,op:=_,type:=_,pos:=_,after:=_,guard:=_}) (v:=?_) rfl (by kernel_rfl) (by kernel_rfl) (by kernel_rfl) (fun _ _ _ h=>h) (Or.inl ⟨by rfl,?_⟩) hHeld ?_
  rotate_left
  ·intro w' aw;obtain⟨s0,s1,s2,s3,s4,s5,s6,s7,s8,s9,Dw,Dx⟩:=aw
   go_simp
   try with_reducible rfl
  simp only[Act.put,aC,aD,aA];refine wpAnyH_take (i:=5) (oi:={dst:=some 23,op:=_,type:=_,pos:=_,after:=_,guard:=_}) (v:=undef) rfl (by kernel_rfl) (by kernel_rfl) (by kernel_rfl) (fun _ _ _ h=>h) (Or.inr ⟨by kernel_rfl,rfl⟩) hHeld ?_
  simp only[Act.put,aC,aD,aA];refine wpAnyH_take (i:=6) (oi:={dst:=some 24,op:=_,type:=_,pos:=_,after:=_,guard:=_}) (v:=undef) rfl (by kernel_rfl) (by kernel_rfl) (by kernel_rfl) (fun _ _ _ h=>h) (Or.inr ⟨by kernel_rfl,rfl⟩) hHeld ?_
  simp only[Act.put,aC,aD,aA];refine wpAnyH_take (i:=7) (oi:={dst:=some 25,op:=_,type:=_,pos:=_,after:=_,guard:=_}) (v:=undef) rfl (by kernel_rfl) (by kernel_rfl) (by kernel_rfl) (fun _ _ _ h=>h) (Or.inr ⟨by kernel_rfl,rfl⟩) hHeld ?_
  simp only[Act.put,aC,aD,aA];refine wpAnyH_take (i:=8) (oi:={dst:=some 26,op:=_,type:=_,pos:=_,after:=_,guard:=_}) (v:=?_) rfl (by kernel_rfl) (by kernel_rfl) (by kernel_rfl) (fun _ _ _ h=>h) (Or.inl ⟨by rfl,?_⟩) hHeld ?_
  rotate_left
  ·intro w' aw;obtain⟨s0,s1,s2,s3,s4,s5,s6,s7,s8,s9,Dw,Dx⟩:=aw
   go_simp
   try with_reducible rfl
  simp only[Act.put,aC,aD,aA];refine wpAnyH_ready (rs:=[9]) (by kernel_rfl) (by simp) ?_
  refine AllReadyH.cons rfl (fun K hK=>?_) AllReadyH.nil
  go_simp
  simp only[fA]
  go_simp
  refine hK.out _ _ ?_ (fun hHeld=>?_)
  ·refine⟨?_,?_,?_,?_,?_,?_,?_,?_,?_,?_,?_,?_⟩<;>simp[World.frozen?_setCell,go_sem,b0,b1,b2,b3,b4,b5,b6,b7,b8,b9,MI,MJ]
  clear hK K
  try simp only[Act.put,aC,aD,aA]
  refine wpAnyH_take (i:=10) (oi:={dst:=some 5,op:=_,type:=_,pos:=_,after:=_,guard:=_}) (v:=?_) rfl (by kernel_rfl) (by kernel_rfl) (by kernel_rfl) (fun _ _ _ h=>h) (Or.inl ⟨by rfl,?_⟩) hHeld ?_
  rotate_left
  ·intro w' aw;obtain⟨s0,s1,s2,s3,s4,s5,s6,s7,s8,s9,Dw,Dx⟩:=aw
   go_simp
   try with_reducible rfl
  simp only[Act.put,aC,aD,aA];refine wpAnyH_done (by kernel_rfl) ?_ _
  go_wp2_with fail
  refine bodyPost_ret (v:=.tuple #[.agg #[.complex .f64 N1 N2,.int .i64 P],.bool false]) (by simp[results,Tryz.results123,go_sem,Vg,Vh]) rfl ⟨rfl,?_⟩
  rw[hB];exact((pD.drew.trans (ax.mono kO)).setCell (by show B<=B+1+1;omega) _).setCell (by show B<=B+1+1;omega) _
 ·go_region_held3 (fun w'=>w'.cell? ⟨B,0,none⟩=some (.complex .f64 wa wb)/\w'.cell? ⟨B,1,none⟩=some (.float .f64 sh)/\w'.cell? ⟨B,2,none⟩=some (.complex .f64 fa fb)/\w'.cell? ⟨B,3,none⟩=some (.complex .f64 ta tb)/\w'.cell? ⟨B+1,0,none⟩=some (.complex .f64 iV iW)/\w'.cell? ⟨B+1,1,none⟩=some (.float .f64 sh')/\w'.cell? ⟨B+1,2,none⟩=some (.complex .f64 mi mj)/\w'.cell? ⟨B+1,3,none⟩=some (.complex .f64 mn mq)/\w'.cell? ⟨M,0,none⟩=some (.complex .f64 N1 N2)/\w'.cell? ⟨M,1,none⟩=some (.int .i64 P)/\w'.frozen? ⟨B+1+1,0,none⟩=false/\w'.frozen? ⟨B+1+1,1,none⟩=false) (first |go_keep|(go_split_ands;refine⟨?_,?_,?_,?_,?_,?_,?_,?_,?_,?_,?_,?_⟩<;>first |(simp[World.frozen?_setCell, *];done)|(simp[*];done))) (first
   |(go_at_call_of 62 (Value.agg #[Value.complex FloatKind.f64 wa wb,Value.float FloatKind.f64 sh,Value.complex FloatKind.f64 fa fb,Value.complex FloatKind.f64 ta tb]);refine(HX.out _).mono ?_;rintro e w6 ⟨rfl,ax⟩;have hbz:B+1+1<w6.heap.size:=aL dA ax.size;have jQ:M<w6.heap.size:=aL yq ax.size;have b0:=(ax.cell (p:=⟨B,0,none⟩) (df (df dA))).trans a0;have b1:=(ax.cell (p:=⟨B,1,none⟩) (df (df dA))).trans a1;have b2:=(ax.cell (p:=⟨B,2,none⟩) (df (df dA))).trans a2;have b3:=(ax.cell (p:=⟨B,3,none⟩) (df (df dA))).trans a3;have b4:=(ax.cell (p:=⟨B+1,0,none⟩) (df dA)).trans a4;have b5:=(ax.cell (p:=⟨B+1,1,none⟩) (df dA)).trans a5;have b6:=(ax.cell (p:=⟨B+1,2,none⟩) (df dA)).trans a6;have b7:=(ax.cell (p:=⟨B+1,3,none⟩) (df dA)).trans a7;have b8:=(ax.cell (p:=⟨M,0,none⟩) yq).trans a8;have b9:=(ax.cell (p:=⟨M,1,none⟩) yq).trans a9;have sO:=(ax.block (B+1+1) dA).trans Aw;have Vg:w6.cell? ⟨B+1+1,0,none⟩=some (.complex .f64 0 0):=cell_of sO 0;have Vh:w6.cell? ⟨B+1+1,1,none⟩=some (.int .i64 0):=cell_of sO 1;have MI:w6.frozen? ⟨B+1+1,0,none⟩=false:=aB sO 0;have MJ:w6.frozen? ⟨B+1+1,1,none⟩=false:=aB sO 1)
   |(go_at_call_of 62 (Value.agg #[Value.complex FloatKind.f64 iV iW,Value.float FloatKind.f64 sh',Value.complex FloatKind.f64 mi mj,Value.complex FloatKind.f64 mn mq]);refine(HY.out _).mono ?_;rintro e w7 ⟨rfl,aT⟩;have hcz:B+1+1<w7.heap.size:=aL hbz aT.size;have hcm:M<w7.heap.size:=aL jQ aT.size;have c0:=(aT.cell (p:=⟨B,0,none⟩) (df (df hbz))).trans b0;have c1:=(aT.cell (p:=⟨B,1,none⟩) (df (df hbz))).trans b1;have c2:=(aT.cell (p:=⟨B,2,none⟩) (df (df hbz))).trans b2;have c3:=(aT.cell (p:=⟨B,3,none⟩) (df (df hbz))).trans b3;have c4:=(aT.cell (p:=⟨B+1,0,none⟩) (df hbz)).trans b4;have c5:=(aT.cell (p:=⟨B+1,1,none⟩) (df hbz)).trans b5;have c6:=(aT.cell (p:=⟨B+1,2,none⟩) (df hbz)).trans b6;have c7:=(aT.cell (p:=⟨B+1,3,none⟩) (df hbz)).trans b7;have c8:=(aT.cell (p:=⟨M,0,none⟩) jQ).trans b8;have c9:=(aT.cell (p:=⟨M,1,none⟩) jQ).trans b9;have hce:=(aT.block (B+1+1) hbz).trans sO;have cq0:w7.cell? ⟨B+1+1,0,none⟩=some (.complex .f64 0 0):=cell_of hce 0;have cq1:w7.cell? ⟨B+1+1,1,none⟩=some (.int .i64 0):=cell_of hce 1;have cy0:w7.frozen? ⟨B+1+1,0,none⟩=false:=aB hce 0;have cy1:w7.frozen? ⟨B+1+1,1,none⟩=false:=aB hce 1)
   |(simp only[fA];go_simp))
  go_wp2_with fail
  refine bodyPost_ret (v:=.tuple #[.agg #[.complex .f64 N1 N2,.int .i64 P],.bool u2]) (by simp[results,Tryz.results123,go_sem,cq0,cq1]) rfl ⟨rfl,?_⟩
  rw[hB];exact(((pD.drew.trans (ax.mono kO)).trans (aT.mono (eo (df (df hbz))))).setCell (by show B<=B+1+1;omega) _).setCell (by show B<=B+1+1;omega) _
end Go.Proofs.YtkjhhooecopolaaGreatDoor
namespace Go.Proofs.YtkjhhooecopolaaGreatDoor.Ge
theorem Io{n:Nd}(h:Can n)(e:Pt×Pt):hq (aj n) e=fo (n.1,n.2.1) n.2.2 e:=by
 obtain⟨X,Y,P⟩:=n;have hp:0<P:=h.pos;obtain⟨g,g0,e1,e2,gp⟩:=zY (n:=X) (d:=P) (by omega)
 obtain⟨k,k0,e3,e4,kp⟩:=zY (n:=Y) (d:=P) (by omega)
 have qB:=aP (gp.2 hp) (kp.2 hp);unfold hq aj;show fo ((aR X P).1*(aR Y P).2,(aR Y P).1*(aR X P).2) ((aR X P).2*(aR Y P).2) e=fo (X,Y) P e;rw[<-MH (x:=P*X) (y:=P*Y) (d:=P*P) hp rfl rfl rfl e];generalize aR X P=A at*;generalize aR Y P=B at*;have q1:P*X=g*k*(A.1*B.2):=by rw[e1];grind
 have q2:P*Y=g*k*(B.1*A.2):=by rw[e3];grind
 have q3:P*P=g*k*(A.2*B.2):=by grind
 exact(MH qB q1 q2 q3 e).symm
end Go.Proofs.YtkjhhooecopolaaGreatDoor.Ge
namespace Go.Proofs.YtkjhhooecopolaaGreatDoor
open Go.RowKit
theorem qP{n:Ge.Nd}(h:dm n.1 n.2.1 n.2.2):Fl (floatOfInt .f64 n.1) n.1/\Fl (floatOfInt .f64 n.2.1) n.2.1:=by
 have hx:=h.x;have hy:=h.y;exact⟨pS (by omega),pS (by omega)⟩
theorem af3(x y:EB)(e f:Ed)(hx:iT x e)(hy:iT y f)(he:fg e)(hf:fg f):
  ∃(v:Ge.Nd)(b:Bool)(nv:Value),(∀w,Calls Tryz.prog 123 #[.agg x.cells,.agg y.cells] w fun r w'=>r=.returned (.tuple #[nv,.bool b])/\Below w.heap.size w w')
   /\(∃N1 N2 P,nv=.agg #[.complex .f64 N1 N2,.int .i64 P])
   /\(b=true↔Ge.bw e f≠0/\Ge.hq (Ge.dE e f) e=true/\Ge.hq (Ge.dE e f) f=true)
   /\(b=true->nv=gS v/\Ge.Can v/\Ge.aj v=Ge.dE e f/\dm v.1 v.2.1 v.2.2):=by
 by_cases hc:Ge.bw e f=0
 ·refine⟨(0,0,1),false,_,fun w=>afX x y w (fun w=>?_),⟨_,_,_,rfl⟩,?_,?_⟩
  ·have:=U8 x y e f hx hy he hf w;rw[decide_eq_true hc] at this;exact this
  ·simp[hc]
  ·simp
 ·obtain⟨n,n1,n2,n3,hC⟩:=afV x y e f hx hy he hf hc;obtain⟨f1,f2⟩:=qP n3;refine⟨n,Ge.hq (Ge.dE e f) e&&Ge.hq (Ge.dE e f) f,_,fun w=>afY x y (floatOfInt .f64 n.1) (floatOfInt .f64 n.2.1) n.2.2 _ _ w (fun w=>?_) hC (fun w=>?_) (fun w=>?_),⟨_,_,_,rfl⟩,?_,?_⟩
  ·have:=U8 x y e f hx hy he hf w;rw[decide_eq_false hc] at this;exact this
  ·rw[<-n2,Ge.Io n1];exact CT x e hx he f1 f2 n3 w
  ·rw[<-n2,Ge.Io n1];exact CT y f hy hf f1 f2 n3 w
  ·simp[hc]
  ·exact fun _=>⟨rfl,n1,n2,n3⟩
end Go.Proofs.YtkjhhooecopolaaGreatDoor
namespace Go.Proofs.YtkjhhooecopolaaGreatDoor
open Go.RowKit
theorem Vi{a:Nat}{x:Int}(h:Fl a x)(w:World):
  Calls Tryz.prog 227 #[.float .f64 a] w fun r w'=>r=.returned (.bool false)/\w'=w:=by
 have q:(FloatKind.f64.format.order a a == some Ordering.eq)=true:=by rw[rW h h];simp
 have q2:(FloatKind.f64.format.order a a)=some Ordering.eq:=by simpa using q
 go_enter Tryz.func227,Tryz.ntmps227
 go_wp2_with fail
 go_ret
 exact⟨by simp,rfl⟩
theorem yr{a b:Nat}{x y:Int}(h1:Fl a x)(h2:Fl b y)(w:World):
  Calls Tryz.prog 183 #[.float .f64 a,.float .f64 b] w fun r w'=>r=.returned (.int .i64 (x-y).sign)/\w'=w:=by
 have H1:Hid (∀w,Calls Tryz.prog 227 #[.float .f64 a] w fun r w'=>r=.returned (.bool false)/\w'=w):=fun w=>Vi h1 w
 have H2:Hid (∀w,Calls Tryz.prog 227 #[.float .f64 b] w fun r w'=>r=.returned (.bool false)/\w'=w):=fun w=>Vi h2 w
 have q1:=zS h1 h2;have q2:=GU h1 h2;rcases fk x y with h|h|h
 ·have hs:(x-y).sign= -1:=FL (by omega)
  have hq:(FloatKind.f64.format.order a b == some Ordering.lt)=true:=by rw[q1];simp[h]
  rw[hs];clear q1 q2
  go_enter Tryz.func183,Tryz.ntmps183
  go_wp2_with fail
  refine(H1.out _).mono ?_;rintro e w1 ⟨rfl,rfl⟩
  go_wp2_with fail
  refine(H2.out _).mono ?_;rintro e w2 ⟨rfl,rfl⟩
  go_wp2_with fail
  go_ret
  exact⟨rfl,rfl⟩
 ·have hs:(x-y).sign=0:=by rw[h,Int.sub_self];rfl
  have hq:(FloatKind.f64.format.order a b == some Ordering.lt)=false:=by rw[q1];simp;omega
  have hq2:(FloatKind.f64.format.order a b == some Ordering.gt)=false:=by rw[q2];simp;omega
  rw[hs];clear q1 q2
  go_enter Tryz.func183,Tryz.ntmps183
  go_wp2_with fail
  refine(H1.out _).mono ?_;rintro e w1 ⟨rfl,rfl⟩
  go_wp2_with fail
  refine(H2.out _).mono ?_;rintro e w2 ⟨rfl,rfl⟩
  go_wp2_with fail
  go_ret
  exact⟨rfl,rfl⟩
 ·have hs:(x-y).sign=1:=pM (by omega)
  have hq:(FloatKind.f64.format.order a b == some Ordering.lt)=false:=by rw[q1];simp;omega
  have hq2:(FloatKind.f64.format.order a b == some Ordering.gt)=true:=by rw[q2];simp[h]
  rw[hs];clear q1 q2
  go_enter Tryz.func183,Tryz.ntmps183
  go_wp2_with fail
  refine(H1.out _).mono ?_;rintro e w1 ⟨rfl,rfl⟩
  go_wp2_with fail
  refine(H2.out _).mono ?_;rintro e w2 ⟨rfl,rfl⟩
  go_wp2_with fail
  go_ret
  exact⟨rfl,rfl⟩
end Go.Proofs.YtkjhhooecopolaaGreatDoor
