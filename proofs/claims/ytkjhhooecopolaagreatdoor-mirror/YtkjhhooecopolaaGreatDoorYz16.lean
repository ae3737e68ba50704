import Derived.Test.YtkjhhooecopolaaGreatDoorYz15
set_option maxRecDepth 100000
set_option maxHeartbeats 4000000
namespace Go.Proofs.YtkjhhooecopolaaGreatDoor
open Go.RowKit
theorem IX{e:Ed}(h:fB e):(-100<=e.2.1-e.1.1/\e.2.1-e.1.1<=100)/\(-100<=e.2.2-e.1.2/\e.2.2-e.1.2<=100):=by
 obtain⟨a,b,c,d⟩:=h;unfold small at a b c d;omega
theorem VB(x y:EB)(e f:Ed)(hx:jc x e)(hy:jc y f)(he:fB e)(hf:fB f)(w:World):
  Calls Tryz.prog 179 #[.agg #[.complex .f64 x.wa x.wb,.float .f64 x.sh],.agg #[.complex .f64 y.wa y.wb,.float .f64 y.sh]] w fun r w'=>r=.returned (.bool (decide (Ge.bG e f=0)))/\Below w.heap.size w w':=by
 have we:=IX he;have wf:=IX hf;obtain⟨im,f1,hl⟩:=Dh hx.wa hx.wb hy.wa hy.wb (by unfold sm;omega) (by unfold sm;omega) (by unfold sm;omega) (by unfold sm;omega)
 have HL:Hid (∀w,Calls Tryz.prog 101 #[.complex .f64 x.wa x.wb,.complex .f64 y.wa y.wb] w fun e w'=>e=.returned (.float .f64 im)/\w'=w):=hl
 have q:=sG f1 kO;have hc:decide (Ge.bG e f=0)=(FloatKind.f64.format.order im 0 == some .eq):=by rw[q];rfl
 rw[hc];clear hl q hc f1 hx hy he hf we wf;obtain⟨wa,wb,sh,fa,fb,ta,tb⟩:=x;obtain⟨je,jf,sh',mH,mI,mJ,mK⟩:=y;simp only at*;have hb0:Below w.heap.size w ((w.alloc (.cells #[.complex .f64 wa wb,.float .f64 sh] 122)).alloc (.cells #[.complex .f64 je jf,.float .f64 sh'] 122)):=((Below.refl _ _).alloc (ai _) _).alloc (by simp) _
 go_enter Tryz.func179,Tryz.ntmps179
 go_wp2_with fail
 refine(HL.out _).mono ?_;rintro e w1 ⟨rfl,rfl⟩
 go_wp2_with fail
 go_ret
 exact⟨rfl,hb0⟩
theorem agm(e f:Ed):(f.2.1-f.1.1)*((e.2.1-e.1.1)*e.1.2-(e.2.2-e.1.2)*e.1.1)-(e.2.1-e.1.1)*((f.2.1-f.1.1)*f.1.2-(f.2.2-f.1.2)*f.1.1)=Ge.mX e f:=by
 unfold Ge.mX Ge.mT Ge.bG;grind
theorem agn(e f:Ed):(f.2.2-f.1.2)*((e.2.1-e.1.1)*e.1.2-(e.2.2-e.1.2)*e.1.1)-(e.2.2-e.1.2)*((f.2.1-f.1.1)*f.1.2-(f.2.2-f.1.2)*f.1.1)=Ge.mY e f:=by
 unfold Ge.mY Ge.mT Ge.bG;grind
theorem VC{a b s z:Nat}{x y t:Int}(h1:Fl a x)(h2:Fl b y)(h3:Fl s t)(hz:Fl z 0)(b1:sm x)(b2:sm y)(b3:sm t):
  ∃re im,(∀ty w,(binOp .mul ty (.complex .f64 a b) (.complex .f64 s z)).run Tryz.prog w=.ok (.complex .f64 re im) w)/\Fl re (x*t)/\Fl im (y*t):=by
 have m1:=pq b1 b3;have m2:=pq b2 b3;obtain⟨re,im,e,f1,f2⟩:=Mn h1 h2 h3 hz (by omega) (by omega) (by omega) (by omega) (by omega) (by omega)
 refine⟨re,im,fun ty w=>run_complex_mul (P:=Tryz.prog) w ty a b s z re im e,?_,?_⟩
 ·have:x*t=x*t-y*0:=by omega
  rw[this];exact f1
 ·have:y*t=x*0+y*t:=by omega
  rw[this];exact f2
theorem ago(x y:EB)(e f:Ed)(hx:jc x e)(hy:jc y f)(he:fB e)(hf:fB f)(hc:Ge.bG e f≠0):
  ∃n:Ge.Nd,Ge.Can n/\Ge.ay n=Ge.dJ e f/\dC n.1 n.2.1 n.2.2/\∀w,Calls Tryz.prog 180 #[.agg #[.complex .f64 x.wa x.wb,.float .f64 x.sh],.agg #[.complex .f64 y.wa y.wb,.float .f64 y.sh]] w fun r w'=>r=.returned (ie n)/\Below w.heap.size w w':=by
 have we:=IX he;have wf:=IX hf;have cin:=U0 he hf;obtain⟨im,f1,hl⟩:=Dh hx.wa hx.wb hy.wa hy.wb (by unfold sm;omega) (by unfold sm;omega) (by unfold sm;omega) (by unfold sm;omega)
 have hcr:(e.2.1-e.1.1)*(f.2.2-f.1.2)-(e.2.2-e.1.2)*(f.2.1-f.1.1)=Ge.bG e f:=rfl;rw[hcr] at f1;have c1:=f1.int (by omega) (by omega)
 obtain⟨p1,p2,o1,g1,g2⟩:=VC hy.wa hy.wb hx.sh kO (by unfold sm;omega) (by unfold sm;omega) (Hx he)
 obtain⟨r1,r2,o2,k1,k2⟩:=VC hx.wa hx.wb hy.sh kO (by unfold sm;omega) (by unfold sm;omega) (Hx hf)
 have cx:=agm e f;have cy:=agn e f;obtain⟨s1,s2,e3,j1,j2⟩:=Mm g1 g2 k1 k2 (by rw[cx];omega) (by rw[cy];omega)
 have o3:=fun t w=>run_complex_sum (P:=Tryz.prog) w .sub (af rfl) t .f64 p1 p2 r1 r2 s1 s2 e3
 rw[cx] at j1;rw[cy] at j2;obtain⟨n,n1,n2,n3,hN⟩:=IW (Ge.bG e f) j1 j2 (by omega) (by omega) (by omega)
 refine⟨n,n1,n2,n3,fun w=>?_⟩
 have HL:Hid (∀w,Calls Tryz.prog 101 #[.complex .f64 x.wa x.wb,.complex .f64 y.wa y.wb] w fun e w'=>e=.returned (.float .f64 im)/\w'=w):=hl
 generalize Ge.bG e f=C at*;have hc1:∀w,(convert 120 3 (.float .f64 im)).run Tryz.prog w=.ok (.int .i64 C) w:=fun w=>run_convert_float_int w 120 3 .f64 .i64 im C (by rw[Tryz.underlying120];rfl) Tryz.underlying3 c1
 unfold ie at*;generalize floatOfInt .f64 n.1=N1 at*;generalize floatOfInt .f64 n.2.1=N2 at*;have HN:Hid (∀w,Calls Tryz.prog 37 #[.complex .f64 s1 s2,.int .i64 C] w fun e w'=>e=.returned (.agg #[.complex .f64 N1 N2,.int .i64 n.2.2])/\Below w.heap.size w w'):=hN
 clear hl hN c1 cx cy j1 j2 e3 g1 g2 k1 k2 n1 n2 n3 f1 hcr cin we wf hx hy he hf hc;obtain⟨wa,wb,sh,fa,fb,ta,tb⟩:=x;obtain⟨je,jf,sh',mH,mI,mJ,mK⟩:=y;simp only at*;have hb1:Below w.heap.size w ((w.alloc (.cells #[.complex .f64 wa wb,.float .f64 sh] 122)).alloc (.cells #[.complex .f64 je jf,.float .f64 sh'] 122)):=((Below.refl _ _).alloc (ai _) _).alloc (by simp) _
 go_enter Tryz.func180,Tryz.ntmps180
 go_wp2_with (first |(simp only[o1])|(simp only[o2])|(simp only[o3]))
 have hs1:w.heap.size+2=((w.alloc (.cells #[.complex .f64 wa wb,.float .f64 sh] 122)).alloc (.cells #[.complex .f64 je jf,.float .f64 sh'] 122)).heap.size:=by simp
 generalize(w.alloc (.cells #[.complex .f64 wa wb,.float .f64 sh] 122)).alloc (.cells #[.complex .f64 je jf,.float .f64 sh'] 122)=W1 at*;have hE:=heap_alloc_new W1 (.cells #[.complex .f64 0 0,.int .i64 0] 83);have hb0:=hb1.alloc (by omega) (.cells #[.complex .f64 0 0,.int .i64 0] 83)
 have hz:W1.heap.size<(W1.alloc (.cells #[.complex .f64 0 0,.int .i64 0] 83)).heap.size:=by simp
 generalize W1.alloc (.cells #[.complex .f64 0 0,.int .i64 0] 83)=W at*;generalize hB:w.heap.size=B at*;generalize W1.heap.size=B1 at*;have hB1:B1=B+1+1:=by omega
 have q9:B<=B+1+1:=by omega
 subst hB1;clear hs1;refine(HL.out _).mono ?_;rintro e w1 ⟨rfl,rfl⟩
 go_wp2_with (simp only)
 refine(HN.out _).mono ?_;rintro e w2 ⟨rfl,hb2⟩;have dD:=(hb2.block _ hz).trans hE;have ak:=hb0.trans (hb2.mono (by omega))
 have e0:w2.cell? ⟨B+1+1,0,none⟩=some (.complex .f64 0 0):=cell_of dD 0;have e1:w2.cell? ⟨B+1+1,1,none⟩=some (.int .i64 0):=cell_of dD 1;have z0:w2.frozen? ⟨B+1+1,0,none⟩=false:=aH dD 0;have z1:w2.frozen? ⟨B+1+1,1,none⟩=false:=aH dD 1;clear hE dD hb2 hb0 hb1
 go_wp2_with (simp only[fL];go_simp)
 refine bodyPost_ret (v:=.agg #[.complex .f64 N1 N2,.int .i64 n.2.2]) (by simp[results,Tryz.results180,go_sem,e0,e1]) rfl ⟨rfl,?_⟩
 rw[hB];exact(ak.setCell q9 _).setCell q9 _
theorem agq(x y:EB)(w:World)
  (HP:Hid (∀w,Calls Tryz.prog 179 #[.agg #[.complex .f64 x.wa x.wb,.float .f64 x.sh],.agg #[.complex .f64 y.wa y.wb,.float .f64 y.sh]] w fun r w'=>r=.returned (.bool true)/\Below w.heap.size w w')):
  Calls Tryz.prog 123 #[.agg x.cells,.agg y.cells] w fun r w'=>r=.returned (.tuple #[.agg #[.complex .f64 0 0,.int .i64 0],.bool false])/\Below w.heap.size w w':=by
 obtain⟨wa,wb,sh,fa,fb,ta,tb⟩:=x;obtain⟨je,jf,sh',mH,mI,mJ,mK⟩:=y;simp only[EB.cells] at*
 go_enter Tryz.func123,Tryz.ntmps123
 go_wp2_with fail
 have hs1:w.heap.size+1+1=((w.alloc (.cells #[.complex .f64 wa wb,.float .f64 sh,.complex .f64 fa fb,.complex .f64 ta tb] 124)).alloc (.cells #[.complex .f64 je jf,.float .f64 sh',.complex .f64 mH mI,.complex .f64 mJ mK] 124)).heap.size:=by simp
 have hb0:Below w.heap.size w ((w.alloc (.cells #[.complex .f64 wa wb,.float .f64 sh,.complex .f64 fa fb,.complex .f64 ta tb] 124)).alloc (.cells #[.complex .f64 je jf,.float .f64 sh',.complex .f64 mH mI,.complex .f64 mJ mK] 124)):=((Below.refl _ _).alloc (ai _) _).alloc (by simp) _
 generalize(w.alloc (.cells #[.complex .f64 wa wb,.float .f64 sh,.complex .f64 fa fb,.complex .f64 ta tb] 124)).alloc (.cells #[.complex .f64 je jf,.float .f64 sh',.complex .f64 mH mI,.complex .f64 mJ mK] 124)=W1 at*;have hE:=heap_alloc_new W1 (.cells #[.complex .f64 0 0,.int .i64 0] 83);have hb2:=hb0.alloc (by omega) (.cells #[.complex .f64 0 0,.int .i64 0] 83)
 have hz:W1.heap.size<(W1.alloc (.cells #[.complex .f64 0 0,.int .i64 0] 83)).heap.size:=by simp
 generalize W1.alloc (.cells #[.complex .f64 0 0,.int .i64 0] 83)=W at*;generalize hB:w.heap.size=B at*;rw[<-hs1] at hE hz;refine(HP.out _).mono ?_;rintro e w1 ⟨rfl,hb1⟩;have dD:=(hb1.block _ hz).trans hE;have ak:=hb2.trans (hb1.mono (by omega))
 have e0:w1.cell? ⟨B+1+1,0,none⟩=some (.complex .f64 0 0):=cell_of dD 0;have e1:w1.cell? ⟨B+1+1,1,none⟩=some (.int .i64 0):=cell_of dD 1;have z0:w1.frozen? ⟨B+1+1,0,none⟩=false:=aH dD 0;have z1:w1.frozen? ⟨B+1+1,1,none⟩=false:=aH dD 1;have q9:B<=B+1+1:=by omega
 clear hE dD hb2 hb0 hb1 hs1
 go_wp2_with (simp only[fL];go_simp)
 refine bodyPost_ret (v:=.tuple #[.agg #[.complex .f64 0 0,.int .i64 0],.bool false]) (by simp[results,Tryz.results123,go_sem,e0,e1]) rfl ⟨rfl,?_⟩
 rw[hB];exact(ak.setCell q9 _).setCell q9 _
theorem agr(x y:EB)(N1 N2:Nat)(P:Int)(u1 u2:Bool)(w:World)
  (HP:Hid (∀w,Calls Tryz.prog 179 #[.agg #[.complex .f64 x.wa x.wb,.float .f64 x.sh],.agg #[.complex .f64 y.wa y.wb,.float .f64 y.sh]] w fun r w'=>r=.returned (.bool false)/\Below w.heap.size w w'))
  (HC:Hid (∀w,Calls Tryz.prog 180 #[.agg #[.complex .f64 x.wa x.wb,.float .f64 x.sh],.agg #[.complex .f64 y.wa y.wb,.float .f64 y.sh]] w fun r w'=>r=.returned (.agg #[.complex .f64 N1 N2,.int .i64 P])/\Below w.heap.size w w'))
  (HX:Hid (∀w,Calls Tryz.prog 62 #[.agg x.cells,.agg #[.complex .f64 N1 N2,.int .i64 P]] w fun r w'=>r=.returned (.bool u1)/\Below w.heap.size w w'))
  (HY:Hid (∀w,Calls Tryz.prog 62 #[.agg y.cells,.agg #[.complex .f64 N1 N2,.int .i64 P]] w fun r w'=>r=.returned (.bool u2)/\Below w.heap.size w w')):
  Calls Tryz.prog 123 #[.agg x.cells,.agg y.cells] w fun r w'=>r=.returned (.tuple #[.agg #[.complex .f64 N1 N2,.int .i64 P],.bool (u1&&u2)])/\Below w.heap.size w w':=by
 obtain⟨wa,wb,sh,fa,fb,ta,tb⟩:=x;obtain⟨je,jf,sh',mH,mI,mJ,mK⟩:=y;simp only[EB.cells] at*
 go_enter Tryz.func123,Tryz.ntmps123
 go_wp2_with fail
 have hs1:w.heap.size+1+1=((w.alloc (.cells #[.complex .f64 wa wb,.float .f64 sh,.complex .f64 fa fb,.complex .f64 ta tb] 124)).alloc (.cells #[.complex .f64 je jf,.float .f64 sh',.complex .f64 mH mI,.complex .f64 mJ mK] 124)).heap.size:=by simp
 have hb0:Below w.heap.size w ((w.alloc (.cells #[.complex .f64 wa wb,.float .f64 sh,.complex .f64 fa fb,.complex .f64 ta tb] 124)).alloc (.cells #[.complex .f64 je jf,.float .f64 sh',.complex .f64 mH mI,.complex .f64 mJ mK] 124)):=((Below.refl _ _).alloc (ai _) _).alloc (by simp) _
 have hX:((w.alloc (.cells #[.complex .f64 wa wb,.float .f64 sh,.complex .f64 fa fb,.complex .f64 ta tb] 124)).alloc (.cells #[.complex .f64 je jf,.float .f64 sh',.complex .f64 mH mI,.complex .f64 mJ mK] 124)).heap[w.heap.size]?=some (.cells #[.complex .f64 wa wb,.float .f64 sh,.complex .f64 fa fb,.complex .f64 ta tb] 124 (0,0)):=by
  rw[Below.heap_alloc _ _ _ (by simp)];exact heap_alloc_new _ _
 have hY:((w.alloc (.cells #[.complex .f64 wa wb,.float .f64 sh,.complex .f64 fa fb,.complex .f64 ta tb] 124)).alloc (.cells #[.complex .f64 je jf,.float .f64 sh',.complex .f64 mH mI,.complex .f64 mJ mK] 124)).heap[w.heap.size+1]?=some (.cells #[.complex .f64 je jf,.float .f64 sh',.complex .f64 mH mI,.complex .f64 mJ mK] 124 (0,0)):=by
  have:=heap_alloc_new (w.alloc (.cells #[.complex .f64 wa wb,.float .f64 sh,.complex .f64 fa fb,.complex .f64 ta tb] 124)) (.cells #[.complex .f64 je jf,.float .f64 sh',.complex .f64 mH mI,.complex .f64 mJ mK] 124);simpa using this
 generalize(w.alloc (.cells #[.complex .f64 wa wb,.float .f64 sh,.complex .f64 fa fb,.complex .f64 ta tb] 124)).alloc (.cells #[.complex .f64 je jf,.float .f64 sh',.complex .f64 mH mI,.complex .f64 mJ mK] 124)=W1 at*;have hE:=heap_alloc_new W1 (.cells #[.complex .f64 0 0,.int .i64 0] 83);have VD:=(Below.heap_alloc W1 (.cells #[.complex .f64 0 0,.int .i64 0] 83) w.heap.size (by omega)).trans hX
 have VE:=(Below.heap_alloc W1 (.cells #[.complex .f64 0 0,.int .i64 0] 83) (w.heap.size+1) (by omega)).trans hY
 have hb2:=hb0.alloc (by omega) (.cells #[.complex .f64 0 0,.int .i64 0] 83)
 have hz:W1.heap.size<(W1.alloc (.cells #[.complex .f64 0 0,.int .i64 0] 83)).heap.size:=by simp
 generalize W1.alloc (.cells #[.complex .f64 0 0,.int .i64 0] 83)=W at*;generalize hB:w.heap.size=B at*;rw[<-hs1] at hE hz;clear hX hY hb0 hs1;refine(HP.out _).mono ?_;rintro e w1 ⟨rfl,hb1⟩;have hz1:B+1+1<w1.heap.size:=aQ hz hb1.size;have dD:=(hb1.block _ hz).trans hE;have Be:=(hb1.block B (by omega)).trans VD
 have IY:=(hb1.block (B+1) (by omega)).trans VE
 have tE:=hb2.trans (hb1.mono (by omega))
 clear hE VD VE hb2 hb1;have x0:w1.cell? ⟨B,0,none⟩=some (.complex .f64 wa wb):=cell_of Be 0;have x1:w1.cell? ⟨B,1,none⟩=some (.float .f64 sh):=cell_of Be 1;have y0:w1.cell? ⟨B+1,0,none⟩=some (.complex .f64 je jf):=cell_of IY 0;have y1:w1.cell? ⟨B+1,1,none⟩=some (.float .f64 sh'):=cell_of IY 1
 go_wp2_with fail
 refine(HC.out _).mono ?_;rintro e w2 ⟨rfl,hb3⟩;have hz2:B+1+1<w2.heap.size:=aQ hz1 hb3.size;have VF:=(hb3.block _ hz1).trans dD;have VG:=(hb3.block B (by omega)).trans Be
 have VH:=(hb3.block (B+1) (by omega)).trans IY
 have pN:=tE.trans (hb3.mono (by omega))
 clear dD Be IY tE hb3 x0 x1 y0 y1
 go_wp2_with fail
 have hN:=heap_alloc_new w2 (.cells #[.complex .f64 0 0,.int .i64 0] 83);have D3:=(Below.heap_alloc w2 (.cells #[.complex .f64 0 0,.int .i64 0] 83) _ hz2).trans VF;have VI:=(Below.heap_alloc w2 (.cells #[.complex .f64 0 0,.int .i64 0] 83) B (by omega)).trans VG
 have nK:=(Below.heap_alloc w2 (.cells #[.complex .f64 0 0,.int .i64 0] 83) (B+1) (by omega)).trans VH
 have jZ:=pN.alloc (by omega) (.cells #[.complex .f64 0 0,.int .i64 0] 83)
 have hz3:w2.heap.size<(w2.alloc (.cells #[.complex .f64 0 0,.int .i64 0] 83)).heap.size:=by simp
 generalize w2.alloc (.cells #[.complex .f64 0 0,.int .i64 0] 83)=W3 at*;generalize w2.heap.size=M at*;clear VF VG VH pN;have n0:W3.cell? ⟨M,0,none⟩=some (.complex .f64 0 0):=cell_of hN 0;have n1:W3.cell? ⟨M,1,none⟩=some (.int .i64 0):=cell_of hN 1;have f0:W3.frozen? ⟨M,0,none⟩=false:=aH hN 0;have f1:W3.frozen? ⟨M,1,none⟩=false:=aH hN 1
 go_wp2_with (simp only[fL];go_simp)
 have yQ:M≠B/\M≠B+1/\M≠B+1+1:=by omega
 have D4:=(bu (o:=1) yQ.1.symm (.int .i64 P)).trans ((bu (o:=0) yQ.1.symm (.complex .f64 N1 N2)).trans VI);have D5:=(bu (o:=1) yQ.2.1.symm (.int .i64 P)).trans ((bu (o:=0) yQ.2.1.symm (.complex .f64 N1 N2)).trans nK);have Bf:=(bu (o:=1) yQ.2.2.symm (.int .i64 P)).trans ((bu (o:=0) yQ.2.2.symm (.complex .f64 N1 N2)).trans D3);have a8:((W3.setCell ⟨M,0,none⟩ (.complex .f64 N1 N2)).setCell ⟨M,1,none⟩ (.int .i64 P)).cell? ⟨M,0,none⟩=some (.complex .f64 N1 N2):=by simp[go_sem,n0]
 have a9:((W3.setCell ⟨M,0,none⟩ (.complex .f64 N1 N2)).setCell ⟨M,1,none⟩ (.int .i64 P)).cell? ⟨M,1,none⟩=some (.int .i64 P):=by simp[go_sem,n1]
 have pO:=(jZ.setCell (p:=⟨M,0,none⟩) (by show B<=M;omega) (.complex .f64 N1 N2)).setCell (p:=⟨M,1,none⟩) (by show B<=M;omega) (.int .i64 P)
 have yR:M<((W3.setCell ⟨M,0,none⟩ (.complex .f64 N1 N2)).setCell ⟨M,1,none⟩ (.int .i64 P)).heap.size:=by simpa using hz3
 generalize(W3.setCell ⟨M,0,none⟩ (.complex .f64 N1 N2)).setCell ⟨M,1,none⟩ (.int .i64 P)=W4 at*;have dF:B+1+1<W4.heap.size:=acD hz2 yR;have lh:B<=W4.heap.size:=by omega
 clear VI nK D3 jZ n0 n1 f0 f1 hN hz3;have a0:=cell_of D4 0;have a1:=cell_of D4 1;have a2:=cell_of D4 2;have a3:=cell_of D4 3;have a4:=cell_of D5 0;have a5:=cell_of D5 1;have a6:=cell_of D5 2;have a7:=cell_of D5 3;simp at a0 a1 a2 a3 a4 a5 a6 a7;have aq0:W4.cell? ⟨B+1+1,0,none⟩=some (.complex .f64 0 0):=cell_of Bf 0;have aq1:W4.cell? ⟨B+1+1,1,none⟩=some (.int .i64 0):=cell_of Bf 1;have ay0:W4.frozen? ⟨B+1+1,0,none⟩=false:=aH Bf 0;have ay1:W4.frozen? ⟨B+1+1,1,none⟩=false:=aH Bf 1;clear D4 D5;obtain⟨m1,m2,m3⟩:=yQ;have m4:=Ne.symm m3;have mh:¬(B=B+1+1):=by omega
 have yn:¬(B+1+1=B):=by omega
 have hn3:¬(B+1=B+1+1):=by omega
 have hn4:¬(B+1+1=B+1):=by omega
 have hn5:¬(B=B+2):=by omega
 have hn6:¬(B+2=B):=by omega
 cases u1
 ·refine wp_region_held_drew (S:=(fun w'=>w'.cell? ⟨B,0,none⟩=some (.complex .f64 wa wb)/\w'.cell? ⟨B,1,none⟩=some (.float .f64 sh)/\w'.cell? ⟨B,2,none⟩=some (.complex .f64 fa fb)/\w'.cell? ⟨B,3,none⟩=some (.complex .f64 ta tb)/\w'.cell? ⟨B+1,0,none⟩=some (.complex .f64 je jf)/\w'.cell? ⟨B+1,1,none⟩=some (.float .f64 sh')/\w'.cell? ⟨B+1,2,none⟩=some (.complex .f64 mH mI)/\w'.cell? ⟨B+1,3,none⟩=some (.complex .f64 mJ mK)/\w'.cell? ⟨M,0,none⟩=some (.complex .f64 N1 N2)/\w'.cell? ⟨M,1,none⟩=some (.int .i64 P)/\w'.frozen? ⟨B+1+1,0,none⟩=false/\w'.frozen? ⟨B+1+1,1,none⟩=false)) (by kernel_rfl) ⟨a0,a1,a2,a3,a4,a5,a6,a7,a8,a9,ay0,ay1⟩ (fun hHeld=>?_)
  refine wpAnyH_take (i:=0) (oi:={dst:=some 18,op:=_,type:=_,pos:=_,after:=_,guard:=_}) (v:=?_) rfl (by kernel_rfl) (by kernel_rfl) (by kernel_rfl) (fun _ _ _ h=>h) (ae ⟨by rfl,?_⟩) hHeld ?_
  rotate_left
  ·intro w' aB;obtain⟨s0,s1,s2,s3,s4,s5,s6,s7,s8,s9,D6,D7⟩:=aB
   go_simp
   try with_reducible rfl
  simp only[Act.put,aI,aJ,aG];refine wpAnyH_take (i:=1) (oi:={dst:=some 19,op:=_,type:=_,pos:=_,after:=_,guard:=_}) (v:=?_) rfl (by kernel_rfl) (by kernel_rfl) (by kernel_rfl) (fun _ _ _ h=>h) (ae ⟨by rfl,?_⟩) hHeld ?_
  rotate_left
  ·intro w' aB;obtain⟨s0,s1,s2,s3,s4,s5,s6,s7,s8,s9,D6,D7⟩:=aB
   go_simp
   try with_reducible rfl
  simp only[Act.put,aI,aJ,aG];refine wpAnyH_take (i:=2) (oi:={dst:=some 20,op:=_,type:=_,pos:=_,after:=_,guard:=_}) (v:=?_) rfl (by kernel_rfl) (by kernel_rfl) (by kernel_rfl) (fun _ _ _ h=>h) (ae ⟨by rfl,?_⟩) hHeld ?_
  rotate_left
  ·intro w' aB;obtain⟨s0,s1,s2,s3,s4,s5,s6,s7,s8,s9,D6,D7⟩:=aB
   go_simp
   try with_reducible rfl
  simp only[Act.put,aI,aJ,aG];refine wpAnyH_ready (rs:=[3]) (by kernel_rfl) (by simp) ?_
  refine AllReadyH.cons rfl (fun K hK=>?_) AllReadyH.nil
  go_simp
  refine(HX.out _).mono ?_;rintro e w6 ⟨rfl,aC⟩;have hbz:B+1+1<w6.heap.size:=aQ dF aC.size;have j4:M<w6.heap.size:=aQ yR aC.size;have b0:=(aC.cell (p:=⟨B,0,none⟩) (dw (dw dF))).trans a0;have b1:=(aC.cell (p:=⟨B,1,none⟩) (dw (dw dF))).trans a1;have b2:=(aC.cell (p:=⟨B,2,none⟩) (dw (dw dF))).trans a2;have b3:=(aC.cell (p:=⟨B,3,none⟩) (dw (dw dF))).trans a3;have b4:=(aC.cell (p:=⟨B+1,0,none⟩) (dw dF)).trans a4;have b5:=(aC.cell (p:=⟨B+1,1,none⟩) (dw dF)).trans a5;have b6:=(aC.cell (p:=⟨B+1,2,none⟩) (dw dF)).trans a6;have b7:=(aC.cell (p:=⟨B+1,3,none⟩) (dw dF)).trans a7;have b8:=(aC.cell (p:=⟨M,0,none⟩) yR).trans a8;have b9:=(aC.cell (p:=⟨M,1,none⟩) yR).trans a9;have tF:=(aC.block (B+1+1) dF).trans Bf;have VJ:w6.cell? ⟨B+1+1,0,none⟩=some (.complex .f64 0 0):=cell_of tF 0;have VK:w6.cell? ⟨B+1+1,1,none⟩=some (.int .i64 0):=cell_of tF 1;have Ng:w6.frozen? ⟨B+1+1,0,none⟩=false:=aH tF 0;have Nh:w6.frozen? ⟨B+1+1,1,none⟩=false:=aH tF 1
  go_wp2_with fail
  refine hK.out _ _ ⟨b0,b1,b2,b3,b4,b5,b6,b7,b8,b9,Ng,Nh⟩ (fun hHeld=>?_)
  clear hK K
  try simp only[Act.put,aI,aJ,aG]
  refine wpAnyH_take (i:=4) (oi:={dst:=some 22,op:=_,type:=_,pos:=_,after:=_,guard:=_}) (v:=?_) rfl (by kernel_rfl) (by kernel_rfl) (by kernel_rfl) (fun _ _ _ h=>h) (ae ⟨by rfl,?_⟩) hHeld ?_
  rotate_left
  ·intro w' aB;obtain⟨s0,s1,s2,s3,s4,s5,s6,s7,s8,s9,D6,D7⟩:=aB
   go_simp
   try with_reducible rfl
  simp only[Act.put,aI,aJ,aG];refine wpAnyH_take (i:=5) (oi:={dst:=some 23,op:=_,type:=_,pos:=_,after:=_,guard:=_}) (v:=undef) rfl (by kernel_rfl) (by kernel_rfl) (by kernel_rfl) (fun _ _ _ h=>h) (af ⟨by kernel_rfl,rfl⟩) hHeld ?_
  simp only[Act.put,aI,aJ,aG];refine wpAnyH_take (i:=6) (oi:={dst:=some 24,op:=_,type:=_,pos:=_,after:=_,guard:=_}) (v:=undef) rfl (by kernel_rfl) (by kernel_rfl) (by kernel_rfl) (fun _ _ _ h=>h) (af ⟨by kernel_rfl,rfl⟩) hHeld ?_
  simp only[Act.put,aI,aJ,aG];refine wpAnyH_take (i:=7) (oi:={dst:=some 25,op:=_,type:=_,pos:=_,after:=_,guard:=_}) (v:=undef) rfl (by kernel_rfl) (by kernel_rfl) (by kernel_rfl) (fun _ _ _ h=>h) (af ⟨by kernel_rfl,rfl⟩) hHeld ?_
  simp only[Act.put,aI,aJ,aG];refine wpAnyH_take (i:=8) (oi:={dst:=some 26,op:=_,type:=_,pos:=_,after:=_,guard:=_}) (v:=?_) rfl (by kernel_rfl) (by kernel_rfl) (by kernel_rfl) (fun _ _ _ h=>h) (ae ⟨by rfl,?_⟩) hHeld ?_
  rotate_left
  ·intro w' aB;obtain⟨s0,s1,s2,s3,s4,s5,s6,s7,s8,s9,D6,D7⟩:=aB
   go_simp
   try with_reducible rfl
  simp only[Act.put,aI,aJ,aG];refine wpAnyH_ready (rs:=[9]) (by kernel_rfl) (by simp) ?_
  refine AllReadyH.cons rfl (fun K hK=>?_) AllReadyH.nil
  go_simp
  simp only[fL]
  go_simp
  refine hK.out _ _ ?_ (fun hHeld=>?_)
  ·refine⟨?_,?_,?_,?_,?_,?_,?_,?_,?_,?_,?_,?_⟩<;>simp[World.frozen?_setCell,go_sem,b0,b1,b2,b3,b4,b5,b6,b7,b8,b9,Ng,Nh]
  clear hK K
  try simp only[Act.put,aI,aJ,aG]
  refine wpAnyH_take (i:=10) (oi:={dst:=some 5,op:=_,type:=_,pos:=_,after:=_,guard:=_}) (v:=?_) rfl (by kernel_rfl) (by kernel_rfl) (by kernel_rfl) (fun _ _ _ h=>h) (ae ⟨by rfl,?_⟩) hHeld ?_
  rotate_left
  ·intro w' aB;obtain⟨s0,s1,s2,s3,s4,s5,s6,s7,s8,s9,D6,D7⟩:=aB
   go_simp
   try with_reducible rfl
  simp only[Act.put,aI,aJ,aG];refine wpAnyH_done (by kernel_rfl) ?_ _
  go_wp2_with fail
  refine bodyPost_ret (v:=.tuple #[.agg #[.complex .f64 N1 N2,.int .i64 P],.bool false]) (by simp[results,Tryz.results123,go_sem,VJ,VK]) rfl ⟨rfl,?_⟩
  rw[hB];exact((pO.drew.trans (aC.mono lh)).setCell (by show B<=B+1+1;omega) _).setCell (by show B<=B+1+1;omega) _
 ·go_region_held3 (fun w'=>w'.cell? ⟨B,0,none⟩=some (.complex .f64 wa wb)/\w'.cell? ⟨B,1,none⟩=some (.float .f64 sh)/\w'.cell? ⟨B,2,none⟩=some (.complex .f64 fa fb)/\w'.cell? ⟨B,3,none⟩=some (.complex .f64 ta tb)/\w'.cell? ⟨B+1,0,none⟩=some (.complex .f64 je jf)/\w'.cell? ⟨B+1,1,none⟩=some (.float .f64 sh')/\w'.cell? ⟨B+1,2,none⟩=some (.complex .f64 mH mI)/\w'.cell? ⟨B+1,3,none⟩=some (.complex .f64 mJ mK)/\w'.cell? ⟨M,0,none⟩=some (.complex .f64 N1 N2)/\w'.cell? ⟨M,1,none⟩=some (.int .i64 P)/\w'.frozen? ⟨B+1+1,0,none⟩=false/\w'.frozen? ⟨B+1+1,1,none⟩=false) (first |go_keep|(go_split_ands;refine⟨?_,?_,?_,?_,?_,?_,?_,?_,?_,?_,?_,?_⟩<;>first |(simp[World.frozen?_setCell, *];done)|(simp[*];done))) (first
   |(go_at_call_of 62 (Value.agg #[Value.complex FloatKind.f64 wa wb,Value.float FloatKind.f64 sh,Value.complex FloatKind.f64 fa fb,Value.complex FloatKind.f64 ta tb]);refine(HX.out _).mono ?_;rintro e w6 ⟨rfl,aC⟩;have hbz:B+1+1<w6.heap.size:=aQ dF aC.size;have j4:M<w6.heap.size:=aQ yR aC.size;have b0:=(aC.cell (p:=⟨B,0,none⟩) (dw (dw dF))).trans a0;have b1:=(aC.cell (p:=⟨B,1,none⟩) (dw (dw dF))).trans a1;have b2:=(aC.cell (p:=⟨B,2,none⟩) (dw (dw dF))).trans a2;have b3:=(aC.cell (p:=⟨B,3,none⟩) (dw (dw dF))).trans a3;have b4:=(aC.cell (p:=⟨B+1,0,none⟩) (dw dF)).trans a4;have b5:=(aC.cell (p:=⟨B+1,1,none⟩) (dw dF)).trans a5;have b6:=(aC.cell (p:=⟨B+1,2,none⟩) (dw dF)).trans a6;have b7:=(aC.cell (p:=⟨B+1,3,none⟩) (dw dF)).trans a7;have b8:=(aC.cell (p:=⟨M,0,none⟩) yR).trans a8;have b9:=(aC.cell (p:=⟨M,1,none⟩) yR).trans a9;have tF:=(aC.block (B+1+1) dF).trans Bf;have VJ:w6.cell? ⟨B+1+1,0,none⟩=some (.complex .f64 0 0):=cell_of tF 0;have VK:w6.cell? ⟨B+1+1,1,none⟩=some (.int .i64 0):=cell_of tF 1;have Ng:w6.frozen? ⟨B+1+1,0,none⟩=false:=aH tF 0;have Nh:w6.frozen? ⟨B+1+1,1,none⟩=false:=aH tF 1)
   |(go_at_call_of 62 (Value.agg #[Value.complex FloatKind.f64 je jf,Value.float FloatKind.f64 sh',Value.complex FloatKind.f64 mH mI,Value.complex FloatKind.f64 mJ mK]);refine(HY.out _).mono ?_;rintro e w7 ⟨rfl,aY⟩;have hcz:B+1+1<w7.heap.size:=aQ hbz aY.size;have hcm:M<w7.heap.size:=aQ j4 aY.size;have c0:=(aY.cell (p:=⟨B,0,none⟩) (dw (dw hbz))).trans b0;have c1:=(aY.cell (p:=⟨B,1,none⟩) (dw (dw hbz))).trans b1;have c2:=(aY.cell (p:=⟨B,2,none⟩) (dw (dw hbz))).trans b2;have c3:=(aY.cell (p:=⟨B,3,none⟩) (dw (dw hbz))).trans b3;have c4:=(aY.cell (p:=⟨B+1,0,none⟩) (dw hbz)).trans b4;have c5:=(aY.cell (p:=⟨B+1,1,none⟩) (dw hbz)).trans b5;have c6:=(aY.cell (p:=⟨B+1,2,none⟩) (dw hbz)).trans b6;have c7:=(aY.cell (p:=⟨B+1,3,none⟩) (dw hbz)).trans b7;have c8:=(aY.cell (p:=⟨M,0,none⟩) j4).trans b8;have c9:=(aY.cell (p:=⟨M,1,none⟩) j4).trans b9;have hce:=(aY.block (B+1+1) hbz).trans tF;have cq0:w7.cell? ⟨B+1+1,0,none⟩=some (.complex .f64 0 0):=cell_of hce 0;have cq1:w7.cell? ⟨B+1+1,1,none⟩=some (.int .i64 0):=cell_of hce 1;have cy0:w7.frozen? ⟨B+1+1,0,none⟩=false:=aH hce 0;have cy1:w7.frozen? ⟨B+1+1,1,none⟩=false:=aH hce 1)
   |(simp only[fL];go_simp))
  go_wp2_with fail
  refine bodyPost_ret (v:=.tuple #[.agg #[.complex .f64 N1 N2,.int .i64 P],.bool u2]) (by simp[results,Tryz.results123,go_sem,cq0,cq1]) rfl ⟨rfl,?_⟩
  rw[hB];exact(((pO.drew.trans (aC.mono lh)).trans (aY.mono (eF (dw (dw hbz))))).setCell (by show B<=B+1+1;omega) _).setCell (by show B<=B+1+1;omega) _
end Go.Proofs.YtkjhhooecopolaaGreatDoor
namespace Go.Proofs.YtkjhhooecopolaaGreatDoor.Ge
theorem IZ{n:Nd}(h:Can n)(e:Pt×Pt):hq (ay n) e=fo (n.1,n.2.1) n.2.2 e:=by
 obtain⟨X,Y,P⟩:=n;have hp:0<P:=h.pos;obtain⟨g,g0,e1,e2,gp⟩:=Ay (n:=X) (d:=P) (by omega)
 obtain⟨k,k0,e3,e4,kp⟩:=Ay (n:=Y) (d:=P) (by omega)
 have qN:=aU (gp.2 hp) (kp.2 hp);unfold hq ay;show fo ((aW X P).1*(aW Y P).2,(aW Y P).1*(aW X P).2) ((aW X P).2*(aW Y P).2) e=fo (X,Y) P e;rw[<-Nf (x:=P*X) (y:=P*Y) (d:=P*P) hp rfl rfl rfl e];generalize aW X P=A at*;generalize aW Y P=B at*;have q1:P*X=g*k*(A.1*B.2):=by rw[e1];grind
 have q2:P*Y=g*k*(B.1*A.2):=by rw[e3];grind
 have q3:P*P=g*k*(A.2*B.2):=by grind
 exact(Nf qN q1 q2 q3 e).symm
end Go.Proofs.YtkjhhooecopolaaGreatDoor.Ge
namespace Go.Proofs.YtkjhhooecopolaaGreatDoor
open Go.RowKit
theorem rf{n:Ge.Nd}(h:dC n.1 n.2.1 n.2.2):Fl (floatOfInt .f64 n.1) n.1/\Fl (floatOfInt .f64 n.2.1) n.2.1:=by
 have hx:=h.x;have hy:=h.y;exact⟨qh (by omega),qh (by omega)⟩
theorem agw(x y:EB)(e f:Ed)(hx:jc x e)(hy:jc y f)(he:fB e)(hf:fB f):
  ∃(v:Ge.Nd)(b:Bool)(nv:Value),(∀w,Calls Tryz.prog 123 #[.agg x.cells,.agg y.cells] w fun r w'=>r=.returned (.tuple #[nv,.bool b])/\Below w.heap.size w w')
   /\(∃N1 N2 P,nv=.agg #[.complex .f64 N1 N2,.int .i64 P])
   /\(b=true↔Ge.bG e f≠0/\Ge.hq (Ge.dJ e f) e=true/\Ge.hq (Ge.dJ e f) f=true)
   /\(b=true->nv=ie v/\Ge.Can v/\Ge.ay v=Ge.dJ e f/\dC v.1 v.2.1 v.2.2):=by
 by_cases hc:Ge.bG e f=0
 ·refine⟨(0,0,1),false,_,fun w=>agq x y w (fun w=>?_),⟨_,_,_,rfl⟩,?_,?_⟩
  ·have:=VB x y e f hx hy he hf w;rw[iu hc] at this;exact this
  ·simp[hc]
  ·simp
 ·obtain⟨n,n1,n2,n3,hC⟩:=ago x y e f hx hy he hf hc;obtain⟨f1,f2⟩:=rf n3;refine⟨n,Ge.hq (Ge.dJ e f) e&&Ge.hq (Ge.dJ e f) f,_,fun w=>agr x y (floatOfInt .f64 n.1) (floatOfInt .f64 n.2.1) n.2.2 _ _ w (fun w=>?_) hC (fun w=>?_) (fun w=>?_),⟨_,_,_,rfl⟩,?_,?_⟩
  ·have:=VB x y e f hx hy he hf w;rw[lZ hc] at this;exact this
  ·rw[<-n2,Ge.IZ n1];exact Dp x e hx he f1 f2 n3 w
  ·rw[<-n2,Ge.IZ n1];exact Dp y f hy hf f1 f2 n3 w
  ·simp[hc]
  ·exact fun _=>⟨rfl,n1,n2,n3⟩
end Go.Proofs.YtkjhhooecopolaaGreatDoor
namespace Go.Proofs.YtkjhhooecopolaaGreatDoor
open Go.RowKit
theorem VL{a:Nat}{x:Int}(h:Fl a x)(w:World):
  Calls Tryz.prog 227 #[.float .f64 a] w fun r w'=>r=.returned (.bool false)/\w'=w:=by
 have q:(FloatKind.f64.format.order a a == some Ordering.eq)=true:=by rw[sG h h];simp
 have q2:(FloatKind.f64.format.order a a)=some Ordering.eq:=by simpa using q
 go_enter Tryz.func227,Tryz.ntmps227
 go_wp2_with fail
 go_ret
 exact⟨by simp,rfl⟩
theorem yS{a b:Nat}{x y:Int}(h1:Fl a x)(h2:Fl b y)(w:World):
  Calls Tryz.prog 183 #[.float .f64 a,.float .f64 b] w fun r w'=>r=.returned (.int .i64 (x-y).sign)/\w'=w:=by
 have H1:Hid (∀w,Calls Tryz.prog 227 #[.float .f64 a] w fun r w'=>r=.returned (.bool false)/\w'=w):=fun w=>VL h1 w
 have H2:Hid (∀w,Calls Tryz.prog 227 #[.float .f64 b] w fun r w'=>r=.returned (.bool false)/\w'=w):=fun w=>VL h2 w
 have q1:=Aq h1 h2;have q2:=Hs h1 h2;rcases fD x y with h|h|h
 ·have hs:(x-y).sign= -1:=Gm (by omega)
  have hq:(FloatKind.f64.format.order a b == some Ordering.lt)=true:=by rw[q1];simp[h]
  rw[hs];clear q1 q2
  go_enter Tryz.func183,Tryz.ntmps183
  go_wp2_with fail
  refine(H1.out _).mono ?_;rintro e w1 ⟨rfl,rfl⟩
  go_wp2_with fail
  refine(H2.out _).mono ?_;rintro e w2 ⟨rfl,rfl⟩
  go_wp2_with fail
  go_ret
  exact⟨rfl,rfl⟩
 ·have hs:(x-y).sign=0:=by rw[h,Int.sub_self];rfl
  have hq:(FloatKind.f64.format.order a b == some Ordering.lt)=false:=by rw[q1];simp;omega
  have hq2:(FloatKind.f64.format.order a b == some Ordering.gt)=false:=by rw[q2];simp;omega
  rw[hs];clear q1 q2
  go_enter Tryz.func183,Tryz.ntmps183
  go_wp2_with fail
  refine(H1.out _).mono ?_;rintro e w1 ⟨rfl,rfl⟩
  go_wp2_with fail
  refine(H2.out _).mono ?_;rintro e w2 ⟨rfl,rfl⟩
  go_wp2_with fail
  go_ret
  exact⟨rfl,rfl⟩
 ·have hs:(x-y).sign=1:=pX (by omega)
  have hq:(FloatKind.f64.format.order a b == some Ordering.lt)=false:=by rw[q1];simp;omega
  have hq2:(FloatKind.f64.format.order a b == some Ordering.gt)=true:=by rw[q2];simp[h]
  rw[hs];clear q1 q2
  go_enter Tryz.func183,Tryz.ntmps183
  go_wp2_with fail
  refine(H1.out _).mono ?_;rintro e w1 ⟨rfl,rfl⟩
  go_wp2_with fail
  refine(H2.out _).mono ?_;rintro e w2 ⟨rfl,rfl⟩
  go_wp2_with fail
  go_ret
  exact⟨rfl,rfl⟩
namespace Ge
def takes(r t:Int):Bool:=if r=101 then decide (t.tmod 2≠0) else if r=110 then decide (t≠0) else if r=43 then decide (0<t) else decide (t<0)
def rule(r:Int):Bool:=decide (r=101)||decide (r=110)||decide (r=43)||decide (r=45)
end Ge
theorem VM(r:Int)(w:World):Calls Tryz.prog 66 #[.int .u8 r] w fun e w'=>e=.returned (.bool (Ge.rule r))/\w'=w:=by
 by_cases h1:r=101
 ·subst h1
  go_enter Tryz.func66,Tryz.ntmps66
  go_wp2_with fail
  go_ret
  exact⟨rfl,rfl⟩
 ·by_cases h2:r=110
  ·subst h2
   go_enter Tryz.func66,Tryz.ntmps66
   go_wp2_with fail
   go_ret
   exact⟨rfl,rfl⟩
  ·by_cases h3:r=43
   ·subst h3
    go_enter Tryz.func66,Tryz.ntmps66
    go_wp2_with fail
    go_ret
    exact⟨rfl,rfl⟩
   ·have hv:Ge.rule r=(r == 45):=by
     unfold Ge.rule;simp only[h1,h2,h3,decide_false,RU];rfl
    rw[hv];have b1:(r == 101)=false:=uv.2 h1;have b2:(r == 110)=false:=uv.2 h2;have b3:(r == 43)=false:=uv.2 h3;clear h1 h2 h3 hv
    go_enter Tryz.func66,Tryz.ntmps66
    go_wp2_with fail
    go_ret
    exact⟨rfl,rfl⟩
theorem agx(r t:Int)(w:World):Calls Tryz.prog 106 #[.int .u8 r,.int .i64 t] w fun e w'=>e=.returned (.bool (Ge.takes r t))/\w'=w:=by
 by_cases h1:r=101
 ·subst h1
  go_enter Tryz.func106,Tryz.ntmps106
  go_wp2_with fail
  refine bodyPost_ret (v:=.bool (t.tmod 2 != 0)) (by simp[results,Tryz.results106,go_sem]) rfl ⟨?_,rfl⟩
  unfold Ge.takes;rw[ah rfl];by_cases h:t.tmod 2=0<;>simp[h]
 ·have b1:(r == 101)=false:=uv.2 h1;by_cases h2:r=110
  ·subst h2
   go_enter Tryz.func106,Tryz.ntmps106
   go_wp2_with fail
   refine bodyPost_ret (v:=.bool (t != 0)) (by simp[results,Tryz.results106,go_sem]) rfl ⟨?_,rfl⟩
   unfold Ge.takes;rw[aa (by decide),ah rfl]
   by_cases h:t=0<;>simp[h]
  ·have b2:(r == 110)=false:=uv.2 h2;by_cases h3:r=43
   ·subst h3
    go_enter Tryz.func106,Tryz.ntmps106
    go_wp2_with fail
    refine bodyPost_ret (v:=.bool (decide (0<t))) (by simp[results,Tryz.results106,go_sem]) rfl ⟨?_,rfl⟩
    unfold Ge.takes;rw[aa (by decide),aa (by decide),ah rfl]
   ·have b3:(r == 43)=false:=uv.2 h3;have hv:Ge.takes r t=decide (t<0):=by
     unfold Ge.takes;rw[aa h1,aa h2,aa h3]
    rw[hv];clear hv h1 h2 h3
    go_enter Tryz.func106,Tryz.ntmps106
    go_wp2_with fail
    refine bodyPost_ret (v:=.bool (decide (t<0))) (by simp[results,Tryz.results106,go_sem]) rfl ⟨rfl,rfl⟩
theorem VO(a b s:Nat)(w:World):Calls Tryz.prog 162 #[.agg #[.complex .f64 a b,.float .f64 s]] w fun e w'=>e=.returned (.agg #[.complex .f64 (Op.negFloat .f64 a) (Op.negFloat .f64 b),.float .f64 (Op.negFloat .f64 s)])/\Below w.heap.size w w':=by
 have Dj:∀w,(Op.unary .neg (.complex .f64 a b)).run Tryz.prog w=.ok (.complex .f64 (Op.negFloat .f64 a) (Op.negFloat .f64 b)) w:=fun _=>rfl
 have wL:∀w,(Op.unary .neg (.float .f64 s)).run Tryz.prog w=.ok (.float .f64 (Op.negFloat .f64 s)) w:=fun _=>rfl
 generalize Op.negFloat .f64 a=A at*;generalize Op.negFloat .f64 b=B at*;generalize Op.negFloat .f64 s=S at*
 go_enter Tryz.func162,Tryz.ntmps162
 go_wp2_with (simp only[fL,nH];go_simp)
 refine bodyPost_ret (v:=.agg #[.complex .f64 A B,.float .f64 S]) (by simp[results,Tryz.results162,go_sem]) rfl ⟨rfl,?_⟩
 exact((Below.refl _ _).alloc (ai _) _).alloc (by simp) _
namespace Ge
abbrev Ln:=Int×Int×Int
def Bg(l:Ln):Ln:=(-l.1, -l.2.1, -l.2.2)
def down(l:Ln):Bool:=decide (l.1<0)||(decide (l.1=0)&&decide (l.2.1<0))
def ig(l:Ln):Ln:=if down l then Bg l else l
end Ge
structure pP(a b s:Nat)(l:Ge.Ln):Prop where
 a:Fl a l.1
 b:Fl b l.2.1
 s:Fl s l.2.2
theorem pP.neg{a b s:Nat}{l:Ge.Ln}(h:pP a b s l):pP (Op.negFloat .f64 a) (Op.negFloat .f64 b) (Op.negFloat .f64 s) (Ge.Bg l):=⟨h.a.neg,h.b.neg,h.s.neg⟩
theorem agy{a b s:Nat}{l:Ge.Ln}(h:pP a b s l):
  ∃a' b' s',pP a' b' s' (Ge.ig l)/\∀w,Calls Tryz.prog 198 #[.agg #[.complex .f64 a b,.float .f64 s]] w fun e w'=>e=.returned (.agg #[.complex .f64 a' b',.float .f64 s'])/\Below w.heap.size w w':=by
 have q1:=Aq h.a kO;have q2:=sG h.a kO;have q3:=Aq h.b kO;have hn:=h.neg;have HR:Hid (∀w,Calls Tryz.prog 162 #[.agg #[.complex .f64 a b,.float .f64 s]] w fun e w'=>e=.returned (.agg #[.complex .f64 (Op.negFloat .f64 a) (Op.negFloat .f64 b),.float .f64 (Op.negFloat .f64 s)])/\Below w.heap.size w w'):=fun w=>VO a b s w
 unfold Ge.ig;cases hd:Ge.down l
 ·refine⟨a,b,s,h,fun w=>?_⟩
  have hb0:Below w.heap.size w (w.alloc (.cells #[.complex .f64 a b,.float .f64 s] 122)):=(Below.refl _ _).alloc (ai _) _;unfold Ge.down at hd;rw[<-q1,<-q2,<-q3] at hd;clear h hn q1 q2 q3 HR;generalize hp1:(FloatKind.f64.format.order a 0 == some Ordering.lt)=p1 at hd;generalize hp2:(FloatKind.f64.format.order a 0 == some Ordering.eq)=p2 at hd;generalize sO:(FloatKind.f64.format.order b 0 == some Ordering.lt)=p3 at hd;cases p1<;>cases p2<;>cases p3<;>simp at hd
  all_goals
   go_enter Tryz.func198,Tryz.ntmps198
   go_wp2_with (simp only[fL,nH];go_simp)
   refine bodyPost_ret (v:=.agg #[.complex .f64 a b,.float .f64 s]) (by simp[results,Tryz.results198,go_sem]) rfl ⟨rfl,?_⟩
   exact((Below.refl _ _).alloc (ai _) _).alloc (by simp) _
 ·refine⟨_,_,_,hn,fun w=>?_⟩
  unfold Ge.down at hd;rw[<-q1,<-q2,<-q3] at hd;clear h hn q1 q2 q3;generalize Op.negFloat .f64 a=A at*;generalize Op.negFloat .f64 b=B at*;generalize Op.negFloat .f64 s=S at*;generalize hp1:(FloatKind.f64.format.order a 0 == some Ordering.lt)=p1 at hd;generalize hp2:(FloatKind.f64.format.order a 0 == some Ordering.eq)=p2 at hd;generalize sO:(FloatKind.f64.format.order b 0 == some Ordering.lt)=p3 at hd;have hb0:Below w.heap.size w ((w.alloc (.cells #[.complex .f64 a b,.float .f64 s] 122)).alloc (.cells #[.complex .f64 0 0,.float .f64 0] 122)):=((Below.refl _ _).alloc (ai _) _).alloc (by simp) _
  have hE:=heap_alloc_new (w.alloc (.cells #[.complex .f64 a b,.float .f64 s] 122)) (.cells #[.complex .f64 0 0,.float .f64 0] 122);have hz:(w.alloc (.cells #[.complex .f64 a b,.float .f64 s] 122)).heap.size=w.heap.size+1:=by simp
  have hz2:((w.alloc (.cells #[.complex .f64 a b,.float .f64 s] 122)).alloc (.cells #[.complex .f64 0 0,.float .f64 0] 122)).heap.size=w.heap.size+2:=by simp
  rw[hz] at hE;cases p1<;>cases p2<;>cases p3<;>simp at hd
  all_goals
   go_enter Tryz.func198,Tryz.ntmps198
   go_wp2_with fail
   generalize(w.alloc (.cells #[.complex .f64 a b,.float .f64 s] 122)).alloc (.cells #[.complex .f64 0 0,.float .f64 0] 122)=W at*;refine(HR.out _).mono ?_;rintro e w1 ⟨rfl,hb1⟩;have jJ:=(hb1.block (w.heap.size+1) (by omega)).trans hE
   have e0:w1.cell? ⟨w.heap.size+1,0,none⟩=some (.complex .f64 0 0):=cell_of jJ 0;have e1:w1.cell? ⟨w.heap.size+1,1,none⟩=some (.float .f64 0):=cell_of jJ 1;have z0:w1.frozen? ⟨w.heap.size+1,0,none⟩=false:=aH jJ 0;have z1:w1.frozen? ⟨w.heap.size+1,1,none⟩=false:=aH jJ 1;have ak:=hb0.trans (hb1.mono hb0.size)
   go_wp2_with (simp only[fL,nH];go_simp)
   refine bodyPost_ret (v:=.agg #[.complex .f64 A B,.float .f64 S]) (by simp[results,Tryz.results198,go_sem,e0,e1]) rfl ⟨rfl,?_⟩
   exact(ak.setCell (p:=⟨w.heap.size+1,0,none⟩) (l8 _) _).setCell (p:=⟨w.heap.size+1,1,none⟩) (l8 _) _
end Go.Proofs.YtkjhhooecopolaaGreatDoor
