import Derived.Test.YtkjhhooecopolaaGreatDoorWz11
set_option maxRecDepth 100000
set_option maxHeartbeats 4000000
namespace Go.Proofs.YtkjhhooecopolaaGreatDoor
open Go.RowKit
theorem aer(x y:EB)(w:World)
  (HP:Hid (∀w,Calls Tryz.prog 179 #[.agg #[.complex .f64 x.wa x.wb,.float .f64 x.sh],.agg #[.complex .f64 y.wa y.wb,.float .f64 y.sh]] w fun r w'=>r=.returned (.bool true)/\Below w.heap.size w w')):
  Calls Tryz.prog 123 #[.agg x.cells,.agg y.cells] w fun r w'=>r=.returned (.tuple #[.agg #[.complex .f64 0 0,.int .i64 0],.bool false])/\Below w.heap.size w w':=by
 obtain⟨wa,wb,sh,fa,fb,ta,tb⟩:=x;obtain⟨jg,jh,sh',l9,mb,mf,mg⟩:=y;simp only[EB.cells] at*
 go_enter Tryz.func123,Tryz.ntmps123
 go_wp2_with fail
 have hs1:w.heap.size+1+1=((w.alloc (.cells #[.complex .f64 wa wb,.float .f64 sh,.complex .f64 fa fb,.complex .f64 ta tb] 124)).alloc (.cells #[.complex .f64 jg jh,.float .f64 sh',.complex .f64 l9 mb,.complex .f64 mf mg] 124)).heap.size:=by simp
 have hb0:Below w.heap.size w ((w.alloc (.cells #[.complex .f64 wa wb,.float .f64 sh,.complex .f64 fa fb,.complex .f64 ta tb] 124)).alloc (.cells #[.complex .f64 jg jh,.float .f64 sh',.complex .f64 l9 mb,.complex .f64 mf mg] 124)):=((Below.refl _ _).alloc (ay _) _).alloc (by simp) _
 generalize(w.alloc (.cells #[.complex .f64 wa wb,.float .f64 sh,.complex .f64 fa fb,.complex .f64 ta tb] 124)).alloc (.cells #[.complex .f64 jg jh,.float .f64 sh',.complex .f64 l9 mb,.complex .f64 mf mg] 124)=W1 at*;have hE:=heap_alloc_new W1 (.cells #[.complex .f64 0 0,.int .i64 0] 83);have hb2:=hb0.alloc (by omega) (.cells #[.complex .f64 0 0,.int .i64 0] 83)
 have hz:W1.heap.size<(W1.alloc (.cells #[.complex .f64 0 0,.int .i64 0] 83)).heap.size:=by simp
 generalize W1.alloc (.cells #[.complex .f64 0 0,.int .i64 0] 83)=W at*;generalize hB:w.heap.size=B at*;rw[<-hs1] at hE hz;refine(HP.out _).mono ?_;rintro e w1 ⟨rfl,hb1⟩;have dC:=(hb1.block _ hz).trans hE;have aw:=hb2.trans (hb1.mono (by omega))
 have e0:w1.cell? ⟨B+1+1,0,none⟩=some (.complex .f64 0 0):=cell_of dC 0;have e1:w1.cell? ⟨B+1+1,1,none⟩=some (.int .i64 0):=cell_of dC 1;have z0:w1.frozen? ⟨B+1+1,0,none⟩=false:=bw dC 0;have z1:w1.frozen? ⟨B+1+1,1,none⟩=false:=bw dC 1;have qC:B<=B+1+1:=by omega
 clear hE dC hb2 hb0 hb1 hs1
 go_wp2_with (simp only[fW];go_simp)
 refine bodyPost_ret (v:=.tuple #[.agg #[.complex .f64 0 0,.int .i64 0],.bool false]) (by simp[results,Tryz.results123,go_sem,e0,e1]) rfl ⟨rfl,?_⟩
 rw[hB];exact(aw.setCell qC _).setCell qC _
theorem aes(x y:EB)(N1 N2:Nat)(P:Int)(u1 u2:Bool)(w:World)
  (HP:Hid (∀w,Calls Tryz.prog 179 #[.agg #[.complex .f64 x.wa x.wb,.float .f64 x.sh],.agg #[.complex .f64 y.wa y.wb,.float .f64 y.sh]] w fun r w'=>r=.returned (.bool false)/\Below w.heap.size w w'))
  (HC:Hid (∀w,Calls Tryz.prog 180 #[.agg #[.complex .f64 x.wa x.wb,.float .f64 x.sh],.agg #[.complex .f64 y.wa y.wb,.float .f64 y.sh]] w fun r w'=>r=.returned (.agg #[.complex .f64 N1 N2,.int .i64 P])/\Below w.heap.size w w'))
  (HX:Hid (∀w,Calls Tryz.prog 62 #[.agg x.cells,.agg #[.complex .f64 N1 N2,.int .i64 P]] w fun r w'=>r=.returned (.bool u1)/\Below w.heap.size w w'))
  (HY:Hid (∀w,Calls Tryz.prog 62 #[.agg y.cells,.agg #[.complex .f64 N1 N2,.int .i64 P]] w fun r w'=>r=.returned (.bool u2)/\Below w.heap.size w w')):
  Calls Tryz.prog 123 #[.agg x.cells,.agg y.cells] w fun r w'=>r=.returned (.tuple #[.agg #[.complex .f64 N1 N2,.int .i64 P],.bool (u1&&u2)])/\Below w.heap.size w w':=by
 obtain⟨wa,wb,sh,fa,fb,ta,tb⟩:=x;obtain⟨jg,jh,sh',l9,mb,mf,mg⟩:=y;simp only[EB.cells] at*
 go_enter Tryz.func123,Tryz.ntmps123
 go_wp2_with fail
 have hs1:w.heap.size+1+1=((w.alloc (.cells #[.complex .f64 wa wb,.float .f64 sh,.complex .f64 fa fb,.complex .f64 ta tb] 124)).alloc (.cells #[.complex .f64 jg jh,.float .f64 sh',.complex .f64 l9 mb,.complex .f64 mf mg] 124)).heap.size:=by simp
 have hb0:Below w.heap.size w ((w.alloc (.cells #[.complex .f64 wa wb,.float .f64 sh,.complex .f64 fa fb,.complex .f64 ta tb] 124)).alloc (.cells #[.complex .f64 jg jh,.float .f64 sh',.complex .f64 l9 mb,.complex .f64 mf mg] 124)):=((Below.refl _ _).alloc (ay _) _).alloc (by simp) _
 have hX:((w.alloc (.cells #[.complex .f64 wa wb,.float .f64 sh,.complex .f64 fa fb,.complex .f64 ta tb] 124)).alloc (.cells #[.complex .f64 jg jh,.float .f64 sh',.complex .f64 l9 mb,.complex .f64 mf mg] 124)).heap[w.heap.size]?=some (.cells #[.complex .f64 wa wb,.float .f64 sh,.complex .f64 fa fb,.complex .f64 ta tb] 124 (0,0)):=by
  rw[Below.heap_alloc _ _ _ (by simp)];exact heap_alloc_new _ _
 have hY:((w.alloc (.cells #[.complex .f64 wa wb,.float .f64 sh,.complex .f64 fa fb,.complex .f64 ta tb] 124)).alloc (.cells #[.complex .f64 jg jh,.float .f64 sh',.complex .f64 l9 mb,.complex .f64 mf mg] 124)).heap[w.heap.size+1]?=some (.cells #[.complex .f64 jg jh,.float .f64 sh',.complex .f64 l9 mb,.complex .f64 mf mg] 124 (0,0)):=by
  have:=heap_alloc_new (w.alloc (.cells #[.complex .f64 wa wb,.float .f64 sh,.complex .f64 fa fb,.complex .f64 ta tb] 124)) (.cells #[.complex .f64 jg jh,.float .f64 sh',.complex .f64 l9 mb,.complex .f64 mf mg] 124);simpa using this
 generalize(w.alloc (.cells #[.complex .f64 wa wb,.float .f64 sh,.complex .f64 fa fb,.complex .f64 ta tb] 124)).alloc (.cells #[.complex .f64 jg jh,.float .f64 sh',.complex .f64 l9 mb,.complex .f64 mf mg] 124)=W1 at*;have hE:=heap_alloc_new W1 (.cells #[.complex .f64 0 0,.int .i64 0] 83);have TU:=(Below.heap_alloc W1 (.cells #[.complex .f64 0 0,.int .i64 0] 83) w.heap.size (by omega)).trans hX
 have TV:=(Below.heap_alloc W1 (.cells #[.complex .f64 0 0,.int .i64 0] 83) (w.heap.size+1) (by omega)).trans hY
 have hb2:=hb0.alloc (by omega) (.cells #[.complex .f64 0 0,.int .i64 0] 83)
 have hz:W1.heap.size<(W1.alloc (.cells #[.complex .f64 0 0,.int .i64 0] 83)).heap.size:=by simp
 generalize W1.alloc (.cells #[.complex .f64 0 0,.int .i64 0] 83)=W at*;generalize hB:w.heap.size=B at*;rw[<-hs1] at hE hz;clear hX hY hb0 hs1;refine(HP.out _).mono ?_;rintro e w1 ⟨rfl,hb1⟩;have hz1:B+1+1<w1.heap.size:=bu hz hb1.size;have dC:=(hb1.block _ hz).trans hE;have zU:=(hb1.block B (by omega)).trans TU
 have Ih:=(hb1.block (B+1) (by omega)).trans TV
 have iw:=hb2.trans (hb1.mono (by omega))
 clear hE TU TV hb2 hb1;have x0:w1.cell? ⟨B,0,none⟩=some (.complex .f64 wa wb):=cell_of zU 0;have x1:w1.cell? ⟨B,1,none⟩=some (.float .f64 sh):=cell_of zU 1;have y0:w1.cell? ⟨B+1,0,none⟩=some (.complex .f64 jg jh):=cell_of Ih 0;have y1:w1.cell? ⟨B+1,1,none⟩=some (.float .f64 sh'):=cell_of Ih 1
 go_wp2_with fail
 refine(HC.out _).mono ?_;rintro e w2 ⟨rfl,hb3⟩;have hz2:B+1+1<w2.heap.size:=bu hz1 hb3.size;have TW:=(hb3.block _ hz1).trans dC;have TY:=(hb3.block B (by omega)).trans zU
 have TZ:=(hb3.block (B+1) (by omega)).trans Ih
 have xQ:=iw.trans (hb3.mono (by omega))
 clear dC zU Ih iw hb3 x0 x1 y0 y1
 go_wp2_with fail
 have hN:=heap_alloc_new w2 (.cells #[.complex .f64 0 0,.int .i64 0] 83);have C5:=(Below.heap_alloc w2 (.cells #[.complex .f64 0 0,.int .i64 0] 83) _ hz2).trans TW;have T4:=(Below.heap_alloc w2 (.cells #[.complex .f64 0 0,.int .i64 0] 83) B (by omega)).trans TY
 have mR:=(Below.heap_alloc w2 (.cells #[.complex .f64 0 0,.int .i64 0] 83) (B+1) (by omega)).trans TZ
 have iI:=xQ.alloc (by omega) (.cells #[.complex .f64 0 0,.int .i64 0] 83)
 have hz3:w2.heap.size<(w2.alloc (.cells #[.complex .f64 0 0,.int .i64 0] 83)).heap.size:=by simp
 generalize w2.alloc (.cells #[.complex .f64 0 0,.int .i64 0] 83)=W3 at*;generalize w2.heap.size=M at*;clear TW TY TZ xQ;have n0:W3.cell? ⟨M,0,none⟩=some (.complex .f64 0 0):=cell_of hN 0;have n1:W3.cell? ⟨M,1,none⟩=some (.int .i64 0):=cell_of hN 1;have f0:W3.frozen? ⟨M,0,none⟩=false:=bw hN 0;have f1:W3.frozen? ⟨M,1,none⟩=false:=bw hN 1
 go_wp2_with (simp only[fW];go_simp)
 have xR:M≠B/\M≠B+1/\M≠B+1+1:=by omega
 have C6:=(ir (o:=1) xR.1.symm (.int .i64 P)).trans ((ir (o:=0) xR.1.symm (.complex .f64 N1 N2)).trans T4);have C7:=(ir (o:=1) xR.2.1.symm (.int .i64 P)).trans ((ir (o:=0) xR.2.1.symm (.complex .f64 N1 N2)).trans mR);have zV:=(ir (o:=1) xR.2.2.symm (.int .i64 P)).trans ((ir (o:=0) xR.2.2.symm (.complex .f64 N1 N2)).trans C5);have a8:((W3.setCell ⟨M,0,none⟩ (.complex .f64 N1 N2)).setCell ⟨M,1,none⟩ (.int .i64 P)).cell? ⟨M,0,none⟩=some (.complex .f64 N1 N2):=by simp[go_sem,n0]
 have a9:((W3.setCell ⟨M,0,none⟩ (.complex .f64 N1 N2)).setCell ⟨M,1,none⟩ (.int .i64 P)).cell? ⟨M,1,none⟩=some (.int .i64 P):=by simp[go_sem,n1]
 have C8:=(iI.setCell (p:=⟨M,0,none⟩) (by show B<=M;omega) (.complex .f64 N1 N2)).setCell (p:=⟨M,1,none⟩) (by show B<=M;omega) (.int .i64 P)
 have xS:M<((W3.setCell ⟨M,0,none⟩ (.complex .f64 N1 N2)).setCell ⟨M,1,none⟩ (.int .i64 P)).heap.size:=by simpa using hz3
 generalize(W3.setCell ⟨M,0,none⟩ (.complex .f64 N1 N2)).setCell ⟨M,1,none⟩ (.int .i64 P)=W4 at*;have dJ:B+1+1<W4.heap.size:=abb hz2 xS;have kP:B<=W4.heap.size:=by omega
 clear T4 mR C5 iI n0 n1 f0 f1 hN hz3;have a0:=cell_of C6 0;have a1:=cell_of C6 1;have a2:=cell_of C6 2;have a3:=cell_of C6 3;have a4:=cell_of C7 0;have a5:=cell_of C7 1;have a6:=cell_of C7 2;have a7:=cell_of C7 3;simp at a0 a1 a2 a3 a4 a5 a6 a7;have aq0:W4.cell? ⟨B+1+1,0,none⟩=some (.complex .f64 0 0):=cell_of zV 0;have aq1:W4.cell? ⟨B+1+1,1,none⟩=some (.int .i64 0):=cell_of zV 1;have ay0:W4.frozen? ⟨B+1+1,0,none⟩=false:=bw zV 0;have ay1:W4.frozen? ⟨B+1+1,1,none⟩=false:=bw zV 1;clear C6 C7;obtain⟨m1,m2,m3⟩:=xR;have m4:=Ne.symm m3;have lV:¬(B=B+1+1):=by omega
 have rJ:¬(B+1+1=B):=by omega
 have hn3:¬(B+1=B+1+1):=by omega
 have hn4:¬(B+1+1=B+1):=by omega
 have hn5:¬(B=B+2):=by omega
 have hn6:¬(B+2=B):=by omega
 cases u1
 ·refine wp_region_held_drew (S:=(fun w'=>w'.cell? ⟨B,0,none⟩=some (.complex .f64 wa wb)/\w'.cell? ⟨B,1,none⟩=some (.float .f64 sh)/\w'.cell? ⟨B,2,none⟩=some (.complex .f64 fa fb)/\w'.cell? ⟨B,3,none⟩=some (.complex .f64 ta tb)/\w'.cell? ⟨B+1,0,none⟩=some (.complex .f64 jg jh)/\w'.cell? ⟨B+1,1,none⟩=some (.float .f64 sh')/\w'.cell? ⟨B+1,2,none⟩=some (.complex .f64 l9 mb)/\w'.cell? ⟨B+1,3,none⟩=some (.complex .f64 mf mg)/\w'.cell? ⟨M,0,none⟩=some (.complex .f64 N1 N2)/\w'.cell? ⟨M,1,none⟩=some (.int .i64 P)/\w'.frozen? ⟨B+1+1,0,none⟩=false/\w'.frozen? ⟨B+1+1,1,none⟩=false)) (by kernel_rfl) ⟨a0,a1,a2,a3,a4,a5,a6,a7,a8,a9,ay0,ay1⟩ (fun hHeld=>?_)
  refine wpAnyH_take (i:=0) (oi:={dst:=some 18,op:=_,type:=_,pos:=_,after:=_,guard:=_}) (v:=?_) rfl (by kernel_rfl) (by kernel_rfl) (by kernel_rfl) (fun _ _ _ h=>h) (ag ⟨by rfl,?_⟩) hHeld ?_
  rotate_left
  ·intro w' aA;obtain⟨s0,s1,s2,s3,s4,s5,s6,s7,s8,s9,C9,Da⟩:=aA
   go_simp
   try with_reducible rfl
  simp only[Act.put,aH,aI,aG];refine wpAnyH_take (i:=1) (oi:={dst:=some 19,op:=_,type:=_,pos:=_,after:=_,guard:=_}) (v:=?_) rfl (by kernel_rfl) (by kernel_rfl) (by kernel_rfl) (fun _ _ _ h=>h) (ag ⟨by rfl,?_⟩) hHeld ?_
  rotate_left
  ·intro w' aA;obtain⟨s0,s1,s2,s3,s4,s5,s6,s7,s8,s9,C9,Da⟩:=aA
   go_simp
   try with_reducible rfl
  simp only[Act.put,aH,aI,aG];refine wpAnyH_take (i:=2) (oi:={dst:=some 20,op:=_,type:=_,pos:=_,after:=_,guard:=_}) (v:=?_) rfl (by kernel_rfl) (by kernel_rfl) (by kernel_rfl) (fun _ _ _ h=>h) (ag ⟨by rfl,?_⟩) hHeld ?_
  rotate_left
  ·intro w' aA;obtain⟨s0,s1,s2,s3,s4,s5,s6,s7,s8,s9,C9,Da⟩:=aA
   go_simp
   try with_reducible rfl
  simp only[Act.put,aH,aI,aG];refine wpAnyH_ready (rs:=[3]) (by kernel_rfl) (by simp) ?_
  refine AllReadyH.cons rfl (fun K hK=>?_) AllReadyH.nil
  go_simp
  refine(HX.out _).mono ?_;rintro e w6 ⟨rfl,aF⟩;have hbz:B+1+1<w6.heap.size:=bu dJ aF.size;have jL:M<w6.heap.size:=bu xS aF.size;have b0:=(aF.cell (p:=⟨B,0,none⟩) (dG (dG dJ))).trans a0;have b1:=(aF.cell (p:=⟨B,1,none⟩) (dG (dG dJ))).trans a1;have b2:=(aF.cell (p:=⟨B,2,none⟩) (dG (dG dJ))).trans a2;have b3:=(aF.cell (p:=⟨B,3,none⟩) (dG (dG dJ))).trans a3;have b4:=(aF.cell (p:=⟨B+1,0,none⟩) (dG dJ)).trans a4;have b5:=(aF.cell (p:=⟨B+1,1,none⟩) (dG dJ)).trans a5;have b6:=(aF.cell (p:=⟨B+1,2,none⟩) (dG dJ)).trans a6;have b7:=(aF.cell (p:=⟨B+1,3,none⟩) (dG dJ)).trans a7;have b8:=(aF.cell (p:=⟨M,0,none⟩) xS).trans a8;have b9:=(aF.cell (p:=⟨M,1,none⟩) xS).trans a9;have sf:=(aF.block (B+1+1) dJ).trans zV;have T5:w6.cell? ⟨B+1+1,0,none⟩=some (.complex .f64 0 0):=cell_of sf 0;have T6:w6.cell? ⟨B+1+1,1,none⟩=some (.int .i64 0):=cell_of sf 1;have Md:w6.frozen? ⟨B+1+1,0,none⟩=false:=bw sf 0;have Me:w6.frozen? ⟨B+1+1,1,none⟩=false:=bw sf 1
  go_wp2_with fail
  refine hK.out _ _ ⟨b0,b1,b2,b3,b4,b5,b6,b7,b8,b9,Md,Me⟩ (fun hHeld=>?_)
  clear hK K
  try simp only[Act.put,aH,aI,aG]
  refine wpAnyH_take (i:=4) (oi:={dst:=some 22,op:=_,type:=_,pos:=_,after:=_,guard:=_}) (v:=?_) rfl (by kernel_rfl) (by kernel_rfl) (by kernel_rfl) (fun _ _ _ h=>h) (ag ⟨by rfl,?_⟩) hHeld ?_
  rotate_left
  ·intro w' aA;obtain⟨s0,s1,s2,s3,s4,s5,s6,s7,s8,s9,C9,Da⟩:=aA
   go_simp
   try with_reducible rfl
  simp only[Act.put,aH,aI,aG];refine wpAnyH_take (i:=5) (oi:={dst:=some 23,op:=_,type:=_,pos:=_,after:=_,guard:=_}) (v:=undef) rfl (by kernel_rfl) (by kernel_rfl) (by kernel_rfl) (fun _ _ _ h=>h) (ah ⟨by kernel_rfl,rfl⟩) hHeld ?_
  simp only[Act.put,aH,aI,aG];refine wpAnyH_take (i:=6) (oi:={dst:=some 24,op:=_,type:=_,pos:=_,after:=_,guard:=_}) (v:=undef) rfl (by kernel_rfl) (by kernel_rfl) (by kernel_rfl) (fun _ _ _ h=>h) (ah ⟨by kernel_rfl,rfl⟩) hHeld ?_
  simp only[Act.put,aH,aI,aG];refine wpAnyH_take (i:=7) (oi:={dst:=some 25,op:=_,type:=_,pos:=_,after:=_,guard:=_}) (v:=undef) rfl (by kernel_rfl) (by kernel_rfl) (by kernel_rfl) (fun _ _ _ h=>h) (ah ⟨by kernel_rfl,rfl⟩) hHeld ?_
  simp only[Act.put,aH,aI,aG];refine wpAnyH_take (i:=8) (oi:={dst:=some 26,op:=_,type:=_,pos:=_,after:=_,guard:=_}) (v:=?_) rfl (by kernel_rfl) (by kernel_rfl) (by kernel_rfl) (fun _ _ _ h=>h) (ag ⟨by rfl,?_⟩) hHeld ?_
  rotate_left
  ·intro w' aA;obtain⟨s0,s1,s2,s3,s4,s5,s6,s7,s8,s9,C9,Da⟩:=aA
   go_simp
   try with_reducible rfl
  simp only[Act.put,aH,aI,aG];refine wpAnyH_ready (rs:=[9]) (by kernel_rfl) (by simp) ?_
  refine AllReadyH.cons rfl (fun K hK=>?_) AllReadyH.nil
  go_simp
  simp only[fW]
  go_simp
  refine hK.out _ _ ?_ (fun hHeld=>?_)
  ·refine⟨?_,?_,?_,?_,?_,?_,?_,?_,?_,?_,?_,?_⟩<;>simp[World.frozen?_setCell,go_sem,b0,b1,b2,b3,b4,b5,b6,b7,b8,b9,Md,Me]
  clear hK K
  try simp only[Act.put,aH,aI,aG]
  refine wpAnyH_take (i:=10) (oi:={dst:=some 5,op:=_,type:=_,pos:=_,after:=_,guard:=_}) (v:=?_) rfl (by kernel_rfl) (by kernel_rfl) (by kernel_rfl) (fun _ _ _ h=>h) (ag ⟨by rfl,?_⟩) hHeld ?_
  rotate_left
  ·intro w' aA;obtain⟨s0,s1,s2,s3,s4,s5,s6,s7,s8,s9,C9,Da⟩:=aA
   go_simp
   try with_reducible rfl
  simp only[Act.put,aH,aI,aG];refine wpAnyH_done (by kernel_rfl) ?_ _
  go_wp2_with fail
  refine bodyPost_ret (v:=.tuple #[.agg #[.complex .f64 N1 N2,.int .i64 P],.bool false]) (by simp[results,Tryz.results123,go_sem,T5,T6]) rfl ⟨rfl,?_⟩
  rw[hB];exact((C8.drew.trans (aF.mono kP)).setCell (by show B<=B+1+1;omega) _).setCell (by show B<=B+1+1;omega) _
 ·go_region_held3 (fun w'=>w'.cell? ⟨B,0,none⟩=some (.complex .f64 wa wb)/\w'.cell? ⟨B,1,none⟩=some (.float .f64 sh)/\w'.cell? ⟨B,2,none⟩=some (.complex .f64 fa fb)/\w'.cell? ⟨B,3,none⟩=some (.complex .f64 ta tb)/\w'.cell? ⟨B+1,0,none⟩=some (.complex .f64 jg jh)/\w'.cell? ⟨B+1,1,none⟩=some (.float .f64 sh')/\w'.cell? ⟨B+1,2,none⟩=some (.complex .f64 l9 mb)/\w'.cell? ⟨B+1,3,none⟩=some (.complex .f64 mf mg)/\w'.cell? ⟨M,0,none⟩=some (.complex .f64 N1 N2)/\w'.cell? ⟨M,1,none⟩=some (.int .i64 P)/\w'.frozen? ⟨B+1+1,0,none⟩=false/\w'.frozen? ⟨B+1+1,1,none⟩=false) (first |go_keep|(go_split_ands;refine⟨?_,?_,?_,?_,?_,?_,?_,?_,?_,?_,?_,?_⟩<;>first |(simp[World.frozen?_setCell, *];done)|(simp[*];done))) (first
   |(go_at_call_of 62 (Value.agg #[Value.complex FloatKind.f64 wa wb,Value.float FloatKind.f64 sh,Value.complex FloatKind.f64 fa fb,Value.complex FloatKind.f64 ta tb]);refine(HX.out _).mono ?_;rintro e w6 ⟨rfl,aF⟩;have hbz:B+1+1<w6.heap.size:=bu dJ aF.size;have jL:M<w6.heap.size:=bu xS aF.size;have b0:=(aF.cell (p:=⟨B,0,none⟩) (dG (dG dJ))).trans a0;have b1:=(aF.cell (p:=⟨B,1,none⟩) (dG (dG dJ))).trans a1;have b2:=(aF.cell (p:=⟨B,2,none⟩) (dG (dG dJ))).trans a2;have b3:=(aF.cell (p:=⟨B,3,none⟩) (dG (dG dJ))).trans a3;have b4:=(aF.cell (p:=⟨B+1,0,none⟩) (dG dJ)).trans a4;have b5:=(aF.cell (p:=⟨B+1,1,none⟩) (dG dJ)).trans a5;have b6:=(aF.cell (p:=⟨B+1,2,none⟩) (dG dJ)).trans a6;have b7:=(aF.cell (p:=⟨B+1,3,none⟩) (dG dJ)).trans a7;have b8:=(aF.cell (p:=⟨M,0,none⟩) xS).trans a8;have b9:=(aF.cell (p:=⟨M,1,none⟩) xS).trans a9;have sf:=(aF.block (B+1+1) dJ).trans zV;have T5:w6.cell? ⟨B+1+1,0,none⟩=some (.complex .f64 0 0):=cell_of sf 0;have T6:w6.cell? ⟨B+1+1,1,none⟩=some (.int .i64 0):=cell_of sf 1;have Md:w6.frozen? ⟨B+1+1,0,none⟩=false:=bw sf 0;have Me:w6.frozen? ⟨B+1+1,1,none⟩=false:=bw sf 1)
   |(go_at_call_of 62 (Value.agg #[Value.complex FloatKind.f64 jg jh,Value.float FloatKind.f64 sh',Value.complex FloatKind.f64 l9 mb,Value.complex FloatKind.f64 mf mg]);refine(HY.out _).mono ?_;rintro e w7 ⟨rfl,aV⟩;have hcz:B+1+1<w7.heap.size:=bu hbz aV.size;have hcm:M<w7.heap.size:=bu jL aV.size;have c0:=(aV.cell (p:=⟨B,0,none⟩) (dG (dG hbz))).trans b0;have c1:=(aV.cell (p:=⟨B,1,none⟩) (dG (dG hbz))).trans b1;have c2:=(aV.cell (p:=⟨B,2,none⟩) (dG (dG hbz))).trans b2;have c3:=(aV.cell (p:=⟨B,3,none⟩) (dG (dG hbz))).trans b3;have c4:=(aV.cell (p:=⟨B+1,0,none⟩) (dG hbz)).trans b4;have c5:=(aV.cell (p:=⟨B+1,1,none⟩) (dG hbz)).trans b5;have c6:=(aV.cell (p:=⟨B+1,2,none⟩) (dG hbz)).trans b6;have c7:=(aV.cell (p:=⟨B+1,3,none⟩) (dG hbz)).trans b7;have c8:=(aV.cell (p:=⟨M,0,none⟩) jL).trans b8;have c9:=(aV.cell (p:=⟨M,1,none⟩) jL).trans b9;have hce:=(aV.block (B+1+1) hbz).trans sf;have cq0:w7.cell? ⟨B+1+1,0,none⟩=some (.complex .f64 0 0):=cell_of hce 0;have cq1:w7.cell? ⟨B+1+1,1,none⟩=some (.int .i64 0):=cell_of hce 1;have cy0:w7.frozen? ⟨B+1+1,0,none⟩=false:=bw hce 0;have cy1:w7.frozen? ⟨B+1+1,1,none⟩=false:=bw hce 1)
   |(simp only[fW];go_simp))
  go_wp2_with fail
  refine bodyPost_ret (v:=.tuple #[.agg #[.complex .f64 N1 N2,.int .i64 P],.bool u2]) (by simp[results,Tryz.results123,go_sem,cq0,cq1]) rfl ⟨rfl,?_⟩
  rw[hB];exact(((C8.drew.trans (aF.mono kP)).trans (aV.mono (eJ (dG (dG hbz))))).setCell (by show B<=B+1+1;omega) _).setCell (by show B<=B+1+1;omega) _
end Go.Proofs.YtkjhhooecopolaaGreatDoor
namespace Go.Proofs.YtkjhhooecopolaaGreatDoor.Ge
theorem zW{n:Nd}(h:Can n)(e:Pt×Pt):hq (ax n) e=fo (n.1,n.2.1) n.2.2 e:=by
 obtain⟨X,Y,P⟩:=n;have hp:0<P:=h.pos;obtain⟨g,g0,e1,e2,gp⟩:=xD (n:=X) (d:=P) (by omega)
 obtain⟨k,k0,e3,e4,kp⟩:=xD (n:=Y) (d:=P) (by omega)
 have vD:=aR (gp.2 hp) (kp.2 hp);unfold hq ax;show fo ((aW X P).1*(aW Y P).2,(aW Y P).1*(aW X P).2) ((aW X P).2*(aW Y P).2) e=fo (X,Y) P e;rw[<-TE (x:=P*X) (y:=P*Y) (d:=P*P) hp rfl rfl rfl e];generalize aW X P=A at*;generalize aW Y P=B at*;have q1:P*X=g*k*(A.1*B.2):=by rw[e1];grind
 have q2:P*Y=g*k*(B.1*A.2):=by rw[e3];grind
 have q3:P*P=g*k*(A.2*B.2):=by grind
 exact(TE vD q1 q2 q3 e).symm
end Go.Proofs.YtkjhhooecopolaaGreatDoor.Ge
namespace Go.Proofs.YtkjhhooecopolaaGreatDoor
open Go.RowKit
theorem qD{n:Ge.Nd}(h:dM n.1 n.2.1 n.2.2):Fl (floatOfInt .f64 n.1) n.1/\Fl (floatOfInt .f64 n.2.1) n.2.1:=by
 have hx:=h.x;have hy:=h.y;exact⟨qx (by omega),qx (by omega)⟩
theorem aex(x y:EB)(e f:Ed)(hx:jK x e)(hy:jK y f)(he:eO e)(hf:eO f):
  ∃(v:Ge.Nd)(b:Bool)(nv:Value),(∀w,Calls Tryz.prog 123 #[.agg x.cells,.agg y.cells] w fun r w'=>r=.returned (.tuple #[nv,.bool b])/\Below w.heap.size w w')
   /\(∃N1 N2 P,nv=.agg #[.complex .f64 N1 N2,.int .i64 P])
   /\(b=true↔Ge.cK e f≠0/\Ge.hq (Ge.fw e f) e=true/\Ge.hq (Ge.fw e f) f=true)
   /\(b=true->nv=gZ v/\Ge.Can v/\Ge.ax v=Ge.fw e f/\dM v.1 v.2.1 v.2.2):=by
 by_cases hc:Ge.cK e f=0
 ·refine⟨(0,0,1),false,_,fun w=>aer x y w (fun w=>?_),⟨_,_,_,rfl⟩,?_,?_⟩
  ·have:=TP x y e f hx hy he hf w;rw[eN hc] at this;exact this
  ·simp[hc]
  ·simp
 ·obtain⟨n,n1,n2,n3,hC⟩:=aeq x y e f hx hy he hf hc;obtain⟨f1,f2⟩:=qD n3;refine⟨n,Ge.hq (Ge.fw e f) e&&Ge.hq (Ge.fw e f) f,_,fun w=>aes x y (floatOfInt .f64 n.1) (floatOfInt .f64 n.2.1) n.2.2 _ _ w (fun w=>?_) hC (fun w=>?_) (fun w=>?_),⟨_,_,_,rfl⟩,?_,?_⟩
  ·have:=TP x y e f hx hy he hf w;rw[gv hc] at this;exact this
  ·rw[<-n2,Ge.zW n1];exact G8 x e hx he f1 f2 n3 w
  ·rw[<-n2,Ge.zW n1];exact G8 y f hy hf f1 f2 n3 w
  ·simp[hc]
  ·exact fun _=>⟨rfl,n1,n2,n3⟩
end Go.Proofs.YtkjhhooecopolaaGreatDoor
namespace Go.Proofs.YtkjhhooecopolaaGreatDoor
open Go.RowKit
theorem T7{a:Nat}{x:Int}(h:Fl a x)(w:World):
  Calls Tryz.prog 227 #[.float .f64 a] w fun r w'=>r=.returned (.bool false)/\w'=w:=by
 have q:(FloatKind.f64.format.order a a == some Ordering.eq)=true:=by rw[rP h h];simp
 have q2:(FloatKind.f64.format.order a a)=some Ordering.eq:=by simpa using q
 go_enter Tryz.func227,Tryz.ntmps227
 go_wp2_with fail
 go_ret
 exact⟨by simp,rfl⟩
theorem xU{a b:Nat}{x y:Int}(h1:Fl a x)(h2:Fl b y)(w:World):
  Calls Tryz.prog 183 #[.float .f64 a,.float .f64 b] w fun r w'=>r=.returned (.int .i64 (x-y).sign)/\w'=w:=by
 have H1:Hid (∀w,Calls Tryz.prog 227 #[.float .f64 a] w fun r w'=>r=.returned (.bool false)/\w'=w):=fun w=>T7 h1 w
 have H2:Hid (∀w,Calls Tryz.prog 227 #[.float .f64 b] w fun r w'=>r=.returned (.bool false)/\w'=w):=fun w=>T7 h2 w
 have q1:=zB h1 h2;have q2:=GX h1 h2;rcases eK x y with h|h|h
 ·have hs:(x-y).sign= -1:=Fy (by omega)
  have hq:(FloatKind.f64.format.order a b == some Ordering.lt)=true:=by rw[q1];simp[h]
  rw[hs];clear q1 q2
  go_enter Tryz.func183,Tryz.ntmps183
  go_wp2_with fail
  refine(H1.out _).mono ?_;rintro e w1 ⟨rfl,rfl⟩
  go_wp2_with fail
  refine(H2.out _).mono ?_;rintro e w2 ⟨rfl,rfl⟩
  go_wp2_with fail
  go_ret
  exact⟨rfl,rfl⟩
 ·have hs:(x-y).sign=0:=by rw[h,Int.sub_self];rfl
  have hq:(FloatKind.f64.format.order a b == some Ordering.lt)=false:=by rw[q1];simp;omega
  have hq2:(FloatKind.f64.format.order a b == some Ordering.gt)=false:=by rw[q2];simp;omega
  rw[hs];clear q1 q2
  go_enter Tryz.func183,Tryz.ntmps183
  go_wp2_with fail
  refine(H1.out _).mono ?_;rintro e w1 ⟨rfl,rfl⟩
  go_wp2_with fail
  refine(H2.out _).mono ?_;rintro e w2 ⟨rfl,rfl⟩
  go_wp2_with fail
  go_ret
  exact⟨rfl,rfl⟩
 ·have hs:(x-y).sign=1:=pq (by omega)
  have hq:(FloatKind.f64.format.order a b == some Ordering.lt)=false:=by rw[q1];simp;omega
  have hq2:(FloatKind.f64.format.order a b == some Ordering.gt)=true:=by rw[q2];simp[h]
  rw[hs];clear q1 q2
  go_enter Tryz.func183,Tryz.ntmps183
  go_wp2_with fail
  refine(H1.out _).mono ?_;rintro e w1 ⟨rfl,rfl⟩
  go_wp2_with fail
  refine(H2.out _).mono ?_;rintro e w2 ⟨rfl,rfl⟩
  go_wp2_with fail
  go_ret
  exact⟨rfl,rfl⟩
namespace Ge
def takes(r t:Int):Bool:=if r=101 then decide (t.tmod 2≠0) else if r=110 then decide (t≠0) else if r=43 then decide (0<t) else decide (t<0)
def rule(r:Int):Bool:=decide (r=101)||decide (r=110)||decide (r=43)||decide (r=45)
end Ge
theorem T8(r:Int)(w:World):Calls Tryz.prog 66 #[.int .u8 r] w fun e w'=>e=.returned (.bool (Ge.rule r))/\w'=w:=by
 by_cases h1:r=101
 ·subst h1
  go_enter Tryz.func66,Tryz.ntmps66
  go_wp2_with fail
  go_ret
  exact⟨rfl,rfl⟩
 ·by_cases h2:r=110
  ·subst h2
   go_enter Tryz.func66,Tryz.ntmps66
   go_wp2_with fail
   go_ret
   exact⟨rfl,rfl⟩
  ·by_cases h3:r=43
   ·subst h3
    go_enter Tryz.func66,Tryz.ntmps66
    go_wp2_with fail
    go_ret
    exact⟨rfl,rfl⟩
   ·have hv:Ge.rule r=(r == 45):=by
     unfold Ge.rule;simp only[h1,h2,h3,decide_false,Qw];rfl
    rw[hv];have b1:(r == 101)=false:=yU.2 h1;have b2:(r == 110)=false:=yU.2 h2;have b3:(r == 43)=false:=yU.2 h3;clear h1 h2 h3 hv
    go_enter Tryz.func66,Tryz.ntmps66
    go_wp2_with fail
    go_ret
    exact⟨rfl,rfl⟩
theorem aey(r t:Int)(w:World):Calls Tryz.prog 106 #[.int .u8 r,.int .i64 t] w fun e w'=>e=.returned (.bool (Ge.takes r t))/\w'=w:=by
 by_cases h1:r=101
 ·subst h1
  go_enter Tryz.func106,Tryz.ntmps106
  go_wp2_with fail
  refine bodyPost_ret (v:=.bool (t.tmod 2 != 0)) (by simp[results,Tryz.results106,go_sem]) rfl ⟨?_,rfl⟩
  unfold Ge.takes;rw[aj rfl];by_cases h:t.tmod 2=0<;>simp[h]
 ·have b1:(r == 101)=false:=yU.2 h1;by_cases h2:r=110
  ·subst h2
   go_enter Tryz.func106,Tryz.ntmps106
   go_wp2_with fail
   refine bodyPost_ret (v:=.bool (t != 0)) (by simp[results,Tryz.results106,go_sem]) rfl ⟨?_,rfl⟩
   unfold Ge.takes;rw[af (by decide),aj rfl]
   by_cases h:t=0<;>simp[h]
  ·have b2:(r == 110)=false:=yU.2 h2;by_cases h3:r=43
   ·subst h3
    go_enter Tryz.func106,Tryz.ntmps106
    go_wp2_with fail
    refine bodyPost_ret (v:=.bool (decide (0<t))) (by simp[results,Tryz.results106,go_sem]) rfl ⟨?_,rfl⟩
    unfold Ge.takes;rw[af (by decide),af (by decide),aj rfl]
   ·have b3:(r == 43)=false:=yU.2 h3;have hv:Ge.takes r t=decide (t<0):=by
     unfold Ge.takes;rw[af h1,af h2,af h3]
    rw[hv];clear hv h1 h2 h3
    go_enter Tryz.func106,Tryz.ntmps106
    go_wp2_with fail
    refine bodyPost_ret (v:=.bool (decide (t<0))) (by simp[results,Tryz.results106,go_sem]) rfl ⟨rfl,rfl⟩
theorem T9(a b s:Nat)(w:World):Calls Tryz.prog 162 #[.agg #[.complex .f64 a b,.float .f64 s]] w fun e w'=>e=.returned (.agg #[.complex .f64 (Op.negFloat .f64 a) (Op.negFloat .f64 b),.float .f64 (Op.negFloat .f64 s)])/\Below w.heap.size w w':=by
 have CD:∀w,(Op.unary .neg (.complex .f64 a b)).run Tryz.prog w=.ok (.complex .f64 (Op.negFloat .f64 a) (Op.negFloat .f64 b)) w:=fun _=>rfl
 have vH:∀w,(Op.unary .neg (.float .f64 s)).run Tryz.prog w=.ok (.float .f64 (Op.negFloat .f64 s)) w:=fun _=>rfl
 generalize Op.negFloat .f64 a=A at*;generalize Op.negFloat .f64 b=B at*;generalize Op.negFloat .f64 s=S at*
 go_enter Tryz.func162,Tryz.ntmps162
 go_wp2_with (simp only[fW,oD];go_simp)
 refine bodyPost_ret (v:=.agg #[.complex .f64 A B,.float .f64 S]) (by simp[results,Tryz.results162,go_sem]) rfl ⟨rfl,?_⟩
 exact((Below.refl _ _).alloc (ay _) _).alloc (by simp) _
namespace Ge
abbrev Ln:=Int×Int×Int
def zX(l:Ln):Ln:=(-l.1, -l.2.1, -l.2.2)
def down(l:Ln):Bool:=decide (l.1<0)||(decide (l.1=0)&&decide (l.2.1<0))
def ia(l:Ln):Ln:=if down l then zX l else l
end Ge
structure oN(a b s:Nat)(l:Ge.Ln):Prop where
 a:Fl a l.1
 b:Fl b l.2.1
 s:Fl s l.2.2
theorem oN.neg{a b s:Nat}{l:Ge.Ln}(h:oN a b s l):oN (Op.negFloat .f64 a) (Op.negFloat .f64 b) (Op.negFloat .f64 s) (Ge.zX l):=⟨h.a.neg,h.b.neg,h.s.neg⟩
theorem aez{a b s:Nat}{l:Ge.Ln}(h:oN a b s l):
  ∃a' b' s',oN a' b' s' (Ge.ia l)/\∀w,Calls Tryz.prog 198 #[.agg #[.complex .f64 a b,.float .f64 s]] w fun e w'=>e=.returned (.agg #[.complex .f64 a' b',.float .f64 s'])/\Below w.heap.size w w':=by
 have q1:=zB h.a kM;have q2:=rP h.a kM;have q3:=zB h.b kM;have hn:=h.neg;have HR:Hid (∀w,Calls Tryz.prog 162 #[.agg #[.complex .f64 a b,.float .f64 s]] w fun e w'=>e=.returned (.agg #[.complex .f64 (Op.negFloat .f64 a) (Op.negFloat .f64 b),.float .f64 (Op.negFloat .f64 s)])/\Below w.heap.size w w'):=fun w=>T9 a b s w
 unfold Ge.ia;cases hd:Ge.down l
 ·refine⟨a,b,s,h,fun w=>?_⟩
  have hb0:Below w.heap.size w (w.alloc (.cells #[.complex .f64 a b,.float .f64 s] 122)):=(Below.refl _ _).alloc (ay _) _;unfold Ge.down at hd;rw[<-q1,<-q2,<-q3] at hd;clear h hn q1 q2 q3 HR;generalize hp1:(FloatKind.f64.format.order a 0 == some Ordering.lt)=p1 at hd;generalize hp2:(FloatKind.f64.format.order a 0 == some Ordering.eq)=p2 at hd;generalize qA:(FloatKind.f64.format.order b 0 == some Ordering.lt)=p3 at hd;cases p1<;>cases p2<;>cases p3<;>simp at hd
  all_goals
   go_enter Tryz.func198,Tryz.ntmps198
   go_wp2_with (simp only[fW,oD];go_simp)
   refine bodyPost_ret (v:=.agg #[.complex .f64 a b,.float .f64 s]) (by simp[results,Tryz.results198,go_sem]) rfl ⟨rfl,?_⟩
   exact((Below.refl _ _).alloc (ay _) _).alloc (by simp) _
 ·refine⟨_,_,_,hn,fun w=>?_⟩
  unfold Ge.down at hd;rw[<-q1,<-q2,<-q3] at hd;clear h hn q1 q2 q3;generalize Op.negFloat .f64 a=A at*;generalize Op.negFloat .f64 b=B at*;generalize Op.negFloat .f64 s=S at*;generalize hp1:(FloatKind.f64.format.order a 0 == some Ordering.lt)=p1 at hd;generalize hp2:(FloatKind.f64.format.order a 0 == some Ordering.eq)=p2 at hd;generalize qA:(FloatKind.f64.format.order b 0 == some Ordering.lt)=p3 at hd;have hb0:Below w.heap.size w ((w.alloc (.cells #[.complex .f64 a b,.float .f64 s] 122)).alloc (.cells #[.complex .f64 0 0,.float .f64 0] 122)):=((Below.refl _ _).alloc (ay _) _).alloc (by simp) _
  have hE:=heap_alloc_new (w.alloc (.cells #[.complex .f64 a b,.float .f64 s] 122)) (.cells #[.complex .f64 0 0,.float .f64 0] 122);have hz:(w.alloc (.cells #[.complex .f64 a b,.float .f64 s] 122)).heap.size=w.heap.size+1:=by simp
  have hz2:((w.alloc (.cells #[.complex .f64 a b,.float .f64 s] 122)).alloc (.cells #[.complex .f64 0 0,.float .f64 0] 122)).heap.size=w.heap.size+2:=by simp
  rw[hz] at hE;cases p1<;>cases p2<;>cases p3<;>simp at hd
  all_goals
   go_enter Tryz.func198,Tryz.ntmps198
   go_wp2_with fail
   generalize(w.alloc (.cells #[.complex .f64 a b,.float .f64 s] 122)).alloc (.cells #[.complex .f64 0 0,.float .f64 0] 122)=W at*;refine(HR.out _).mono ?_;rintro e w1 ⟨rfl,hb1⟩;have mS:=(hb1.block (w.heap.size+1) (by omega)).trans hE
   have e0:w1.cell? ⟨w.heap.size+1,0,none⟩=some (.complex .f64 0 0):=cell_of mS 0;have e1:w1.cell? ⟨w.heap.size+1,1,none⟩=some (.float .f64 0):=cell_of mS 1;have z0:w1.frozen? ⟨w.heap.size+1,0,none⟩=false:=bw mS 0;have z1:w1.frozen? ⟨w.heap.size+1,1,none⟩=false:=bw mS 1;have aw:=hb0.trans (hb1.mono hb0.size)
   go_wp2_with (simp only[fW,oD];go_simp)
   refine bodyPost_ret (v:=.agg #[.complex .f64 A B,.float .f64 S]) (by simp[results,Tryz.results198,go_sem,e0,e1]) rfl ⟨rfl,?_⟩
   exact(aw.setCell (p:=⟨w.heap.size+1,0,none⟩) (ny _) _).setCell (p:=⟨w.heap.size+1,1,none⟩) (ny _) _
end Go.Proofs.YtkjhhooecopolaaGreatDoor
