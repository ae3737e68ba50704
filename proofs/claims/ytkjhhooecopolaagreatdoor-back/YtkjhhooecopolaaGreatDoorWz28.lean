import Derived.Test.YtkjhhooecopolaaGreatDoorWz27
set_option maxRecDepth 100000
set_option maxHeartbeats 4000000
namespace Go.Proofs.YtkjhhooecopolaaGreatDoor
open Go.RowKit
theorem ahZ(X1 X2 X3 F1 F2 T1 T2 N1 N2 r:Nat)(F3 T3 N3:Int)(FA TA GB:Bool)(b:Nat)(w:World)
  (a0:w.cell? ⟨b,0,none⟩=some (.complex .f64 X1 X2))(a1:w.cell? ⟨b,1,none⟩=some (.float .f64 X3))(a2:w.cell? ⟨b,2,none⟩=some (.complex .f64 F1 F2))(a3:w.cell? ⟨b,3,none⟩=some (.int .i64 F3))(a4:w.cell? ⟨b,4,none⟩=some (.complex .f64 T1 T2))(a5:w.cell? ⟨b,5,none⟩=some (.int .i64 T3))
  (HF:Hid (∀w,Calls Tryz.prog 100 #[.agg #[.complex .f64 N1 N2,.int .i64 N3],.agg #[.complex .f64 F1 F2,.int .i64 F3]] w fun e w'=>e=.returned (.bool FA)/\Below w.heap.size w w'))
  (HT:Hid (∀w,Calls Tryz.prog 100 #[.agg #[.complex .f64 N1 N2,.int .i64 N3],.agg #[.complex .f64 T1 T2,.int .i64 T3]] w fun e w'=>e=.returned (.bool TA)/\Below w.heap.size w w'))
  (HL:Hid (∀w,Calls Tryz.prog 97 #[.agg #[.complex .f64 X1 X2,.float .f64 X3],.agg #[.complex .f64 N1 N2,.int .i64 N3]] w fun e w'=>e=.returned (.float .f64 r)/\Below w.heap.size w w'))
  (hr:(FloatKind.f64.format.order r 0 == some .gt)=GB):
  Calls Tryz.prog 170 #[.pointer (some ⟨b,0,none⟩),.agg #[.complex .f64 N1 N2,.int .i64 N3]] w fun e w'=>e=.returned (.bool (!FA&&TA&&GB))/\Below w.heap.size w w':=by
 have hbz:b<w.heap.size:=lt_of_cell a0;have hb0:Below w.heap.size w (w.alloc (.cells #[.complex .f64 N1 N2,.int .i64 N3] 83)):=(Below.refl _ _).alloc (ay _) _;have hE:=heap_alloc_new w (.cells #[.complex .f64 N1 N2,.int .i64 N3] 83);have hz:w.heap.size<(w.alloc (.cells #[.complex .f64 N1 N2,.int .i64 N3] 83)).heap.size:=by simp
 go_enter Tryz.func170,Tryz.ntmps170
 go_wp2_with fail
 have z0:(w.alloc (.cells #[.complex .f64 N1 N2,.int .i64 N3] 83)).cell? ⟨w.heap.size,0,none⟩=some (.complex .f64 N1 N2):=cell_of hE 0;have z1:(w.alloc (.cells #[.complex .f64 N1 N2,.int .i64 N3] 83)).cell? ⟨w.heap.size,1,none⟩=some (.int .i64 N3):=cell_of hE 1;have z2:=(hb0.cell (p:=⟨b,0,none⟩) hbz).trans a0;have z3:=(hb0.cell (p:=⟨b,1,none⟩) hbz).trans a1;have z4:=(hb0.cell (p:=⟨b,2,none⟩) hbz).trans a2;have z5:=(hb0.cell (p:=⟨b,3,none⟩) hbz).trans a3;have z6:=(hb0.cell (p:=⟨b,4,none⟩) hbz).trans a4;have z7:=(hb0.cell (p:=⟨b,5,none⟩) hbz).trans a5;generalize w.alloc (.cells #[.complex .f64 N1 N2,.int .i64 N3] 83)=W at*;generalize qC:w.heap.size=B at*;have kP:B<W.heap.size:=by omega
 have jO:b<W.heap.size:=by omega
 have N6:Below B w W:=hb0;have ED:∀w5,Below W.heap.size W.drew w5->Below B w w5:=fun w5 h=>(N6.drew).trans (h.mono (eJ kP))
 clear hE hz a0 a1 a2 a3 a4 a5 hb0;cases FA
 ·cases TA
  ·
   refine wp_region_held_drew (S:=(fun w'=>w'.cell? ⟨B,0,none⟩=some (.complex .f64 N1 N2)/\w'.cell? ⟨B,1,none⟩=some (.int .i64 N3)/\w'.cell? ⟨b,0,none⟩=some (.complex .f64 X1 X2)/\w'.cell? ⟨b,1,none⟩=some (.float .f64 X3)/\w'.cell? ⟨b,2,none⟩=some (.complex .f64 F1 F2)/\w'.cell? ⟨b,3,none⟩=some (.int .i64 F3)/\w'.cell? ⟨b,4,none⟩=some (.complex .f64 T1 T2)/\w'.cell? ⟨b,5,none⟩=some (.int .i64 T3))) (by kernel_rfl) ⟨z0,z1,z2,z3,z4,z5,z6,z7⟩ (fun hHeld=>?_)
   refine wpAnyH_take (i:=0) (oi:={dst:=some 5,op:=_,type:=_,pos:=_,after:=_,guard:=_}) (v:=?_) rfl (by kernel_rfl) (by kernel_rfl) (by kernel_rfl) (fun _ _ _ h=>h) (ag ⟨by rfl,?_⟩) hHeld ?_
   rotate_left
   ·intro w' aA;obtain⟨s0,s1,s2,s3,s4,s5,s6,s7⟩:=aA
    go_simp
    try with_reducible rfl
   simp only[Act.put,aH,aI,aG];refine wpAnyH_take (i:=1) (oi:={dst:=some 6,op:=_,type:=_,pos:=_,after:=_,guard:=_}) (v:=?_) rfl (by kernel_rfl) (by kernel_rfl) (by kernel_rfl) (fun _ _ _ h=>h) (ag ⟨by rfl,?_⟩) hHeld ?_
   rotate_left
   ·intro w' aA;obtain⟨s0,s1,s2,s3,s4,s5,s6,s7⟩:=aA
    go_simp
    try with_reducible rfl
   simp only[Act.put,aH,aI,aG];refine wpAnyH_take (i:=2) (oi:={dst:=some 7,op:=_,type:=_,pos:=_,after:=_,guard:=_}) (v:=?_) rfl (by kernel_rfl) (by kernel_rfl) (by kernel_rfl) (fun _ _ _ h=>h) (ag ⟨by rfl,?_⟩) hHeld ?_
   rotate_left
   ·intro w' aA;obtain⟨s0,s1,s2,s3,s4,s5,s6,s7⟩:=aA
    go_simp
    try with_reducible rfl
   simp only[Act.put,aH,aI,aG];refine wpAnyH_take (i:=3) (oi:={dst:=some 8,op:=_,type:=_,pos:=_,after:=_,guard:=_}) (v:=?_) rfl (by kernel_rfl) (by kernel_rfl) (by kernel_rfl) (fun _ _ _ h=>h) (ag ⟨by rfl,?_⟩) hHeld ?_
   rotate_left
   ·intro w' aA;obtain⟨s0,s1,s2,s3,s4,s5,s6,s7⟩:=aA
    go_simp
    try with_reducible rfl
   simp only[Act.put,aH,aI,aG];refine wpAnyH_take (i:=4) (oi:={dst:=some 9,op:=_,type:=_,pos:=_,after:=_,guard:=_}) (v:=?_) rfl (by kernel_rfl) (by kernel_rfl) (by kernel_rfl) (fun _ _ _ h=>h) (ag ⟨by rfl,?_⟩) hHeld ?_
   rotate_left
   ·intro w' aA;obtain⟨s0,s1,s2,s3,s4,s5,s6,s7⟩:=aA
    go_simp
    try with_reducible rfl
   simp only[Act.put,aH,aI,aG];refine wpAnyH_take (i:=5) (oi:={dst:=some 10,op:=_,type:=_,pos:=_,after:=_,guard:=_}) (v:=?_) rfl (by kernel_rfl) (by kernel_rfl) (by kernel_rfl) (fun _ _ _ h=>h) (ag ⟨by rfl,?_⟩) hHeld ?_
   rotate_left
   ·intro w' aA;obtain⟨s0,s1,s2,s3,s4,s5,s6,s7⟩:=aA
    go_simp
    try with_reducible rfl
   simp only[Act.put,aH,aI,aG];refine wpAnyH_ready (rs:=[6]) (by kernel_rfl) (by simp) ?_
   refine AllReadyH.cons rfl (fun K hK=>?_) AllReadyH.nil
   go_simp
   refine(HF.out _).mono ?_;rintro e w5 ⟨rfl,dV⟩;have mW:B<w5.heap.size:=bu kP dV.size;have mq:b<w5.heap.size:=bu jO dV.size;have l0:=(dV.cell (p:=⟨B,0,none⟩) kP).trans z0;have l1:=(dV.cell (p:=⟨B,1,none⟩) kP).trans z1;have l2:=(dV.cell (p:=⟨b,0,none⟩) jO).trans z2;have l3:=(dV.cell (p:=⟨b,1,none⟩) jO).trans z3;have l4:=(dV.cell (p:=⟨b,2,none⟩) jO).trans z4;have l5:=(dV.cell (p:=⟨b,3,none⟩) jO).trans z5;have l6:=(dV.cell (p:=⟨b,4,none⟩) jO).trans z6;have l7:=(dV.cell (p:=⟨b,5,none⟩) jO).trans z7
   go_wp2_with fail
   refine hK.out _ _ ⟨l0,l1,l2,l3,l4,l5,l6,l7⟩ (fun hHeld=>?_)
   clear hK K
   try simp only[Act.put,aH,aI,aG]
   refine wpAnyH_take (i:=7) (oi:={dst:=some 12,op:=_,type:=_,pos:=_,after:=_,guard:=_}) (v:=?_) rfl (by kernel_rfl) (by kernel_rfl) (by kernel_rfl) (fun _ _ _ h=>h) (ag ⟨by rfl,?_⟩) hHeld ?_
   rotate_left
   ·intro w' aA;obtain⟨s0,s1,s2,s3,s4,s5,s6,s7⟩:=aA
    go_simp
    try with_reducible rfl
   simp only[Act.put,aH,aI,aG];refine wpAnyH_take (i:=8) (oi:={dst:=some 13,op:=_,type:=_,pos:=_,after:=_,guard:=_}) (v:=?_) rfl (by kernel_rfl) (by kernel_rfl) (by kernel_rfl) (fun _ _ _ h=>h) (ag ⟨by rfl,?_⟩) hHeld ?_
   rotate_left
   ·intro w' aA;obtain⟨s0,s1,s2,s3,s4,s5,s6,s7⟩:=aA
    go_simp
    try with_reducible rfl
   simp only[Act.put,aH,aI,aG];refine wpAnyH_take (i:=9) (oi:={dst:=some 14,op:=_,type:=_,pos:=_,after:=_,guard:=_}) (v:=?_) rfl (by kernel_rfl) (by kernel_rfl) (by kernel_rfl) (fun _ _ _ h=>h) (ag ⟨by rfl,?_⟩) hHeld ?_
   rotate_left
   ·intro w' aA;obtain⟨s0,s1,s2,s3,s4,s5,s6,s7⟩:=aA
    go_simp
    try with_reducible rfl
   simp only[Act.put,aH,aI,aG];refine wpAnyH_take (i:=10) (oi:={dst:=some 15,op:=_,type:=_,pos:=_,after:=_,guard:=_}) (v:=?_) rfl (by kernel_rfl) (by kernel_rfl) (by kernel_rfl) (fun _ _ _ h=>h) (ag ⟨by rfl,?_⟩) hHeld ?_
   rotate_left
   ·intro w' aA;obtain⟨s0,s1,s2,s3,s4,s5,s6,s7⟩:=aA
    go_simp
    try with_reducible rfl
   simp only[Act.put,aH,aI,aG];refine wpAnyH_take (i:=11) (oi:={dst:=some 16,op:=_,type:=_,pos:=_,after:=_,guard:=_}) (v:=?_) rfl (by kernel_rfl) (by kernel_rfl) (by kernel_rfl) (fun _ _ _ h=>h) (ag ⟨by rfl,?_⟩) hHeld ?_
   rotate_left
   ·intro w' aA;obtain⟨s0,s1,s2,s3,s4,s5,s6,s7⟩:=aA
    go_simp
    try with_reducible rfl
   simp only[Act.put,aH,aI,aG];refine wpAnyH_take (i:=12) (oi:={dst:=some 17,op:=_,type:=_,pos:=_,after:=_,guard:=_}) (v:=?_) rfl (by kernel_rfl) (by kernel_rfl) (by kernel_rfl) (fun _ _ _ h=>h) (ag ⟨by rfl,?_⟩) hHeld ?_
   rotate_left
   ·intro w' aA;obtain⟨s0,s1,s2,s3,s4,s5,s6,s7⟩:=aA
    go_simp
    try with_reducible rfl
   simp only[Act.put,aH,aI,aG];refine wpAnyH_take (i:=13) (oi:={dst:=some 18,op:=_,type:=_,pos:=_,after:=_,guard:=_}) (v:=?_) rfl (by kernel_rfl) (by kernel_rfl) (by kernel_rfl) (fun _ _ _ h=>h) (ag ⟨by rfl,?_⟩) hHeld ?_
   rotate_left
   ·intro w' aA;obtain⟨s0,s1,s2,s3,s4,s5,s6,s7⟩:=aA
    go_simp
    try with_reducible rfl
   simp only[Act.put,aH,aI,aG];refine wpAnyH_take (i:=14) (oi:={dst:=some 19,op:=_,type:=_,pos:=_,after:=_,guard:=_}) (v:=?_) rfl (by kernel_rfl) (by kernel_rfl) (by kernel_rfl) (fun _ _ _ h=>h) (ag ⟨by rfl,?_⟩) hHeld ?_
   rotate_left
   ·intro w' aA;obtain⟨s0,s1,s2,s3,s4,s5,s6,s7⟩:=aA
    go_simp
    try with_reducible rfl
   simp only[Act.put,aH,aI,aG];refine wpAnyH_ready (rs:=[15]) (by kernel_rfl) (by simp) ?_
   refine AllReadyH.cons rfl (fun K hK=>?_) AllReadyH.nil
   go_simp
   refine(HT.out _).mono ?_;rintro e w6 ⟨rfl,ig⟩;have sP:B<w6.heap.size:=bu mW ig.size;have wK:b<w6.heap.size:=bu mq ig.size;have m0:=(ig.cell (p:=⟨B,0,none⟩) mW).trans l0;have m1:=(ig.cell (p:=⟨B,1,none⟩) mW).trans l1;have m2:=(ig.cell (p:=⟨b,0,none⟩) mq).trans l2;have m3:=(ig.cell (p:=⟨b,1,none⟩) mq).trans l3;have m4:=(ig.cell (p:=⟨b,2,none⟩) mq).trans l4;have m5:=(ig.cell (p:=⟨b,3,none⟩) mq).trans l5;have m6:=(ig.cell (p:=⟨b,4,none⟩) mq).trans l6;have m7:=(ig.cell (p:=⟨b,5,none⟩) mq).trans l7
   go_wp2_with fail
   refine hK.out _ _ ⟨m0,m1,m2,m3,m4,m5,m6,m7⟩ (fun hHeld=>?_)
   clear hK K
   try simp only[Act.put,aH,aI,aG]
   refine wpAnyH_take (i:=16) (oi:={dst:=some 21,op:=_,type:=_,pos:=_,after:=_,guard:=_}) (v:=?_) rfl (by kernel_rfl) (by kernel_rfl) (by kernel_rfl) (fun _ _ _ h=>h) (ag ⟨by rfl,?_⟩) hHeld ?_
   rotate_left
   ·intro w' aA;obtain⟨s0,s1,s2,s3,s4,s5,s6,s7⟩:=aA
    go_simp
    try with_reducible rfl
   simp only[Act.put,aH,aI,aG];refine wpAnyH_take (i:=17) (oi:={dst:=some 22,op:=_,type:=_,pos:=_,after:=_,guard:=_}) (v:=?_) rfl (by kernel_rfl) (by kernel_rfl) (by kernel_rfl) (fun _ _ _ h=>h) (ag ⟨by rfl,?_⟩) hHeld ?_
   rotate_left
   ·intro w' aA;obtain⟨s0,s1,s2,s3,s4,s5,s6,s7⟩:=aA
    go_simp
    try with_reducible rfl
   simp only[Act.put,aH,aI,aG];refine wpAnyH_take (i:=18) (oi:={dst:=some 23,op:=_,type:=_,pos:=_,after:=_,guard:=_}) (v:=undef) rfl (by kernel_rfl) (by kernel_rfl) (by kernel_rfl) (fun _ _ _ h=>h) (ah ⟨by kernel_rfl,rfl⟩) hHeld ?_
   simp only[Act.put,aH,aI,aG];refine wpAnyH_take (i:=19) (oi:={dst:=some 24,op:=_,type:=_,pos:=_,after:=_,guard:=_}) (v:=undef) rfl (by kernel_rfl) (by kernel_rfl) (by kernel_rfl) (fun _ _ _ h=>h) (ah ⟨by kernel_rfl,rfl⟩) hHeld ?_
   simp only[Act.put,aH,aI,aG];refine wpAnyH_take (i:=20) (oi:={dst:=some 25,op:=_,type:=_,pos:=_,after:=_,guard:=_}) (v:=undef) rfl (by kernel_rfl) (by kernel_rfl) (by kernel_rfl) (fun _ _ _ h=>h) (ah ⟨by kernel_rfl,rfl⟩) hHeld ?_
   simp only[Act.put,aH,aI,aG];refine wpAnyH_take (i:=21) (oi:={dst:=some 26,op:=_,type:=_,pos:=_,after:=_,guard:=_}) (v:=undef) rfl (by kernel_rfl) (by kernel_rfl) (by kernel_rfl) (fun _ _ _ h=>h) (ah ⟨by kernel_rfl,rfl⟩) hHeld ?_
   simp only[Act.put,aH,aI,aG];refine wpAnyH_take (i:=22) (oi:={dst:=some 27,op:=_,type:=_,pos:=_,after:=_,guard:=_}) (v:=undef) rfl (by kernel_rfl) (by kernel_rfl) (by kernel_rfl) (fun _ _ _ h=>h) (ah ⟨by kernel_rfl,rfl⟩) hHeld ?_
   simp only[Act.put,aH,aI,aG];refine wpAnyH_take (i:=23) (oi:={dst:=some 28,op:=_,type:=_,pos:=_,after:=_,guard:=_}) (v:=undef) rfl (by kernel_rfl) (by kernel_rfl) (by kernel_rfl) (fun _ _ _ h=>h) (ah ⟨by kernel_rfl,rfl⟩) hHeld ?_
   simp only[Act.put,aH,aI,aG];refine wpAnyH_take (i:=24) (oi:={dst:=some 29,op:=_,type:=_,pos:=_,after:=_,guard:=_}) (v:=undef) rfl (by kernel_rfl) (by kernel_rfl) (by kernel_rfl) (fun _ _ _ h=>h) (ah ⟨by kernel_rfl,rfl⟩) hHeld ?_
   simp only[Act.put,aH,aI,aG];refine wpAnyH_take (i:=25) (oi:={dst:=some 30,op:=_,type:=_,pos:=_,after:=_,guard:=_}) (v:=undef) rfl (by kernel_rfl) (by kernel_rfl) (by kernel_rfl) (fun _ _ _ h=>h) (ah ⟨by kernel_rfl,rfl⟩) hHeld ?_
   simp only[Act.put,aH,aI,aG];refine wpAnyH_take (i:=26) (oi:={dst:=some 31,op:=_,type:=_,pos:=_,after:=_,guard:=_}) (v:=?_) rfl (by kernel_rfl) (by kernel_rfl) (by kernel_rfl) (fun _ _ _ h=>h) (ag ⟨by rfl,?_⟩) hHeld ?_
   rotate_left
   ·intro w' aA;obtain⟨s0,s1,s2,s3,s4,s5,s6,s7⟩:=aA
    go_simp
    try with_reducible rfl
   simp only[Act.put,aH,aI,aG];refine wpAnyH_take (i:=27) (oi:={dst:=some 4,op:=_,type:=_,pos:=_,after:=_,guard:=_}) (v:=?_) rfl (by kernel_rfl) (by kernel_rfl) (by kernel_rfl) (fun _ _ _ h=>h) (ag ⟨by rfl,?_⟩) hHeld ?_
   rotate_left
   ·intro w' aA;obtain⟨s0,s1,s2,s3,s4,s5,s6,s7⟩:=aA
    go_simp
    try with_reducible rfl
   simp only[Act.put,aH,aI,aG];refine wpAnyH_done (by kernel_rfl) ?_ _
   go_wp2_with fail
   go_ret
   exact⟨rfl,by rw[qC];exact(ED _ dV).trans (ig.mono (eJ mW))⟩
  ·
   go_region_held3 (fun w'=>w'.cell? ⟨B,0,none⟩=some (.complex .f64 N1 N2)/\w'.cell? ⟨B,1,none⟩=some (.int .i64 N3)/\w'.cell? ⟨b,0,none⟩=some (.complex .f64 X1 X2)/\w'.cell? ⟨b,1,none⟩=some (.float .f64 X3)/\w'.cell? ⟨b,2,none⟩=some (.complex .f64 F1 F2)/\w'.cell? ⟨b,3,none⟩=some (.int .i64 F3)/\w'.cell? ⟨b,4,none⟩=some (.complex .f64 T1 T2)/\w'.cell? ⟨b,5,none⟩=some (.int .i64 T3)) (go_keep) (first
    |(go_at_call_of 100 (Value.agg #[Value.complex FloatKind.f64 F1 F2,Value.int IntKind.i64 F3]);refine(HF.out _).mono ?_;rintro e w5 ⟨rfl,dV⟩;have mW:B<w5.heap.size:=bu kP dV.size;have mq:b<w5.heap.size:=bu jO dV.size;have l0:=(dV.cell (p:=⟨B,0,none⟩) kP).trans z0;have l1:=(dV.cell (p:=⟨B,1,none⟩) kP).trans z1;have l2:=(dV.cell (p:=⟨b,0,none⟩) jO).trans z2;have l3:=(dV.cell (p:=⟨b,1,none⟩) jO).trans z3;have l4:=(dV.cell (p:=⟨b,2,none⟩) jO).trans z4;have l5:=(dV.cell (p:=⟨b,3,none⟩) jO).trans z5;have l6:=(dV.cell (p:=⟨b,4,none⟩) jO).trans z6;have l7:=(dV.cell (p:=⟨b,5,none⟩) jO).trans z7)
    |(go_at_call_of 100 (Value.agg #[Value.complex FloatKind.f64 T1 T2,Value.int IntKind.i64 T3]);refine(HT.out _).mono ?_;rintro e w6 ⟨rfl,ig⟩;have sP:B<w6.heap.size:=bu mW ig.size;have wK:b<w6.heap.size:=bu mq ig.size;have m0:=(ig.cell (p:=⟨B,0,none⟩) mW).trans l0;have m1:=(ig.cell (p:=⟨B,1,none⟩) mW).trans l1;have m2:=(ig.cell (p:=⟨b,0,none⟩) mq).trans l2;have m3:=(ig.cell (p:=⟨b,1,none⟩) mq).trans l3;have m4:=(ig.cell (p:=⟨b,2,none⟩) mq).trans l4;have m5:=(ig.cell (p:=⟨b,3,none⟩) mq).trans l5;have m6:=(ig.cell (p:=⟨b,4,none⟩) mq).trans l6;have m7:=(ig.cell (p:=⟨b,5,none⟩) mq).trans l7)
    |(go_at_call 97;refine(HL.out _).mono ?_;rintro e w7 ⟨rfl,qT⟩;have anW:B<w7.heap.size:=bu sP qT.size;have anX:b<w7.heap.size:=bu wK qT.size;have q0:=(qT.cell (p:=⟨B,0,none⟩) sP).trans m0;have q1:=(qT.cell (p:=⟨B,1,none⟩) sP).trans m1;have q2:=(qT.cell (p:=⟨b,0,none⟩) wK).trans m2;have q3:=(qT.cell (p:=⟨b,1,none⟩) wK).trans m3;have q4:=(qT.cell (p:=⟨b,2,none⟩) wK).trans m4;have q5:=(qT.cell (p:=⟨b,3,none⟩) wK).trans m5;have q6:=(qT.cell (p:=⟨b,4,none⟩) wK).trans m6;have q7:=(qT.cell (p:=⟨b,5,none⟩) wK).trans m7))
   all_goals
    go_wp2_with fail
    go_ret
    exact⟨by simp,by rw[qC];exact((ED _ dV).trans (ig.mono (eJ mW))).trans (qT.mono (eJ sP))⟩
 ·
  refine wp_region_held_drew (S:=(fun w'=>w'.cell? ⟨B,0,none⟩=some (.complex .f64 N1 N2)/\w'.cell? ⟨B,1,none⟩=some (.int .i64 N3)/\w'.cell? ⟨b,0,none⟩=some (.complex .f64 X1 X2)/\w'.cell? ⟨b,1,none⟩=some (.float .f64 X3)/\w'.cell? ⟨b,2,none⟩=some (.complex .f64 F1 F2)/\w'.cell? ⟨b,3,none⟩=some (.int .i64 F3)/\w'.cell? ⟨b,4,none⟩=some (.complex .f64 T1 T2)/\w'.cell? ⟨b,5,none⟩=some (.int .i64 T3))) (by kernel_rfl) ⟨z0,z1,z2,z3,z4,z5,z6,z7⟩ (fun hHeld=>?_)
  refine wpAnyH_take (i:=0) (oi:={dst:=some 5,op:=_,type:=_,pos:=_,after:=_,guard:=_}) (v:=?_) rfl (by kernel_rfl) (by kernel_rfl) (by kernel_rfl) (fun _ _ _ h=>h) (ag ⟨by rfl,?_⟩) hHeld ?_
  rotate_left
  ·intro w' aA;obtain⟨s0,s1,s2,s3,s4,s5,s6,s7⟩:=aA
   go_simp
   try with_reducible rfl
  simp only[Act.put,aH,aI,aG];refine wpAnyH_take (i:=1) (oi:={dst:=some 6,op:=_,type:=_,pos:=_,after:=_,guard:=_}) (v:=?_) rfl (by kernel_rfl) (by kernel_rfl) (by kernel_rfl) (fun _ _ _ h=>h) (ag ⟨by rfl,?_⟩) hHeld ?_
  rotate_left
  ·intro w' aA;obtain⟨s0,s1,s2,s3,s4,s5,s6,s7⟩:=aA
   go_simp
   try with_reducible rfl
  simp only[Act.put,aH,aI,aG];refine wpAnyH_take (i:=2) (oi:={dst:=some 7,op:=_,type:=_,pos:=_,after:=_,guard:=_}) (v:=?_) rfl (by kernel_rfl) (by kernel_rfl) (by kernel_rfl) (fun _ _ _ h=>h) (ag ⟨by rfl,?_⟩) hHeld ?_
  rotate_left
  ·intro w' aA;obtain⟨s0,s1,s2,s3,s4,s5,s6,s7⟩:=aA
   go_simp
   try with_reducible rfl
  simp only[Act.put,aH,aI,aG];refine wpAnyH_take (i:=3) (oi:={dst:=some 8,op:=_,type:=_,pos:=_,after:=_,guard:=_}) (v:=?_) rfl (by kernel_rfl) (by kernel_rfl) (by kernel_rfl) (fun _ _ _ h=>h) (ag ⟨by rfl,?_⟩) hHeld ?_
  rotate_left
  ·intro w' aA;obtain⟨s0,s1,s2,s3,s4,s5,s6,s7⟩:=aA
   go_simp
   try with_reducible rfl
  simp only[Act.put,aH,aI,aG];refine wpAnyH_take (i:=4) (oi:={dst:=some 9,op:=_,type:=_,pos:=_,after:=_,guard:=_}) (v:=?_) rfl (by kernel_rfl) (by kernel_rfl) (by kernel_rfl) (fun _ _ _ h=>h) (ag ⟨by rfl,?_⟩) hHeld ?_
  rotate_left
  ·intro w' aA;obtain⟨s0,s1,s2,s3,s4,s5,s6,s7⟩:=aA
   go_simp
   try with_reducible rfl
  simp only[Act.put,aH,aI,aG];refine wpAnyH_take (i:=5) (oi:={dst:=some 10,op:=_,type:=_,pos:=_,after:=_,guard:=_}) (v:=?_) rfl (by kernel_rfl) (by kernel_rfl) (by kernel_rfl) (fun _ _ _ h=>h) (ag ⟨by rfl,?_⟩) hHeld ?_
  rotate_left
  ·intro w' aA;obtain⟨s0,s1,s2,s3,s4,s5,s6,s7⟩:=aA
   go_simp
   try with_reducible rfl
  simp only[Act.put,aH,aI,aG];refine wpAnyH_ready (rs:=[6]) (by kernel_rfl) (by simp) ?_
  refine AllReadyH.cons rfl (fun K hK=>?_) AllReadyH.nil
  go_simp
  refine(HF.out _).mono ?_;rintro e w5 ⟨rfl,dV⟩;have mW:B<w5.heap.size:=bu kP dV.size;have mq:b<w5.heap.size:=bu jO dV.size;have l0:=(dV.cell (p:=⟨B,0,none⟩) kP).trans z0;have l1:=(dV.cell (p:=⟨B,1,none⟩) kP).trans z1;have l2:=(dV.cell (p:=⟨b,0,none⟩) jO).trans z2;have l3:=(dV.cell (p:=⟨b,1,none⟩) jO).trans z3;have l4:=(dV.cell (p:=⟨b,2,none⟩) jO).trans z4;have l5:=(dV.cell (p:=⟨b,3,none⟩) jO).trans z5;have l6:=(dV.cell (p:=⟨b,4,none⟩) jO).trans z6;have l7:=(dV.cell (p:=⟨b,5,none⟩) jO).trans z7
  go_wp2_with fail
  refine hK.out _ _ ⟨l0,l1,l2,l3,l4,l5,l6,l7⟩ (fun hHeld=>?_)
  clear hK K
  try simp only[Act.put,aH,aI,aG]
  refine wpAnyH_take (i:=7) (oi:={dst:=some 12,op:=_,type:=_,pos:=_,after:=_,guard:=_}) (v:=?_) rfl (by kernel_rfl) (by kernel_rfl) (by kernel_rfl) (fun _ _ _ h=>h) (ag ⟨by rfl,?_⟩) hHeld ?_
  rotate_left
  ·intro w' aA;obtain⟨s0,s1,s2,s3,s4,s5,s6,s7⟩:=aA
   go_simp
   try with_reducible rfl
  simp only[Act.put,aH,aI,aG];refine wpAnyH_take (i:=8) (oi:={dst:=some 13,op:=_,type:=_,pos:=_,after:=_,guard:=_}) (v:=?_) rfl (by kernel_rfl) (by kernel_rfl) (by kernel_rfl) (fun _ _ _ h=>h) (ag ⟨by rfl,?_⟩) hHeld ?_
  rotate_left
  ·intro w' aA;obtain⟨s0,s1,s2,s3,s4,s5,s6,s7⟩:=aA
   go_simp
   try with_reducible rfl
  simp only[Act.put,aH,aI,aG];refine wpAnyH_take (i:=9) (oi:={dst:=some 14,op:=_,type:=_,pos:=_,after:=_,guard:=_}) (v:=undef) rfl (by kernel_rfl) (by kernel_rfl) (by kernel_rfl) (fun _ _ _ h=>h) (ah ⟨by kernel_rfl,rfl⟩) hHeld ?_
  simp only[Act.put,aH,aI,aG];refine wpAnyH_take (i:=10) (oi:={dst:=some 15,op:=_,type:=_,pos:=_,after:=_,guard:=_}) (v:=undef) rfl (by kernel_rfl) (by kernel_rfl) (by kernel_rfl) (fun _ _ _ h=>h) (ah ⟨by kernel_rfl,rfl⟩) hHeld ?_
  simp only[Act.put,aH,aI,aG];refine wpAnyH_take (i:=11) (oi:={dst:=some 16,op:=_,type:=_,pos:=_,after:=_,guard:=_}) (v:=undef) rfl (by kernel_rfl) (by kernel_rfl) (by kernel_rfl) (fun _ _ _ h=>h) (ah ⟨by kernel_rfl,rfl⟩) hHeld ?_
  simp only[Act.put,aH,aI,aG];refine wpAnyH_take (i:=12) (oi:={dst:=some 17,op:=_,type:=_,pos:=_,after:=_,guard:=_}) (v:=undef) rfl (by kernel_rfl) (by kernel_rfl) (by kernel_rfl) (fun _ _ _ h=>h) (ah ⟨by kernel_rfl,rfl⟩) hHeld ?_
  simp only[Act.put,aH,aI,aG];refine wpAnyH_take (i:=13) (oi:={dst:=some 18,op:=_,type:=_,pos:=_,after:=_,guard:=_}) (v:=undef) rfl (by kernel_rfl) (by kernel_rfl) (by kernel_rfl) (fun _ _ _ h=>h) (ah ⟨by kernel_rfl,rfl⟩) hHeld ?_
  simp only[Act.put,aH,aI,aG];refine wpAnyH_take (i:=14) (oi:={dst:=some 19,op:=_,type:=_,pos:=_,after:=_,guard:=_}) (v:=undef) rfl (by kernel_rfl) (by kernel_rfl) (by kernel_rfl) (fun _ _ _ h=>h) (ah ⟨by kernel_rfl,rfl⟩) hHeld ?_
  simp only[Act.put,aH,aI,aG];refine wpAnyH_take (i:=15) (oi:={dst:=some 20,op:=_,type:=_,pos:=_,after:=_,guard:=_}) (v:=undef) rfl (by kernel_rfl) (by kernel_rfl) (by kernel_rfl) (fun _ _ _ h=>h) (ah ⟨by kernel_rfl,rfl⟩) hHeld ?_
  simp only[Act.put,aH,aI,aG];refine wpAnyH_take (i:=16) (oi:={dst:=some 21,op:=_,type:=_,pos:=_,after:=_,guard:=_}) (v:=?_) rfl (by kernel_rfl) (by kernel_rfl) (by kernel_rfl) (fun _ _ _ h=>h) (ag ⟨by rfl,?_⟩) hHeld ?_
  rotate_left
  ·intro w' aA;obtain⟨s0,s1,s2,s3,s4,s5,s6,s7⟩:=aA
   go_simp
   try with_reducible rfl
  simp only[Act.put,aH,aI,aG];refine wpAnyH_take (i:=17) (oi:={dst:=some 22,op:=_,type:=_,pos:=_,after:=_,guard:=_}) (v:=?_) rfl (by kernel_rfl) (by kernel_rfl) (by kernel_rfl) (fun _ _ _ h=>h) (ag ⟨by rfl,?_⟩) hHeld ?_
  rotate_left
  ·intro w' aA;obtain⟨s0,s1,s2,s3,s4,s5,s6,s7⟩:=aA
   go_simp
   try with_reducible rfl
  simp only[Act.put,aH,aI,aG];refine wpAnyH_take (i:=18) (oi:={dst:=some 23,op:=_,type:=_,pos:=_,after:=_,guard:=_}) (v:=undef) rfl (by kernel_rfl) (by kernel_rfl) (by kernel_rfl) (fun _ _ _ h=>h) (ah ⟨by kernel_rfl,rfl⟩) hHeld ?_
  simp only[Act.put,aH,aI,aG];refine wpAnyH_take (i:=19) (oi:={dst:=some 24,op:=_,type:=_,pos:=_,after:=_,guard:=_}) (v:=undef) rfl (by kernel_rfl) (by kernel_rfl) (by kernel_rfl) (fun _ _ _ h=>h) (ah ⟨by kernel_rfl,rfl⟩) hHeld ?_
  simp only[Act.put,aH,aI,aG];refine wpAnyH_take (i:=20) (oi:={dst:=some 25,op:=_,type:=_,pos:=_,after:=_,guard:=_}) (v:=undef) rfl (by kernel_rfl) (by kernel_rfl) (by kernel_rfl) (fun _ _ _ h=>h) (ah ⟨by kernel_rfl,rfl⟩) hHeld ?_
  simp only[Act.put,aH,aI,aG];refine wpAnyH_take (i:=21) (oi:={dst:=some 26,op:=_,type:=_,pos:=_,after:=_,guard:=_}) (v:=undef) rfl (by kernel_rfl) (by kernel_rfl) (by kernel_rfl) (fun _ _ _ h=>h) (ah ⟨by kernel_rfl,rfl⟩) hHeld ?_
  simp only[Act.put,aH,aI,aG];refine wpAnyH_take (i:=22) (oi:={dst:=some 27,op:=_,type:=_,pos:=_,after:=_,guard:=_}) (v:=undef) rfl (by kernel_rfl) (by kernel_rfl) (by kernel_rfl) (fun _ _ _ h=>h) (ah ⟨by kernel_rfl,rfl⟩) hHeld ?_
  simp only[Act.put,aH,aI,aG];refine wpAnyH_take (i:=23) (oi:={dst:=some 28,op:=_,type:=_,pos:=_,after:=_,guard:=_}) (v:=undef) rfl (by kernel_rfl) (by kernel_rfl) (by kernel_rfl) (fun _ _ _ h=>h) (ah ⟨by kernel_rfl,rfl⟩) hHeld ?_
  simp only[Act.put,aH,aI,aG];refine wpAnyH_take (i:=24) (oi:={dst:=some 29,op:=_,type:=_,pos:=_,after:=_,guard:=_}) (v:=undef) rfl (by kernel_rfl) (by kernel_rfl) (by kernel_rfl) (fun _ _ _ h=>h) (ah ⟨by kernel_rfl,rfl⟩) hHeld ?_
  simp only[Act.put,aH,aI,aG];refine wpAnyH_take (i:=25) (oi:={dst:=some 30,op:=_,type:=_,pos:=_,after:=_,guard:=_}) (v:=undef) rfl (by kernel_rfl) (by kernel_rfl) (by kernel_rfl) (fun _ _ _ h=>h) (ah ⟨by kernel_rfl,rfl⟩) hHeld ?_
  simp only[Act.put,aH,aI,aG];refine wpAnyH_take (i:=26) (oi:={dst:=some 31,op:=_,type:=_,pos:=_,after:=_,guard:=_}) (v:=?_) rfl (by kernel_rfl) (by kernel_rfl) (by kernel_rfl) (fun _ _ _ h=>h) (ag ⟨by rfl,?_⟩) hHeld ?_
  rotate_left
  ·intro w' aA;obtain⟨s0,s1,s2,s3,s4,s5,s6,s7⟩:=aA
   go_simp
   try with_reducible rfl
  simp only[Act.put,aH,aI,aG];refine wpAnyH_take (i:=27) (oi:={dst:=some 4,op:=_,type:=_,pos:=_,after:=_,guard:=_}) (v:=?_) rfl (by kernel_rfl) (by kernel_rfl) (by kernel_rfl) (fun _ _ _ h=>h) (ag ⟨by rfl,?_⟩) hHeld ?_
  rotate_left
  ·intro w' aA;obtain⟨s0,s1,s2,s3,s4,s5,s6,s7⟩:=aA
   go_simp
   try with_reducible rfl
  simp only[Act.put,aH,aI,aG];refine wpAnyH_done (by kernel_rfl) ?_ _
  go_wp2_with fail
  go_ret
  exact⟨rfl,by rw[qC];exact ED _ dV⟩
theorem N7{x:PB}{l:Ge.Ln}(hx:LD x l){n:Ge.Nd}(hn:lF n):∃r,Fl r (l.1*n.2.1-l.2.1*n.1-l.2.2*n.2.2)/\∀w,Calls Tryz.prog 97 #[.agg #[.complex .f64 x.wa x.wb,.float .f64 x.sh],.agg #[.complex .f64 (floatOfInt .f64 n.1) (floatOfInt .f64 n.2.1),.int .i64 n.2.2]] w fun e w'=>e=.returned (.float .f64 r)/\Below w.heap.size w w':=
 LH hx.fl.a hx.fl.b hx.fl.s (oG (by have:=hn.x;unfold sm;omega)) (oG (by have:=hn.y;unfold sm;omega)) hx.nL.1 hx.nL.2.1 hx.nL.2.2 (by have:=hn.d;unfold sm;omega) (by have:=hn.x;unfold sm;omega) (by have:=hn.y;unfold sm;omega)
theorem ah0{x:PB}{l:Ge.Ln}(hx:LD x l)(hf:0<x.f.2.2)(n:Ge.Nd):(l.1*n.2.1-l.2.1*n.1-l.2.2*n.2.2).sign=(Ge.cr (Ga.wv x.f x.t) (Ga.wv x.f n)).sign:=by
 have e1:x.f.2.2*(l.1*n.2.1-l.2.1*n.1-l.2.2*n.2.2)=l.1*(Ga.wv x.f n).2+l.2.1*(-(Ga.wv x.f n).1):=by
  have h:=hx.M8;unfold Ga.wv;simp only;have:x.f.2.2*(l.1*n.2.1-l.2.1*n.1-l.2.2*n.2.2)=x.f.2.2*l.1*n.2.1-x.f.2.2*l.2.1*n.1-n.2.2*(l.2.2*x.f.2.2):=by grind
  rw[this,<-h]
  grind
 have e2:Ge.cr (Ga.wv x.f x.t) (Ga.wv x.f n)=(bU x.f x.t).1*(Ga.wv x.f n).2+(bU x.f x.t).2.1*(-(Ga.wv x.f n).1):=by
  rw[(sM x.f x.t).1,(sM x.f x.t).2];unfold Ge.cr
  grind
 rw[e2,<-IM hx.par hx.pos (cP hx.pos),<-e1];have:=Ge.LA (k:=x.f.2.2) (z:=l.1*n.2.1-l.2.1*n.1-l.2.2*n.2.2) hf;exact this.symm
def jA(Xs:List PB)(n:Ge.Nd)(i:Nat):Bool:=
 !decide (n.1*(xi Xs i).f.2.2<(xi Xs i).f.1*n.2.2)&&decide (n.1*(xi Xs i).t.2.2<(xi Xs i).t.1*n.2.2)&&decide (0<Ge.cr (Ga.wv (xi Xs i).f (xi Xs i).t) (Ga.wv (xi Xs i).f n))
theorem ah1(bs:List Nat)(Xs:List PB)(hB:BD Xs)(w:World)(g:Nat)(hR:RB w g bs Xs)(n:Ge.Nd)(hn:lF n)(i:Nat)(hi:i<Xs.length):
  Calls Tryz.prog 170 #[.pointer (some ⟨bx bs i,0,none⟩),gZ n] w fun e w'=>e=.returned (.bool (jA Xs n i))/\Below w.heap.size w w':=by
 have hS:=hR.at hi;have hv:=hB.v _ (gu hi);obtain⟨l,hl⟩:=hB.ld _ (gu hi);obtain⟨r,fr,hL⟩:=N7 hl hn;have q:=GX fr kM;have sN:sm n.1/\sm n.2.1/\sm n.2.2:=by have:=hn.x;have:=hn.y;have:=hn.d;unfold sm;omega
 have sF:sm (xi Xs i).f.1/\sm (xi Xs i).f.2.1/\sm (xi Xs i).f.2.2:=by have:=hv.f.x;have:=hv.f.y;have:=hv.f.d;unfold sm;omega
 have sT:sm (xi Xs i).t.1/\sm (xi Xs i).t.2.1/\sm (xi Xs i).t.2.2:=by have:=hv.t.x;have:=hv.t.y;have:=hv.t.d;unfold sm;omega
 have hg:decide (0<l.1*n.2.1-l.2.1*n.1-l.2.2*n.2.2)=decide (0<Ge.cr (Ga.wv (xi Xs i).f (xi Xs i).t) (Ga.wv (xi Xs i).f n)):=by
  have h:=ah0 hl hv.cf.pos n;have s1:=Ga.sg (l.1*n.2.1-l.2.1*n.1-l.2.2*n.2.2);have s2:=Ga.sg (Ge.cr (Ga.wv (xi Xs i).f (xi Xs i).t) (Ga.wv (xi Xs i).f n));exact decide_eq_decide.2 (by omega)
 unfold gZ jA;exact ahZ _ _ _ _ _ _ _ _ _ r _ _ _ _ _ _ (bx bs i) w hS.c0 hS.c1 hS.c2 hS.c3 hS.c4 hS.c5
  (fun w=>G9 (oG sN.1) (oG sN.2.1) (oG sF.1) (oG sF.2.1) sF.1 sF.2.1 sN.2.2 sF.2.2 sN.1 sN.2.1 w)
  (fun w=>G9 (oG sN.1) (oG sN.2.1) (oG sT.1) (oG sT.2.1) sT.1 sT.2.1 sN.2.2 sT.2.2 sN.1 sN.2.1 w)
  hL (q.trans hg)
theorem ah2(cf:Nat->Nat->Int)(a:Nat)(r:List Nat)(g lo cap N1 N2:Nat)(N3:Int)(w:World)(hn:r.length<=85000000)
  (HV:Hid (∀(i:Nat) b,(a::r)[i]?=some b->w.cell? ⟨g,lo+i,none⟩=some (.pointer (some ⟨b,0,none⟩))))
  (HC:Hid (∀b∈a::r,∀c∈a::r,∀w',Below w.heap.size w w'->Calls Tryz.prog 172 #[.agg #[.complex .f64 N1 N2,.int .i64 N3],.pointer (some ⟨b,0,none⟩),.pointer (some ⟨c,0,none⟩)] w' fun r w''=>r=.returned (.int .i64 (cf b c))/\Below w'.heap.size w' w'')):
  Calls Tryz.prog 171 #[.slice (some ⟨g,lo,none⟩) (r.length+1) cap,.func (.func 172) #[.agg #[.complex .f64 N1 N2,.int .i64 N3]] #[]] w fun e w'=>e=.returned (.pointer (some ⟨bG cf r a,0,none⟩))/\Below w.heap.size w w':=by
 have c0:=HV.out 0 a rfl;rw[pD] at c0;have dH:g<w.heap.size:=lt_of_cell c0
 go_enter Tryz.func171,Tryz.ntmps171
 go_wp2_with fail
 go_loopg [5,6] r.length (fun m mv iv wr=>∃k:Nat,k+m=r.length/\iv=.int .i64 (k+1:Nat)/\mv=.pointer (some ⟨bG cf (r.take k) a,0,none⟩)/\Hid (Below w.heap.size w wr))
 case atStart=>exact⟨0,by omega,rfl,rfl,Below.refl _ _⟩
 case round=>
  obtain⟨k,hkn,rfl,rfl,HB⟩:=hrel;by_cases hlt:k<r.length
  ·obtain⟨b,hb⟩:∃b,r[k]?=some b:=⟨_,aC hlt⟩;have c1:=(HB.out.cell (p:=⟨g,lo+(k+1),none⟩) dH).trans (HV.out (k+1) b (by simpa using hb))
   have jL:b∈a::r:=aT _ (aZ hb);have hmm:bG cf (r.take k) a∈a::r:=by
    rcases wu cf (r.take k) a with h|h
    ·rw[h];simp
    ·exact aT _ (qh h)
   have iz:Hid (Calls Tryz.prog 172 #[.agg #[.complex .f64 N1 N2,.int .i64 N3],.pointer (some ⟨b,0,none⟩),.pointer (some ⟨bG cf (r.take k) a,0,none⟩)] wr fun r' w''=>r'=.returned (.int .i64 (cf b (bG cf (r.take k) a)))/\Below wr.heap.size wr w''):=HC.out b jL _ hmm wr HB.out
   have gM:Hid (bG cf (r.take (k+1)) a=if cf b (bG cf (r.take k) a)<0 then b else bG cf (r.take k) a):=by
    have htk:r.take (k+1)=r.take k++[b]:=by rw[jF,hb];rfl
    show bG cf (r.take (k+1)) a=_;rw[htk,Je]
   have fN:((k:Int)+1)<((r.length:Int)+1):=by omega
   have hgr:g<wr.heap.size:=bu dH HB.out.size;clear c0 hb jL hmm;generalize bG cf (r.take k) a=M at*
   go_wp2_with fail
   refine iz.out.mono ?_;rintro e w5 ⟨rfl,az⟩;have fF:Hid (Below w.heap.size w w5):=HB.out.trans (az.mono HB.out.size);have c5:=(az.cell (p:=⟨g,lo+(k+1),none⟩) hgr).trans c1;clear iz az c1;generalize cf b M=V at*;by_cases hV:V<0
   ·have HM:Hid (bG cf (r.take (k+1)) a=b):=by rw[gM.out,aj hV];rfl
    go_wp2_with fail
    go_roundg (gk-1)
    case measure=>omega
    case rel=>exact⟨k+1,by omega,by go_num,by rw[HM.out],fF⟩
   ·have HM:Hid (bG cf (r.take (k+1)) a=M):=by rw[gM.out,af hV];rfl
    have Nb:decide (V<0)=false:=gv hV
    go_wp2_with fail
    go_roundg (gk-1)
    case measure=>omega
    case rel=>exact⟨k+1,by omega,by go_num,by rw[HM.out],fF⟩
  ·have hk:k=r.length:=by omega
   subst hk;rw[gm];clear HC HV
   go_wp2_with fail
   go_ret
   exact⟨rfl,HB.out⟩
def dW(Xs:List PB)(n:Ge.Nd)(k:Nat):List Nat:=(List.range k).filter (jA Xs n)
theorem ah3(Xs:List PB)(n:Ge.Nd)(k:Nat):dW Xs n (k+1)=dW Xs n k++(if jA Xs n k then[k] else[]):=by
 unfold dW;rw[FD,BB];congr 1;cases h:jA Xs n k<;>simp[h]
theorem N8(Xs:List PB)(n:Ge.Nd)(k:Nat):∀j∈dW Xs n k,j<k:=fun _j hj=>qi.1 (eY.1 hj).1
theorem XC(Xs:List PB)(n:Ge.Nd)(k:Nat):(dW Xs n k).length<=k:=by
 have:=FM (jA Xs n) (List.range k);rw[abo] at this;exact this
theorem ah4(bs:List Nat)(Xs:List PB)(n:Ge.Nd)(N1 N2:Nat)(N3:Int)(g cap bM:Nat)(w:World)(hR:RB w g bs Xs)(hl:bs.length<=85000000)
  (HI:Hid (∀i,i<bs.length->∀w',Below w.heap.size w w'->Calls Tryz.prog 170 #[.pointer (some ⟨bx bs i,0,none⟩),.agg #[.complex .f64 N1 N2,.int .i64 N3]] w' fun e w''=>e=.returned (.bool (jA Xs n i))/\Below w'.heap.size w' w''))
  (HM:Hid (∀lv wr,wr.ownsRow w.heap.size 175 1 lv (dW Xs n bs.length).length (aL ((dW Xs n bs.length).map (bx bs)))->Below w.heap.size w wr->Calls Tryz.prog 171 #[lv,.func (.func 172) #[.agg #[.complex .f64 N1 N2,.int .i64 N3]] #[]] wr fun e w''=>e=.returned (.pointer (some ⟨bM,0,none⟩))/\Below wr.heap.size wr w'')):
  Calls Tryz.prog 114 #[.slice (some ⟨g,0,none⟩) bs.length cap,.agg #[.complex .f64 N1 N2,.int .i64 N3]] w fun e w'=>e=.returned (.pointer (some ⟨bM,0,none⟩))/\Below w.heap.size w w':=by
 obtain⟨i0,hi0,hz0,hz1,hz2⟩:=info_parts ym;have yn:Hid (RB w g bs Xs):=hR;have hT0:=heap_alloc_new w (.cells #[.complex .f64 N1 N2,.int .i64 N3] 83);have hs0:(w.alloc (.cells #[.complex .f64 N1 N2,.int .i64 N3] 83)).heap.size=w.heap.size+1:=by simp
 have bW:Hid ((w.alloc (.cells #[.complex .f64 N1 N2,.int .i64 N3] 83)).ownsRow (w.heap.size+1) 175 1 (.slice none 0 0) (dW Xs n 0).length (aL ((dW Xs n 0).map (bx bs)))/\Below w.heap.size w (w.alloc (.cells #[.complex .f64 N1 N2,.int .i64 N3] 83))/\(w.alloc (.cells #[.complex .f64 N1 N2,.int .i64 N3] 83)).heap[w.heap.size]?=some (.cells #[.complex .f64 N1 N2,.int .i64 N3] 83 (0,0))/\w.heap.size+1<=(w.alloc (.cells #[.complex .f64 N1 N2,.int .i64 N3] 83)).heap.size):=⟨World.ownsRow_nil _ _ _ _,(Below.refl _ _).alloc (ay _) _,hT0,by omega⟩
 clear hR hT0 hs0
 go_enter Tryz.func114,Tryz.ntmps114
 go_wp2_with fail
 generalize w.alloc (.cells #[.complex .f64 N1 N2,.int .i64 N3] 83)=W0 at*
 go_loopg [5,10] bs.length (fun m lv iv wr=>∃k:Nat,k+m=bs.length/\iv=.int .i64 k/\Hid (wr.ownsRow (w.heap.size+1) 175 1 lv (dW Xs n k).length (aL ((dW Xs n k).map (bx bs)))/\Below w.heap.size w wr/\wr.heap[w.heap.size]?=some (.cells #[.complex .f64 N1 N2,.int .i64 N3] 83 (0,0))/\w.heap.size+1<=wr.heap.size))
 case atStart=>exact⟨0,by omega,rfl,bW.out⟩
 case round=>
  obtain⟨k,hkn,rfl,HE⟩:=hrel;clear bW;obtain⟨jk,hb2,EE,agA⟩:=HE.out;have t0:wr.cell? ⟨w.heap.size,0,none⟩=some (.complex .f64 N1 N2):=cell_of EE 0;have t1:wr.cell? ⟨w.heap.size,1,none⟩=some (.int .i64 N3):=cell_of EE 1;have sQ:Hid (wr.ownsRow (w.heap.size+1) 175 1 u5 (dW Xs n k).length (aL ((dW Xs n k).map (bx bs)))/\Below w.heap.size w wr/\wr.heap[w.heap.size]?=some (.cells #[.complex .f64 N1 N2,.int .i64 N3] 83 (0,0))):=⟨jk,hb2,EE⟩;by_cases hlt:k<bs.length
  ·have c1:=(hb2.cell (p:=⟨g,k,none⟩) (lt_of_cell (yn.out.row k _ (wC hlt)))).trans (yn.out.row k _ (wC hlt));have XD:Hid (Calls Tryz.prog 170 #[.pointer (some ⟨bx bs k,0,none⟩),.agg #[.complex .f64 N1 N2,.int .i64 N3]] wr fun e w''=>e=.returned (.bool (jA Xs n k))/\Below wr.heap.size wr w''):=HI.out k hlt wr hb2
   have Ju:Hid (dW Xs n (k+1)=dW Xs n k++(if jA Xs n k then[k] else[])):=ah3 Xs n k
   have hsl:=XC Xs n k;have fN:(k:Int)<(bs.length:Int):=by omega
   clear jk hb2 EE HE HI HM yn;generalize jA Xs n k=B at*;generalize dW Xs n k=T at*;generalize hbb:bx bs k=bS at*
   go_wp2_with fail
   refine XD.out.mono ?_;rintro e w5 ⟨rfl,az⟩;have dN:w5.ownsRow (w.heap.size+1) 175 1 u5 T.length (aL (T.map (bx bs))):=aU sQ.out.1 fun k hk=>az.block k (aB sQ.out.1 k hk).2
   have fF:Hid (Below w.heap.size w w5):=sQ.out.2.1.trans (az.mono (by omega))
   have pX:Hid (w5.heap[w.heap.size]?=some (.cells #[.complex .f64 N1 N2,.int .i64 N3] 83 (0,0))):=(az.block _ (lt_of_heap sQ.out.2.2)).trans sQ.out.2.2;have hz5:w.heap.size+1<=w5.heap.size:=by have:=az.size;omega
   have Ew:Hid (bx bs k=bS):=hbb;clear az XD sQ c1 t0 t1 hbb;cases B
   ·have cI:Hid (w5.ownsRow (w.heap.size+1) 175 1 u5 (dW Xs n (k+1)).length (aL ((dW Xs n (k+1)).map (bx bs)))/\Below w.heap.size w w5/\w5.heap[w.heap.size]?=some (.cells #[.complex .f64 N1 N2,.int .i64 N3] 83 (0,0))/\w.heap.size+1<=w5.heap.size):=by
     show _/\_;have e:dW Xs n (k+1)=T:=by rw[Ju.out];simp
     rw[e];exact⟨dN,fF.out,pX.out,hz5⟩
    clear dN Ju
    go_wp2_with fail
    go_roundg (gk-1)
    case measure=>omega
    case rel=>exact⟨k+1,by omega,by go_num,cI.out⟩
   ·have hnb:(w5.alloc (.cells #[.pointer (some ⟨bS,0,none⟩)] 175)).heap[w5.heap.size]?=some (.cells #[.pointer (some ⟨bS,0,none⟩)] 175 (0,0)):=heap_alloc_new _ _;have fY:(w5.alloc (.cells #[.pointer (some ⟨bS,0,none⟩)] 175)).ownsRow (w.heap.size+1) 175 1 u5 T.length (aL (T.map (bx bs))):=aU dN fun k hk=>Below.heap_alloc _ _ _ (aB dN k hk).2
    have wL:Hid (w5.ownsRow (w.heap.size+1) 175 1 u5 T.length (aL (T.map (bx bs)))):=dN;clear dN
    go_wp2_with (at_builtin;refine wpList_append_lies _ rfl (.tmp 17) (.tmp 19) 132 rfl (w.heap.size+1) 175 i0 _ 1 8 Tryz.underlying132 hi0 hz0 hz1 hz2 rfl (by decide) u5 T.length (aL (T.map (bx bs))) rfl fY ⟨w5.heap.size,0,none⟩ 1 1 [.pointer (some ⟨bS,0,none⟩)] rfl rfl (World.news_of_block (cs:= #[.pointer (some ⟨bS,0,none⟩)]) (t:=175) (fr:=(0,0)) hnb) (by simp[Value.oneCell']) (by decide) (by unfold maxLen;omega) (by omega) (by simp;omega) (w5.heap.size+1) (by simp) ?_;intro g' cap' w8 cU bo gJ pP)
    have cI:Hid (w8.ownsRow (w.heap.size+1) 175 1 (.slice (some ⟨g',0,none⟩) (T.length+1) cap') (dW Xs n (k+1)).length (aL ((dW Xs n (k+1)).map (bx bs)))/\Below w.heap.size w w8/\w8.heap[w.heap.size]?=some (.cells #[.complex .f64 N1 N2,.int .i64 N3] 83 (0,0))/\w.heap.size+1<=w8.heap.size):=by
     show _/\_;have e:dW Xs n (k+1)=T++[k]:=by rw[Ju.out];simp
     rw[e,aX,ja];have e2:aL (T.map (bx bs)++[k].map (bx bs))=aL (T.map (bx bs))++[.pointer (some ⟨bS,0,none⟩)]:=by simp[aL,Ew.out]
     rw[e2];have hzz:=bo.size;refine⟨cU,(fF.out.alloc (by omega) _).grown bo (by simp;omega) (fun k hk=>by have:=(aB wL.out k hk).1;omega),?_,by simp at hzz;omega⟩
     have hne:∀k,u5.ownBlock=some k->k≠w.heap.size:=fun k hk=>by have:=(aB wL.out k hk).1;omega
     exact(bo.block _ (by simp;omega) (fun e=>hne _ e.symm rfl)).trans ((Below.heap_alloc _ _ _ (by omega)).trans pX.out)
    clear cU bo gJ hnb fY wL Ju
    go_wp2_with fail
    go_roundg (gk-1)
    case measure=>omega
    case rel=>exact⟨k+1,by omega,by go_num,cI.out⟩
  ·have hk:k=bs.length:=by omega
   subst hk;have Ex:Hid (Calls Tryz.prog 171 #[u5,.func (.func 172) #[.agg #[.complex .f64 N1 N2,.int .i64 N3]] #[]] wr fun e w''=>e=.returned (.pointer (some ⟨bM,0,none⟩))/\Below wr.heap.size wr w''):=HM.out u5 wr (ur sQ.out.1 (by omega)) sQ.out.2.1
   have gL:Hid (Below w.heap.size w wr):=sQ.out.2.1;clear jk hb2 EE HE HI HM yn sQ
   go_wp2_with fail
   refine Ex.out.mono ?_;rintro e w9 ⟨rfl,oX⟩;have HF:Hid (Below w.heap.size w w9):=gL.out.trans (oX.mono (by omega))
   clear oX Ex gL
   go_wp2_with fail
   go_ret
   exact⟨rfl,HF.out⟩
end Go.Proofs.YtkjhhooecopolaaGreatDoor
