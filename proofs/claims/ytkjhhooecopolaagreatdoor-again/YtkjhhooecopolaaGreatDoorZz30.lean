import Derived.Test.YtkjhhooecopolaaGreatDoorZz29
set_option maxRecDepth 100000
set_option maxHeartbeats 4000000
namespace Go.Proofs.YtkjhhooecopolaaGreatDoor
open Go.RowKit
theorem agF(X1 X2 X3 F1 F2 T1 T2 N1 N2 r:Nat)(F3 T3 N3:Int)(FA TA GB:Bool)(b:Nat)(w:World)
  (a0:w.cell? ⟨b,0,none⟩=some (.complex .f64 X1 X2))(a1:w.cell? ⟨b,1,none⟩=some (.float .f64 X3))(a2:w.cell? ⟨b,2,none⟩=some (.complex .f64 F1 F2))(a3:w.cell? ⟨b,3,none⟩=some (.int .i64 F3))(a4:w.cell? ⟨b,4,none⟩=some (.complex .f64 T1 T2))(a5:w.cell? ⟨b,5,none⟩=some (.int .i64 T3))
  (HF:Hid (∀w,Calls Tryz.prog 100 #[.agg #[.complex .f64 N1 N2,.int .i64 N3],.agg #[.complex .f64 F1 F2,.int .i64 F3]] w fun e w'=>e=.returned (.bool FA)/\Below w.heap.size w w'))
  (HT:Hid (∀w,Calls Tryz.prog 100 #[.agg #[.complex .f64 N1 N2,.int .i64 N3],.agg #[.complex .f64 T1 T2,.int .i64 T3]] w fun e w'=>e=.returned (.bool TA)/\Below w.heap.size w w'))
  (HL:Hid (∀w,Calls Tryz.prog 97 #[.agg #[.complex .f64 X1 X2,.float .f64 X3],.agg #[.complex .f64 N1 N2,.int .i64 N3]] w fun e w'=>e=.returned (.float .f64 r)/\Below w.heap.size w w'))
  (hr:(FloatKind.f64.format.order r 0 == some .gt)=GB):
  Calls Tryz.prog 170 #[.pointer (some ⟨b,0,none⟩),.agg #[.complex .f64 N1 N2,.int .i64 N3]] w fun e w'=>e=.returned (.bool (!FA&&TA&&GB))/\Below w.heap.size w w':=by
 have hbz:b<w.heap.size:=lt_of_cell a0;have hb0:Below w.heap.size w (w.alloc (.cells #[.complex .f64 N1 N2,.int .i64 N3] 83)):=(Below.refl _ _).alloc (ax _) _;have hE:=heap_alloc_new w (.cells #[.complex .f64 N1 N2,.int .i64 N3] 83);have hz:w.heap.size<(w.alloc (.cells #[.complex .f64 N1 N2,.int .i64 N3] 83)).heap.size:=by simp
 go_enter Tryz.func170,Tryz.ntmps170
 go_wp2_with fail
 have z0:(w.alloc (.cells #[.complex .f64 N1 N2,.int .i64 N3] 83)).cell? ⟨w.heap.size,0,none⟩=some (.complex .f64 N1 N2):=cell_of hE 0;have z1:(w.alloc (.cells #[.complex .f64 N1 N2,.int .i64 N3] 83)).cell? ⟨w.heap.size,1,none⟩=some (.int .i64 N3):=cell_of hE 1;have z2:=(hb0.cell (p:=⟨b,0,none⟩) hbz).trans a0;have z3:=(hb0.cell (p:=⟨b,1,none⟩) hbz).trans a1;have z4:=(hb0.cell (p:=⟨b,2,none⟩) hbz).trans a2;have z5:=(hb0.cell (p:=⟨b,3,none⟩) hbz).trans a3;have z6:=(hb0.cell (p:=⟨b,4,none⟩) hbz).trans a4;have z7:=(hb0.cell (p:=⟨b,5,none⟩) hbz).trans a5;generalize w.alloc (.cells #[.complex .f64 N1 N2,.int .i64 N3] 83)=W at*;generalize pH:w.heap.size=B at*;have jW:B<W.heap.size:=by omega
 have jq:b<W.heap.size:=by omega
 have MR:Below B w W:=hb0;have Dk:∀w5,Below W.heap.size W.drew w5->Below B w w5:=fun w5 h=>(MR.drew).trans (h.mono (dN jW))
 clear hE hz a0 a1 a2 a3 a4 a5 hb0;cases FA
 ·cases TA
  ·
   refine wp_region_held_drew (S:=(fun w'=>w'.cell? ⟨B,0,none⟩=some (.complex .f64 N1 N2)/\w'.cell? ⟨B,1,none⟩=some (.int .i64 N3)/\w'.cell? ⟨b,0,none⟩=some (.complex .f64 X1 X2)/\w'.cell? ⟨b,1,none⟩=some (.float .f64 X3)/\w'.cell? ⟨b,2,none⟩=some (.complex .f64 F1 F2)/\w'.cell? ⟨b,3,none⟩=some (.int .i64 F3)/\w'.cell? ⟨b,4,none⟩=some (.complex .f64 T1 T2)/\w'.cell? ⟨b,5,none⟩=some (.int .i64 T3))) (by kernel_rfl) ⟨z0,z1,z2,z3,z4,z5,z6,z7⟩ (fun hHeld=>?_)
   refine wpAnyH_take (i:=0) (oi:={dst:=some 5,op:=_,type:=_,pos:=_,after:=_,guard:=_}) (v:=?_) rfl (by kernel_rfl) (by kernel_rfl) (by kernel_rfl) (fun _ _ _ h=>h) (ae ⟨by rfl,?_⟩) hHeld ?_
   rotate_left
   ·intro w' aA;obtain⟨s0,s1,s2,s3,s4,s5,s6,s7⟩:=aA
    go_simp
    try with_reducible rfl
   simp only[Act.put,aH,aI,aG];refine wpAnyH_take (i:=1) (oi:={dst:=some 6,op:=_,type:=_,pos:=_,after:=_,guard:=_}) (v:=?_) rfl (by kernel_rfl) (by kernel_rfl) (by kernel_rfl) (fun _ _ _ h=>h) (ae ⟨by rfl,?_⟩) hHeld ?_
   rotate_left
   ·intro w' aA;obtain⟨s0,s1,s2,s3,s4,s5,s6,s7⟩:=aA
    go_simp
    try with_reducible rfl
   simp only[Act.put,aH,aI,aG];refine wpAnyH_take (i:=2) (oi:={dst:=some 7,op:=_,type:=_,pos:=_,after:=_,guard:=_}) (v:=?_) rfl (by kernel_rfl) (by kernel_rfl) (by kernel_rfl) (fun _ _ _ h=>h) (ae ⟨by rfl,?_⟩) hHeld ?_
   rotate_left
   ·intro w' aA;obtain⟨s0,s1,s2,s3,s4,s5,s6,s7⟩:=aA
    go_simp
    try with_reducible rfl
   simp only[Act.put,aH,aI,aG];refine wpAnyH_take (i:=3) (oi:={dst:=some 8,op:=_,type:=_,pos:=_,after:=_,guard:=_}) (v:=?_) rfl (by kernel_rfl) (by kernel_rfl) (by kernel_rfl) (fun _ _ _ h=>h) (ae ⟨by rfl,?_⟩) hHeld ?_
   rotate_left
   ·intro w' aA;obtain⟨s0,s1,s2,s3,s4,s5,s6,s7⟩:=aA
    go_simp
    try with_reducible rfl
   simp only[Act.put,aH,aI,aG];refine wpAnyH_take (i:=4) (oi:={dst:=some 9,op:=_,type:=_,pos:=_,after:=_,guard:=_}) (v:=?_) rfl (by kernel_rfl) (by kernel_rfl) (by kernel_rfl) (fun _ _ _ h=>h) (ae ⟨by rfl,?_⟩) hHeld ?_
   rotate_left
   ·intro w' aA;obtain⟨s0,s1,s2,s3,s4,s5,s6,s7⟩:=aA
    go_simp
    try with_reducible rfl
   simp only[Act.put,aH,aI,aG];refine wpAnyH_take (i:=5) (oi:={dst:=some 10,op:=_,type:=_,pos:=_,after:=_,guard:=_}) (v:=?_) rfl (by kernel_rfl) (by kernel_rfl) (by kernel_rfl) (fun _ _ _ h=>h) (ae ⟨by rfl,?_⟩) hHeld ?_
   rotate_left
   ·intro w' aA;obtain⟨s0,s1,s2,s3,s4,s5,s6,s7⟩:=aA
    go_simp
    try with_reducible rfl
   simp only[Act.put,aH,aI,aG];refine wpAnyH_ready (rs:=[6]) (by kernel_rfl) (by simp) ?_
   refine AllReadyH.cons rfl (fun K hK=>?_) AllReadyH.nil
   go_simp
   refine(HF.out _).mono ?_;rintro e w5 ⟨rfl,dG⟩;have lV:B<w5.heap.size:=aZ jW dG.size;have lj:b<w5.heap.size:=aZ jq dG.size;have l0:=(dG.cell (p:=⟨B,0,none⟩) jW).trans z0;have l1:=(dG.cell (p:=⟨B,1,none⟩) jW).trans z1;have l2:=(dG.cell (p:=⟨b,0,none⟩) jq).trans z2;have l3:=(dG.cell (p:=⟨b,1,none⟩) jq).trans z3;have l4:=(dG.cell (p:=⟨b,2,none⟩) jq).trans z4;have l5:=(dG.cell (p:=⟨b,3,none⟩) jq).trans z5;have l6:=(dG.cell (p:=⟨b,4,none⟩) jq).trans z6;have l7:=(dG.cell (p:=⟨b,5,none⟩) jq).trans z7
   go_wp2_with fail
   refine hK.out _ _ ⟨l0,l1,l2,l3,l4,l5,l6,l7⟩ (fun hHeld=>?_)
   clear hK K
   try simp only[Act.put,aH,aI,aG]
   refine wpAnyH_take (i:=7) (oi:={dst:=some 12,op:=_,type:=_,pos:=_,after:=_,guard:=_}) (v:=?_) rfl (by kernel_rfl) (by kernel_rfl) (by kernel_rfl) (fun _ _ _ h=>h) (ae ⟨by rfl,?_⟩) hHeld ?_
   rotate_left
   ·intro w' aA;obtain⟨s0,s1,s2,s3,s4,s5,s6,s7⟩:=aA
    go_simp
    try with_reducible rfl
   simp only[Act.put,aH,aI,aG];refine wpAnyH_take (i:=8) (oi:={dst:=some 13,op:=_,type:=_,pos:=_,after:=_,guard:=_}) (v:=?_) rfl (by kernel_rfl) (by kernel_rfl) (by kernel_rfl) (fun _ _ _ h=>h) (ae ⟨by rfl,?_⟩) hHeld ?_
   rotate_left
   ·intro w' aA;obtain⟨s0,s1,s2,s3,s4,s5,s6,s7⟩:=aA
    go_simp
    try with_reducible rfl
   simp only[Act.put,aH,aI,aG];refine wpAnyH_take (i:=9) (oi:={dst:=some 14,op:=_,type:=_,pos:=_,after:=_,guard:=_}) (v:=?_) rfl (by kernel_rfl) (by kernel_rfl) (by kernel_rfl) (fun _ _ _ h=>h) (ae ⟨by rfl,?_⟩) hHeld ?_
   rotate_left
   ·intro w' aA;obtain⟨s0,s1,s2,s3,s4,s5,s6,s7⟩:=aA
    go_simp
    try with_reducible rfl
   simp only[Act.put,aH,aI,aG];refine wpAnyH_take (i:=10) (oi:={dst:=some 15,op:=_,type:=_,pos:=_,after:=_,guard:=_}) (v:=?_) rfl (by kernel_rfl) (by kernel_rfl) (by kernel_rfl) (fun _ _ _ h=>h) (ae ⟨by rfl,?_⟩) hHeld ?_
   rotate_left
   ·intro w' aA;obtain⟨s0,s1,s2,s3,s4,s5,s6,s7⟩:=aA
    go_simp
    try with_reducible rfl
   simp only[Act.put,aH,aI,aG];refine wpAnyH_take (i:=11) (oi:={dst:=some 16,op:=_,type:=_,pos:=_,after:=_,guard:=_}) (v:=?_) rfl (by kernel_rfl) (by kernel_rfl) (by kernel_rfl) (fun _ _ _ h=>h) (ae ⟨by rfl,?_⟩) hHeld ?_
   rotate_left
   ·intro w' aA;obtain⟨s0,s1,s2,s3,s4,s5,s6,s7⟩:=aA
    go_simp
    try with_reducible rfl
   simp only[Act.put,aH,aI,aG];refine wpAnyH_take (i:=12) (oi:={dst:=some 17,op:=_,type:=_,pos:=_,after:=_,guard:=_}) (v:=?_) rfl (by kernel_rfl) (by kernel_rfl) (by kernel_rfl) (fun _ _ _ h=>h) (ae ⟨by rfl,?_⟩) hHeld ?_
   rotate_left
   ·intro w' aA;obtain⟨s0,s1,s2,s3,s4,s5,s6,s7⟩:=aA
    go_simp
    try with_reducible rfl
   simp only[Act.put,aH,aI,aG];refine wpAnyH_take (i:=13) (oi:={dst:=some 18,op:=_,type:=_,pos:=_,after:=_,guard:=_}) (v:=?_) rfl (by kernel_rfl) (by kernel_rfl) (by kernel_rfl) (fun _ _ _ h=>h) (ae ⟨by rfl,?_⟩) hHeld ?_
   rotate_left
   ·intro w' aA;obtain⟨s0,s1,s2,s3,s4,s5,s6,s7⟩:=aA
    go_simp
    try with_reducible rfl
   simp only[Act.put,aH,aI,aG];refine wpAnyH_take (i:=14) (oi:={dst:=some 19,op:=_,type:=_,pos:=_,after:=_,guard:=_}) (v:=?_) rfl (by kernel_rfl) (by kernel_rfl) (by kernel_rfl) (fun _ _ _ h=>h) (ae ⟨by rfl,?_⟩) hHeld ?_
   rotate_left
   ·intro w' aA;obtain⟨s0,s1,s2,s3,s4,s5,s6,s7⟩:=aA
    go_simp
    try with_reducible rfl
   simp only[Act.put,aH,aI,aG];refine wpAnyH_ready (rs:=[15]) (by kernel_rfl) (by simp) ?_
   refine AllReadyH.cons rfl (fun K hK=>?_) AllReadyH.nil
   go_simp
   refine(HT.out _).mono ?_;rintro e w6 ⟨rfl,gz⟩;have rC:B<w6.heap.size:=aZ lV gz.size;have vh:b<w6.heap.size:=aZ lj gz.size;have m0:=(gz.cell (p:=⟨B,0,none⟩) lV).trans l0;have m1:=(gz.cell (p:=⟨B,1,none⟩) lV).trans l1;have m2:=(gz.cell (p:=⟨b,0,none⟩) lj).trans l2;have m3:=(gz.cell (p:=⟨b,1,none⟩) lj).trans l3;have m4:=(gz.cell (p:=⟨b,2,none⟩) lj).trans l4;have m5:=(gz.cell (p:=⟨b,3,none⟩) lj).trans l5;have m6:=(gz.cell (p:=⟨b,4,none⟩) lj).trans l6;have m7:=(gz.cell (p:=⟨b,5,none⟩) lj).trans l7
   go_wp2_with fail
   refine hK.out _ _ ⟨m0,m1,m2,m3,m4,m5,m6,m7⟩ (fun hHeld=>?_)
   clear hK K
   try simp only[Act.put,aH,aI,aG]
   refine wpAnyH_take (i:=16) (oi:={dst:=some 21,op:=_,type:=_,pos:=_,after:=_,guard:=_}) (v:=?_) rfl (by kernel_rfl) (by kernel_rfl) (by kernel_rfl) (fun _ _ _ h=>h) (ae ⟨by rfl,?_⟩) hHeld ?_
   rotate_left
   ·intro w' aA;obtain⟨s0,s1,s2,s3,s4,s5,s6,s7⟩:=aA
    go_simp
    try with_reducible rfl
   simp only[Act.put,aH,aI,aG];refine wpAnyH_take (i:=17) (oi:={dst:=some 22,op:=_,type:=_,pos:=_,after:=_,guard:=_}) (v:=?_) rfl (by kernel_rfl) (by kernel_rfl) (by kernel_rfl) (fun _ _ _ h=>h) (ae ⟨by rfl,?_⟩) hHeld ?_
   rotate_left
   ·intro w' aA;obtain⟨s0,s1,s2,s3,s4,s5,s6,s7⟩:=aA
    go_simp
    try with_reducible rfl
   simp only[Act.put,aH,aI,aG];refine wpAnyH_take (i:=18) (oi:={dst:=some 23,op:=_,type:=_,pos:=_,after:=_,guard:=_}) (v:=undef) rfl (by kernel_rfl) (by kernel_rfl) (by kernel_rfl) (fun _ _ _ h=>h) (af ⟨by kernel_rfl,rfl⟩) hHeld ?_
   simp only[Act.put,aH,aI,aG];refine wpAnyH_take (i:=19) (oi:={dst:=some 24,op:=_,type:=_,pos:=_,after:=_,guard:=_}) (v:=undef) rfl (by kernel_rfl) (by kernel_rfl) (by kernel_rfl) (fun _ _ _ h=>h) (af ⟨by kernel_rfl,rfl⟩) hHeld ?_
   simp only[Act.put,aH,aI,aG];refine wpAnyH_take (i:=20) (oi:={dst:=some 25,op:=_,type:=_,pos:=_,after:=_,guard:=_}) (v:=undef) rfl (by kernel_rfl) (by kernel_rfl) (by kernel_rfl) (fun _ _ _ h=>h) (af ⟨by kernel_rfl,rfl⟩) hHeld ?_
   simp only[Act.put,aH,aI,aG];refine wpAnyH_take (i:=21) (oi:={dst:=some 26,op:=_,type:=_,pos:=_,after:=_,guard:=_}) (v:=undef) rfl (by kernel_rfl) (by kernel_rfl) (by kernel_rfl) (fun _ _ _ h=>h) (af ⟨by kernel_rfl,rfl⟩) hHeld ?_
   simp only[Act.put,aH,aI,aG];refine wpAnyH_take (i:=22) (oi:={dst:=some 27,op:=_,type:=_,pos:=_,after:=_,guard:=_}) (v:=undef) rfl (by kernel_rfl) (by kernel_rfl) (by kernel_rfl) (fun _ _ _ h=>h) (af ⟨by kernel_rfl,rfl⟩) hHeld ?_
   simp only[Act.put,aH,aI,aG];refine wpAnyH_take (i:=23) (oi:={dst:=some 28,op:=_,type:=_,pos:=_,after:=_,guard:=_}) (v:=undef) rfl (by kernel_rfl) (by kernel_rfl) (by kernel_rfl) (fun _ _ _ h=>h) (af ⟨by kernel_rfl,rfl⟩) hHeld ?_
   simp only[Act.put,aH,aI,aG];refine wpAnyH_take (i:=24) (oi:={dst:=some 29,op:=_,type:=_,pos:=_,after:=_,guard:=_}) (v:=undef) rfl (by kernel_rfl) (by kernel_rfl) (by kernel_rfl) (fun _ _ _ h=>h) (af ⟨by kernel_rfl,rfl⟩) hHeld ?_
   simp only[Act.put,aH,aI,aG];refine wpAnyH_take (i:=25) (oi:={dst:=some 30,op:=_,type:=_,pos:=_,after:=_,guard:=_}) (v:=undef) rfl (by kernel_rfl) (by kernel_rfl) (by kernel_rfl) (fun _ _ _ h=>h) (af ⟨by kernel_rfl,rfl⟩) hHeld ?_
   simp only[Act.put,aH,aI,aG];refine wpAnyH_take (i:=26) (oi:={dst:=some 31,op:=_,type:=_,pos:=_,after:=_,guard:=_}) (v:=?_) rfl (by kernel_rfl) (by kernel_rfl) (by kernel_rfl) (fun _ _ _ h=>h) (ae ⟨by rfl,?_⟩) hHeld ?_
   rotate_left
   ·intro w' aA;obtain⟨s0,s1,s2,s3,s4,s5,s6,s7⟩:=aA
    go_simp
    try with_reducible rfl
   simp only[Act.put,aH,aI,aG];refine wpAnyH_take (i:=27) (oi:={dst:=some 4,op:=_,type:=_,pos:=_,after:=_,guard:=_}) (v:=?_) rfl (by kernel_rfl) (by kernel_rfl) (by kernel_rfl) (fun _ _ _ h=>h) (ae ⟨by rfl,?_⟩) hHeld ?_
   rotate_left
   ·intro w' aA;obtain⟨s0,s1,s2,s3,s4,s5,s6,s7⟩:=aA
    go_simp
    try with_reducible rfl
   simp only[Act.put,aH,aI,aG];refine wpAnyH_done (by kernel_rfl) ?_ _
   go_wp2_with fail
   go_ret
   exact⟨rfl,by rw[pH];exact(Dk _ dG).trans (gz.mono (dN lV))⟩
  ·
   go_region_held3 (fun w'=>w'.cell? ⟨B,0,none⟩=some (.complex .f64 N1 N2)/\w'.cell? ⟨B,1,none⟩=some (.int .i64 N3)/\w'.cell? ⟨b,0,none⟩=some (.complex .f64 X1 X2)/\w'.cell? ⟨b,1,none⟩=some (.float .f64 X3)/\w'.cell? ⟨b,2,none⟩=some (.complex .f64 F1 F2)/\w'.cell? ⟨b,3,none⟩=some (.int .i64 F3)/\w'.cell? ⟨b,4,none⟩=some (.complex .f64 T1 T2)/\w'.cell? ⟨b,5,none⟩=some (.int .i64 T3)) (go_keep) (first
    |(go_at_call_of 100 (Value.agg #[Value.complex FloatKind.f64 F1 F2,Value.int IntKind.i64 F3]);refine(HF.out _).mono ?_;rintro e w5 ⟨rfl,dG⟩;have lV:B<w5.heap.size:=aZ jW dG.size;have lj:b<w5.heap.size:=aZ jq dG.size;have l0:=(dG.cell (p:=⟨B,0,none⟩) jW).trans z0;have l1:=(dG.cell (p:=⟨B,1,none⟩) jW).trans z1;have l2:=(dG.cell (p:=⟨b,0,none⟩) jq).trans z2;have l3:=(dG.cell (p:=⟨b,1,none⟩) jq).trans z3;have l4:=(dG.cell (p:=⟨b,2,none⟩) jq).trans z4;have l5:=(dG.cell (p:=⟨b,3,none⟩) jq).trans z5;have l6:=(dG.cell (p:=⟨b,4,none⟩) jq).trans z6;have l7:=(dG.cell (p:=⟨b,5,none⟩) jq).trans z7)
    |(go_at_call_of 100 (Value.agg #[Value.complex FloatKind.f64 T1 T2,Value.int IntKind.i64 T3]);refine(HT.out _).mono ?_;rintro e w6 ⟨rfl,gz⟩;have rC:B<w6.heap.size:=aZ lV gz.size;have vh:b<w6.heap.size:=aZ lj gz.size;have m0:=(gz.cell (p:=⟨B,0,none⟩) lV).trans l0;have m1:=(gz.cell (p:=⟨B,1,none⟩) lV).trans l1;have m2:=(gz.cell (p:=⟨b,0,none⟩) lj).trans l2;have m3:=(gz.cell (p:=⟨b,1,none⟩) lj).trans l3;have m4:=(gz.cell (p:=⟨b,2,none⟩) lj).trans l4;have m5:=(gz.cell (p:=⟨b,3,none⟩) lj).trans l5;have m6:=(gz.cell (p:=⟨b,4,none⟩) lj).trans l6;have m7:=(gz.cell (p:=⟨b,5,none⟩) lj).trans l7)
    |(go_at_call 97;refine(HL.out _).mono ?_;rintro e w7 ⟨rfl,pY⟩;have alK:B<w7.heap.size:=aZ rC pY.size;have alL:b<w7.heap.size:=aZ vh pY.size;have q0:=(pY.cell (p:=⟨B,0,none⟩) rC).trans m0;have q1:=(pY.cell (p:=⟨B,1,none⟩) rC).trans m1;have q2:=(pY.cell (p:=⟨b,0,none⟩) vh).trans m2;have q3:=(pY.cell (p:=⟨b,1,none⟩) vh).trans m3;have q4:=(pY.cell (p:=⟨b,2,none⟩) vh).trans m4;have q5:=(pY.cell (p:=⟨b,3,none⟩) vh).trans m5;have q6:=(pY.cell (p:=⟨b,4,none⟩) vh).trans m6;have q7:=(pY.cell (p:=⟨b,5,none⟩) vh).trans m7))
   all_goals
    go_wp2_with fail
    go_ret
    exact⟨by simp,by rw[pH];exact((Dk _ dG).trans (gz.mono (dN lV))).trans (pY.mono (dN rC))⟩
 ·
  refine wp_region_held_drew (S:=(fun w'=>w'.cell? ⟨B,0,none⟩=some (.complex .f64 N1 N2)/\w'.cell? ⟨B,1,none⟩=some (.int .i64 N3)/\w'.cell? ⟨b,0,none⟩=some (.complex .f64 X1 X2)/\w'.cell? ⟨b,1,none⟩=some (.float .f64 X3)/\w'.cell? ⟨b,2,none⟩=some (.complex .f64 F1 F2)/\w'.cell? ⟨b,3,none⟩=some (.int .i64 F3)/\w'.cell? ⟨b,4,none⟩=some (.complex .f64 T1 T2)/\w'.cell? ⟨b,5,none⟩=some (.int .i64 T3))) (by kernel_rfl) ⟨z0,z1,z2,z3,z4,z5,z6,z7⟩ (fun hHeld=>?_)
  refine wpAnyH_take (i:=0) (oi:={dst:=some 5,op:=_,type:=_,pos:=_,after:=_,guard:=_}) (v:=?_) rfl (by kernel_rfl) (by kernel_rfl) (by kernel_rfl) (fun _ _ _ h=>h) (ae ⟨by rfl,?_⟩) hHeld ?_
  rotate_left
  ·intro w' aA;obtain⟨s0,s1,s2,s3,s4,s5,s6,s7⟩:=aA
   go_simp
   try with_reducible rfl
  simp only[Act.put,aH,aI,aG];refine wpAnyH_take (i:=1) (oi:={dst:=some 6,op:=_,type:=_,pos:=_,after:=_,guard:=_}) (v:=?_) rfl (by kernel_rfl) (by kernel_rfl) (by kernel_rfl) (fun _ _ _ h=>h) (ae ⟨by rfl,?_⟩) hHeld ?_
  rotate_left
  ·intro w' aA;obtain⟨s0,s1,s2,s3,s4,s5,s6,s7⟩:=aA
   go_simp
   try with_reducible rfl
  simp only[Act.put,aH,aI,aG];refine wpAnyH_take (i:=2) (oi:={dst:=some 7,op:=_,type:=_,pos:=_,after:=_,guard:=_}) (v:=?_) rfl (by kernel_rfl) (by kernel_rfl) (by kernel_rfl) (fun _ _ _ h=>h) (ae ⟨by rfl,?_⟩) hHeld ?_
  rotate_left
  ·intro w' aA;obtain⟨s0,s1,s2,s3,s4,s5,s6,s7⟩:=aA
   go_simp
   try with_reducible rfl
  simp only[Act.put,aH,aI,aG];refine wpAnyH_take (i:=3) (oi:={dst:=some 8,op:=_,type:=_,pos:=_,after:=_,guard:=_}) (v:=?_) rfl (by kernel_rfl) (by kernel_rfl) (by kernel_rfl) (fun _ _ _ h=>h) (ae ⟨by rfl,?_⟩) hHeld ?_
  rotate_left
  ·intro w' aA;obtain⟨s0,s1,s2,s3,s4,s5,s6,s7⟩:=aA
   go_simp
   try with_reducible rfl
  simp only[Act.put,aH,aI,aG];refine wpAnyH_take (i:=4) (oi:={dst:=some 9,op:=_,type:=_,pos:=_,after:=_,guard:=_}) (v:=?_) rfl (by kernel_rfl) (by kernel_rfl) (by kernel_rfl) (fun _ _ _ h=>h) (ae ⟨by rfl,?_⟩) hHeld ?_
  rotate_left
  ·intro w' aA;obtain⟨s0,s1,s2,s3,s4,s5,s6,s7⟩:=aA
   go_simp
   try with_reducible rfl
  simp only[Act.put,aH,aI,aG];refine wpAnyH_take (i:=5) (oi:={dst:=some 10,op:=_,type:=_,pos:=_,after:=_,guard:=_}) (v:=?_) rfl (by kernel_rfl) (by kernel_rfl) (by kernel_rfl) (fun _ _ _ h=>h) (ae ⟨by rfl,?_⟩) hHeld ?_
  rotate_left
  ·intro w' aA;obtain⟨s0,s1,s2,s3,s4,s5,s6,s7⟩:=aA
   go_simp
   try with_reducible rfl
  simp only[Act.put,aH,aI,aG];refine wpAnyH_ready (rs:=[6]) (by kernel_rfl) (by simp) ?_
  refine AllReadyH.cons rfl (fun K hK=>?_) AllReadyH.nil
  go_simp
  refine(HF.out _).mono ?_;rintro e w5 ⟨rfl,dG⟩;have lV:B<w5.heap.size:=aZ jW dG.size;have lj:b<w5.heap.size:=aZ jq dG.size;have l0:=(dG.cell (p:=⟨B,0,none⟩) jW).trans z0;have l1:=(dG.cell (p:=⟨B,1,none⟩) jW).trans z1;have l2:=(dG.cell (p:=⟨b,0,none⟩) jq).trans z2;have l3:=(dG.cell (p:=⟨b,1,none⟩) jq).trans z3;have l4:=(dG.cell (p:=⟨b,2,none⟩) jq).trans z4;have l5:=(dG.cell (p:=⟨b,3,none⟩) jq).trans z5;have l6:=(dG.cell (p:=⟨b,4,none⟩) jq).trans z6;have l7:=(dG.cell (p:=⟨b,5,none⟩) jq).trans z7
  go_wp2_with fail
  refine hK.out _ _ ⟨l0,l1,l2,l3,l4,l5,l6,l7⟩ (fun hHeld=>?_)
  clear hK K
  try simp only[Act.put,aH,aI,aG]
  refine wpAnyH_take (i:=7) (oi:={dst:=some 12,op:=_,type:=_,pos:=_,after:=_,guard:=_}) (v:=?_) rfl (by kernel_rfl) (by kernel_rfl) (by kernel_rfl) (fun _ _ _ h=>h) (ae ⟨by rfl,?_⟩) hHeld ?_
  rotate_left
  ·intro w' aA;obtain⟨s0,s1,s2,s3,s4,s5,s6,s7⟩:=aA
   go_simp
   try with_reducible rfl
  simp only[Act.put,aH,aI,aG];refine wpAnyH_take (i:=8) (oi:={dst:=some 13,op:=_,type:=_,pos:=_,after:=_,guard:=_}) (v:=?_) rfl (by kernel_rfl) (by kernel_rfl) (by kernel_rfl) (fun _ _ _ h=>h) (ae ⟨by rfl,?_⟩) hHeld ?_
  rotate_left
  ·intro w' aA;obtain⟨s0,s1,s2,s3,s4,s5,s6,s7⟩:=aA
   go_simp
   try with_reducible rfl
  simp only[Act.put,aH,aI,aG];refine wpAnyH_take (i:=9) (oi:={dst:=some 14,op:=_,type:=_,pos:=_,after:=_,guard:=_}) (v:=undef) rfl (by kernel_rfl) (by kernel_rfl) (by kernel_rfl) (fun _ _ _ h=>h) (af ⟨by kernel_rfl,rfl⟩) hHeld ?_
  simp only[Act.put,aH,aI,aG];refine wpAnyH_take (i:=10) (oi:={dst:=some 15,op:=_,type:=_,pos:=_,after:=_,guard:=_}) (v:=undef) rfl (by kernel_rfl) (by kernel_rfl) (by kernel_rfl) (fun _ _ _ h=>h) (af ⟨by kernel_rfl,rfl⟩) hHeld ?_
  simp only[Act.put,aH,aI,aG];refine wpAnyH_take (i:=11) (oi:={dst:=some 16,op:=_,type:=_,pos:=_,after:=_,guard:=_}) (v:=undef) rfl (by kernel_rfl) (by kernel_rfl) (by kernel_rfl) (fun _ _ _ h=>h) (af ⟨by kernel_rfl,rfl⟩) hHeld ?_
  simp only[Act.put,aH,aI,aG];refine wpAnyH_take (i:=12) (oi:={dst:=some 17,op:=_,type:=_,pos:=_,after:=_,guard:=_}) (v:=undef) rfl (by kernel_rfl) (by kernel_rfl) (by kernel_rfl) (fun _ _ _ h=>h) (af ⟨by kernel_rfl,rfl⟩) hHeld ?_
  simp only[Act.put,aH,aI,aG];refine wpAnyH_take (i:=13) (oi:={dst:=some 18,op:=_,type:=_,pos:=_,after:=_,guard:=_}) (v:=undef) rfl (by kernel_rfl) (by kernel_rfl) (by kernel_rfl) (fun _ _ _ h=>h) (af ⟨by kernel_rfl,rfl⟩) hHeld ?_
  simp only[Act.put,aH,aI,aG];refine wpAnyH_take (i:=14) (oi:={dst:=some 19,op:=_,type:=_,pos:=_,after:=_,guard:=_}) (v:=undef) rfl (by kernel_rfl) (by kernel_rfl) (by kernel_rfl) (fun _ _ _ h=>h) (af ⟨by kernel_rfl,rfl⟩) hHeld ?_
  simp only[Act.put,aH,aI,aG];refine wpAnyH_take (i:=15) (oi:={dst:=some 20,op:=_,type:=_,pos:=_,after:=_,guard:=_}) (v:=undef) rfl (by kernel_rfl) (by kernel_rfl) (by kernel_rfl) (fun _ _ _ h=>h) (af ⟨by kernel_rfl,rfl⟩) hHeld ?_
  simp only[Act.put,aH,aI,aG];refine wpAnyH_take (i:=16) (oi:={dst:=some 21,op:=_,type:=_,pos:=_,after:=_,guard:=_}) (v:=?_) rfl (by kernel_rfl) (by kernel_rfl) (by kernel_rfl) (fun _ _ _ h=>h) (ae ⟨by rfl,?_⟩) hHeld ?_
  rotate_left
  ·intro w' aA;obtain⟨s0,s1,s2,s3,s4,s5,s6,s7⟩:=aA
   go_simp
   try with_reducible rfl
  simp only[Act.put,aH,aI,aG];refine wpAnyH_take (i:=17) (oi:={dst:=some 22,op:=_,type:=_,pos:=_,after:=_,guard:=_}) (v:=?_) rfl (by kernel_rfl) (by kernel_rfl) (by kernel_rfl) (fun _ _ _ h=>h) (ae ⟨by rfl,?_⟩) hHeld ?_
  rotate_left
  ·intro w' aA;obtain⟨s0,s1,s2,s3,s4,s5,s6,s7⟩:=aA
   go_simp
   try with_reducible rfl
  simp only[Act.put,aH,aI,aG];refine wpAnyH_take (i:=18) (oi:={dst:=some 23,op:=_,type:=_,pos:=_,after:=_,guard:=_}) (v:=undef) rfl (by kernel_rfl) (by kernel_rfl) (by kernel_rfl) (fun _ _ _ h=>h) (af ⟨by kernel_rfl,rfl⟩) hHeld ?_
  simp only[Act.put,aH,aI,aG];refine wpAnyH_take (i:=19) (oi:={dst:=some 24,op:=_,type:=_,pos:=_,after:=_,guard:=_}) (v:=undef) rfl (by kernel_rfl) (by kernel_rfl) (by kernel_rfl) (fun _ _ _ h=>h) (af ⟨by kernel_rfl,rfl⟩) hHeld ?_
  simp only[Act.put,aH,aI,aG];refine wpAnyH_take (i:=20) (oi:={dst:=some 25,op:=_,type:=_,pos:=_,after:=_,guard:=_}) (v:=undef) rfl (by kernel_rfl) (by kernel_rfl) (by kernel_rfl) (fun _ _ _ h=>h) (af ⟨by kernel_rfl,rfl⟩) hHeld ?_
  simp only[Act.put,aH,aI,aG];refine wpAnyH_take (i:=21) (oi:={dst:=some 26,op:=_,type:=_,pos:=_,after:=_,guard:=_}) (v:=undef) rfl (by kernel_rfl) (by kernel_rfl) (by kernel_rfl) (fun _ _ _ h=>h) (af ⟨by kernel_rfl,rfl⟩) hHeld ?_
  simp only[Act.put,aH,aI,aG];refine wpAnyH_take (i:=22) (oi:={dst:=some 27,op:=_,type:=_,pos:=_,after:=_,guard:=_}) (v:=undef) rfl (by kernel_rfl) (by kernel_rfl) (by kernel_rfl) (fun _ _ _ h=>h) (af ⟨by kernel_rfl,rfl⟩) hHeld ?_
  simp only[Act.put,aH,aI,aG];refine wpAnyH_take (i:=23) (oi:={dst:=some 28,op:=_,type:=_,pos:=_,after:=_,guard:=_}) (v:=undef) rfl (by kernel_rfl) (by kernel_rfl) (by kernel_rfl) (fun _ _ _ h=>h) (af ⟨by kernel_rfl,rfl⟩) hHeld ?_
  simp only[Act.put,aH,aI,aG];refine wpAnyH_take (i:=24) (oi:={dst:=some 29,op:=_,type:=_,pos:=_,after:=_,guard:=_}) (v:=undef) rfl (by kernel_rfl) (by kernel_rfl) (by kernel_rfl) (fun _ _ _ h=>h) (af ⟨by kernel_rfl,rfl⟩) hHeld ?_
  simp only[Act.put,aH,aI,aG];refine wpAnyH_take (i:=25) (oi:={dst:=some 30,op:=_,type:=_,pos:=_,after:=_,guard:=_}) (v:=undef) rfl (by kernel_rfl) (by kernel_rfl) (by kernel_rfl) (fun _ _ _ h=>h) (af ⟨by kernel_rfl,rfl⟩) hHeld ?_
  simp only[Act.put,aH,aI,aG];refine wpAnyH_take (i:=26) (oi:={dst:=some 31,op:=_,type:=_,pos:=_,after:=_,guard:=_}) (v:=?_) rfl (by kernel_rfl) (by kernel_rfl) (by kernel_rfl) (fun _ _ _ h=>h) (ae ⟨by rfl,?_⟩) hHeld ?_
  rotate_left
  ·intro w' aA;obtain⟨s0,s1,s2,s3,s4,s5,s6,s7⟩:=aA
   go_simp
   try with_reducible rfl
  simp only[Act.put,aH,aI,aG];refine wpAnyH_take (i:=27) (oi:={dst:=some 4,op:=_,type:=_,pos:=_,after:=_,guard:=_}) (v:=?_) rfl (by kernel_rfl) (by kernel_rfl) (by kernel_rfl) (fun _ _ _ h=>h) (ae ⟨by rfl,?_⟩) hHeld ?_
  rotate_left
  ·intro w' aA;obtain⟨s0,s1,s2,s3,s4,s5,s6,s7⟩:=aA
   go_simp
   try with_reducible rfl
  simp only[Act.put,aH,aI,aG];refine wpAnyH_done (by kernel_rfl) ?_ _
  go_wp2_with fail
  go_ret
  exact⟨rfl,by rw[pH];exact Dk _ dG⟩
theorem MS{x:PB}{l:Ge.Ln}(hx:LD x l){n:Ge.Nd}(hn:ko n):∃r,Fl r (l.1*n.2.1-l.2.1*n.1-l.2.2*n.2.2)/\∀w,Calls Tryz.prog 97 #[.agg #[.complex .f64 x.wa x.wb,.float .f64 x.sh],.agg #[.complex .f64 (floatOfInt .f64 n.1) (floatOfInt .f64 n.2.1),.int .i64 n.2.2]] w fun e w'=>e=.returned (.float .f64 r)/\Below w.heap.size w w':=
 Kt hx.fl.a hx.fl.b hx.fl.s (nH (by have:=hn.x;unfold sm;omega)) (nH (by have:=hn.y;unfold sm;omega)) hx.mF.1 hx.mF.2.1 hx.mF.2.2 (by have:=hn.d;unfold sm;omega) (by have:=hn.x;unfold sm;omega) (by have:=hn.y;unfold sm;omega)
theorem agG{x:PB}{l:Ge.Ln}(hx:LD x l)(hf:0<x.f.2.2)(n:Ge.Nd):(l.1*n.2.1-l.2.1*n.1-l.2.2*n.2.2).sign=(Ge.cr (Ga.wv x.f x.t) (Ga.wv x.f n)).sign:=by
 have e1:x.f.2.2*(l.1*n.2.1-l.2.1*n.1-l.2.2*n.2.2)=l.1*(Ga.wv x.f n).2+l.2.1*(-(Ga.wv x.f n).1):=by
  have h:=hx.Mb;unfold Ga.wv;simp only;have:x.f.2.2*(l.1*n.2.1-l.2.1*n.1-l.2.2*n.2.2)=x.f.2.2*l.1*n.2.1-x.f.2.2*l.2.1*n.1-n.2.2*(l.2.2*x.f.2.2):=by grind
  rw[this,<-h]
  grind
 have e2:Ge.cr (Ga.wv x.f x.t) (Ga.wv x.f n)=(bJ x.f x.t).1*(Ga.wv x.f n).2+(bJ x.f x.t).2.1*(-(Ga.wv x.f n).1):=by
  rw[(rq x.f x.t).1,(rq x.f x.t).2];unfold Ge.cr
  grind
 rw[e2,<-GW hx.par hx.pos (dO hx.pos),<-e1];have:=Ge.Kn (k:=x.f.2.2) (z:=l.1*n.2.1-l.2.1*n.1-l.2.2*n.2.2) hf;exact this.symm
def jd(Xs:List PB)(n:Ge.Nd)(i:Nat):Bool:=
 !decide (n.1*(xi Xs i).f.2.2<(xi Xs i).f.1*n.2.2)&&decide (n.1*(xi Xs i).t.2.2<(xi Xs i).t.1*n.2.2)&&decide (0<Ge.cr (Ga.wv (xi Xs i).f (xi Xs i).t) (Ga.wv (xi Xs i).f n))
theorem agH(bs:List Nat)(Xs:List PB)(hB:BD Xs)(w:World)(g:Nat)(hR:RB w g bs Xs)(n:Ge.Nd)(hn:ko n)(i:Nat)(hi:i<Xs.length):
  Calls Tryz.prog 170 #[.pointer (some ⟨bx bs i,0,none⟩),gm n] w fun e w'=>e=.returned (.bool (jd Xs n i))/\Below w.heap.size w w':=by
 have hS:=hR.at hi;have hv:=hB.v _ (fN hi);obtain⟨l,hl⟩:=hB.ld _ (fN hi);obtain⟨r,fr,hL⟩:=MS hl hn;have q:=Fe fr jU;have sN:sm n.1/\sm n.2.1/\sm n.2.2:=by have:=hn.x;have:=hn.y;have:=hn.d;unfold sm;omega
 have sF:sm (xi Xs i).f.1/\sm (xi Xs i).f.2.1/\sm (xi Xs i).f.2.2:=by have:=hv.f.x;have:=hv.f.y;have:=hv.f.d;unfold sm;omega
 have sT:sm (xi Xs i).t.1/\sm (xi Xs i).t.2.1/\sm (xi Xs i).t.2.2:=by have:=hv.t.x;have:=hv.t.y;have:=hv.t.d;unfold sm;omega
 have hg:decide (0<l.1*n.2.1-l.2.1*n.1-l.2.2*n.2.2)=decide (0<Ge.cr (Ga.wv (xi Xs i).f (xi Xs i).t) (Ga.wv (xi Xs i).f n)):=by
  have h:=agG hl hv.cf.pos n;have s1:=Ga.sg (l.1*n.2.1-l.2.1*n.1-l.2.2*n.2.2);have s2:=Ga.sg (Ge.cr (Ga.wv (xi Xs i).f (xi Xs i).t) (Ga.wv (xi Xs i).f n));exact decide_eq_decide.2 (by omega)
 unfold gm jd;exact agF _ _ _ _ _ _ _ _ _ r _ _ _ _ _ _ (bx bs i) w hS.c0 hS.c1 hS.c2 hS.c3 hS.c4 hS.c5
  (fun w=>Fp (nH sN.1) (nH sN.2.1) (nH sF.1) (nH sF.2.1) sF.1 sF.2.1 sN.2.2 sF.2.2 sN.1 sN.2.1 w)
  (fun w=>Fp (nH sN.1) (nH sN.2.1) (nH sT.1) (nH sT.2.1) sT.1 sT.2.1 sN.2.2 sT.2.2 sN.1 sN.2.1 w)
  hL (q.trans hg)
theorem agI(cf:Nat->Nat->Int)(a:Nat)(r:List Nat)(g lo cap N1 N2:Nat)(N3:Int)(w:World)(hn:r.length<=85000000)
  (HV:Hid (∀(i:Nat) b,(a::r)[i]?=some b->w.cell? ⟨g,lo+i,none⟩=some (.pointer (some ⟨b,0,none⟩))))
  (HC:Hid (∀b∈a::r,∀c∈a::r,∀w',Below w.heap.size w w'->Calls Tryz.prog 172 #[.agg #[.complex .f64 N1 N2,.int .i64 N3],.pointer (some ⟨b,0,none⟩),.pointer (some ⟨c,0,none⟩)] w' fun r w''=>r=.returned (.int .i64 (cf b c))/\Below w'.heap.size w' w'')):
  Calls Tryz.prog 171 #[.slice (some ⟨g,lo,none⟩) (r.length+1) cap,.func (.func 172) #[.agg #[.complex .f64 N1 N2,.int .i64 N3]] #[]] w fun e w'=>e=.returned (.pointer (some ⟨bw cf r a,0,none⟩))/\Below w.heap.size w w':=by
 have c0:=HV.out 0 a rfl;rw[oV] at c0;have dh:g<w.heap.size:=lt_of_cell c0
 go_enter Tryz.func171,Tryz.ntmps171
 go_wp2_with fail
 go_loopg [5,6] r.length (fun m mv iv wr=>∃k:Nat,k+m=r.length/\iv=.int .i64 (k+1:Nat)/\mv=.pointer (some ⟨bw cf (r.take k) a,0,none⟩)/\Hid (Below w.heap.size w wr))
 case atStart=>exact⟨0,by omega,rfl,rfl,Below.refl _ _⟩
 case round=>
  obtain⟨k,hkn,rfl,rfl,HB⟩:=hrel;by_cases hlt:k<r.length
  ·obtain⟨b,hb⟩:∃b,r[k]?=some b:=⟨_,aD hlt⟩;have c1:=(HB.out.cell (p:=⟨g,lo+(k+1),none⟩) dh).trans (HV.out (k+1) b (by simpa using hb))
   have jm:b∈a::r:=bo _ (bh hb);have hmm:bw cf (r.take k) a∈a::r:=by
    rcases uX cf (r.take k) a with h|h
    ·rw[h];simp
    ·exact bo _ (rU h)
   have gP:Hid (Calls Tryz.prog 172 #[.agg #[.complex .f64 N1 N2,.int .i64 N3],.pointer (some ⟨b,0,none⟩),.pointer (some ⟨bw cf (r.take k) a,0,none⟩)] wr fun r' w''=>r'=.returned (.int .i64 (cf b (bw cf (r.take k) a)))/\Below wr.heap.size wr w''):=HC.out b jm _ hmm wr HB.out
   have fX:Hid (bw cf (r.take (k+1)) a=if cf b (bw cf (r.take k) a)<0 then b else bw cf (r.take k) a):=by
    have htk:r.take (k+1)=r.take k++[b]:=by rw[jh,hb];rfl
    show bw cf (r.take (k+1)) a=_;rw[htk,Hp]
   have ez:((k:Int)+1)<((r.length:Int)+1):=by omega
   have hgr:g<wr.heap.size:=aZ dh HB.out.size;clear c0 hb jm hmm;generalize bw cf (r.take k) a=M at*
   go_wp2_with fail
   refine gP.out.mono ?_;rintro e w5 ⟨rfl,az⟩;have eT:Hid (Below w.heap.size w w5):=HB.out.trans (az.mono HB.out.size);have c5:=(az.cell (p:=⟨g,lo+(k+1),none⟩) hgr).trans c1;clear gP az c1;generalize cf b M=V at*;by_cases hV:V<0
   ·have HM:Hid (bw cf (r.take (k+1)) a=b):=by rw[fX.out,ah hV];rfl
    go_wp2_with fail
    go_roundg (gk-1)
    case measure=>omega
    case rel=>exact⟨k+1,by omega,by go_num,by rw[HM.out],eT⟩
   ·have HM:Hid (bw cf (r.take (k+1)) a=M):=by rw[fX.out,aa hV];rfl
    have Me:decide (V<0)=false:=kH hV
    go_wp2_with fail
    go_roundg (gk-1)
    case measure=>omega
    case rel=>exact⟨k+1,by omega,by go_num,by rw[HM.out],eT⟩
  ·have hk:k=r.length:=by omega
   subst hk;rw[fg];clear HC HV
   go_wp2_with fail
   go_ret
   exact⟨rfl,HB.out⟩
def dH(Xs:List PB)(n:Ge.Nd)(k:Nat):List Nat:=(List.range k).filter (jd Xs n)
theorem agJ(Xs:List PB)(n:Ge.Nd)(k:Nat):dH Xs n (k+1)=dH Xs n k++(if jd Xs n k then[k] else[]):=by
 unfold dH;rw[Eh,Ep];congr 1;cases h:jd Xs n k<;>simp[h]
theorem MT(Xs:List PB)(n:Ge.Nd)(k:Nat):∀j∈dH Xs n k,j<k:=fun _j hj=>oW.1 (ik.1 hj).1
theorem WA(Xs:List PB)(n:Ge.Nd)(k:Nat):(dH Xs n k).length<=k:=by
 have:=Er (jd Xs n) (List.range k);rw[ZN] at this;exact this
theorem agK(bs:List Nat)(Xs:List PB)(n:Ge.Nd)(N1 N2:Nat)(N3:Int)(g cap bM:Nat)(w:World)(hR:RB w g bs Xs)(hl:bs.length<=85000000)
  (HI:Hid (∀i,i<bs.length->∀w',Below w.heap.size w w'->Calls Tryz.prog 170 #[.pointer (some ⟨bx bs i,0,none⟩),.agg #[.complex .f64 N1 N2,.int .i64 N3]] w' fun e w''=>e=.returned (.bool (jd Xs n i))/\Below w'.heap.size w' w''))
  (HM:Hid (∀lv wr,wr.ownsRow w.heap.size 175 1 lv (dH Xs n bs.length).length (aK ((dH Xs n bs.length).map (bx bs)))->Below w.heap.size w wr->Calls Tryz.prog 171 #[lv,.func (.func 172) #[.agg #[.complex .f64 N1 N2,.int .i64 N3]] #[]] wr fun e w''=>e=.returned (.pointer (some ⟨bM,0,none⟩))/\Below wr.heap.size wr w'')):
  Calls Tryz.prog 114 #[.slice (some ⟨g,0,none⟩) bs.length cap,.agg #[.complex .f64 N1 N2,.int .i64 N3]] w fun e w'=>e=.returned (.pointer (some ⟨bM,0,none⟩))/\Below w.heap.size w w':=by
 obtain⟨i0,hi0,hz0,hz1,hz2⟩:=info_parts xe;have xf:Hid (RB w g bs Xs):=hR;have hT0:=heap_alloc_new w (.cells #[.complex .f64 N1 N2,.int .i64 N3] 83);have hs0:(w.alloc (.cells #[.complex .f64 N1 N2,.int .i64 N3] 83)).heap.size=w.heap.size+1:=by simp
 have bH:Hid ((w.alloc (.cells #[.complex .f64 N1 N2,.int .i64 N3] 83)).ownsRow (w.heap.size+1) 175 1 (.slice none 0 0) (dH Xs n 0).length (aK ((dH Xs n 0).map (bx bs)))/\Below w.heap.size w (w.alloc (.cells #[.complex .f64 N1 N2,.int .i64 N3] 83))/\(w.alloc (.cells #[.complex .f64 N1 N2,.int .i64 N3] 83)).heap[w.heap.size]?=some (.cells #[.complex .f64 N1 N2,.int .i64 N3] 83 (0,0))/\w.heap.size+1<=(w.alloc (.cells #[.complex .f64 N1 N2,.int .i64 N3] 83)).heap.size):=⟨World.ownsRow_nil _ _ _ _,(Below.refl _ _).alloc (ax _) _,hT0,by omega⟩
 clear hR hT0 hs0
 go_enter Tryz.func114,Tryz.ntmps114
 go_wp2_with fail
 generalize w.alloc (.cells #[.complex .f64 N1 N2,.int .i64 N3] 83)=W0 at*
 go_loopg [5,10] bs.length (fun m lv iv wr=>∃k:Nat,k+m=bs.length/\iv=.int .i64 k/\Hid (wr.ownsRow (w.heap.size+1) 175 1 lv (dH Xs n k).length (aK ((dH Xs n k).map (bx bs)))/\Below w.heap.size w wr/\wr.heap[w.heap.size]?=some (.cells #[.complex .f64 N1 N2,.int .i64 N3] 83 (0,0))/\w.heap.size+1<=wr.heap.size))
 case atStart=>exact⟨0,by omega,rfl,bH.out⟩
 case round=>
  obtain⟨k,hkn,rfl,HE⟩:=hrel;clear bH;obtain⟨iM,hb2,Dl,afa⟩:=HE.out;have t0:wr.cell? ⟨w.heap.size,0,none⟩=some (.complex .f64 N1 N2):=cell_of Dl 0;have t1:wr.cell? ⟨w.heap.size,1,none⟩=some (.int .i64 N3):=cell_of Dl 1;have rD:Hid (wr.ownsRow (w.heap.size+1) 175 1 u5 (dH Xs n k).length (aK ((dH Xs n k).map (bx bs)))/\Below w.heap.size w wr/\wr.heap[w.heap.size]?=some (.cells #[.complex .f64 N1 N2,.int .i64 N3] 83 (0,0))):=⟨iM,hb2,Dl⟩;by_cases hlt:k<bs.length
  ·have c1:=(hb2.cell (p:=⟨g,k,none⟩) (lt_of_cell (xf.out.row k _ (uZ hlt)))).trans (xf.out.row k _ (uZ hlt));have WB:Hid (Calls Tryz.prog 170 #[.pointer (some ⟨bx bs k,0,none⟩),.agg #[.complex .f64 N1 N2,.int .i64 N3]] wr fun e w''=>e=.returned (.bool (jd Xs n k))/\Below wr.heap.size wr w''):=HI.out k hlt wr hb2
   have Ia:Hid (dH Xs n (k+1)=dH Xs n k++(if jd Xs n k then[k] else[])):=agJ Xs n k
   have hsl:=WA Xs n k;have ez:(k:Int)<(bs.length:Int):=by omega
   clear iM hb2 Dl HE HI HM xf;generalize jd Xs n k=B at*;generalize dH Xs n k=T at*;generalize hbb:bx bs k=bS at*
   go_wp2_with fail
   refine WB.out.mono ?_;rintro e w5 ⟨rfl,az⟩;have cI:w5.ownsRow (w.heap.size+1) 175 1 u5 T.length (aK (T.map (bx bs))):=aO rD.out.1 fun k hk=>az.block k (aB rD.out.1 k hk).2
   have eT:Hid (Below w.heap.size w w5):=rD.out.2.1.trans (az.mono (by omega))
   have oN:Hid (w5.heap[w.heap.size]?=some (.cells #[.complex .f64 N1 N2,.int .i64 N3] 83 (0,0))):=(az.block _ (lt_of_heap rD.out.2.2)).trans rD.out.2.2;have hz5:w.heap.size+1<=w5.heap.size:=by have:=az.size;omega
   have De:Hid (bx bs k=bS):=hbb;clear az WB rD c1 t0 t1 hbb;cases B
   ·have bW:Hid (w5.ownsRow (w.heap.size+1) 175 1 u5 (dH Xs n (k+1)).length (aK ((dH Xs n (k+1)).map (bx bs)))/\Below w.heap.size w w5/\w5.heap[w.heap.size]?=some (.cells #[.complex .f64 N1 N2,.int .i64 N3] 83 (0,0))/\w.heap.size+1<=w5.heap.size):=by
     show _/\_;have e:dH Xs n (k+1)=T:=by rw[Ia.out];simp
     rw[e];exact⟨cI,eT.out,oN.out,hz5⟩
    clear cI Ia
    go_wp2_with fail
    go_roundg (gk-1)
    case measure=>omega
    case rel=>exact⟨k+1,by omega,by go_num,bW.out⟩
   ·have hnb:(w5.alloc (.cells #[.pointer (some ⟨bS,0,none⟩)] 175)).heap[w5.heap.size]?=some (.cells #[.pointer (some ⟨bS,0,none⟩)] 175 (0,0)):=heap_alloc_new _ _;have eN:(w5.alloc (.cells #[.pointer (some ⟨bS,0,none⟩)] 175)).ownsRow (w.heap.size+1) 175 1 u5 T.length (aK (T.map (bx bs))):=aO cI fun k hk=>Below.heap_alloc _ _ _ (aB cI k hk).2
    have MU:Hid (w5.ownsRow (w.heap.size+1) 175 1 u5 T.length (aK (T.map (bx bs)))):=cI;clear cI
    go_wp2_with (at_builtin;refine wpList_append_lies _ rfl (.tmp 17) (.tmp 19) 132 rfl (w.heap.size+1) 175 i0 _ 1 8 Tryz.underlying132 hi0 hz0 hz1 hz2 rfl (by decide) u5 T.length (aK (T.map (bx bs))) rfl eN ⟨w5.heap.size,0,none⟩ 1 1 [.pointer (some ⟨bS,0,none⟩)] rfl rfl (World.news_of_block (cs:= #[.pointer (some ⟨bS,0,none⟩)]) (t:=175) (fr:=(0,0)) hnb) (by simp[Value.oneCell']) (by decide) (by unfold maxLen;omega) (by omega) (by simp;omega) (w5.heap.size+1) (by simp) ?_;intro g' cap' w8 cD bf fU oF)
    have bW:Hid (w8.ownsRow (w.heap.size+1) 175 1 (.slice (some ⟨g',0,none⟩) (T.length+1) cap') (dH Xs n (k+1)).length (aK ((dH Xs n (k+1)).map (bx bs)))/\Below w.heap.size w w8/\w8.heap[w.heap.size]?=some (.cells #[.complex .f64 N1 N2,.int .i64 N3] 83 (0,0))/\w.heap.size+1<=w8.heap.size):=by
     show _/\_;have e:dH Xs n (k+1)=T++[k]:=by rw[Ia.out];simp
     rw[e,aT,iD];have e2:aK (T.map (bx bs)++[k].map (bx bs))=aK (T.map (bx bs))++[.pointer (some ⟨bS,0,none⟩)]:=by simp[aK,De.out]
     rw[e2];have hzz:=bf.size;refine⟨cD,(eT.out.alloc (by omega) _).grown bf (by simp;omega) (fun k hk=>by have:=(aB MU.out k hk).1;omega),?_,by simp at hzz;omega⟩
     have hne:∀k,u5.ownBlock=some k->k≠w.heap.size:=fun k hk=>by have:=(aB MU.out k hk).1;omega
     exact(bf.block _ (by simp;omega) (fun e=>hne _ e.symm rfl)).trans ((Below.heap_alloc _ _ _ (by omega)).trans oN.out)
    clear cD bf fU hnb eN MU Ia
    go_wp2_with fail
    go_roundg (gk-1)
    case measure=>omega
    case rel=>exact⟨k+1,by omega,by go_num,bW.out⟩
  ·have hk:k=bs.length:=by omega
   subst hk;have Df:Hid (Calls Tryz.prog 171 #[u5,.func (.func 172) #[.agg #[.complex .f64 N1 N2,.int .i64 N3]] #[]] wr fun e w''=>e=.returned (.pointer (some ⟨bM,0,none⟩))/\Below wr.heap.size wr w''):=HM.out u5 wr (td rD.out.1 (by omega)) rD.out.2.1
   have ie:Hid (Below w.heap.size w wr):=rD.out.2.1;clear iM hb2 Dl HE HI HM xf rD
   go_wp2_with fail
   refine Df.out.mono ?_;rintro e w9 ⟨rfl,lh⟩;have HF:Hid (Below w.heap.size w w9):=ie.out.trans (lh.mono (by omega))
   clear lh Df ie
   go_wp2_with fail
   go_ret
   exact⟨rfl,HF.out⟩
end Go.Proofs.YtkjhhooecopolaaGreatDoor
