import Derived.Test.YtkjhhooecopolaaGreatDoorMz34
import Derived.OrdersHeld
set_option maxRecDepth 100000
set_option maxHeartbeats 4000000
namespace Go.Proofs.YtkjhhooecopolaaGreatDoor
open Go.RowKit
theorem ajA(X1 X2 X3 F1 F2 T1 T2 N1 N2 r:Nat)(F3 T3 N3:Int)(FA TA GB:Bool)(b:Nat)(w:World)
  (a0:w.cell? ⟨b,0,none⟩=some (.complex .f64 X1 X2))(a1:w.cell? ⟨b,1,none⟩=some (.float .f64 X3))(a2:w.cell? ⟨b,2,none⟩=some (.complex .f64 F1 F2))(a3:w.cell? ⟨b,3,none⟩=some (.int .i64 F3))(a4:w.cell? ⟨b,4,none⟩=some (.complex .f64 T1 T2))(a5:w.cell? ⟨b,5,none⟩=some (.int .i64 T3))
  (HF:Hid (∀w,Calls Tryz.prog 100 #[.agg #[.complex .f64 N1 N2,.int .i64 N3],.agg #[.complex .f64 F1 F2,.int .i64 F3]] w fun e w'=>e=.returned (.bool FA)/\Below w.heap.size w w'))
  (HT:Hid (∀w,Calls Tryz.prog 100 #[.agg #[.complex .f64 N1 N2,.int .i64 N3],.agg #[.complex .f64 T1 T2,.int .i64 T3]] w fun e w'=>e=.returned (.bool TA)/\Below w.heap.size w w'))
  (HL:Hid (∀w,Calls Tryz.prog 97 #[.agg #[.complex .f64 X1 X2,.float .f64 X3],.agg #[.complex .f64 N1 N2,.int .i64 N3]] w fun e w'=>e=.returned (.float .f64 r)/\Below w.heap.size w w'))
  (hr:(FloatKind.f64.format.order r 0 == some .gt)=GB):
  Calls Tryz.prog 170 #[.pointer (some ⟨b,0,none⟩),.agg #[.complex .f64 N1 N2,.int .i64 N3]] w fun e w'=>e=.returned (.bool (!FA&&TA&&GB))/\Below w.heap.size w w':=by
 have hbz:b<w.heap.size:=lt_of_cell a0;have hb0:Below w.heap.size w (w.alloc (.cells #[.complex .f64 N1 N2,.int .i64 N3] 83)):=(Below.refl _ _).alloc (ae _) _;have hE:=heap_alloc_new w (.cells #[.complex .f64 N1 N2,.int .i64 N3] 83);have hz:w.heap.size<(w.alloc (.cells #[.complex .f64 N1 N2,.int .i64 N3] 83)).heap.size:=by simp
 go_enter Tryz.func170,Tryz.ntmps170
 go_wp2_with fail
 have z0:(w.alloc (.cells #[.complex .f64 N1 N2,.int .i64 N3] 83)).cell? ⟨w.heap.size,0,none⟩=some (.complex .f64 N1 N2):=cell_of hE 0;have z1:(w.alloc (.cells #[.complex .f64 N1 N2,.int .i64 N3] 83)).cell? ⟨w.heap.size,1,none⟩=some (.int .i64 N3):=cell_of hE 1;have z2:=(hb0.cell (p:=⟨b,0,none⟩) hbz).trans a0;have z3:=(hb0.cell (p:=⟨b,1,none⟩) hbz).trans a1;have z4:=(hb0.cell (p:=⟨b,2,none⟩) hbz).trans a2;have z5:=(hb0.cell (p:=⟨b,3,none⟩) hbz).trans a3;have z6:=(hb0.cell (p:=⟨b,4,none⟩) hbz).trans a4;have z7:=(hb0.cell (p:=⟨b,5,none⟩) hbz).trans a5;generalize w.alloc (.cells #[.complex .f64 N1 N2,.int .i64 N3] 83)=W at*;generalize qO:w.heap.size=B at*;have kO:B<W.heap.size:=by omega
 have jG:b<W.heap.size:=by omega
 have OL:Below B w W:=hb0;have EN:∀w5,Below W.heap.size W.drew w5->Below B w w5:=fun w5 h=>(OL.drew).trans (h.mono (eo kO))
 clear hE hz a0 a1 a2 a3 a4 a5 hb0;cases FA
 ·cases TA
  ·
   refine wp_region_held_drew (S:=(fun w'=>w'.cell? ⟨B,0,none⟩=some (.complex .f64 N1 N2)/\w'.cell? ⟨B,1,none⟩=some (.int .i64 N3)/\w'.cell? ⟨b,0,none⟩=some (.complex .f64 X1 X2)/\w'.cell? ⟨b,1,none⟩=some (.float .f64 X3)/\w'.cell? ⟨b,2,none⟩=some (.complex .f64 F1 F2)/\w'.cell? ⟨b,3,none⟩=some (.int .i64 F3)/\w'.cell? ⟨b,4,none⟩=some (.complex .f64 T1 T2)/\w'.cell? ⟨b,5,none⟩=some (.int .i64 T3))) (by kernel_rfl) ⟨z0,z1,z2,z3,z4,z5,z6,z7⟩ (fun hHeld=>?_)
   refine wpAnyH_take (i:=0) (oi:={dst:=some 5,op:=_,type:=_,pos:=_,after:=_,guard:=_}) (v:=?_) rfl (by kernel_rfl) (by kernel_rfl) (by kernel_rfl) (fun _ _ _ h=>h) (Or.inl ⟨by rfl,?_⟩) hHeld ?_
   rotate_left
   ·intro w' aw;obtain⟨s0,s1,s2,s3,s4,s5,s6,s7⟩:=aw
    go_simp
    try with_reducible rfl
   simp only[Act.put,aC,aD,aA];refine wpAnyH_take (i:=1) (oi:={dst:=some 6,op:=_,type:=_,pos:=_,after:=_,guard:=_}) (v:=?_) rfl (by kernel_rfl) (by kernel_rfl) (by kernel_rfl) (fun _ _ _ h=>h) (Or.inl ⟨by rfl,?_⟩) hHeld ?_
   rotate_left
   ·intro w' aw;obtain⟨s0,s1,s2,s3,s4,s5,s6,s7⟩:=aw
    go_simp
    try with_reducible rfl
   simp only[Act.put,aC,aD,aA];refine wpAnyH_take (i:=2) (oi:={dst:=some 7,op:=_,type:=_,pos:=_,after:=_,guard:=_}) (v:=?_) rfl (by kernel_rfl) (by kernel_rfl) (by kernel_rfl) (fun _ _ _ h=>h) (Or.inl ⟨by rfl,?_⟩) hHeld ?_
   rotate_left
   ·intro w' aw;obtain⟨s0,s1,s2,s3,s4,s5,s6,s7⟩:=aw
    go_simp
    try with_reducible rfl
   simp only[Act.put,aC,aD,aA];refine wpAnyH_take (i:=3) (oi:={dst:=some 8,op:=_,type:=_,pos:=_,after:=_,guard:=_}) (v:=?_) rfl (by kernel_rfl) (by kernel_rfl) (by kernel_rfl) (fun _ _ _ h=>h) (Or.inl ⟨by rfl,?_⟩) hHeld ?_
   rotate_left
   ·intro w' aw;obtain⟨s0,s1,s2,s3,s4,s5,s6,s7⟩:=aw
    go_simp
    try with_reducible rfl
   simp only[Act.put,aC,aD,aA];refine wpAnyH_take (i:=4) (oi:={dst:=some 9,op:=_,type:=_,pos:=_,after:=_,guard:=_}) (v:=?_) rfl (by kernel_rfl) (by kernel_rfl) (by kernel_rfl) (fun _ _ _ h=>h) (Or.inl ⟨by rfl,?_⟩) hHeld ?_
   rotate_left
   ·intro w' aw;obtain⟨s0,s1,s2,s3,s4,s5,s6,s7⟩:=aw
    go_simp
    try with_reducible rfl
   simp only[Act.put,aC,aD,aA];refine wpAnyH_take (i:=5) (oi:={dst:=some 10,op:=_,type:=_,pos:=_,after:=_,guard:=_}) (v:=?_) rfl (by kernel_rfl) (by kernel_rfl) (by kernel_rfl) (fun _ _ _ h=>h) (Or.inl ⟨by rfl,?_⟩) hHeld ?_
   rotate_left
   ·intro w' aw;obtain⟨s0,s1,s2,s3,s4,s5,s6,s7⟩:=aw
    go_simp
    try with_reducible rfl
   simp only[Act.put,aC,aD,aA];refine wpAnyH_ready (rs:=[6]) (by kernel_rfl) (by simp) ?_
   refine AllReadyH.cons rfl (fun K hK=>?_) AllReadyH.nil
   go_simp
   refine(HF.out _).mono ?_;rintro e w5 ⟨rfl,dN⟩;have nB:B<w5.heap.size:=aL kO dN.size;have mG:b<w5.heap.size:=aL jG dN.size;have l0:=(dN.cell (p:=⟨B,0,none⟩) kO).trans z0;have l1:=(dN.cell (p:=⟨B,1,none⟩) kO).trans z1;have l2:=(dN.cell (p:=⟨b,0,none⟩) jG).trans z2;have l3:=(dN.cell (p:=⟨b,1,none⟩) jG).trans z3;have l4:=(dN.cell (p:=⟨b,2,none⟩) jG).trans z4;have l5:=(dN.cell (p:=⟨b,3,none⟩) jG).trans z5;have l6:=(dN.cell (p:=⟨b,4,none⟩) jG).trans z6;have l7:=(dN.cell (p:=⟨b,5,none⟩) jG).trans z7
   go_wp2_with fail
   refine hK.out _ _ ⟨l0,l1,l2,l3,l4,l5,l6,l7⟩ (fun hHeld=>?_)
   clear hK K
   try simp only[Act.put,aC,aD,aA]
   refine wpAnyH_take (i:=7) (oi:={dst:=some 12,op:=_,type:=_,pos:=_,after:=_,guard:=_}) (v:=?_) rfl (by kernel_rfl) (by kernel_rfl) (by kernel_rfl) (fun _ _ _ h=>h) (Or.inl ⟨by rfl,?_⟩) hHeld ?_
   rotate_left
   ·intro w' aw;obtain⟨s0,s1,s2,s3,s4,s5,s6,s7⟩:=aw
    go_simp
    try with_reducible rfl
   simp only[Act.put,aC,aD,aA];refine wpAnyH_take (i:=8) (oi:={dst:=some 13,op:=_,type:=_,pos:=_,after:=_,guard:=_}) (v:=?_) rfl (by kernel_rfl) (by kernel_rfl) (by kernel_rfl) (fun _ _ _ h=>h) (Or.inl ⟨by rfl,?_⟩) hHeld ?_
   rotate_left
   ·intro w' aw;obtain⟨s0,s1,s2,s3,s4,s5,s6,s7⟩:=aw
    go_simp
    try with_reducible rfl
   simp only[Act.put,aC,aD,aA];refine wpAnyH_take (i:=9) (oi:={dst:=some 14,op:=_,type:=_,pos:=_,after:=_,guard:=_}) (v:=?_) rfl (by kernel_rfl) (by kernel_rfl) (by kernel_rfl) (fun _ _ _ h=>h) (Or.inl ⟨by rfl,?_⟩) hHeld ?_
   rotate_left
   ·intro w' aw;obtain⟨s0,s1,s2,s3,s4,s5,s6,s7⟩:=aw
    go_simp
    try with_reducible rfl
   simp only[Act.put,aC,aD,aA];refine wpAnyH_take (i:=10) (oi:={dst:=some 15,op:=_,type:=_,pos:=_,after:=_,guard:=_}) (v:=?_) rfl (by kernel_rfl) (by kernel_rfl) (by kernel_rfl) (fun _ _ _ h=>h) (Or.inl ⟨by rfl,?_⟩) hHeld ?_
   rotate_left
   ·intro w' aw;obtain⟨s0,s1,s2,s3,s4,s5,s6,s7⟩:=aw
    go_simp
    try with_reducible rfl
   simp only[Act.put,aC,aD,aA];refine wpAnyH_take (i:=11) (oi:={dst:=some 16,op:=_,type:=_,pos:=_,after:=_,guard:=_}) (v:=?_) rfl (by kernel_rfl) (by kernel_rfl) (by kernel_rfl) (fun _ _ _ h=>h) (Or.inl ⟨by rfl,?_⟩) hHeld ?_
   rotate_left
   ·intro w' aw;obtain⟨s0,s1,s2,s3,s4,s5,s6,s7⟩:=aw
    go_simp
    try with_reducible rfl
   simp only[Act.put,aC,aD,aA];refine wpAnyH_take (i:=12) (oi:={dst:=some 17,op:=_,type:=_,pos:=_,after:=_,guard:=_}) (v:=?_) rfl (by kernel_rfl) (by kernel_rfl) (by kernel_rfl) (fun _ _ _ h=>h) (Or.inl ⟨by rfl,?_⟩) hHeld ?_
   rotate_left
   ·intro w' aw;obtain⟨s0,s1,s2,s3,s4,s5,s6,s7⟩:=aw
    go_simp
    try with_reducible rfl
   simp only[Act.put,aC,aD,aA];refine wpAnyH_take (i:=13) (oi:={dst:=some 18,op:=_,type:=_,pos:=_,after:=_,guard:=_}) (v:=?_) rfl (by kernel_rfl) (by kernel_rfl) (by kernel_rfl) (fun _ _ _ h=>h) (Or.inl ⟨by rfl,?_⟩) hHeld ?_
   rotate_left
   ·intro w' aw;obtain⟨s0,s1,s2,s3,s4,s5,s6,s7⟩:=aw
    go_simp
    try with_reducible rfl
   simp only[Act.put,aC,aD,aA];refine wpAnyH_take (i:=14) (oi:={dst:=some 19,op:=_,type:=_,pos:=_,after:=_,guard:=_}) (v:=?_) rfl (by kernel_rfl) (by kernel_rfl) (by kernel_rfl) (fun _ _ _ h=>h) (Or.inl ⟨by rfl,?_⟩) hHeld ?_
   rotate_left
   ·intro w' aw;obtain⟨s0,s1,s2,s3,s4,s5,s6,s7⟩:=aw
    go_simp
    try with_reducible rfl
   simp only[Act.put,aC,aD,aA];refine wpAnyH_ready (rs:=[15]) (by kernel_rfl) (by simp) ?_
   refine AllReadyH.cons rfl (fun K hK=>?_) AllReadyH.nil
   go_simp
   refine(HT.out _).mono ?_;rintro e w6 ⟨rfl,ib⟩;have tJ:B<w6.heap.size:=aL nB ib.size;have wW:b<w6.heap.size:=aL mG ib.size;have m0:=(ib.cell (p:=⟨B,0,none⟩) nB).trans l0;have m1:=(ib.cell (p:=⟨B,1,none⟩) nB).trans l1;have m2:=(ib.cell (p:=⟨b,0,none⟩) mG).trans l2;have m3:=(ib.cell (p:=⟨b,1,none⟩) mG).trans l3;have m4:=(ib.cell (p:=⟨b,2,none⟩) mG).trans l4;have m5:=(ib.cell (p:=⟨b,3,none⟩) mG).trans l5;have m6:=(ib.cell (p:=⟨b,4,none⟩) mG).trans l6;have m7:=(ib.cell (p:=⟨b,5,none⟩) mG).trans l7
   go_wp2_with fail
   refine hK.out _ _ ⟨m0,m1,m2,m3,m4,m5,m6,m7⟩ (fun hHeld=>?_)
   clear hK K
   try simp only[Act.put,aC,aD,aA]
   refine wpAnyH_take (i:=16) (oi:={dst:=some 21,op:=_,type:=_,pos:=_,after:=_,guard:=_}) (v:=?_) rfl (by kernel_rfl) (by kernel_rfl) (by kernel_rfl) (fun _ _ _ h=>h) (Or.inl ⟨by rfl,?_⟩) hHeld ?_
   rotate_left
   ·intro w' aw;obtain⟨s0,s1,s2,s3,s4,s5,s6,s7⟩:=aw
    go_simp
    try with_reducible rfl
   simp only[Act.put,aC,aD,aA];refine wpAnyH_take (i:=17) (oi:={dst:=some 22,op:=_,type:=_,pos:=_,after:=_,guard:=_}) (v:=?_) rfl (by kernel_rfl) (by kernel_rfl) (by kernel_rfl) (fun _ _ _ h=>h) (Or.inl ⟨by rfl,?_⟩) hHeld ?_
   rotate_left
   ·intro w' aw;obtain⟨s0,s1,s2,s3,s4,s5,s6,s7⟩:=aw
    go_simp
    try with_reducible rfl
   simp only[Act.put,aC,aD,aA];refine wpAnyH_take (i:=18) (oi:={dst:=some 23,op:=_,type:=_,pos:=_,after:=_,guard:=_}) (v:=undef) rfl (by kernel_rfl) (by kernel_rfl) (by kernel_rfl) (fun _ _ _ h=>h) (Or.inr ⟨by kernel_rfl,rfl⟩) hHeld ?_
   simp only[Act.put,aC,aD,aA];refine wpAnyH_take (i:=19) (oi:={dst:=some 24,op:=_,type:=_,pos:=_,after:=_,guard:=_}) (v:=undef) rfl (by kernel_rfl) (by kernel_rfl) (by kernel_rfl) (fun _ _ _ h=>h) (Or.inr ⟨by kernel_rfl,rfl⟩) hHeld ?_
   simp only[Act.put,aC,aD,aA];refine wpAnyH_take (i:=20) (oi:={dst:=some 25,op:=_,type:=_,pos:=_,after:=_,guard:=_}) (v:=undef) rfl (by kernel_rfl) (by kernel_rfl) (by kernel_rfl) (fun _ _ _ h=>h) (Or.inr ⟨by kernel_rfl,rfl⟩) hHeld ?_
   simp only[Act.put,aC,aD,aA];refine wpAnyH_take (i:=21) (oi:={dst:=some 26,op:=_,type:=_,pos:=_,after:=_,guard:=_}) (v:=undef) rfl (by kernel_rfl) (by kernel_rfl) (by kernel_rfl) (fun _ _ _ h=>h) (Or.inr ⟨by kernel_rfl,rfl⟩) hHeld ?_
   simp only[Act.put,aC,aD,aA];refine wpAnyH_take (i:=22) (oi:={dst:=some 27,op:=_,type:=_,pos:=_,after:=_,guard:=_}) (v:=undef) rfl (by kernel_rfl) (by kernel_rfl) (by kernel_rfl) (fun _ _ _ h=>h) (Or.inr ⟨by kernel_rfl,rfl⟩) hHeld ?_
   simp only[Act.put,aC,aD,aA];refine wpAnyH_take (i:=23) (oi:={dst:=some 28,op:=_,type:=_,pos:=_,after:=_,guard:=_}) (v:=undef) rfl (by kernel_rfl) (by kernel_rfl) (by kernel_rfl) (fun _ _ _ h=>h) (Or.inr ⟨by kernel_rfl,rfl⟩) hHeld ?_
   simp only[Act.put,aC,aD,aA];refine wpAnyH_take (i:=24) (oi:={dst:=some 29,op:=_,type:=_,pos:=_,after:=_,guard:=_}) (v:=undef) rfl (by kernel_rfl) (by kernel_rfl) (by kernel_rfl) (fun _ _ _ h=>h) (Or.inr ⟨by kernel_rfl,rfl⟩) hHeld ?_
   simp only[Act.put,aC,aD,aA];refine wpAnyH_take (i:=25) (oi:={dst:=some 30,op:=_,type:=_,pos:=_,after:=_,guard:=_}) (v:=undef) rfl (by kernel_rfl) (by kernel_rfl) (by kernel_rfl) (fun _ _ _ h=>h) (Or.inr ⟨by kernel_rfl,rfl⟩) hHeld ?_
   simp only[Act.put,aC,aD,aA];refine wpAnyH_take (i:=26) (oi:={dst:=some 31,op:=_,type:=_,pos:=_,after:=_,guard:=_}) (v:=?_) rfl (by kernel_rfl) (by kernel_rfl) (by kernel_rfl) (fun _ _ _ h=>h) (Or.inl ⟨by rfl,?_⟩) hHeld ?_
   rotate_left
   ·intro w' aw;obtain⟨s0,s1,s2,s3,s4,s5,s6,s7⟩:=aw
    go_simp
    try with_reducible rfl
   simp only[Act.put,aC,aD,aA];refine wpAnyH_take (i:=27) (oi:={dst:=some 4,op:=_,type:=_,pos:=_,after:=_,guard:=_}) (v:=?_) rfl (by kernel_rfl) (by kernel_rfl) (by kernel_rfl) (fun _ _ _ h=>h) (Or.inl ⟨by rfl,?_⟩) hHeld ?_
   rotate_left
   ·intro w' aw;obtain⟨s0,s1,s2,s3,s4,s5,s6,s7⟩:=aw
    go_simp
    try with_reducible rfl
   simp only[Act.put,aC,aD,aA];refine wpAnyH_done (by kernel_rfl) ?_ _
   go_wp2_with fail
   go_ret
   exact⟨rfl,by rw[qO];exact(EN _ dN).trans (ib.mono (eo nB))⟩
  ·
   go_region_held3 (fun w'=>w'.cell? ⟨B,0,none⟩=some (.complex .f64 N1 N2)/\w'.cell? ⟨B,1,none⟩=some (.int .i64 N3)/\w'.cell? ⟨b,0,none⟩=some (.complex .f64 X1 X2)/\w'.cell? ⟨b,1,none⟩=some (.float .f64 X3)/\w'.cell? ⟨b,2,none⟩=some (.complex .f64 F1 F2)/\w'.cell? ⟨b,3,none⟩=some (.int .i64 F3)/\w'.cell? ⟨b,4,none⟩=some (.complex .f64 T1 T2)/\w'.cell? ⟨b,5,none⟩=some (.int .i64 T3)) (go_keep) (first
    |(go_at_call_of 100 (Value.agg #[Value.complex FloatKind.f64 F1 F2,Value.int IntKind.i64 F3]);refine(HF.out _).mono ?_;rintro e w5 ⟨rfl,dN⟩;have nB:B<w5.heap.size:=aL kO dN.size;have mG:b<w5.heap.size:=aL jG dN.size;have l0:=(dN.cell (p:=⟨B,0,none⟩) kO).trans z0;have l1:=(dN.cell (p:=⟨B,1,none⟩) kO).trans z1;have l2:=(dN.cell (p:=⟨b,0,none⟩) jG).trans z2;have l3:=(dN.cell (p:=⟨b,1,none⟩) jG).trans z3;have l4:=(dN.cell (p:=⟨b,2,none⟩) jG).trans z4;have l5:=(dN.cell (p:=⟨b,3,none⟩) jG).trans z5;have l6:=(dN.cell (p:=⟨b,4,none⟩) jG).trans z6;have l7:=(dN.cell (p:=⟨b,5,none⟩) jG).trans z7)
    |(go_at_call_of 100 (Value.agg #[Value.complex FloatKind.f64 T1 T2,Value.int IntKind.i64 T3]);refine(HT.out _).mono ?_;rintro e w6 ⟨rfl,ib⟩;have tJ:B<w6.heap.size:=aL nB ib.size;have wW:b<w6.heap.size:=aL mG ib.size;have m0:=(ib.cell (p:=⟨B,0,none⟩) nB).trans l0;have m1:=(ib.cell (p:=⟨B,1,none⟩) nB).trans l1;have m2:=(ib.cell (p:=⟨b,0,none⟩) mG).trans l2;have m3:=(ib.cell (p:=⟨b,1,none⟩) mG).trans l3;have m4:=(ib.cell (p:=⟨b,2,none⟩) mG).trans l4;have m5:=(ib.cell (p:=⟨b,3,none⟩) mG).trans l5;have m6:=(ib.cell (p:=⟨b,4,none⟩) mG).trans l6;have m7:=(ib.cell (p:=⟨b,5,none⟩) mG).trans l7)
    |(go_at_call 97;refine(HL.out _).mono ?_;rintro e w7 ⟨rfl,rp⟩;have aoK:B<w7.heap.size:=aL tJ rp.size;have aoL:b<w7.heap.size:=aL wW rp.size;have q0:=(rp.cell (p:=⟨B,0,none⟩) tJ).trans m0;have q1:=(rp.cell (p:=⟨B,1,none⟩) tJ).trans m1;have q2:=(rp.cell (p:=⟨b,0,none⟩) wW).trans m2;have q3:=(rp.cell (p:=⟨b,1,none⟩) wW).trans m3;have q4:=(rp.cell (p:=⟨b,2,none⟩) wW).trans m4;have q5:=(rp.cell (p:=⟨b,3,none⟩) wW).trans m5;have q6:=(rp.cell (p:=⟨b,4,none⟩) wW).trans m6;have q7:=(rp.cell (p:=⟨b,5,none⟩) wW).trans m7))
   all_goals
    go_wp2_with fail
    go_ret
    exact⟨by simp,by rw[qO];exact((EN _ dN).trans (ib.mono (eo nB))).trans (rp.mono (eo tJ))⟩
 ·
  refine wp_region_held_drew (S:=(fun w'=>w'.cell? ⟨B,0,none⟩=some (.complex .f64 N1 N2)/\w'.cell? ⟨B,1,none⟩=some (.int .i64 N3)/\w'.cell? ⟨b,0,none⟩=some (.complex .f64 X1 X2)/\w'.cell? ⟨b,1,none⟩=some (.float .f64 X3)/\w'.cell? ⟨b,2,none⟩=some (.complex .f64 F1 F2)/\w'.cell? ⟨b,3,none⟩=some (.int .i64 F3)/\w'.cell? ⟨b,4,none⟩=some (.complex .f64 T1 T2)/\w'.cell? ⟨b,5,none⟩=some (.int .i64 T3))) (by kernel_rfl) ⟨z0,z1,z2,z3,z4,z5,z6,z7⟩ (fun hHeld=>?_)
  refine wpAnyH_take (i:=0) (oi:={dst:=some 5,op:=_,type:=_,pos:=_,after:=_,guard:=_}) (v:=?_) rfl (by kernel_rfl) (by kernel_rfl) (by kernel_rfl) (fun _ _ _ h=>h) (Or.inl ⟨by rfl,?_⟩) hHeld ?_
  rotate_left
  ·intro w' aw;obtain⟨s0,s1,s2,s3,s4,s5,s6,s7⟩:=aw
   go_simp
   try with_reducible rfl
  simp only[Act.put,aC,aD,aA];refine wpAnyH_take (i:=1) (oi:={dst:=some 6,op:=_,type:=_,pos:=_,after:=_,guard:=_}) (v:=?_) rfl (by kernel_rfl) (by kernel_rfl) (by kernel_rfl) (fun _ _ _ h=>h) (Or.inl ⟨by rfl,?_⟩) hHeld ?_
  rotate_left
  ·intro w' aw;obtain⟨s0,s1,s2,s3,s4,s5,s6,s7⟩:=aw
   go_simp
   try with_reducible rfl
  simp only[Act.put,aC,aD,aA];refine wpAnyH_take (i:=2) (oi:={dst:=some 7,op:=_,type:=_,pos:=_,after:=_,guard:=_}) (v:=?_) rfl (by kernel_rfl) (by kernel_rfl) (by kernel_rfl) (fun _ _ _ h=>h) (Or.inl ⟨by rfl,?_⟩) hHeld ?_
  rotate_left
  ·intro w' aw;obtain⟨s0,s1,s2,s3,s4,s5,s6,s7⟩:=aw
   go_simp
   try with_reducible rfl
  simp only[Act.put,aC,aD,aA];refine wpAnyH_take (i:=3) (oi:={dst:=some 8,op:=_,type:=_,pos:=_,after:=_,guard:=_}) (v:=?_) rfl (by kernel_rfl) (by kernel_rfl) (by kernel_rfl) (fun _ _ _ h=>h) (Or.inl ⟨by rfl,?_⟩) hHeld ?_
  rotate_left
  ·intro w' aw;obtain⟨s0,s1,s2,s3,s4,s5,s6,s7⟩:=aw
   go_simp
   try with_reducible rfl
  simp only[Act.put,aC,aD,aA];refine wpAnyH_take (i:=4) (oi:={dst:=some 9,op:=_,type:=_,pos:=_,after:=_,guard:=_}) (v:=?_) rfl (by kernel_rfl) (by kernel_rfl) (by kernel_rfl) (fun _ _ _ h=>h) (Or.inl ⟨by rfl,?_⟩) hHeld ?_
  rotate_left
  ·intro w' aw;obtain⟨s0,s1,s2,s3,s4,s5,s6,s7⟩:=aw
   go_simp
   try with_reducible rfl
  simp only[Act.put,aC,aD,aA];refine wpAnyH_take (i:=5) (oi:={dst:=some 10,op:=_,type:=_,pos:=_,after:=_,guard:=_}) (v:=?_) rfl (by kernel_rfl) (by kernel_rfl) (by kernel_rfl) (fun _ _ _ h=>h) (Or.inl ⟨by rfl,?_⟩) hHeld ?_
  rotate_left
  ·intro w' aw;obtain⟨s0,s1,s2,s3,s4,s5,s6,s7⟩:=aw
   go_simp
   try with_reducible rfl
  simp only[Act.put,aC,aD,aA];refine wpAnyH_ready (rs:=[6]) (by kernel_rfl) (by simp) ?_
  refine AllReadyH.cons rfl (fun K hK=>?_) AllReadyH.nil
  go_simp
  refine(HF.out _).mono ?_;rintro e w5 ⟨rfl,dN⟩;have nB:B<w5.heap.size:=aL kO dN.size;have mG:b<w5.heap.size:=aL jG dN.size;have l0:=(dN.cell (p:=⟨B,0,none⟩) kO).trans z0;have l1:=(dN.cell (p:=⟨B,1,none⟩) kO).trans z1;have l2:=(dN.cell (p:=⟨b,0,none⟩) jG).trans z2;have l3:=(dN.cell (p:=⟨b,1,none⟩) jG).trans z3;have l4:=(dN.cell (p:=⟨b,2,none⟩) jG).trans z4;have l5:=(dN.cell (p:=⟨b,3,none⟩) jG).trans z5;have l6:=(dN.cell (p:=⟨b,4,none⟩) jG).trans z6;have l7:=(dN.cell (p:=⟨b,5,none⟩) jG).trans z7
  go_wp2_with fail
  refine hK.out _ _ ⟨l0,l1,l2,l3,l4,l5,l6,l7⟩ (fun hHeld=>?_)
  clear hK K
  try simp only[Act.put,aC,aD,aA]
  refine wpAnyH_take (i:=7) (oi:={dst:=some 12,op:=_,type:=_,pos:=_,after:=_,guard:=_}) (v:=?_) rfl (by kernel_rfl) (by kernel_rfl) (by kernel_rfl) (fun _ _ _ h=>h) (Or.inl ⟨by rfl,?_⟩) hHeld ?_
  rotate_left
  ·intro w' aw;obtain⟨s0,s1,s2,s3,s4,s5,s6,s7⟩:=aw
   go_simp
   try with_reducible rfl
  simp only[Act.put,aC,aD,aA];refine wpAnyH_take (i:=8) (oi:={dst:=some 13,op:=_,type:=_,pos:=_,after:=_,guard:=_}) (v:=?_) rfl (by kernel_rfl) (by kernel_rfl) (by kernel_rfl) (fun _ _ _ h=>h) (Or.inl ⟨by rfl,?_⟩) hHeld ?_
  rotate_left
  ·intro w' aw;obtain⟨s0,s1,s2,s3,s4,s5,s6,s7⟩:=aw
   go_simp
   try with_reducible rfl
  simp only[Act.put,aC,aD,aA];refine wpAnyH_take (i:=9) (oi:={dst:=some 14,op:=_,type:=_,pos:=_,after:=_,guard:=_}) (v:=undef) rfl (by kernel_rfl) (by kernel_rfl) (by kernel_rfl) (fun _ _ _ h=>h) (Or.inr ⟨by kernel_rfl,rfl⟩) hHeld ?_
  simp only[Act.put,aC,aD,aA];refine wpAnyH_take (i:=10) (oi:={dst:=some 15,op:=_,type:=_,pos:=_,after:=_,guard:=_}) (v:=undef) rfl (by kernel_rfl) (by kernel_rfl) (by kernel_rfl) (fun _ _ _ h=>h) (Or.inr ⟨by kernel_rfl,rfl⟩) hHeld ?_
  simp only[Act.put,aC,aD,aA];refine wpAnyH_take (i:=11) (oi:={dst:=some 16,op:=_,type:=_,pos:=_,after:=_,guard:=_}) (v:=undef) rfl (by kernel_rfl) (by kernel_rfl) (by kernel_rfl) (fun _ _ _ h=>h) (Or.inr ⟨by kernel_rfl,rfl⟩) hHeld ?_
  simp only[Act.put,aC,aD,aA];refine wpAnyH_take (i:=12) (oi:={dst:=some 17,op:=_,type:=_,pos:=_,after:=_,guard:=_}) (v:=undef) rfl (by kernel_rfl) (by kernel_rfl) (by kernel_rfl) (fun _ _ _ h=>h) (Or.inr ⟨by kernel_rfl,rfl⟩) hHeld ?_
  simp only[Act.put,aC,aD,aA];refine wpAnyH_take (i:=13) (oi:={dst:=some 18,op:=_,type:=_,pos:=_,after:=_,guard:=_}) (v:=undef) rfl (by kernel_rfl) (by kernel_rfl) (by kernel_rfl) (fun _ _ _ h=>h) (Or.inr ⟨by kernel_rfl,rfl⟩) hHeld ?_
  simp only[Act.put,aC,aD,aA];refine wpAnyH_take (i:=14) (oi:={dst:=some 19,op:=_,type:=_,pos:=_,after:=_,guard:=_}) (v:=undef) rfl (by kernel_rfl) (by kernel_rfl) (by kernel_rfl) (fun _ _ _ h=>h) (Or.inr ⟨by kernel_rfl,rfl⟩) hHeld ?_
  simp only[Act.put,aC,aD,aA];refine wpAnyH_take (i:=15) (oi:={dst:=some 20,op:=_,type:=_,pos:=_,after:=_,guard:=_}) (v:=undef) rfl (by kernel_rfl) (by kernel_rfl) (by kernel_rfl) (fun _ _ _ h=>h) (Or.inr ⟨by kernel_rfl,rfl⟩) hHeld ?_
  simp only[Act.put,aC,aD,aA];refine wpAnyH_take (i:=16) (oi:={dst:=some 21,op:=_,type:=_,pos:=_,after:=_,guard:=_}) (v:=?_) rfl (by kernel_rfl) (by kernel_rfl) (by kernel_rfl) (fun _ _ _ h=>h) (Or.inl ⟨by rfl,?_⟩) hHeld ?_
  rotate_left
  ·intro w' aw;obtain⟨s0,s1,s2,s3,s4,s5,s6,s7⟩:=aw
   go_simp
   try with_reducible rfl
  simp only[Act.put,aC,aD,aA];refine wpAnyH_take (i:=17) (oi:={dst:=some 22,op:=_,type:=_,pos:=_,after:=_,guard:=_}) (v:=?_) rfl (by kernel_rfl) (by kernel_rfl) (by kernel_rfl) (fun _ _ _ h=>h) (Or.inl ⟨by rfl,?_⟩) hHeld ?_
  rotate_left
  ·intro w' aw;obtain⟨s0,s1,s2,s3,s4,s5,s6,s7⟩:=aw
   go_simp
   try with_reducible rfl
  simp only[Act.put,aC,aD,aA];refine wpAnyH_take (i:=18) (oi:={dst:=some 23,op:=_,type:=_,pos:=_,after:=_,guard:=_}) (v:=undef) rfl (by kernel_rfl) (by kernel_rfl) (by kernel_rfl) (fun _ _ _ h=>h) (Or.inr ⟨by kernel_rfl,rfl⟩) hHeld ?_
  simp only[Act.put,aC,aD,aA];refine wpAnyH_take (i:=19) (oi:={dst:=some 24,op:=_,type:=_,pos:=_,after:=_,guard:=_}) (v:=undef) rfl (by kernel_rfl) (by kernel_rfl) (by kernel_rfl) (fun _ _ _ h=>h) (Or.inr ⟨by kernel_rfl,rfl⟩) hHeld ?_
  simp only[Act.put,aC,aD,aA];refine wpAnyH_take (i:=20) (oi:={dst:=some 25,op:=_,type:=_,pos:=_,after:=_,guard:=_}) (v:=undef) rfl (by kernel_rfl) (by kernel_rfl) (by kernel_rfl) (fun _ _ _ h=>h) (Or.inr ⟨by kernel_rfl,rfl⟩) hHeld ?_
  simp only[Act.put,aC,aD,aA];refine wpAnyH_take (i:=21) (oi:={dst:=some 26,op:=_,type:=_,pos:=_,after:=_,guard:=_}) (v:=undef) rfl (by kernel_rfl) (by kernel_rfl) (by kernel_rfl) (fun _ _ _ h=>h) (Or.inr ⟨by kernel_rfl,rfl⟩) hHeld ?_
  simp only[Act.put,aC,aD,aA];refine wpAnyH_take (i:=22) (oi:={dst:=some 27,op:=_,type:=_,pos:=_,after:=_,guard:=_}) (v:=undef) rfl (by kernel_rfl) (by kernel_rfl) (by kernel_rfl) (fun _ _ _ h=>h) (Or.inr ⟨by kernel_rfl,rfl⟩) hHeld ?_
  simp only[Act.put,aC,aD,aA];refine wpAnyH_take (i:=23) (oi:={dst:=some 28,op:=_,type:=_,pos:=_,after:=_,guard:=_}) (v:=undef) rfl (by kernel_rfl) (by kernel_rfl) (by kernel_rfl) (fun _ _ _ h=>h) (Or.inr ⟨by kernel_rfl,rfl⟩) hHeld ?_
  simp only[Act.put,aC,aD,aA];refine wpAnyH_take (i:=24) (oi:={dst:=some 29,op:=_,type:=_,pos:=_,after:=_,guard:=_}) (v:=undef) rfl (by kernel_rfl) (by kernel_rfl) (by kernel_rfl) (fun _ _ _ h=>h) (Or.inr ⟨by kernel_rfl,rfl⟩) hHeld ?_
  simp only[Act.put,aC,aD,aA];refine wpAnyH_take (i:=25) (oi:={dst:=some 30,op:=_,type:=_,pos:=_,after:=_,guard:=_}) (v:=undef) rfl (by kernel_rfl) (by kernel_rfl) (by kernel_rfl) (fun _ _ _ h=>h) (Or.inr ⟨by kernel_rfl,rfl⟩) hHeld ?_
  simp only[Act.put,aC,aD,aA];refine wpAnyH_take (i:=26) (oi:={dst:=some 31,op:=_,type:=_,pos:=_,after:=_,guard:=_}) (v:=?_) rfl (by kernel_rfl) (by kernel_rfl) (by kernel_rfl) (fun _ _ _ h=>h) (Or.inl ⟨by rfl,?_⟩) hHeld ?_
  rotate_left
  ·intro w' aw;obtain⟨s0,s1,s2,s3,s4,s5,s6,s7⟩:=aw
   go_simp
   try with_reducible rfl
  simp only[Act.put,aC,aD,aA];refine wpAnyH_take (i:=27) (oi:={dst:=some 4,op:=_,type:=_,pos:=_,after:=_,guard:=_}) (v:=?_) rfl (by kernel_rfl) (by kernel_rfl) (by kernel_rfl) (fun _ _ _ h=>h) (Or.inl ⟨by rfl,?_⟩) hHeld ?_
  rotate_left
  ·intro w' aw;obtain⟨s0,s1,s2,s3,s4,s5,s6,s7⟩:=aw
   go_simp
   try with_reducible rfl
  simp only[Act.put,aC,aD,aA];refine wpAnyH_done (by kernel_rfl) ?_ _
  go_wp2_with fail
  go_ret
  exact⟨rfl,by rw[qO];exact EN _ dN⟩
theorem OM{x:PB}{l:Ge.Ln}(hx:LD x l){n:Ge.Nd}(hn:lF n):∃r,Fl r (l.1*n.2.1-l.2.1*n.1-l.2.2*n.2.2)/\∀w,Calls Tryz.prog 97 #[.agg #[.complex .f64 x.wa x.wb,.float .f64 x.sh],.agg #[.complex .f64 (floatOfInt .f64 n.1) (floatOfInt .f64 n.2.1),.int .i64 n.2.2]] w fun e w'=>e=.returned (.float .f64 r)/\Below w.heap.size w w':=
 LY hx.fl.a hx.fl.b hx.fl.s (oV (by have:=hn.x;unfold sm;omega)) (oV (by have:=hn.y;unfold sm;omega)) hx.nZ.1 hx.nZ.2.1 hx.nZ.2.2 (by have:=hn.d;unfold sm;omega) (by have:=hn.x;unfold sm;omega) (by have:=hn.y;unfold sm;omega)
theorem ajB{x:PB}{l:Ge.Ln}(hx:LD x l)(hf:0<x.f.2.2)(n:Ge.Nd):(l.1*n.2.1-l.2.1*n.1-l.2.2*n.2.2).sign=(Ge.cr (Ga.wv x.f x.t) (Ga.wv x.f n)).sign:=by
 have e1:x.f.2.2*(l.1*n.2.1-l.2.1*n.1-l.2.2*n.2.2)=l.1*(Ga.wv x.f n).2+l.2.1*(-(Ga.wv x.f n).1):=by
  have h:=hx.NU;unfold Ga.wv;simp only;have:x.f.2.2*(l.1*n.2.1-l.2.1*n.1-l.2.2*n.2.2)=x.f.2.2*l.1*n.2.1-x.f.2.2*l.2.1*n.1-n.2.2*(l.2.2*x.f.2.2):=by grind
  rw[this,<-h]
  grind
 have e2:Ge.cr (Ga.wv x.f x.t) (Ga.wv x.f n)=(bI x.f x.t).1*(Ga.wv x.f n).2+(bI x.f x.t).2.1*(-(Ga.wv x.f n).1):=by
  rw[(tD x.f x.t).1,(tD x.f x.t).2];unfold Ge.cr
  grind
 rw[e2,<-IW hx.par hx.pos (ez hx.pos),<-e1];have:=Ge.LQ (k:=x.f.2.2) (z:=l.1*n.2.1-l.2.1*n.1-l.2.2*n.2.2) hf;exact this.symm
def js(Xs:List PB)(n:Ge.Nd)(i:Nat):Bool:=
 !decide (n.1*(xi Xs i).f.2.2<(xi Xs i).f.1*n.2.2)&&decide (n.1*(xi Xs i).t.2.2<(xi Xs i).t.1*n.2.2)&&decide (0<Ge.cr (Ga.wv (xi Xs i).f (xi Xs i).t) (Ga.wv (xi Xs i).f n))
theorem ajC(bs:List Nat)(Xs:List PB)(hB:BD Xs)(w:World)(g:Nat)(hR:RB w g bs Xs)(n:Ge.Nd)(hn:lF n)(i:Nat)(hi:i<Xs.length):
  Calls Tryz.prog 170 #[.pointer (some ⟨bx bs i,0,none⟩),gS n] w fun e w'=>e=.returned (.bool (js Xs n i))/\Below w.heap.size w w':=by
 have hS:=hR.at hi;have hv:=hB.v _ (gh hi);obtain⟨l,hl⟩:=hB.ld _ (gh hi);obtain⟨r,fr,hL⟩:=OM hl hn;have q:=GU fr kE;have sN:sm n.1/\sm n.2.1/\sm n.2.2:=by have:=hn.x;have:=hn.y;have:=hn.d;unfold sm;omega
 have sF:sm (xi Xs i).f.1/\sm (xi Xs i).f.2.1/\sm (xi Xs i).f.2.2:=by have:=hv.f.x;have:=hv.f.y;have:=hv.f.d;unfold sm;omega
 have sT:sm (xi Xs i).t.1/\sm (xi Xs i).t.2.1/\sm (xi Xs i).t.2.2:=by have:=hv.t.x;have:=hv.t.y;have:=hv.t.d;unfold sm;omega
 have hg:decide (0<l.1*n.2.1-l.2.1*n.1-l.2.2*n.2.2)=decide (0<Ge.cr (Ga.wv (xi Xs i).f (xi Xs i).t) (Ga.wv (xi Xs i).f n)):=by
  have h:=ajB hl hv.cf.pos n;have s1:=Ga.sg (l.1*n.2.1-l.2.1*n.1-l.2.2*n.2.2);have s2:=Ga.sg (Ge.cr (Ga.wv (xi Xs i).f (xi Xs i).t) (Ga.wv (xi Xs i).f n));exact decide_eq_decide.2 (by omega)
 unfold gS js;exact ajA _ _ _ _ _ _ _ _ _ r _ _ _ _ _ _ (bx bs i) w hS.c0 hS.c1 hS.c2 hS.c3 hS.c4 hS.c5
  (fun w=>G6 (oV sN.1) (oV sN.2.1) (oV sF.1) (oV sF.2.1) sF.1 sF.2.1 sN.2.2 sF.2.2 sN.1 sN.2.1 w)
  (fun w=>G6 (oV sN.1) (oV sN.2.1) (oV sT.1) (oV sT.2.1) sT.1 sT.2.1 sN.2.2 sT.2.2 sN.1 sN.2.1 w)
  hL (q.trans hg)
end Go.Proofs.YtkjhhooecopolaaGreatDoor
