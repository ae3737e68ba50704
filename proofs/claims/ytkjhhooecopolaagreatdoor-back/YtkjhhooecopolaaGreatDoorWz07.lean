import Derived.Test.YtkjhhooecopolaaGreatDoorWz06
set_option maxRecDepth 100000
set_option maxHeartbeats 4000000
namespace Go.Proofs.YtkjhhooecopolaaGreatDoor
open Go.RowKit
theorem G8(xb:EB)(ed:Ed){na nb:Nat}{X Y D:Int}(hx:jK xb ed)(hs:eO ed)(g1:Fl na X)(g2:Fl nb Y)(hn:dM X Y D)(w:World):
  Calls Tryz.prog 62 #[.agg xb.cells,.agg #[.complex .f64 na nb,.int .i64 D]] w fun e w'=>e=.returned (.bool (Ge.fo (X,Y) D ed))/\Below w.heap.size w w':=by
 have sX:sm X:=by have:=hn.x;unfold sm;omega
 have sY:sm Y:=by have:=hn.y;unfold sm;omega
 have sD:sm D:=by have:=hn.d;unfold sm;omega
 have s1:sm (ed.2.1-ed.1.1):=by have:=hs.a;have:=hs.c;unfold small at*;unfold sm;omega
 have s2:sm (ed.2.2-ed.1.2):=by have:=hs.b;have:=hs.d;unfold small at*;unfold sm;omega
 obtain⟨r,fr,hL⟩:=LH hx.wa hx.wb hx.sh g1 g2 s1 s2 (G6 hs) sD sX sY;obtain⟨u1,u2,Sr,Ss,hU⟩:=Sl (D:=D) g1 g2 hx.fa hx.fb (vI hs.a) (vI hs.b) sD sX sY;obtain⟨v1,v2,Su,Sv,hV⟩:=Sl (D:=D) g1 g2 hx.ta hx.tb (vI hs.c) (vI hs.d) sD sX sY;obtain⟨re,im,LK,_,hT⟩:=LG Sr Ss Su Sv (G5 hn.x hn.d hs.a) (G5 hn.y hn.d hs.b) (G5 hn.x hn.d hs.c) (G5 hn.y hn.d hs.d);have HL:Hid (∀w,Calls Tryz.prog 97 #[.agg #[.complex .f64 xb.wa xb.wb,.float .f64 xb.sh],.agg #[.complex .f64 na nb,.int .i64 D]] w fun e w'=>e=.returned (.float .f64 r)/\Below w.heap.size w w'):=hL
 have HU:Hid (∀w,Calls Tryz.prog 99 #[.agg #[.complex .f64 na nb,.int .i64 D],.complex .f64 xb.fa xb.fb] w fun e w'=>e=.returned (.complex .f64 u1 u2)/\Below w.heap.size w w'):=hU
 have HV:Hid (∀w,Calls Tryz.prog 99 #[.agg #[.complex .f64 na nb,.int .i64 D],.complex .f64 xb.ta xb.tb] w fun e w'=>e=.returned (.complex .f64 v1 v2)/\Below w.heap.size w w'):=hV
 have HT:Hid (∀w,Calls Tryz.prog 98 #[.complex .f64 u1 u2,.complex .f64 v1 v2] w fun e w'=>e=.returned (.complex .f64 re im)/\w'=w):=hT
 have q1:=rP fr kM;have q2:(FloatKind.f64.format.order re 0 == some .lt||FloatKind.f64.format.order re 0 == some .eq)=decide ((X-ed.1.1*D)*(X-ed.2.1*D)+(Y-ed.1.2*D)*(Y-ed.2.2*D)<=0):=by
  rw[zB LK kM,rP LK kM,<-Bool.decide_or];exact decide_eq_decide.2 (by omega)
 have hfo:=acZ X Y D ed hn.d.1;unfold lf at hfo;rw[<-q1,<-q2] at hfo;rw[<-hfo];clear hfo q1 q2 hL hU hV hT fr LK Sr Ss Su Sv hx hs hn g1 g2 sX sY sD s1 s2;obtain⟨wa,wb,sh,fa,fb,ta,tb⟩:=xb;simp only[EB.cells] at*;generalize hO1:(FloatKind.f64.format.order r 0 == some Ordering.eq)=B1 at*;have hE:((w.alloc (.cells #[.complex .f64 wa wb,.float .f64 sh,.complex .f64 fa fb,.complex .f64 ta tb] 124)).alloc (.cells #[.complex .f64 na nb,.int .i64 D] 83)).heap[w.heap.size]?=some (.cells #[.complex .f64 wa wb,.float .f64 sh,.complex .f64 fa fb,.complex .f64 ta tb] 124 (0,0)):=by
  rw[Below.heap_alloc _ _ _ (by simp)];exact heap_alloc_new _ _
 have hP:((w.alloc (.cells #[.complex .f64 wa wb,.float .f64 sh,.complex .f64 fa fb,.complex .f64 ta tb] 124)).alloc (.cells #[.complex .f64 na nb,.int .i64 D] 83)).heap[w.heap.size+1]?=some (.cells #[.complex .f64 na nb,.int .i64 D] 83 (0,0)):=by
  have:=heap_alloc_new (w.alloc (.cells #[.complex .f64 wa wb,.float .f64 sh,.complex .f64 fa fb,.complex .f64 ta tb] 124)) (.cells #[.complex .f64 na nb,.int .i64 D] 83);simpa using this
 have hb0:Below w.heap.size w ((w.alloc (.cells #[.complex .f64 wa wb,.float .f64 sh,.complex .f64 fa fb,.complex .f64 ta tb] 124)).alloc (.cells #[.complex .f64 na nb,.int .i64 D] 83)):=((Below.refl _ _).alloc (ay _) _).alloc (by simp) _
 have hsz:w.heap.size+2=((w.alloc (.cells #[.complex .f64 wa wb,.float .f64 sh,.complex .f64 fa fb,.complex .f64 ta tb] 124)).alloc (.cells #[.complex .f64 na nb,.int .i64 D] 83)).heap.size:=by simp
 go_enter Tryz.func62,Tryz.ntmps62
 go_wp2_with fail
 generalize(w.alloc (.cells #[.complex .f64 wa wb,.float .f64 sh,.complex .f64 fa fb,.complex .f64 ta tb] 124)).alloc (.cells #[.complex .f64 na nb,.int .i64 D] 83)=W at*;generalize hB:w.heap.size=B at*;have cZ:B<W.heap.size:=by omega
 have hzb:B+1<W.heap.size:=by omega
 have z0:W.cell? ⟨B,0,none⟩=some (.complex .f64 wa wb):=cell_of hE 0;have z1:W.cell? ⟨B,1,none⟩=some (.float .f64 sh):=cell_of hE 1;have z2:W.cell? ⟨B,2,none⟩=some (.complex .f64 fa fb):=cell_of hE 2;have z3:W.cell? ⟨B,3,none⟩=some (.complex .f64 ta tb):=cell_of hE 3;have z4:W.cell? ⟨B+1,0,none⟩=some (.complex .f64 na nb):=cell_of hP 0;have z5:W.cell? ⟨B+1,1,none⟩=some (.int .i64 D):=cell_of hP 1;cases B1
 ·refine wp_region_held_drew (S:=(fun w'=>w'.cell? ⟨B,0,none⟩=some (.complex .f64 wa wb)/\w'.cell? ⟨B,1,none⟩=some (.float .f64 sh)/\w'.cell? ⟨B,2,none⟩=some (.complex .f64 fa fb)/\w'.cell? ⟨B,3,none⟩=some (.complex .f64 ta tb)/\w'.cell? ⟨B+1,0,none⟩=some (.complex .f64 na nb)/\w'.cell? ⟨B+1,1,none⟩=some (.int .i64 D))) (by kernel_rfl) ⟨z0,z1,z2,z3,z4,z5⟩ (fun hHeld=>?_)
  refine wpAnyH_take (i:=0) (oi:={dst:=some 5,op:=_,type:=_,pos:=_,after:=_,guard:=_}) (v:=?_) rfl (by kernel_rfl) (by kernel_rfl) (by kernel_rfl) (fun _ _ _ h=>h) (ag ⟨by rfl,?_⟩) hHeld ?_
  rotate_left
  ·intro w' aA;obtain⟨s0,s1,s2,s3,s4,s5⟩:=aA
   go_simp
   try with_reducible rfl
  simp only[Act.put,aH,aI,aG];refine wpAnyH_take (i:=1) (oi:={dst:=some 6,op:=_,type:=_,pos:=_,after:=_,guard:=_}) (v:=?_) rfl (by kernel_rfl) (by kernel_rfl) (by kernel_rfl) (fun _ _ _ h=>h) (ag ⟨by rfl,?_⟩) hHeld ?_
  rotate_left
  ·intro w' aA;obtain⟨s0,s1,s2,s3,s4,s5⟩:=aA
   go_simp
   try with_reducible rfl
  simp only[Act.put,aH,aI,aG];refine wpAnyH_take (i:=2) (oi:={dst:=some 7,op:=_,type:=_,pos:=_,after:=_,guard:=_}) (v:=?_) rfl (by kernel_rfl) (by kernel_rfl) (by kernel_rfl) (fun _ _ _ h=>h) (ag ⟨by rfl,?_⟩) hHeld ?_
  rotate_left
  ·intro w' aA;obtain⟨s0,s1,s2,s3,s4,s5⟩:=aA
   go_simp
   try with_reducible rfl
  simp only[Act.put,aH,aI,aG];refine wpAnyH_ready (rs:=[3]) (by kernel_rfl) (by simp) ?_
  refine AllReadyH.cons rfl (fun K hK=>?_) AllReadyH.nil
  go_simp
  refine(HL.out _).mono ?_;rintro e w5 ⟨rfl,az⟩;have lU:B<w5.heap.size:=bu cZ az.size;have hlb:B+1<w5.heap.size:=bu hzb az.size;have l0:=(az.cell (p:=⟨B,0,none⟩) cZ).trans z0;have l1:=(az.cell (p:=⟨B,1,none⟩) cZ).trans z1;have l2:=(az.cell (p:=⟨B,2,none⟩) cZ).trans z2;have l3:=(az.cell (p:=⟨B,3,none⟩) cZ).trans z3;have l4:=(az.cell (p:=⟨B+1,0,none⟩) hzb).trans z4;have l5:=(az.cell (p:=⟨B+1,1,none⟩) hzb).trans z5
  go_wp2_with fail
  refine hK.out _ _ ⟨l0,l1,l2,l3,l4,l5⟩ (fun hHeld=>?_)
  clear hK K
  try simp only[Act.put,aH,aI,aG]
  refine wpAnyH_take (i:=4) (oi:={dst:=some 9,op:=_,type:=_,pos:=_,after:=_,guard:=_}) (v:=?_) rfl (by kernel_rfl) (by kernel_rfl) (by kernel_rfl) (fun _ _ _ h=>h) (ag ⟨by rfl,?_⟩) hHeld ?_
  rotate_left
  ·intro w' aA;obtain⟨s0,s1,s2,s3,s4,s5⟩:=aA
   go_simp
   try with_reducible rfl
  simp only[Act.put,aH,aI,aG];refine wpAnyH_take (i:=5) (oi:={dst:=some 10,op:=_,type:=_,pos:=_,after:=_,guard:=_}) (v:=?_) rfl (by kernel_rfl) (by kernel_rfl) (by kernel_rfl) (fun _ _ _ h=>h) (ag ⟨by rfl,?_⟩) hHeld ?_
  rotate_left
  ·intro w' aA;obtain⟨s0,s1,s2,s3,s4,s5⟩:=aA
   go_simp
   try with_reducible rfl
  simp only[Act.put,aH,aI,aG];refine wpAnyH_take (i:=6) (oi:={dst:=some 11,op:=_,type:=_,pos:=_,after:=_,guard:=_}) (v:=undef) rfl (by kernel_rfl) (by kernel_rfl) (by kernel_rfl) (fun _ _ _ h=>h) (ah ⟨by kernel_rfl,rfl⟩) hHeld ?_
  simp only[Act.put,aH,aI,aG];refine wpAnyH_take (i:=7) (oi:={dst:=some 12,op:=_,type:=_,pos:=_,after:=_,guard:=_}) (v:=undef) rfl (by kernel_rfl) (by kernel_rfl) (by kernel_rfl) (fun _ _ _ h=>h) (ah ⟨by kernel_rfl,rfl⟩) hHeld ?_
  simp only[Act.put,aH,aI,aG];refine wpAnyH_take (i:=8) (oi:={dst:=some 13,op:=_,type:=_,pos:=_,after:=_,guard:=_}) (v:=undef) rfl (by kernel_rfl) (by kernel_rfl) (by kernel_rfl) (fun _ _ _ h=>h) (ah ⟨by kernel_rfl,rfl⟩) hHeld ?_
  simp only[Act.put,aH,aI,aG];refine wpAnyH_take (i:=9) (oi:={dst:=some 14,op:=_,type:=_,pos:=_,after:=_,guard:=_}) (v:=undef) rfl (by kernel_rfl) (by kernel_rfl) (by kernel_rfl) (fun _ _ _ h=>h) (ah ⟨by kernel_rfl,rfl⟩) hHeld ?_
  simp only[Act.put,aH,aI,aG];refine wpAnyH_take (i:=10) (oi:={dst:=some 15,op:=_,type:=_,pos:=_,after:=_,guard:=_}) (v:=undef) rfl (by kernel_rfl) (by kernel_rfl) (by kernel_rfl) (fun _ _ _ h=>h) (ah ⟨by kernel_rfl,rfl⟩) hHeld ?_
  simp only[Act.put,aH,aI,aG];refine wpAnyH_take (i:=11) (oi:={dst:=some 16,op:=_,type:=_,pos:=_,after:=_,guard:=_}) (v:=undef) rfl (by kernel_rfl) (by kernel_rfl) (by kernel_rfl) (fun _ _ _ h=>h) (ah ⟨by kernel_rfl,rfl⟩) hHeld ?_
  simp only[Act.put,aH,aI,aG];refine wpAnyH_take (i:=12) (oi:={dst:=some 17,op:=_,type:=_,pos:=_,after:=_,guard:=_}) (v:=undef) rfl (by kernel_rfl) (by kernel_rfl) (by kernel_rfl) (fun _ _ _ h=>h) (ah ⟨by kernel_rfl,rfl⟩) hHeld ?_
  simp only[Act.put,aH,aI,aG];refine wpAnyH_take (i:=13) (oi:={dst:=some 18,op:=_,type:=_,pos:=_,after:=_,guard:=_}) (v:=undef) rfl (by kernel_rfl) (by kernel_rfl) (by kernel_rfl) (fun _ _ _ h=>h) (ah ⟨by kernel_rfl,rfl⟩) hHeld ?_
  simp only[Act.put,aH,aI,aG];refine wpAnyH_take (i:=14) (oi:={dst:=some 19,op:=_,type:=_,pos:=_,after:=_,guard:=_}) (v:=undef) rfl (by kernel_rfl) (by kernel_rfl) (by kernel_rfl) (fun _ _ _ h=>h) (ah ⟨by kernel_rfl,rfl⟩) hHeld ?_
  simp only[Act.put,aH,aI,aG];refine wpAnyH_take (i:=15) (oi:={dst:=some 20,op:=_,type:=_,pos:=_,after:=_,guard:=_}) (v:=undef) rfl (by kernel_rfl) (by kernel_rfl) (by kernel_rfl) (fun _ _ _ h=>h) (ah ⟨by kernel_rfl,rfl⟩) hHeld ?_
  simp only[Act.put,aH,aI,aG];refine wpAnyH_take (i:=16) (oi:={dst:=some 21,op:=_,type:=_,pos:=_,after:=_,guard:=_}) (v:=undef) rfl (by kernel_rfl) (by kernel_rfl) (by kernel_rfl) (fun _ _ _ h=>h) (ah ⟨by kernel_rfl,rfl⟩) hHeld ?_
  simp only[Act.put,aH,aI,aG];refine wpAnyH_take (i:=17) (oi:={dst:=some 22,op:=_,type:=_,pos:=_,after:=_,guard:=_}) (v:=?_) rfl (by kernel_rfl) (by kernel_rfl) (by kernel_rfl) (fun _ _ _ h=>h) (ag ⟨by rfl,?_⟩) hHeld ?_
  rotate_left
  ·intro w' aA;obtain⟨s0,s1,s2,s3,s4,s5⟩:=aA
   go_simp
   try with_reducible rfl
  simp only[Act.put,aH,aI,aG];refine wpAnyH_take (i:=18) (oi:={dst:=some 4,op:=_,type:=_,pos:=_,after:=_,guard:=_}) (v:=?_) rfl (by kernel_rfl) (by kernel_rfl) (by kernel_rfl) (fun _ _ _ h=>h) (ag ⟨by rfl,?_⟩) hHeld ?_
  rotate_left
  ·intro w' aA;obtain⟨s0,s1,s2,s3,s4,s5⟩:=aA
   go_simp
   try with_reducible rfl
  simp only[Act.put,aH,aI,aG];refine wpAnyH_done (by kernel_rfl) ?_ _
  go_wp2_with fail
  go_ret
  exact⟨rfl,by rw[hB];exact hb0.drew.trans (az.mono (eJ cZ))⟩
 ·go_region_held3 (fun w'=>w'.cell? ⟨B,0,none⟩=some (.complex .f64 wa wb)/\w'.cell? ⟨B,1,none⟩=some (.float .f64 sh)/\w'.cell? ⟨B,2,none⟩=some (.complex .f64 fa fb)/\w'.cell? ⟨B,3,none⟩=some (.complex .f64 ta tb)/\w'.cell? ⟨B+1,0,none⟩=some (.complex .f64 na nb)/\w'.cell? ⟨B+1,1,none⟩=some (.int .i64 D)) (go_keep) (first
   |(go_at_call 97;refine(HL.out _).mono ?_;rintro e w5 ⟨rfl,az⟩;have lU:B<w5.heap.size:=bu cZ az.size;have hlb:B+1<w5.heap.size:=bu hzb az.size;have l0:=(az.cell (p:=⟨B,0,none⟩) cZ).trans z0;have l1:=(az.cell (p:=⟨B,1,none⟩) cZ).trans z1;have l2:=(az.cell (p:=⟨B,2,none⟩) cZ).trans z2;have l3:=(az.cell (p:=⟨B,3,none⟩) cZ).trans z3;have l4:=(az.cell (p:=⟨B+1,0,none⟩) hzb).trans z4;have l5:=(az.cell (p:=⟨B+1,1,none⟩) hzb).trans z5)
   |(go_at_call_of 99 (Value.complex FloatKind.f64 fa fb);refine(HU.out _).mono ?_;rintro e w6 ⟨rfl,aF⟩;have iV:B<w6.heap.size:=bu lU aF.size;have kN:B+1<w6.heap.size:=bu hlb aF.size;have u0:=(aF.cell (p:=⟨B,0,none⟩) lU).trans l0;have u1:=(aF.cell (p:=⟨B,1,none⟩) lU).trans l1;have u2:=(aF.cell (p:=⟨B,2,none⟩) lU).trans l2;have u3:=(aF.cell (p:=⟨B,3,none⟩) lU).trans l3;have u4:=(aF.cell (p:=⟨B+1,0,none⟩) hlb).trans l4;have u5:=(aF.cell (p:=⟨B+1,1,none⟩) hlb).trans l5)
   |(go_at_call_of 99 (Value.complex FloatKind.f64 ta tb);refine(HV.out _).mono ?_;rintro e w7 ⟨rfl,aV⟩;have pI:B<w7.heap.size:=bu iV aV.size;have hvb:B+1<w7.heap.size:=bu kN aV.size;have v0:=(aV.cell (p:=⟨B,0,none⟩) iV).trans u0;have v1:=(aV.cell (p:=⟨B,1,none⟩) iV).trans u1;have v2:=(aV.cell (p:=⟨B,2,none⟩) iV).trans u2;have v3:=(aV.cell (p:=⟨B,3,none⟩) iV).trans u3;have v4:=(aV.cell (p:=⟨B+1,0,none⟩) kN).trans u4;have v5:=(aV.cell (p:=⟨B+1,1,none⟩) kN).trans u5)
   |(go_at_call 98;refine(HT.out _).mono ?_;rintro e w8 ⟨rfl,qy⟩;subst qy))
  go_wp2_with fail
  go_ret
  refine⟨xq (by simp),?_⟩
  rw[hB];exact((hb0.drew.trans (az.mono (eJ cZ))).trans (aF.mono (eJ lU))).trans (aV.mono (eJ iV))
theorem ac1(na nb a b pa pb qa qb:Nat)(D E:Int)(w:World)
  (HA:Hid (∀w,Calls Tryz.prog 152 #[.agg #[.complex .f64 a b,.int .i64 E],.complex .f64 na nb] w fun e w'=>e=.returned (.complex .f64 pa pb)/\Below w.heap.size w w'/\w.drawn<=w'.drawn))
  (HC:Hid (∀w,Calls Tryz.prog 152 #[.agg #[.complex .f64 na nb,.int .i64 D],.complex .f64 a b] w fun e w'=>e=.returned (.complex .f64 qa qb)/\Below w.heap.size w w'/\w.drawn<=w'.drawn)):
  Calls Tryz.prog 100 #[.agg #[.complex .f64 na nb,.int .i64 D],.agg #[.complex .f64 a b,.int .i64 E]] w fun e w'=>e=.returned (.bool (FloatKind.f64.format.order pa qa == some .lt))/\Below w.heap.size w w':=by
 have hE:((w.alloc (.cells #[.complex .f64 na nb,.int .i64 D] 83)).alloc (.cells #[.complex .f64 a b,.int .i64 E] 83)).heap[w.heap.size]?=some (.cells #[.complex .f64 na nb,.int .i64 D] 83 (0,0)):=by
  rw[Below.heap_alloc _ _ _ (by simp)];exact heap_alloc_new _ _
 have hP:((w.alloc (.cells #[.complex .f64 na nb,.int .i64 D] 83)).alloc (.cells #[.complex .f64 a b,.int .i64 E] 83)).heap[w.heap.size+1]?=some (.cells #[.complex .f64 a b,.int .i64 E] 83 (0,0)):=by
  have:=heap_alloc_new (w.alloc (.cells #[.complex .f64 na nb,.int .i64 D] 83)) (.cells #[.complex .f64 a b,.int .i64 E] 83);simpa using this
 have hb0:Below w.heap.size w ((w.alloc (.cells #[.complex .f64 na nb,.int .i64 D] 83)).alloc (.cells #[.complex .f64 a b,.int .i64 E] 83)):=((Below.refl _ _).alloc (ay _) _).alloc (by simp) _
 have hsz:w.heap.size+2=((w.alloc (.cells #[.complex .f64 na nb,.int .i64 D] 83)).alloc (.cells #[.complex .f64 a b,.int .i64 E] 83)).heap.size:=by simp
 go_enter Tryz.func100,Tryz.ntmps100
 go_wp2_with fail
 generalize(w.alloc (.cells #[.complex .f64 na nb,.int .i64 D] 83)).alloc (.cells #[.complex .f64 a b,.int .i64 E] 83)=W at*;generalize hB:w.heap.size=B at*;have cZ:B<W.heap.size:=by omega
 have hzb:B+1<W.heap.size:=by omega
 have z0:W.cell? ⟨B,0,none⟩=some (.complex .f64 na nb):=cell_of hE 0;have z1:W.cell? ⟨B,1,none⟩=some (.int .i64 D):=cell_of hE 1;have z2:W.cell? ⟨B+1,0,none⟩=some (.complex .f64 a b):=cell_of hP 0;have z3:W.cell? ⟨B+1,1,none⟩=some (.int .i64 E):=cell_of hP 1
 go_region_held3 (fun w'=>w'.cell? ⟨B,0,none⟩=some (.complex .f64 na nb)/\w'.cell? ⟨B,1,none⟩=some (.int .i64 D)/\w'.cell? ⟨B+1,0,none⟩=some (.complex .f64 a b)/\w'.cell? ⟨B+1,1,none⟩=some (.int .i64 E)) (go_keep) (first
   |(go_at_call_of 152 (Value.complex FloatKind.f64 na nb);refine(HA.out _).mono ?_;rintro e w6 ⟨rfl,aF,_⟩;have iV:B<w6.heap.size:=bu cZ aF.size;have kN:B+1<w6.heap.size:=bu hzb aF.size;have u0:=(aF.cell (p:=⟨B,0,none⟩) cZ).trans z0;have u1:=(aF.cell (p:=⟨B,1,none⟩) cZ).trans z1;have u2:=(aF.cell (p:=⟨B+1,0,none⟩) hzb).trans z2;have u3:=(aF.cell (p:=⟨B+1,1,none⟩) hzb).trans z3)
   |(go_at_call_of 152 (Value.complex FloatKind.f64 a b);refine(HC.out _).mono ?_;rintro e w7 ⟨rfl,aV,_⟩;have v0:=(aV.cell (p:=⟨B,0,none⟩) iV).trans u0;have v1:=(aV.cell (p:=⟨B,1,none⟩) iV).trans u1;have v2:=(aV.cell (p:=⟨B+1,0,none⟩) kN).trans u2;have v3:=(aV.cell (p:=⟨B+1,1,none⟩) kN).trans u3))
 all_goals
  have aw:=(hb0.drew.trans (aF.mono (eJ cZ))).trans (aV.mono (eJ iV));clear aF aV hb0
  go_wp2_with fail
  go_ret
  exact⟨rfl,by rw[hB];exact aw⟩
theorem G9{na nb:Nat}{X Y D:Int}{a b:Nat}{x y E:Int}(g1:Fl na X)(g2:Fl nb Y)(h1:Fl a x)(h2:Fl b y)(b1:sm x)(b2:sm y)(bD:sm D)(bE:sm E)(c1:sm X)(c2:sm Y)(w:World):
  Calls Tryz.prog 100 #[.agg #[.complex .f64 na nb,.int .i64 D],.agg #[.complex .f64 a b,.int .i64 E]] w fun e w'=>e=.returned (.bool (decide (X*E<x*D)))/\Below w.heap.size w w':=by
 obtain⟨pa,pb,f1,f2,hs1⟩:=CC a b E g1 g2 c1 c2 bE;obtain⟨qa,qb,k1,k2,hs2⟩:=CC na nb D h1 h2 b1 b2 bD;rw[<-zB f1 k1];exact ac1 na nb a b pa pb qa qb D E w hs1 hs2
theorem ac2(xb:EB)(ed:Ed){na nb:Nat}{X Y D:Int}(hx:jK xb ed)(hs:eO ed)(g1:Fl na X)(g2:Fl nb Y)(hn:dM X Y D)(w:World):
  Calls Tryz.prog 63 #[.agg xb.cells,.agg #[.complex .f64 na nb,.int .i64 D]] w fun e w'=>e=.returned (.int .i64 (Ge.fr (X,Y) D ed.1 ed.2))/\Below w.heap.size w w':=by
 have sX:sm X:=by have:=hn.x;unfold sm;omega
 have sY:sm Y:=by have:=hn.y;unfold sm;omega
 have sD:sm D:=by have:=hn.d;unfold sm;omega
 have s1:sm (ed.2.1-ed.1.1):=by have:=hs.a;have:=hs.c;unfold small at*;unfold sm;omega
 have s2:sm (ed.2.2-ed.1.2):=by have:=hs.b;have:=hs.d;unfold small at*;unfold sm;omega
 obtain⟨r,fr,hL⟩:=LH hx.wa hx.wb hx.sh g1 g2 s1 s2 (G6 hs) sD sX sY;have HL:Hid (∀w,Calls Tryz.prog 97 #[.agg #[.complex .f64 xb.wa xb.wb,.float .f64 xb.sh],.agg #[.complex .f64 na nb,.int .i64 D]] w fun e w'=>e=.returned (.float .f64 r)/\Below w.heap.size w w'):=hL
 have s1':sm 1:=by unfold sm;decide
 have HU:Hid (∀w,Calls Tryz.prog 100 #[.agg #[.complex .f64 na nb,.int .i64 D],.agg #[.complex .f64 xb.fa xb.fb,.int .i64 1]] w fun e w'=>e=.returned (.bool (decide (X*1<ed.1.1*D)))/\Below w.heap.size w w'):=fun w=>G9 g1 g2 hx.fa hx.fb (vI hs.a) (vI hs.b) sD s1' sX sY w
 have HV:Hid (∀w,Calls Tryz.prog 100 #[.agg #[.complex .f64 na nb,.int .i64 D],.agg #[.complex .f64 xb.ta xb.tb,.int .i64 1]] w fun e w'=>e=.returned (.bool (decide (X*1<ed.2.1*D)))/\Below w.heap.size w w'):=fun w=>G9 g1 g2 hx.ta hx.tb (vI hs.c) (vI hs.d) sD s1' sX sY w
 have q1:=GX fr kM;have q2:=zB fr kM;have iu:=ac0 X Y D ed hn.d.1;unfold lf at iu;rw[iu];generalize(ed.2.1-ed.1.1)*Y-(ed.2.2-ed.1.2)*X-((ed.2.1-ed.1.1)*ed.1.2-(ed.2.2-ed.1.2)*ed.1.1)*D=L at*;generalize Sw:decide (X*1<ed.1.1*D)=FA at*;generalize oI:decide (X*1<ed.2.1*D)=TA at*;have hval:(if ¬X*1<ed.1.1*D/\X*1<ed.2.1*D/\0<L then(1:Int) else if X*1<ed.1.1*D/\¬X*1<ed.2.1*D/\L<0 then -1 else 0)=(if FA=false/\TA=true/\0<L then 1 else if FA=true/\TA=false/\L<0 then -1 else 0):=by
  rw[<-Sw,<-oI];simp
 rw[hval];clear hval iu hL fr hx hs hn g1 g2 sX sY sD s1 s2 s1' Sw oI;obtain⟨wa,wb,sh,fa,fb,ta,tb⟩:=xb;simp only[EB.cells] at*;have hE:((w.alloc (.cells #[.complex .f64 wa wb,.float .f64 sh,.complex .f64 fa fb,.complex .f64 ta tb] 124)).alloc (.cells #[.complex .f64 na nb,.int .i64 D] 83)).heap[w.heap.size]?=some (.cells #[.complex .f64 wa wb,.float .f64 sh,.complex .f64 fa fb,.complex .f64 ta tb] 124 (0,0)):=by
  rw[Below.heap_alloc _ _ _ (by simp)];exact heap_alloc_new _ _
 have hP:((w.alloc (.cells #[.complex .f64 wa wb,.float .f64 sh,.complex .f64 fa fb,.complex .f64 ta tb] 124)).alloc (.cells #[.complex .f64 na nb,.int .i64 D] 83)).heap[w.heap.size+1]?=some (.cells #[.complex .f64 na nb,.int .i64 D] 83 (0,0)):=by
  have:=heap_alloc_new (w.alloc (.cells #[.complex .f64 wa wb,.float .f64 sh,.complex .f64 fa fb,.complex .f64 ta tb] 124)) (.cells #[.complex .f64 na nb,.int .i64 D] 83);simpa using this
 have hb0:Below w.heap.size w ((w.alloc (.cells #[.complex .f64 wa wb,.float .f64 sh,.complex .f64 fa fb,.complex .f64 ta tb] 124)).alloc (.cells #[.complex .f64 na nb,.int .i64 D] 83)):=((Below.refl _ _).alloc (ay _) _).alloc (by simp) _
 have hsz:w.heap.size+2=((w.alloc (.cells #[.complex .f64 wa wb,.float .f64 sh,.complex .f64 fa fb,.complex .f64 ta tb] 124)).alloc (.cells #[.complex .f64 na nb,.int .i64 D] 83)).heap.size:=by simp
 go_enter Tryz.func63,Tryz.ntmps63
 go_wp2_with fail
 generalize(w.alloc (.cells #[.complex .f64 wa wb,.float .f64 sh,.complex .f64 fa fb,.complex .f64 ta tb] 124)).alloc (.cells #[.complex .f64 na nb,.int .i64 D] 83)=W at*;generalize hB:w.heap.size=B at*;have cZ:B<W.heap.size:=by omega
 have hzb:B+1<W.heap.size:=by omega
 have z0:W.cell? ⟨B,0,none⟩=some (.complex .f64 wa wb):=cell_of hE 0;have z1:W.cell? ⟨B,1,none⟩=some (.float .f64 sh):=cell_of hE 1;have z2:W.cell? ⟨B,2,none⟩=some (.complex .f64 fa fb):=cell_of hE 2;have z3:W.cell? ⟨B,3,none⟩=some (.complex .f64 ta tb):=cell_of hE 3;have z4:W.cell? ⟨B+1,0,none⟩=some (.complex .f64 na nb):=cell_of hP 0;have z5:W.cell? ⟨B+1,1,none⟩=some (.int .i64 D):=cell_of hP 1
 go_region_held3 (fun w'=>w'.cell? ⟨B,0,none⟩=some (.complex .f64 wa wb)/\w'.cell? ⟨B,1,none⟩=some (.float .f64 sh)/\w'.cell? ⟨B,2,none⟩=some (.complex .f64 fa fb)/\w'.cell? ⟨B,3,none⟩=some (.complex .f64 ta tb)/\w'.cell? ⟨B+1,0,none⟩=some (.complex .f64 na nb)/\w'.cell? ⟨B+1,1,none⟩=some (.int .i64 D)) (go_keep) (first
   |(go_at_call_of 100 (Value.agg #[Value.complex FloatKind.f64 fa fb,Value.int IntKind.i64 1]);refine(HU.out _).mono ?_;rintro e w6 ⟨rfl,aF⟩;have iV:B<w6.heap.size:=bu cZ aF.size;have kN:B+1<w6.heap.size:=bu hzb aF.size;have u0:=(aF.cell (p:=⟨B,0,none⟩) cZ).trans z0;have u1:=(aF.cell (p:=⟨B,1,none⟩) cZ).trans z1;have u2:=(aF.cell (p:=⟨B,2,none⟩) cZ).trans z2;have u3:=(aF.cell (p:=⟨B,3,none⟩) cZ).trans z3;have u4:=(aF.cell (p:=⟨B+1,0,none⟩) hzb).trans z4;have u5:=(aF.cell (p:=⟨B+1,1,none⟩) hzb).trans z5)
   |(go_at_call_of 100 (Value.agg #[Value.complex FloatKind.f64 ta tb,Value.int IntKind.i64 1]);refine(HV.out _).mono ?_;rintro e w7 ⟨rfl,aV⟩;have pI:B<w7.heap.size:=bu iV aV.size;have hvb:B+1<w7.heap.size:=bu kN aV.size;have v0:=(aV.cell (p:=⟨B,0,none⟩) iV).trans u0;have v1:=(aV.cell (p:=⟨B,1,none⟩) iV).trans u1;have v2:=(aV.cell (p:=⟨B,2,none⟩) iV).trans u2;have v3:=(aV.cell (p:=⟨B,3,none⟩) iV).trans u3;have v4:=(aV.cell (p:=⟨B+1,0,none⟩) kN).trans u4;have v5:=(aV.cell (p:=⟨B+1,1,none⟩) kN).trans u5))
 have aw:Below w.heap.size w w7:=by
  rw[hB];exact(hb0.drew.trans (aF.mono (eJ cZ))).trans (aV.mono (eJ iV))
 clear aF aV hb0;cases FA<;>cases TA
 ·go_wp2_with fail
  go_ret
  exact⟨rfl,by rw[hB] at aw;exact aw⟩
 ·go_wp2_with fail
  refine(HL.out _).mono ?_;rintro e w8 ⟨rfl,nE⟩;have uf:=aw.trans (nE.mono (by rw[hB];exact eJ pI))
  by_cases hl:0<L
  ·have hq:(FloatKind.f64.format.order r 0 == some Ordering.gt)=true:=by rw[q1];simp[hl]
   clear q1 q2
   go_wp2_with fail
   go_ret
   exact⟨rfl,by rw[hB] at uf;exact uf⟩
  ·have hq:(FloatKind.f64.format.order r 0 == some Ordering.gt)=false:=by rw[q1];simp[hl]
   clear q1 q2
   go_wp2_with fail
   go_ret
   exact⟨rfl,by rw[hB] at uf;exact uf⟩
 ·go_wp2_with fail
  refine(HL.out _).mono ?_;rintro e w8 ⟨rfl,nE⟩;have uf:=aw.trans (nE.mono (by rw[hB];exact eJ pI))
  by_cases hl:L<0
  ·have hq:(FloatKind.f64.format.order r 0 == some Ordering.lt)=true:=by rw[q2];simp[hl]
   clear q1 q2
   go_wp2_with fail
   go_ret
   exact⟨rfl,by rw[hB] at uf;exact uf⟩
  ·have hq:(FloatKind.f64.format.order r 0 == some Ordering.lt)=false:=by rw[q2];simp[hl]
   clear q1 q2
   go_wp2_with fail
   go_ret
   exact⟨rfl,by rw[hB] at uf;exact uf⟩
 ·go_wp2_with fail
  go_ret
  exact⟨rfl,by rw[hB] at aw;exact aw⟩
def nG(l:List EB):List Value:=l.flatMap fun x=>x.cells.toList
def iW(w:World)(v:Value)(es:List Ed):Prop:=
 ∃xs:List EB,xs.length=es.length/\w.ownsRow 0 124 4 v es.length (nG xs)/\∀(i:Nat) x e,xs[i]?=some x->es[i]?=some e->jK x e
theorem Sy:∀(l:List EB)(k:Nat)(e:EB),l[k]?=some e->∀j,j<4->(nG l)[k*4+j]?=e.cells[j]?
 |[],_,_,h,_,_=>by simp at h
 |q::r,0,e,h,j,hj=>by
  simp at h;subst h;have e1:nG (q::r)=q.cells.toList++nG r:=by simp[nG]
  rw[e1,fC (by simp[EB.cells];omega)]
  simp
 |q::r,k+1,e,h,j,hj=>by
  have ih:=Sy r k e (by simpa using h) j hj
  have e1:nG (q::r)=q.cells.toList++nG r:=by simp[nG]
  rw[e1,n9 (by simp[EB.cells];omega)]
  have e2:(k+1)*4+j-q.cells.toList.length=k*4+j:=by simp[EB.cells];omega
  rw[e2,ih]
theorem Hc{w:World}{v:Value}{l:List Ed}(h:iW w v l):∃so cap,v=.slice so l.length cap:=by
 obtain⟨xs,_,h,_⟩:=h;rcases h.2 with⟨hv,h0⟩|⟨b,cap,cur,hv,_⟩
 ·exact⟨none,0,by rw[hv,h0]⟩
 ·exact⟨_,cap,hv⟩
theorem Hd{w:World}{so:Option Addr}{n cap:Nat}{l:List Ed}(h:iW w (.slice so n cap) l){k:Nat}{e:Ed}(he:l[k]?=some e):
  ∃b x,so=some ⟨b,0,none⟩/\b<w.heap.size/\jK x e/\w.cell? ⟨b,k*4,none⟩=some (.complex .f64 x.wa x.wb)/\w.cell? ⟨b,k*4+1,none⟩=some (.float .f64 x.sh)/\w.cell? ⟨b,k*4+2,none⟩=some (.complex .f64 x.fa x.fb)/\w.cell? ⟨b,k*4+3,none⟩=some (.complex .f64 x.ta x.tb):=by
 obtain⟨xs,hl,ho,hr⟩:=h;have hk:k<xs.length:=by rw[hl];exact(bZ.1 he).1
 obtain⟨x,hx⟩:∃x,xs[k]?=some x:=⟨_,aC hk⟩;have g:=Sy xs k x hx;obtain⟨b,c,hv,hb,hc⟩:=GZ ho (g 0 (by omega))
 injection hv with hv;exact⟨b,x,hv,hb,hr k x e hx he,hc _ _ (g 0 (by omega)),hc _ _ (g 1 (by omega)),hc _ _ (g 2 (by omega)),hc _ _ (g 3 (by omega))⟩
theorem ac3(a b:Int):Int.gcd b (a.tmod b)=Int.gcd a b:=by
 unfold Int.gcd;rw[Int.natAbs_tmod];exact acX _ _
theorem CG(x y:Int)(w:World)(hx: -1000000000000<=x/\x<=1000000000000)(hy: -1000000000000<=y/\y<=1000000000000):
  Calls Tryz.prog 65 #[.int .i64 x,.int .i64 y] w fun e w'=>e=.returned (.int .i64 (Int.gcd x y:Int))/\Below w.heap.size w w':=by
 generalize hG:Int.gcd x y=G;have HG:Hid (Int.gcd x y=G):=hG;clear hG
 go_enter Tryz.func65,Tryz.ntmps65
 go_wp2_with fail
 go_loopg [0,1] y.natAbs (fun m av bv wr=>∃a b:Int,av=.int .i64 a/\bv=.int .i64 b/\m=b.natAbs/\Int.gcd a b=G/\(-1000000000000<=a/\a<=1000000000000)/\(-1000000000000<=b/\b<=1000000000000)/\Hid (Below w.heap.size w wr))
 case atStart=>exact⟨x,y,rfl,rfl,rfl,HG.out,hx,hy,Below.refl _ _⟩
 case round=>
  obtain⟨a,b,rfl,rfl,rfl,hg,ha,hb,HB⟩:=hrel;clear HG;by_cases hz:b=0
  ·subst hz;have hv:(G:Int)=max a (-a):=by
    rw[<-hg,Int.gcd_zero_right];omega
   have HV:Hid ((G:Int)=max a (-a)):=hv;clear hg hv;have hw:IntKind.i64.wrap (-a)= -a:=by rw[IntKind.wrap_i64];omega
   go_wp2_with fail
   go_ret
   exact⟨by rw[HV.out];rfl,HB.out⟩
  ·have hgt:=ac3 a b;have hlt:(a.tmod b).natAbs<b.natAbs:=by rw[Int.natAbs_tmod];exact Ky _ (by omega)
   have cI:Hid (Int.gcd b (a.tmod b)=G/\(-1000000000000<=a.tmod b/\a.tmod b<=1000000000000)):=⟨hgt.trans hg,by omega⟩
   have hbz:¬b=0:=hz;clear hg hgt;generalize hR:a.tmod b=R at*
   go_wp2_with fail
   go_region_held3 (fun _=>True) (trivial) (fail)
   go_wp2_with fail
   go_roundg R.natAbs
   case measure=>omega
   case rel=>exact⟨b,R,rfl,rfl,rfl,cI.out.1,hb,cI.out.2,HB.out.drew⟩
theorem ac4{a b:Nat}{x y:Int}(D:Int)(h1:Fl a x)(h2:Fl b y)(hx: -16000000<=x/\x<=16000000)(hy: -16000000<=y/\y<=16000000)(hD:0<D/\D<=300000)(G:Nat)(hG:Int.gcd (Int.gcd x y:Nat) D=G)(w:World):
  Calls Tryz.prog 37 #[.complex .f64 a b,.int .i64 D] w fun e w'=>e=.returned (.agg #[.complex .f64 (floatOfInt .f64 (x.tdiv G)) (floatOfInt .f64 (y.tdiv G)),.int .i64 (D.tdiv G)])/\Below w.heap.size w w':=by
 have CH:0<G:=by rw[<-hG];exact ue (by omega)
 have ac5:Int.gcd x y<=16000000:=by
  by_cases hz:x=0
  ·rw[hz,Int.gcd_zero_left];omega
  ·have:=ams (b:=y) hz;omega
 have hGD:G<=300000:=by
  have:=amt (a:=(Int.gcd x y:Nat)) (b:=D) (by omega)
  omega
 have c1:=h1.int (by omega) (by omega)
 have c2:=h2.int (by omega) (by omega)
 have hc1:∀w,(convert 120 3 (.float .f64 a)).run Tryz.prog w=.ok (.int .i64 x) w:=fun w=>run_convert_float_int w 120 3 .f64 .i64 a x (by rw[Tryz.underlying120];rfl) Tryz.underlying3 c1
 have hc2:∀w,(convert 120 3 (.float .f64 b)).run Tryz.prog w=.ok (.int .i64 y) w:=fun w=>run_convert_float_int w 120 3 .f64 .i64 b y (by rw[Tryz.underlying120];rfl) Tryz.underlying3 c2
 have LM:Hid (∀w1,Calls Tryz.prog 65 #[.int .i64 x,.int .i64 y] w1 fun e w'=>e=.returned (.int .i64 (Int.gcd x y:Nat))/\Below w1.heap.size w1 w'):=fun w1=>CG x y w1 (by omega) (by omega)
 have LN:Hid (∀w1,Calls Tryz.prog 65 #[.int .i64 (Int.gcd x y:Nat),.int .i64 D] w1 fun e w'=>e=.returned (.int .i64 (G:Int))/\Below w1.heap.size w1 w'):=fun w1=>by rw[<-hG];exact CG _ D w1 (by omega) (by omega)
 obtain⟨XQ,xz⟩:∃q,q=x.tdiv (G:Int):=⟨_,rfl⟩;obtain⟨YQ,xA⟩:∃q,q=y.tdiv (G:Int):=⟨_,rfl⟩;obtain⟨DQ,xB⟩:∃q,q=D.tdiv (G:Int):=⟨_,rfl⟩;rw[<-xz,<-xA,<-xB];have HP:Hid (∀w1,Calls Tryz.prog 38 #[.int .i64 XQ,.int .i64 YQ] w1 fun e w'=>e=.returned (.complex .f64 (floatOfInt .f64 XQ) (floatOfInt .f64 YQ))/\w'=w1):=fun w1=>GU _ _ w1
 have hw1:IntKind.i64.wrap (x.tdiv (G:Int))=XQ:=by rw[xz];exact IntWalk.i64_quo' _ _ ⟨by omega,by omega,by omega⟩
 have hw2:IntKind.i64.wrap (y.tdiv (G:Int))=YQ:=by rw[xA];exact IntWalk.i64_quo' _ _ ⟨by omega,by omega,by omega⟩
 have hw3:IntKind.i64.wrap (D.tdiv (G:Int))=DQ:=by rw[xB];exact IntWalk.i64_quo' _ _ ⟨by omega,by omega,by omega⟩
 have hw4:IntKind.i64.wrap (D/(G:Int))=DQ:=by rw[<-hw3,aa1 (by omega)]
 clear xz xA xB;have Sz:¬G=0:=by omega
 have SA:(0:Int)<G:=by omega
 generalize Int.gcd x y=GXY at*;clear c1 c2 h1 h2 hG;have hE:=heap_alloc_new w (.cells #[.complex .f64 0 0,.int .i64 0] 83);have hb0:Below w.heap.size w (w.alloc (.cells #[.complex .f64 0 0,.int .i64 0] 83)):=(Below.refl _ _).alloc (ay _) _;have hz:w.heap.size<(w.alloc (.cells #[.complex .f64 0 0,.int .i64 0] 83)).heap.size:=by simp
 go_enter Tryz.func37,Tryz.ntmps37
 go_wp2_with (first |(simp only[hc1])|(simp only[hc2]))
 generalize w.alloc (.cells #[.complex .f64 0 0,.int .i64 0] 83)=W at*;generalize hB:w.heap.size=B at*;refine(LM.out _).mono ?_;rintro e w1 ⟨rfl,hb1⟩
 go_wp2_with fail
 refine(LN.out _).mono ?_;rintro e w2 ⟨rfl,hb2⟩;have hs1:=hb1.size;have dC:=(hb2.block _ (show B<w1.heap.size by omega)).trans ((hb1.block _ hz).trans hE)
 have aw:=(hb0.trans (hb1.mono (eJ hz))).trans (hb2.mono (by omega))
 have e0:w2.cell? ⟨B,0,none⟩=some (.complex .f64 0 0):=cell_of dC 0;have e1:w2.cell? ⟨B,1,none⟩=some (.int .i64 0):=cell_of dC 1;have z0:w2.frozen? ⟨B,0,none⟩=false:=bw dC 0;have z1:w2.frozen? ⟨B,1,none⟩=false:=bw dC 1;clear hE dC hb1 hb2 hb0
 go_wp2_with fail
 go_region_held3 (fun w'=>w'.frozen? ⟨B,0,none⟩=false/\w'.frozen? ⟨B,1,none⟩=false) (go_keep) (first
  |(go_at_call 38;refine(HP.out _).mono ?_;rintro e w5 ⟨rfl,rQ⟩;subst rQ)
  |(simp only[fW];go_simp))
 go_wp2_with fail
 refine bodyPost_ret (v:=.agg #[.complex .f64 (floatOfInt .f64 XQ) (floatOfInt .f64 YQ),.int .i64 DQ]) (by simp[results,Tryz.results37,go_sem,e0,e1]) rfl ⟨rfl,?_⟩
 rw[hB];exact((aw.setCell (ay _) _).setCell (ay _) _).drew
namespace Ge
abbrev Fr:=Int×Int
abbrev Qt:=Fr×Fr
def fc(a b:Fr):Int:=(a.1*b.2-b.1*a.2).sign
def pc(p q:Qt):Int:=if fc p.1 q.1=0 then fc p.2 q.2 else fc p.1 q.1
structure CJ(a:Fr):Prop where
 pos:0<a.2
 co:Int.gcd a.1 a.2=1
structure gq(p:Qt):Prop where
 x:CJ p.1
 y:CJ p.2
theorem SB(a b:Fr):fc b a= -fc a b:=by
 unfold fc;rw[<-Qr];congr 1;omega
theorem LO{k m n:Int}(h:Int.gcd k m=1)(hd:k∣m*n):k∣n:=by
 have h1:=amu.2 hd;rw[oa] at h1;exact amu.1 (Nat.Coprime.dvd_of_dvd_mul_left h h1)
theorem LP{a b:Fr}(ha:CJ a)(hb:CJ b)(h:fc a b=0):a=b:=by
 unfold fc at h;have h':a.1*b.2=b.1*a.2:=by have:=uY.1 h;omega
 have d1:a.2∣b.2:=by
  have:a.2∣a.1*b.2:=by rw[h'];exact Int.dvd_mul_left _ _
  exact LO (by rw[aa2];exact ha.co) this
 have d2:b.2∣a.2:=by
  have:b.2∣b.1*a.2:=by rw[<-h'];exact Int.dvd_mul_left _ _
  exact LO (by rw[aa2];exact hb.co) this
 have e2:a.2=b.2:=Int.dvd_antisymm (dS ha.pos) (dS hb.pos) d1 d2;have e1:a.1=b.1:=by
  rw[e2] at h';exact Qp (aaY hb.pos) h'
 exact bX e1 e2
theorem zC(a:Fr):fc a a=0:=by
 unfold fc;rw[show a.1*a.2-a.1*a.2=0 by omega]
 rfl
theorem SC(z:Int):(z.sign= -1/\z<0)\/(z.sign=0/\z=0)\/(z.sign=1/\0<z):=by
 rcases eK z 0 with h|h|h
 ·exact ag ⟨Fy h,h⟩
 ·exact ah (ag ⟨by rw[h];rfl,h⟩)
 ·exact ah (ah ⟨pq h,h⟩)
theorem SD{a b:Fr}:fc a b<0↔a.1*b.2<b.1*a.2:=by
 unfold fc;have:=SC (a.1*b.2-b.1*a.2);omega
theorem SE{a b:Fr}:fc a b=0↔a.1*b.2=b.1*a.2:=by
 unfold fc;have:=SC (a.1*b.2-b.1*a.2);omega
theorem vJ{a b c d e f:Int}(hb:0<b)(hd:0<d)(hf:0<f)(h1:a*d<c*b)(h2:c*f<=e*d):a*f<e*b:=by
 have k1:a*d*f<c*b*f:=Qo h1 hf;have k2:c*f*b<=e*d*b:=amv h2 (dS hb);have k3:d*(a*f)<d*(e*b):=by
  have e1:d*(a*f)=a*d*f:=by ac_rfl
  have e2:d*(e*b)=e*d*b:=by ac_rfl
  have e3:c*b*f=c*f*b:=by ac_rfl
  rw[e1,e2];omega
 exact amw k3 (dS hd)
theorem LQ{a b c d e f:Int}(hb:0<b)(hd:0<d)(hf:0<f)(h1:a*d<=c*b)(h2:c*f<e*d):a*f<e*b:=by
 have k1:a*d*f<=c*b*f:=amv h1 (dS hf);have k2:c*f*b<e*d*b:=Qo h2 hb;have k3:d*(a*f)<d*(e*b):=by
  have e1:d*(a*f)=a*d*f:=by ac_rfl
  have e2:d*(e*b)=e*d*b:=by ac_rfl
  have e3:c*b*f=c*f*b:=by ac_rfl
  rw[e1,e2];omega
 exact amw k3 (dS hd)
theorem LS{a b c d e f:Int}(hd:0<d)(h1:a*d=c*b)(h2:c*f=e*d):a*f=e*b:=by
 have k3:d*(a*f)=d*(e*b):=by
  have e1:d*(a*f)=a*d*f:=by ac_rfl
  have e2:d*(e*b)=e*d*b:=by ac_rfl
  have e3:c*b*f=c*f*b:=by ac_rfl
  rw[e1,e2,h1,e3,h2]
 exact yZ (aaY hd) k3
def lt(p q:Qt):Prop:=pc p q<0
theorem ac8{p q:Qt}:pc p q<0↔fc p.1 q.1<0\/(fc p.1 q.1=0/\fc p.2 q.2<0):=by
 unfold pc;split<;>omega
theorem He(p q:Qt):pc q p= -pc p q:=by
 unfold pc;rw[SB p.1 q.1,SB p.2 q.2];split<;>split<;>omega
theorem ac9{p q:Qt}(hp:gq p)(hq:gq q)(h:pc p q=0):p=q:=by
 unfold pc at h;split at h
 ·rename_i h1
  exact bX (LP hp.x hq.x h1) (LP hp.y hq.y h)
 ·rename_i h1;exact absurd h h1
theorem xC(p:Qt):pc p p=0:=by
 unfold pc;rw[zC,aj rfl,zC]
theorem lt_trans{p q r:Qt}(hp:gq p)(hq:gq q)(hr:gq r)(h1:lt p q)(h2:lt q r):lt p r:=by
 unfold lt at*;rw[ac8] at*;rw[SD,SE,SD] at*;rcases h1 with h1|⟨h1,h1'⟩
 ·rcases h2 with h2|⟨h2,_⟩
  ·exact ag (vJ hp.x.pos hq.x.pos hr.x.pos h1 (dS h2))
  ·exact ag (vJ hp.x.pos hq.x.pos hr.x.pos h1 (Kz h2))
 ·rcases h2 with h2|⟨h2,h2'⟩
  ·exact ag (LQ hp.x.pos hq.x.pos hr.x.pos (Kz h1) h2)
  ·exact ah ⟨LS hq.x.pos h1 h2,vJ hp.y.pos hq.y.pos hr.y.pos h1' (dS h2')⟩
theorem lt_irrefl(p:Qt):¬lt p p:=by unfold lt;rw[xC];decide
def rR(l:List Qt):Prop:=l.Pairwise lt
def ins(p:Qt):List Qt->List Qt
 |[]=>[p]
 |q::l=>if pc q p=0 then q::l else if pc q p<0 then q::ins p l else p::q::l
theorem rS{p:Qt}(hp:gq p):∀{l:List Qt},(∀q∈l,gq q)->∀r,r∈ins p l↔r=p\/r∈l
 |[],_,r=>by simp[ins]
 |q::l,hl,r=>by
  unfold ins;split
  ·rename_i h
   have e:=ac9 (hl q (by simp)) hp h
   subst e;simp
  ·split
   ·have ih:=rS hp (l:=l) (fun x hx=>hl x (by simp[hx])) r
    simp only[aP,ih];constructor
    ·rintro(h|h|h)
     ·exact ah (ag h)
     ·exact ag h
     ·exact ah (ah h)
    ·rintro(h|h|h)
     ·exact ah (ag h)
     ·exact ag h
     ·exact ah (ah h)
   ·simp
theorem vK{p:Qt}(hp:gq p){l:List Qt}(hl:∀q∈l,gq q):∀q∈ins p l,gq q:=fun q hq=>by
 rcases(rS hp hl q).1 hq with h|h
 ·rw[h];exact hp
 ·exact hl q h
theorem SF{p:Qt}(hp:gq p):∀{l:List Qt},(∀q∈l,gq q)->rR l->rR (ins p l)
 |[],_,_=>by simp[ins,rR]
 |q::l,hl,ha=>by
  have ha':=fK.1 ha;unfold ins;split
  ·exact ha
  ·split
   ·rename_i _ h
    refine fK.2 ⟨fun r hr=>?_,SF hp (fun x hx=>hl x (by simp[hx])) ha'.2⟩
    rcases(rS hp (fun x hx=>hl x (by simp[hx])) r).1 hr with e|e
    ·rw[e];exact h
    ·exact ha'.1 r e
   ·rename_i h0 h1
    have kL:lt p q:=by unfold lt;have:=He q p;omega
    refine fK.2 ⟨fun r hr=>?_,ha⟩
    rcases aP.1 hr with e|e
    ·rw[e];exact kL
    ·exact lt_trans hp (hl q (by simp)) (hl r (by simp[e])) kL (ha'.1 r e)
theorem SH:∀{a b:List Qt},(∀q∈a,gq q)->(∀q∈b,gq q)->rR a->rR b->(∀q,q∈a↔q∈b)->a=b
 |[],[],_,_,_,_,_=>rfl
 |[],q::l,_,_,_,_,h=>by have:=(h q).2 (by simp);simp at this
 |q::l,[],_,_,_,_,h=>by have:=(h q).1 (by simp);simp at this
 |p::a,q::b,ra,rb,ha,hb,h=>by
  have ha':=fK.1 ha;have hb':=fK.1 hb;have e:p=q:=by
   rcases aP.1 ((h p).1 (by simp)) with e|e
   ·exact e
   ·rcases aP.1 ((h q).2 (by simp)) with e'|e'
    ·exact e'.symm
    ·have h1:=hb'.1 p e;have h2:=ha'.1 q e';exact absurd (lt_trans (ra p (by simp)) (rb q (by simp)) (ra p (by simp)) h2 h1) (lt_irrefl p)
  subst e;congr 1;refine SH (fun x hx=>ra x (by simp[hx])) (fun x hx=>rb x (by simp[hx])) ha'.2 hb'.2 fun r=>?_
  constructor
  ·intro hr;rcases aP.1 ((h r).1 (by simp[hr])) with e|e
   ·exact absurd (ha'.1 r hr) (by rw[e];exact lt_irrefl p)
   ·exact e
  ·intro hr;rcases aP.1 ((h r).2 (by simp[hr])) with e|e
   ·exact absurd (hb'.1 r hr) (by rw[e];exact lt_irrefl p)
   ·exact e
end Ge
namespace Ge
def aW(n d:Int):Fr:=if d<0 then(CE (-n) (-d),xy (-n) (-d)) else(CE n d,xy n d)
theorem SJ{n d g:Int}{a b:Int}(hg:(Int.gcd n d:Int)=g)(hp:0<g)(h1:n=g*a)(h2:d=g*b):Int.gcd a b=1:=by
 have e:Int.gcd (g*a) (g*b)=g.natAbs*Int.gcd a b:=aa3 ..;rw[<-h1,<-h2] at e;have e2:(Int.gcd n d)=g.natAbs:=by omega
 rw[e2] at e;have hpos:0<g.natAbs:=by omega
 have e3:g.natAbs*1=g.natAbs*Int.gcd a b:=by rw[Nat.mul_one];exact e
 exact(amx hpos e3).symm
theorem zD{n d:Int}(hd:d≠0):CJ (aW n d):=by
 unfold aW;split
 ·rename_i h
  exact⟨Sn (by omega),SJ rfl (by have:=ue (n:= -n) (d:= -d) (by omega);omega) (GY (-n) (-d)) (CF (-n) (-d))⟩
 ·exact⟨Sn (by omega),SJ rfl (by have:=ue (n:=n) hd;omega) (GY n d) (CF n d)⟩
theorem xD{n d:Int}(hd:d≠0):∃g,g≠0/\n=g*(aW n d).1/\d=g*(aW n d).2/\(0<g↔0<d):=by
 unfold aW;split
 ·rename_i h
  have hg:=ue (n:= -n) (d:= -d) (by omega)
  have e1:=GY (-n) (-d);have e2:=CF (-n) (-d);refine⟨-(Int.gcd (-n) (-d):Int),by omega,?_,?_,by omega⟩
  ·simp only;rw[iC,<-e1];omega
  ·simp only;rw[iC,<-e2];omega
 ·have hg:=ue (n:=n) hd;exact⟨_,by omega,GY n d,CF n d,by omega⟩
theorem Hf(n:Int):aW n 1=(n,1):=by
 unfold aW;rw[af (by decide)]
 unfold CE xy;rw[Qs];simp
theorem zE{n d m e:Int}(hd:d≠0)(he:e≠0)(h:n*e=m*d):aW n d=aW m e:=by
 obtain⟨g,g0,h1,h2,_⟩:=xD (n:=n) hd;obtain⟨k,k0,h3,h4,_⟩:=xD (n:=m) he;refine LP (zD hd) (zD he) (SE.2 ?_);have e1:g*(aW n d).1*(k*(aW m e).2)=k*(aW m e).1*(g*(aW n d).2):=by rw[<-h1,<-h2,<-h3,<-h4];exact h
 have e2:(g*k)*((aW n d).1*(aW m e).2)=(g*k)*((aW m e).1*(aW n d).2):=by
  calc (g*k)*((aW n d).1*(aW m e).2)=g*(aW n d).1*(k*(aW m e).2):=by ac_rfl
   _=k*(aW m e).1*(g*(aW n d).2):=e1
   _=(g*k)*((aW m e).1*(aW n d).2):=by ac_rfl
 exact yZ (aa4 g0 k0) e2
end Ge
theorem ada(l:List UInt8)(c:UInt8):Pl.rI (l++[c])=10*Pl.rI l+(c.toNat-48):=by simp[Pl.rI]
end Go.Proofs.YtkjhhooecopolaaGreatDoor
