import Derived.Test.YtkjhhooecopolaaGreatDoorZz06
set_option maxRecDepth 100000
set_option maxHeartbeats 4000000
namespace Go.Proofs.YtkjhhooecopolaaGreatDoor
open Go.RowKit
theorem Bf(xb:EB)(ed:Ed){na nb:Nat}{X Y D:Int}(hx:iH xb ed)(hs:dU ed)(g1:Fl na X)(g2:Fl nb Y)(hn:cP X Y D)(w:World):
  Calls Tryz.prog 62 #[.agg xb.cells,.agg #[.complex .f64 na nb,.int .i64 D]] w fun e w'=>e=.returned (.bool (Ge.fo (X,Y) D ed))/\Below w.heap.size w w':=by
 have sX:sm X:=by have:=hn.x;unfold sm;omega
 have sY:sm Y:=by have:=hn.y;unfold sm;omega
 have sD:sm D:=by have:=hn.d;unfold sm;omega
 have s1:sm (ed.2.1-ed.1.1):=by have:=hs.a;have:=hs.c;unfold small at*;unfold sm;omega
 have s2:sm (ed.2.2-ed.1.2):=by have:=hs.b;have:=hs.d;unfold small at*;unfold sm;omega
 obtain⟨r,fr,hL⟩:=Kt hx.wa hx.wb hx.sh g1 g2 s1 s2 (Fk hs) sD sX sY;obtain⟨u1,u2,QS,QT,hU⟩:=QQ (D:=D) g1 g2 hx.fa hx.fb (uB hs.a) (uB hs.b) sD sX sY;obtain⟨v1,v2,QU,QV,hV⟩:=QQ (D:=D) g1 g2 hx.ta hx.tb (uB hs.c) (uB hs.d) sD sX sY;obtain⟨re,im,Kz,_,hT⟩:=Ks QS QT QU QV (Fj hn.x hn.d hs.a) (Fj hn.y hn.d hs.b) (Fj hn.x hn.d hs.c) (Fj hn.y hn.d hs.d);have HL:Hid (∀w,Calls Tryz.prog 97 #[.agg #[.complex .f64 xb.wa xb.wb,.float .f64 xb.sh],.agg #[.complex .f64 na nb,.int .i64 D]] w fun e w'=>e=.returned (.float .f64 r)/\Below w.heap.size w w'):=hL
 have HU:Hid (∀w,Calls Tryz.prog 99 #[.agg #[.complex .f64 na nb,.int .i64 D],.complex .f64 xb.fa xb.fb] w fun e w'=>e=.returned (.complex .f64 u1 u2)/\Below w.heap.size w w'):=hU
 have HV:Hid (∀w,Calls Tryz.prog 99 #[.agg #[.complex .f64 na nb,.int .i64 D],.complex .f64 xb.ta xb.tb] w fun e w'=>e=.returned (.complex .f64 v1 v2)/\Below w.heap.size w w'):=hV
 have HT:Hid (∀w,Calls Tryz.prog 98 #[.complex .f64 u1 u2,.complex .f64 v1 v2] w fun e w'=>e=.returned (.complex .f64 re im)/\w'=w):=hT
 have q1:=qG fr jU;have q2:(FloatKind.f64.format.order re 0 == some .lt||FloatKind.f64.format.order re 0 == some .eq)=decide ((X-ed.1.1*D)*(X-ed.2.1*D)+(Y-ed.1.2*D)*(Y-ed.2.2*D)<=0):=by
  rw[yu Kz jU,qG Kz jU,<-Bool.decide_or];exact decide_eq_decide.2 (by omega)
 have hfo:=abu X Y D ed hn.d.1;unfold lf at hfo;rw[<-q1,<-q2] at hfo;rw[<-hfo];clear hfo q1 q2 hL hU hV hT fr Kz QS QT QU QV hx hs hn g1 g2 sX sY sD s1 s2;obtain⟨wa,wb,sh,fa,fb,ta,tb⟩:=xb;simp only[EB.cells] at*;generalize hO1:(FloatKind.f64.format.order r 0 == some Ordering.eq)=B1 at*;have hE:((w.alloc (.cells #[.complex .f64 wa wb,.float .f64 sh,.complex .f64 fa fb,.complex .f64 ta tb] 124)).alloc (.cells #[.complex .f64 na nb,.int .i64 D] 83)).heap[w.heap.size]?=some (.cells #[.complex .f64 wa wb,.float .f64 sh,.complex .f64 fa fb,.complex .f64 ta tb] 124 (0,0)):=by
  rw[Below.heap_alloc _ _ _ (by simp)];exact heap_alloc_new _ _
 have hP:((w.alloc (.cells #[.complex .f64 wa wb,.float .f64 sh,.complex .f64 fa fb,.complex .f64 ta tb] 124)).alloc (.cells #[.complex .f64 na nb,.int .i64 D] 83)).heap[w.heap.size+1]?=some (.cells #[.complex .f64 na nb,.int .i64 D] 83 (0,0)):=by
  have:=heap_alloc_new (w.alloc (.cells #[.complex .f64 wa wb,.float .f64 sh,.complex .f64 fa fb,.complex .f64 ta tb] 124)) (.cells #[.complex .f64 na nb,.int .i64 D] 83);simpa using this
 have hb0:Below w.heap.size w ((w.alloc (.cells #[.complex .f64 wa wb,.float .f64 sh,.complex .f64 fa fb,.complex .f64 ta tb] 124)).alloc (.cells #[.complex .f64 na nb,.int .i64 D] 83)):=((Below.refl _ _).alloc (ax _) _).alloc (by simp) _
 have hsz:w.heap.size+2=((w.alloc (.cells #[.complex .f64 wa wb,.float .f64 sh,.complex .f64 fa fb,.complex .f64 ta tb] 124)).alloc (.cells #[.complex .f64 na nb,.int .i64 D] 83)).heap.size:=by simp
 go_enter Tryz.func62,Tryz.ntmps62
 go_wp2_with fail
 generalize(w.alloc (.cells #[.complex .f64 wa wb,.float .f64 sh,.complex .f64 fa fb,.complex .f64 ta tb] 124)).alloc (.cells #[.complex .f64 na nb,.int .i64 D] 83)=W at*;generalize hB:w.heap.size=B at*;have cH:B<W.heap.size:=by omega
 have hzb:B+1<W.heap.size:=by omega
 have z0:W.cell? ⟨B,0,none⟩=some (.complex .f64 wa wb):=cell_of hE 0;have z1:W.cell? ⟨B,1,none⟩=some (.float .f64 sh):=cell_of hE 1;have z2:W.cell? ⟨B,2,none⟩=some (.complex .f64 fa fb):=cell_of hE 2;have z3:W.cell? ⟨B,3,none⟩=some (.complex .f64 ta tb):=cell_of hE 3;have z4:W.cell? ⟨B+1,0,none⟩=some (.complex .f64 na nb):=cell_of hP 0;have z5:W.cell? ⟨B+1,1,none⟩=some (.int .i64 D):=cell_of hP 1;cases B1
 ·refine wp_region_held_drew (S:=(fun w'=>w'.cell? ⟨B,0,none⟩=some (.complex .f64 wa wb)/\w'.cell? ⟨B,1,none⟩=some (.float .f64 sh)/\w'.cell? ⟨B,2,none⟩=some (.complex .f64 fa fb)/\w'.cell? ⟨B,3,none⟩=some (.complex .f64 ta tb)/\w'.cell? ⟨B+1,0,none⟩=some (.complex .f64 na nb)/\w'.cell? ⟨B+1,1,none⟩=some (.int .i64 D))) (by kernel_rfl) ⟨z0,z1,z2,z3,z4,z5⟩ (fun hHeld=>?_)
  refine wpAnyH_take (i:=0) (oi:={dst:=some 5,op:=_,type:=_,pos:=_,after:=_,guard:=_}) (v:=?_) rfl (by kernel_rfl) (by kernel_rfl) (by kernel_rfl) (fun _ _ _ h=>h) (ae ⟨by rfl,?_⟩) hHeld ?_
  rotate_left
  ·intro w' aA;obtain⟨s0,s1,s2,s3,s4,s5⟩:=aA
   go_simp
   try with_reducible rfl
  simp only[Act.put,aH,aI,aG];refine wpAnyH_take (i:=1) (oi:={dst:=some 6,op:=_,type:=_,pos:=_,after:=_,guard:=_}) (v:=?_) rfl (by kernel_rfl) (by kernel_rfl) (by kernel_rfl) (fun _ _ _ h=>h) (ae ⟨by rfl,?_⟩) hHeld ?_
  rotate_left
  ·intro w' aA;obtain⟨s0,s1,s2,s3,s4,s5⟩:=aA
   go_simp
   try with_reducible rfl
  simp only[Act.put,aH,aI,aG];refine wpAnyH_take (i:=2) (oi:={dst:=some 7,op:=_,type:=_,pos:=_,after:=_,guard:=_}) (v:=?_) rfl (by kernel_rfl) (by kernel_rfl) (by kernel_rfl) (fun _ _ _ h=>h) (ae ⟨by rfl,?_⟩) hHeld ?_
  rotate_left
  ·intro w' aA;obtain⟨s0,s1,s2,s3,s4,s5⟩:=aA
   go_simp
   try with_reducible rfl
  simp only[Act.put,aH,aI,aG];refine wpAnyH_ready (rs:=[3]) (by kernel_rfl) (by simp) ?_
  refine AllReadyH.cons rfl (fun K hK=>?_) AllReadyH.nil
  go_simp
  refine(HL.out _).mono ?_;rintro e w5 ⟨rfl,az⟩;have kL:B<w5.heap.size:=aZ cH az.size;have hlb:B+1<w5.heap.size:=aZ hzb az.size;have l0:=(az.cell (p:=⟨B,0,none⟩) cH).trans z0;have l1:=(az.cell (p:=⟨B,1,none⟩) cH).trans z1;have l2:=(az.cell (p:=⟨B,2,none⟩) cH).trans z2;have l3:=(az.cell (p:=⟨B,3,none⟩) cH).trans z3;have l4:=(az.cell (p:=⟨B+1,0,none⟩) hzb).trans z4;have l5:=(az.cell (p:=⟨B+1,1,none⟩) hzb).trans z5
  go_wp2_with fail
  refine hK.out _ _ ⟨l0,l1,l2,l3,l4,l5⟩ (fun hHeld=>?_)
  clear hK K
  try simp only[Act.put,aH,aI,aG]
  refine wpAnyH_take (i:=4) (oi:={dst:=some 9,op:=_,type:=_,pos:=_,after:=_,guard:=_}) (v:=?_) rfl (by kernel_rfl) (by kernel_rfl) (by kernel_rfl) (fun _ _ _ h=>h) (ae ⟨by rfl,?_⟩) hHeld ?_
  rotate_left
  ·intro w' aA;obtain⟨s0,s1,s2,s3,s4,s5⟩:=aA
   go_simp
   try with_reducible rfl
  simp only[Act.put,aH,aI,aG];refine wpAnyH_take (i:=5) (oi:={dst:=some 10,op:=_,type:=_,pos:=_,after:=_,guard:=_}) (v:=?_) rfl (by kernel_rfl) (by kernel_rfl) (by kernel_rfl) (fun _ _ _ h=>h) (ae ⟨by rfl,?_⟩) hHeld ?_
  rotate_left
  ·intro w' aA;obtain⟨s0,s1,s2,s3,s4,s5⟩:=aA
   go_simp
   try with_reducible rfl
  simp only[Act.put,aH,aI,aG];refine wpAnyH_take (i:=6) (oi:={dst:=some 11,op:=_,type:=_,pos:=_,after:=_,guard:=_}) (v:=undef) rfl (by kernel_rfl) (by kernel_rfl) (by kernel_rfl) (fun _ _ _ h=>h) (af ⟨by kernel_rfl,rfl⟩) hHeld ?_
  simp only[Act.put,aH,aI,aG];refine wpAnyH_take (i:=7) (oi:={dst:=some 12,op:=_,type:=_,pos:=_,after:=_,guard:=_}) (v:=undef) rfl (by kernel_rfl) (by kernel_rfl) (by kernel_rfl) (fun _ _ _ h=>h) (af ⟨by kernel_rfl,rfl⟩) hHeld ?_
  simp only[Act.put,aH,aI,aG];refine wpAnyH_take (i:=8) (oi:={dst:=some 13,op:=_,type:=_,pos:=_,after:=_,guard:=_}) (v:=undef) rfl (by kernel_rfl) (by kernel_rfl) (by kernel_rfl) (fun _ _ _ h=>h) (af ⟨by kernel_rfl,rfl⟩) hHeld ?_
  simp only[Act.put,aH,aI,aG];refine wpAnyH_take (i:=9) (oi:={dst:=some 14,op:=_,type:=_,pos:=_,after:=_,guard:=_}) (v:=undef) rfl (by kernel_rfl) (by kernel_rfl) (by kernel_rfl) (fun _ _ _ h=>h) (af ⟨by kernel_rfl,rfl⟩) hHeld ?_
  simp only[Act.put,aH,aI,aG];refine wpAnyH_take (i:=10) (oi:={dst:=some 15,op:=_,type:=_,pos:=_,after:=_,guard:=_}) (v:=undef) rfl (by kernel_rfl) (by kernel_rfl) (by kernel_rfl) (fun _ _ _ h=>h) (af ⟨by kernel_rfl,rfl⟩) hHeld ?_
  simp only[Act.put,aH,aI,aG];refine wpAnyH_take (i:=11) (oi:={dst:=some 16,op:=_,type:=_,pos:=_,after:=_,guard:=_}) (v:=undef) rfl (by kernel_rfl) (by kernel_rfl) (by kernel_rfl) (fun _ _ _ h=>h) (af ⟨by kernel_rfl,rfl⟩) hHeld ?_
  simp only[Act.put,aH,aI,aG];refine wpAnyH_take (i:=12) (oi:={dst:=some 17,op:=_,type:=_,pos:=_,after:=_,guard:=_}) (v:=undef) rfl (by kernel_rfl) (by kernel_rfl) (by kernel_rfl) (fun _ _ _ h=>h) (af ⟨by kernel_rfl,rfl⟩) hHeld ?_
  simp only[Act.put,aH,aI,aG];refine wpAnyH_take (i:=13) (oi:={dst:=some 18,op:=_,type:=_,pos:=_,after:=_,guard:=_}) (v:=undef) rfl (by kernel_rfl) (by kernel_rfl) (by kernel_rfl) (fun _ _ _ h=>h) (af ⟨by kernel_rfl,rfl⟩) hHeld ?_
  simp only[Act.put,aH,aI,aG];refine wpAnyH_take (i:=14) (oi:={dst:=some 19,op:=_,type:=_,pos:=_,after:=_,guard:=_}) (v:=undef) rfl (by kernel_rfl) (by kernel_rfl) (by kernel_rfl) (fun _ _ _ h=>h) (af ⟨by kernel_rfl,rfl⟩) hHeld ?_
  simp only[Act.put,aH,aI,aG];refine wpAnyH_take (i:=15) (oi:={dst:=some 20,op:=_,type:=_,pos:=_,after:=_,guard:=_}) (v:=undef) rfl (by kernel_rfl) (by kernel_rfl) (by kernel_rfl) (fun _ _ _ h=>h) (af ⟨by kernel_rfl,rfl⟩) hHeld ?_
  simp only[Act.put,aH,aI,aG];refine wpAnyH_take (i:=16) (oi:={dst:=some 21,op:=_,type:=_,pos:=_,after:=_,guard:=_}) (v:=undef) rfl (by kernel_rfl) (by kernel_rfl) (by kernel_rfl) (fun _ _ _ h=>h) (af ⟨by kernel_rfl,rfl⟩) hHeld ?_
  simp only[Act.put,aH,aI,aG];refine wpAnyH_take (i:=17) (oi:={dst:=some 22,op:=_,type:=_,pos:=_,after:=_,guard:=_}) (v:=?_) rfl (by kernel_rfl) (by kernel_rfl) (by kernel_rfl) (fun _ _ _ h=>h) (ae ⟨by rfl,?_⟩) hHeld ?_
  rotate_left
  ·intro w' aA;obtain⟨s0,s1,s2,s3,s4,s5⟩:=aA
   go_simp
   try with_reducible rfl
  simp only[Act.put,aH,aI,aG];refine wpAnyH_take (i:=18) (oi:={dst:=some 4,op:=_,type:=_,pos:=_,after:=_,guard:=_}) (v:=?_) rfl (by kernel_rfl) (by kernel_rfl) (by kernel_rfl) (fun _ _ _ h=>h) (ae ⟨by rfl,?_⟩) hHeld ?_
  rotate_left
  ·intro w' aA;obtain⟨s0,s1,s2,s3,s4,s5⟩:=aA
   go_simp
   try with_reducible rfl
  simp only[Act.put,aH,aI,aG];refine wpAnyH_done (by kernel_rfl) ?_ _
  go_wp2_with fail
  go_ret
  exact⟨rfl,by rw[hB];exact hb0.drew.trans (az.mono (dN cH))⟩
 ·go_region_held3 (fun w'=>w'.cell? ⟨B,0,none⟩=some (.complex .f64 wa wb)/\w'.cell? ⟨B,1,none⟩=some (.float .f64 sh)/\w'.cell? ⟨B,2,none⟩=some (.complex .f64 fa fb)/\w'.cell? ⟨B,3,none⟩=some (.complex .f64 ta tb)/\w'.cell? ⟨B+1,0,none⟩=some (.complex .f64 na nb)/\w'.cell? ⟨B+1,1,none⟩=some (.int .i64 D)) (go_keep) (first
   |(go_at_call 97;refine(HL.out _).mono ?_;rintro e w5 ⟨rfl,az⟩;have kL:B<w5.heap.size:=aZ cH az.size;have hlb:B+1<w5.heap.size:=aZ hzb az.size;have l0:=(az.cell (p:=⟨B,0,none⟩) cH).trans z0;have l1:=(az.cell (p:=⟨B,1,none⟩) cH).trans z1;have l2:=(az.cell (p:=⟨B,2,none⟩) cH).trans z2;have l3:=(az.cell (p:=⟨B,3,none⟩) cH).trans z3;have l4:=(az.cell (p:=⟨B+1,0,none⟩) hzb).trans z4;have l5:=(az.cell (p:=⟨B+1,1,none⟩) hzb).trans z5)
   |(go_at_call_of 99 (Value.complex FloatKind.f64 fa fb);refine(HU.out _).mono ?_;rintro e w6 ⟨rfl,aC⟩;have iy:B<w6.heap.size:=aZ kL aC.size;have jV:B+1<w6.heap.size:=aZ hlb aC.size;have u0:=(aC.cell (p:=⟨B,0,none⟩) kL).trans l0;have u1:=(aC.cell (p:=⟨B,1,none⟩) kL).trans l1;have u2:=(aC.cell (p:=⟨B,2,none⟩) kL).trans l2;have u3:=(aC.cell (p:=⟨B,3,none⟩) kL).trans l3;have u4:=(aC.cell (p:=⟨B+1,0,none⟩) hlb).trans l4;have u5:=(aC.cell (p:=⟨B+1,1,none⟩) hlb).trans l5)
   |(go_at_call_of 99 (Value.complex FloatKind.f64 ta tb);refine(HV.out _).mono ?_;rintro e w7 ⟨rfl,aQ⟩;have og:B<w7.heap.size:=aZ iy aQ.size;have hvb:B+1<w7.heap.size:=aZ jV aQ.size;have v0:=(aQ.cell (p:=⟨B,0,none⟩) iy).trans u0;have v1:=(aQ.cell (p:=⟨B,1,none⟩) iy).trans u1;have v2:=(aQ.cell (p:=⟨B,2,none⟩) iy).trans u2;have v3:=(aQ.cell (p:=⟨B,3,none⟩) iy).trans u3;have v4:=(aQ.cell (p:=⟨B+1,0,none⟩) jV).trans u4;have v5:=(aQ.cell (p:=⟨B+1,1,none⟩) jV).trans u5)
   |(go_at_call 98;refine(HT.out _).mono ?_;rintro e w8 ⟨rfl,po⟩;subst po))
  go_wp2_with fail
  go_ret
  refine⟨vW (by simp),?_⟩
  rw[hB];exact((hb0.drew.trans (az.mono (dN cH))).trans (aC.mono (dN kL))).trans (aQ.mono (dN iy))
theorem abw(na nb a b pa pb qa qb:Nat)(D E:Int)(w:World)
  (HA:Hid (∀w,Calls Tryz.prog 152 #[.agg #[.complex .f64 a b,.int .i64 E],.complex .f64 na nb] w fun e w'=>e=.returned (.complex .f64 pa pb)/\Below w.heap.size w w'/\w.drawn<=w'.drawn))
  (HC:Hid (∀w,Calls Tryz.prog 152 #[.agg #[.complex .f64 na nb,.int .i64 D],.complex .f64 a b] w fun e w'=>e=.returned (.complex .f64 qa qb)/\Below w.heap.size w w'/\w.drawn<=w'.drawn)):
  Calls Tryz.prog 100 #[.agg #[.complex .f64 na nb,.int .i64 D],.agg #[.complex .f64 a b,.int .i64 E]] w fun e w'=>e=.returned (.bool (FloatKind.f64.format.order pa qa == some .lt))/\Below w.heap.size w w':=by
 have hE:((w.alloc (.cells #[.complex .f64 na nb,.int .i64 D] 83)).alloc (.cells #[.complex .f64 a b,.int .i64 E] 83)).heap[w.heap.size]?=some (.cells #[.complex .f64 na nb,.int .i64 D] 83 (0,0)):=by
  rw[Below.heap_alloc _ _ _ (by simp)];exact heap_alloc_new _ _
 have hP:((w.alloc (.cells #[.complex .f64 na nb,.int .i64 D] 83)).alloc (.cells #[.complex .f64 a b,.int .i64 E] 83)).heap[w.heap.size+1]?=some (.cells #[.complex .f64 a b,.int .i64 E] 83 (0,0)):=by
  have:=heap_alloc_new (w.alloc (.cells #[.complex .f64 na nb,.int .i64 D] 83)) (.cells #[.complex .f64 a b,.int .i64 E] 83);simpa using this
 have hb0:Below w.heap.size w ((w.alloc (.cells #[.complex .f64 na nb,.int .i64 D] 83)).alloc (.cells #[.complex .f64 a b,.int .i64 E] 83)):=((Below.refl _ _).alloc (ax _) _).alloc (by simp) _
 have hsz:w.heap.size+2=((w.alloc (.cells #[.complex .f64 na nb,.int .i64 D] 83)).alloc (.cells #[.complex .f64 a b,.int .i64 E] 83)).heap.size:=by simp
 go_enter Tryz.func100,Tryz.ntmps100
 go_wp2_with fail
 generalize(w.alloc (.cells #[.complex .f64 na nb,.int .i64 D] 83)).alloc (.cells #[.complex .f64 a b,.int .i64 E] 83)=W at*;generalize hB:w.heap.size=B at*;have cH:B<W.heap.size:=by omega
 have hzb:B+1<W.heap.size:=by omega
 have z0:W.cell? ⟨B,0,none⟩=some (.complex .f64 na nb):=cell_of hE 0;have z1:W.cell? ⟨B,1,none⟩=some (.int .i64 D):=cell_of hE 1;have z2:W.cell? ⟨B+1,0,none⟩=some (.complex .f64 a b):=cell_of hP 0;have z3:W.cell? ⟨B+1,1,none⟩=some (.int .i64 E):=cell_of hP 1
 go_region_held3 (fun w'=>w'.cell? ⟨B,0,none⟩=some (.complex .f64 na nb)/\w'.cell? ⟨B,1,none⟩=some (.int .i64 D)/\w'.cell? ⟨B+1,0,none⟩=some (.complex .f64 a b)/\w'.cell? ⟨B+1,1,none⟩=some (.int .i64 E)) (go_keep) (first
   |(go_at_call_of 152 (Value.complex FloatKind.f64 na nb);refine(HA.out _).mono ?_;rintro e w6 ⟨rfl,aC,_⟩;have iy:B<w6.heap.size:=aZ cH aC.size;have jV:B+1<w6.heap.size:=aZ hzb aC.size;have u0:=(aC.cell (p:=⟨B,0,none⟩) cH).trans z0;have u1:=(aC.cell (p:=⟨B,1,none⟩) cH).trans z1;have u2:=(aC.cell (p:=⟨B+1,0,none⟩) hzb).trans z2;have u3:=(aC.cell (p:=⟨B+1,1,none⟩) hzb).trans z3)
   |(go_at_call_of 152 (Value.complex FloatKind.f64 a b);refine(HC.out _).mono ?_;rintro e w7 ⟨rfl,aQ,_⟩;have v0:=(aQ.cell (p:=⟨B,0,none⟩) iy).trans u0;have v1:=(aQ.cell (p:=⟨B,1,none⟩) iy).trans u1;have v2:=(aQ.cell (p:=⟨B+1,0,none⟩) jV).trans u2;have v3:=(aQ.cell (p:=⟨B+1,1,none⟩) jV).trans u3))
 all_goals
  have aj:=(hb0.drew.trans (aC.mono (dN cH))).trans (aQ.mono (dN iy));clear aC aQ hb0
  go_wp2_with fail
  go_ret
  exact⟨rfl,by rw[hB];exact aj⟩
theorem Fp{na nb:Nat}{X Y D:Int}{a b:Nat}{x y E:Int}(g1:Fl na X)(g2:Fl nb Y)(h1:Fl a x)(h2:Fl b y)(b1:sm x)(b2:sm y)(bD:sm D)(bE:sm E)(c1:sm X)(c2:sm Y)(w:World):
  Calls Tryz.prog 100 #[.agg #[.complex .f64 na nb,.int .i64 D],.agg #[.complex .f64 a b,.int .i64 E]] w fun e w'=>e=.returned (.bool (decide (X*E<x*D)))/\Below w.heap.size w w':=by
 obtain⟨pa,pb,f1,f2,hs1⟩:=Bb a b E g1 g2 c1 c2 bE;obtain⟨qa,qb,k1,k2,hs2⟩:=Bb na nb D h1 h2 b1 b2 bD;rw[<-yu f1 k1];exact abw na nb a b pa pb qa qb D E w hs1 hs2
theorem QW(xb:EB)(ed:Ed){na nb:Nat}{X Y D:Int}(hx:iH xb ed)(hs:dU ed)(g1:Fl na X)(g2:Fl nb Y)(hn:cP X Y D)(w:World):
  Calls Tryz.prog 63 #[.agg xb.cells,.agg #[.complex .f64 na nb,.int .i64 D]] w fun e w'=>e=.returned (.int .i64 (Ge.fr (X,Y) D ed.1 ed.2))/\Below w.heap.size w w':=by
 have sX:sm X:=by have:=hn.x;unfold sm;omega
 have sY:sm Y:=by have:=hn.y;unfold sm;omega
 have sD:sm D:=by have:=hn.d;unfold sm;omega
 have s1:sm (ed.2.1-ed.1.1):=by have:=hs.a;have:=hs.c;unfold small at*;unfold sm;omega
 have s2:sm (ed.2.2-ed.1.2):=by have:=hs.b;have:=hs.d;unfold small at*;unfold sm;omega
 obtain⟨r,fr,hL⟩:=Kt hx.wa hx.wb hx.sh g1 g2 s1 s2 (Fk hs) sD sX sY;have HL:Hid (∀w,Calls Tryz.prog 97 #[.agg #[.complex .f64 xb.wa xb.wb,.float .f64 xb.sh],.agg #[.complex .f64 na nb,.int .i64 D]] w fun e w'=>e=.returned (.float .f64 r)/\Below w.heap.size w w'):=hL
 have s1':sm 1:=by unfold sm;decide
 have HU:Hid (∀w,Calls Tryz.prog 100 #[.agg #[.complex .f64 na nb,.int .i64 D],.agg #[.complex .f64 xb.fa xb.fb,.int .i64 1]] w fun e w'=>e=.returned (.bool (decide (X*1<ed.1.1*D)))/\Below w.heap.size w w'):=fun w=>Fp g1 g2 hx.fa hx.fb (uB hs.a) (uB hs.b) sD s1' sX sY w
 have HV:Hid (∀w,Calls Tryz.prog 100 #[.agg #[.complex .f64 na nb,.int .i64 D],.agg #[.complex .f64 xb.ta xb.tb,.int .i64 1]] w fun e w'=>e=.returned (.bool (decide (X*1<ed.2.1*D)))/\Below w.heap.size w w'):=fun w=>Fp g1 g2 hx.ta hx.tb (uB hs.c) (uB hs.d) sD s1' sX sY w
 have q1:=Fe fr jU;have q2:=yu fr jU;have gK:=abv X Y D ed hn.d.1;unfold lf at gK;rw[gK];generalize(ed.2.1-ed.1.1)*Y-(ed.2.2-ed.1.2)*X-((ed.2.1-ed.1.1)*ed.1.2-(ed.2.2-ed.1.2)*ed.1.1)*D=L at*;generalize QX:decide (X*1<ed.1.1*D)=FA at*;generalize nJ:decide (X*1<ed.2.1*D)=TA at*;have hval:(if ¬X*1<ed.1.1*D/\X*1<ed.2.1*D/\0<L then(1:Int) else if X*1<ed.1.1*D/\¬X*1<ed.2.1*D/\L<0 then -1 else 0)=(if FA=false/\TA=true/\0<L then 1 else if FA=true/\TA=false/\L<0 then -1 else 0):=by
  rw[<-QX,<-nJ];simp
 rw[hval];clear hval gK hL fr hx hs hn g1 g2 sX sY sD s1 s2 s1' QX nJ;obtain⟨wa,wb,sh,fa,fb,ta,tb⟩:=xb;simp only[EB.cells] at*;have hE:((w.alloc (.cells #[.complex .f64 wa wb,.float .f64 sh,.complex .f64 fa fb,.complex .f64 ta tb] 124)).alloc (.cells #[.complex .f64 na nb,.int .i64 D] 83)).heap[w.heap.size]?=some (.cells #[.complex .f64 wa wb,.float .f64 sh,.complex .f64 fa fb,.complex .f64 ta tb] 124 (0,0)):=by
  rw[Below.heap_alloc _ _ _ (by simp)];exact heap_alloc_new _ _
 have hP:((w.alloc (.cells #[.complex .f64 wa wb,.float .f64 sh,.complex .f64 fa fb,.complex .f64 ta tb] 124)).alloc (.cells #[.complex .f64 na nb,.int .i64 D] 83)).heap[w.heap.size+1]?=some (.cells #[.complex .f64 na nb,.int .i64 D] 83 (0,0)):=by
  have:=heap_alloc_new (w.alloc (.cells #[.complex .f64 wa wb,.float .f64 sh,.complex .f64 fa fb,.complex .f64 ta tb] 124)) (.cells #[.complex .f64 na nb,.int .i64 D] 83);simpa using this
 have hb0:Below w.heap.size w ((w.alloc (.cells #[.complex .f64 wa wb,.float .f64 sh,.complex .f64 fa fb,.complex .f64 ta tb] 124)).alloc (.cells #[.complex .f64 na nb,.int .i64 D] 83)):=((Below.refl _ _).alloc (ax _) _).alloc (by simp) _
 have hsz:w.heap.size+2=((w.alloc (.cells #[.complex .f64 wa wb,.float .f64 sh,.complex .f64 fa fb,.complex .f64 ta tb] 124)).alloc (.cells #[.complex .f64 na nb,.int .i64 D] 83)).heap.size:=by simp
 go_enter Tryz.func63,Tryz.ntmps63
 go_wp2_with fail
 generalize(w.alloc (.cells #[.complex .f64 wa wb,.float .f64 sh,.complex .f64 fa fb,.complex .f64 ta tb] 124)).alloc (.cells #[.complex .f64 na nb,.int .i64 D] 83)=W at*;generalize hB:w.heap.size=B at*;have cH:B<W.heap.size:=by omega
 have hzb:B+1<W.heap.size:=by omega
 have z0:W.cell? ⟨B,0,none⟩=some (.complex .f64 wa wb):=cell_of hE 0;have z1:W.cell? ⟨B,1,none⟩=some (.float .f64 sh):=cell_of hE 1;have z2:W.cell? ⟨B,2,none⟩=some (.complex .f64 fa fb):=cell_of hE 2;have z3:W.cell? ⟨B,3,none⟩=some (.complex .f64 ta tb):=cell_of hE 3;have z4:W.cell? ⟨B+1,0,none⟩=some (.complex .f64 na nb):=cell_of hP 0;have z5:W.cell? ⟨B+1,1,none⟩=some (.int .i64 D):=cell_of hP 1
 go_region_held3 (fun w'=>w'.cell? ⟨B,0,none⟩=some (.complex .f64 wa wb)/\w'.cell? ⟨B,1,none⟩=some (.float .f64 sh)/\w'.cell? ⟨B,2,none⟩=some (.complex .f64 fa fb)/\w'.cell? ⟨B,3,none⟩=some (.complex .f64 ta tb)/\w'.cell? ⟨B+1,0,none⟩=some (.complex .f64 na nb)/\w'.cell? ⟨B+1,1,none⟩=some (.int .i64 D)) (go_keep) (first
   |(go_at_call_of 100 (Value.agg #[Value.complex FloatKind.f64 fa fb,Value.int IntKind.i64 1]);refine(HU.out _).mono ?_;rintro e w6 ⟨rfl,aC⟩;have iy:B<w6.heap.size:=aZ cH aC.size;have jV:B+1<w6.heap.size:=aZ hzb aC.size;have u0:=(aC.cell (p:=⟨B,0,none⟩) cH).trans z0;have u1:=(aC.cell (p:=⟨B,1,none⟩) cH).trans z1;have u2:=(aC.cell (p:=⟨B,2,none⟩) cH).trans z2;have u3:=(aC.cell (p:=⟨B,3,none⟩) cH).trans z3;have u4:=(aC.cell (p:=⟨B+1,0,none⟩) hzb).trans z4;have u5:=(aC.cell (p:=⟨B+1,1,none⟩) hzb).trans z5)
   |(go_at_call_of 100 (Value.agg #[Value.complex FloatKind.f64 ta tb,Value.int IntKind.i64 1]);refine(HV.out _).mono ?_;rintro e w7 ⟨rfl,aQ⟩;have og:B<w7.heap.size:=aZ iy aQ.size;have hvb:B+1<w7.heap.size:=aZ jV aQ.size;have v0:=(aQ.cell (p:=⟨B,0,none⟩) iy).trans u0;have v1:=(aQ.cell (p:=⟨B,1,none⟩) iy).trans u1;have v2:=(aQ.cell (p:=⟨B,2,none⟩) iy).trans u2;have v3:=(aQ.cell (p:=⟨B,3,none⟩) iy).trans u3;have v4:=(aQ.cell (p:=⟨B+1,0,none⟩) jV).trans u4;have v5:=(aQ.cell (p:=⟨B+1,1,none⟩) jV).trans u5))
 have aj:Below w.heap.size w w7:=by
  rw[hB];exact(hb0.drew.trans (aC.mono (dN cH))).trans (aQ.mono (dN iy))
 clear aC aQ hb0;cases FA<;>cases TA
 ·go_wp2_with fail
  go_ret
  exact⟨rfl,by rw[hB] at aj;exact aj⟩
 ·go_wp2_with fail
  refine(HL.out _).mono ?_;rintro e w8 ⟨rfl,mi⟩;have sI:=aj.trans (mi.mono (by rw[hB];exact dN og))
  by_cases hl:0<L
  ·have hq:(FloatKind.f64.format.order r 0 == some Ordering.gt)=true:=by rw[q1];simp[hl]
   clear q1 q2
   go_wp2_with fail
   go_ret
   exact⟨rfl,by rw[hB] at sI;exact sI⟩
  ·have hq:(FloatKind.f64.format.order r 0 == some Ordering.gt)=false:=by rw[q1];simp[hl]
   clear q1 q2
   go_wp2_with fail
   go_ret
   exact⟨rfl,by rw[hB] at sI;exact sI⟩
 ·go_wp2_with fail
  refine(HL.out _).mono ?_;rintro e w8 ⟨rfl,mi⟩;have sI:=aj.trans (mi.mono (by rw[hB];exact dN og))
  by_cases hl:L<0
  ·have hq:(FloatKind.f64.format.order r 0 == some Ordering.lt)=true:=by rw[q2];simp[hl]
   clear q1 q2
   go_wp2_with fail
   go_ret
   exact⟨rfl,by rw[hB] at sI;exact sI⟩
  ·have hq:(FloatKind.f64.format.order r 0 == some Ordering.lt)=false:=by rw[q2];simp[hl]
   clear q1 q2
   go_wp2_with fail
   go_ret
   exact⟨rfl,by rw[hB] at sI;exact sI⟩
 ·go_wp2_with fail
  go_ret
  exact⟨rfl,by rw[hB] at aj;exact aj⟩
def mj(l:List EB):List Value:=l.flatMap fun x=>x.cells.toList
def fG(w:World)(v:Value)(es:List Ed):Prop:=
 ∃xs:List EB,xs.length=es.length/\w.ownsRow 0 124 4 v es.length (mj xs)/\∀(i:Nat) x e,xs[i]?=some x->es[i]?=some e->iH x e
theorem QY:∀(l:List EB)(k:Nat)(e:EB),l[k]?=some e->∀j,j<4->(mj l)[k*4+j]?=e.cells[j]?
 |[],_,_,h,_,_=>by simp at h
 |q::r,0,e,h,j,hj=>by
  simp at h;subst h;have e1:mj (q::r)=q.cells.toList++mj r:=by simp[mj]
  rw[e1,eG (by simp[EB.cells];omega)]
  simp
 |q::r,k+1,e,h,j,hj=>by
  have ih:=QY r k e (by simpa using h) j hj
  have e1:mj (q::r)=q.cells.toList++mj r:=by simp[mj]
  rw[e1,mW (by simp[EB.cells];omega)]
  have e2:(k+1)*4+j-q.cells.toList.length=k*4+j:=by simp[EB.cells];omega
  rw[e2,ih]
theorem Bg{w:World}{v:Value}{l:List Ed}(h:fG w v l):∃so cap,v=.slice so l.length cap:=by
 obtain⟨xs,_,h,_⟩:=h;rcases h.2 with⟨hv,h0⟩|⟨b,cap,cur,hv,_⟩
 ·exact⟨none,0,by rw[hv,h0]⟩
 ·exact⟨_,cap,hv⟩
theorem Bh{w:World}{so:Option Addr}{n cap:Nat}{l:List Ed}(h:fG w (.slice so n cap) l){k:Nat}{e:Ed}(he:l[k]?=some e):
  ∃b x,so=some ⟨b,0,none⟩/\b<w.heap.size/\iH x e/\w.cell? ⟨b,k*4,none⟩=some (.complex .f64 x.wa x.wb)/\w.cell? ⟨b,k*4+1,none⟩=some (.float .f64 x.sh)/\w.cell? ⟨b,k*4+2,none⟩=some (.complex .f64 x.fa x.fb)/\w.cell? ⟨b,k*4+3,none⟩=some (.complex .f64 x.ta x.tb):=by
 obtain⟨xs,hl,ho,hr⟩:=h;have hk:k<xs.length:=by rw[hl];exact(bU.1 he).1
 obtain⟨x,hx⟩:∃x,xs[k]?=some x:=⟨_,aD hk⟩;have g:=QY xs k x hx;obtain⟨b,c,hv,hb,hc⟩:=Fg ho (g 0 (by omega))
 injection hv with hv;exact⟨b,x,hv,hb,hr k x e hx he,hc _ _ (g 0 (by omega)),hc _ _ (g 1 (by omega)),hc _ _ (g 2 (by omega)),hc _ _ (g 3 (by omega))⟩
theorem abx(es:List Ed)(v:Value){na nb:Nat}{X Y D:Int}(w:World)(hR:fG w v es)(hl:es.length<=65000000)(hs:∀e∈es,dU e)(g1:Fl na X)(g2:Fl nb Y)(hn:cP X Y D):
  Calls Tryz.prog 35 #[v,.agg #[.complex .f64 na nb,.int .i64 D]] w fun e w'=>e=.returned (if es.any (Ge.fo (X,Y) D) then .tuple #[.int .i64 0,.bool true] else .tuple #[.int .i64 (Ge.total (Ge.fr (X,Y) D) es),.bool false])/\Below w.heap.size w w':=by
 obtain⟨so,cap,rfl⟩:=Bg hR;have HR:Hid (fG w (.slice so es.length cap) es):=hR;have HH:Hid (∀(x:EB)(e:Ed),iH x e->e∈es->∀w1,Calls Tryz.prog 62 #[.agg #[.complex .f64 x.wa x.wb,.float .f64 x.sh,.complex .f64 x.fa x.fb,.complex .f64 x.ta x.tb],.agg #[.complex .f64 na nb,.int .i64 D]] w1 fun e' w'=>e'=.returned (.bool (Ge.fo (X,Y) D e))/\Below w1.heap.size w1 w'):=fun x e hx he w1=>Bf x e hx (hs e he) g1 g2 hn w1
 have HP:Hid (∀(x:EB)(e:Ed),iH x e->e∈es->∀w1,Calls Tryz.prog 63 #[.agg #[.complex .f64 x.wa x.wb,.float .f64 x.sh,.complex .f64 x.fa x.fb,.complex .f64 x.ta x.tb],.agg #[.complex .f64 na nb,.int .i64 D]] w1 fun e' w'=>e'=.returned (.int .i64 (Ge.fr (X,Y) D e.1 e.2))/\Below w1.heap.size w1 w'):=fun x e hx he w1=>QW x e hx (hs e he) g1 g2 hn w1
 have HT:Hid (∀k:Nat, -(k:Int)<=Ge.total (Ge.fr (X,Y) D) (es.take k)/\Ge.total (Ge.fr (X,Y) D) (es.take k)<=(k:Int)):=fun k=>by
  have h:=Fh (Ge.fr (X,Y) D) (Fi _ _) (es.take k);have h2:(es.take k).length<=k:=by simp;omega
  omega
 clear hR hs g1 g2 hn;have hb0:Below w.heap.size w (w.alloc (.cells #[.complex .f64 na nb,.int .i64 D] 83)):=(Below.refl _ _).alloc (ax _) _;have uC:=heap_alloc_new w (.cells #[.complex .f64 na nb,.int .i64 D] 83);have pq:Hid (Below w.heap.size w (w.alloc (.cells #[.complex .f64 na nb,.int .i64 D] 83))/\(w.alloc (.cells #[.complex .f64 na nb,.int .i64 D] 83)).heap[w.heap.size]?=some (.cells #[.complex .f64 na nb,.int .i64 D] 83 (0,0))):=⟨hb0,uC⟩;clear hb0 uC
 go_enter Tryz.func35,Tryz.ntmps35
 go_wp2_with fail
 go_loopg [6,11] es.length (fun n tv iv wr=>∃k:Nat,k+n=es.length/\iv=.int .i64 k/\tv=.int .i64 (Ge.total (Ge.fr (X,Y) D) (es.take k))/\Hid ((∀e∈es.take k,Ge.fo (X,Y) D e=false)/\Below w.heap.size w wr/\w.heap.size<wr.heap.size/\wr.heap[w.heap.size]?=some (.cells #[.complex .f64 na nb,.int .i64 D] 83 (0,0))))
 case atStart=>exact⟨0,by omega,rfl,rfl,by simp,pq.out.1,by simp,pq.out.2⟩
 case round=>
  obtain⟨k,hkn,rfl,rfl,HB⟩:=hrel;obtain⟨hno,aj,hwz,pA⟩:=HB.out;have Fq:Hid (∀e∈es.take k,Ge.fo (X,Y) D e=false):=hno;have QZ:=HT.out k;clear pq HB hno;by_cases hlt:k<es.length
  ·obtain⟨e,kP⟩:∃e,es[k]?=some e:=⟨_,aD hlt⟩;obtain⟨b,x,rfl,hb,hok,c0,c1,c2,c3⟩:=Bh HR.out kP;have r0:=(aj.cell (p:=⟨b,k*4,none⟩) hb).trans c0;have r1:=(aj.cell (p:=⟨b,k*4+1,none⟩) hb).trans c1;have r2:=(aj.cell (p:=⟨b,k*4+2,none⟩) hb).trans c2;have r3:=(aj.cell (p:=⟨b,k*4+3,none⟩) hb).trans c3;have p0:wr.cell? ⟨w.heap.size,0,none⟩=some (.complex .f64 na nb):=cell_of pA 0;have p1:wr.cell? ⟨w.heap.size,1,none⟩=some (.int .i64 D):=cell_of pA 1;have hbr:b<wr.heap.size:=aZ hb aj.size;have ez:(k:Int)<(es.length:Int):=by omega
   have hmem:=bh kP;have kf:Hid (Ge.total (Ge.fr (X,Y) D) (es.take (k+1))=Ge.total (Ge.fr (X,Y) D) (es.take k)+Ge.fr (X,Y) D e.1 e.2):=Kw _ kP;have pB:Hid (∀w1,Calls Tryz.prog 62 #[.agg #[.complex .f64 x.wa x.wb,.float .f64 x.sh,.complex .f64 x.fa x.fb,.complex .f64 x.ta x.tb],.agg #[.complex .f64 na nb,.int .i64 D]] w1 fun e' w'=>e'=.returned (.bool (Ge.fo (X,Y) D e))/\Below w1.heap.size w1 w'):=HH.out x e hok hmem
   have Bi:Hid (∀w1,Calls Tryz.prog 63 #[.agg #[.complex .f64 x.wa x.wb,.float .f64 x.sh,.complex .f64 x.fa x.fb,.complex .f64 x.ta x.tb],.agg #[.complex .f64 na nb,.int .i64 D]] w1 fun e' w'=>e'=.returned (.int .i64 (Ge.fr (X,Y) D e.1 e.2))/\Below w1.heap.size w1 w'):=HP.out x e hok hmem
   have hfin:=Fi (X,Y) D e.1 e.2;have HEK:Hid (es[k]?=some e):=kP;obtain⟨wa,wb,sh,fa,fb,ta,tb⟩:=x;simp only at r0 r1 r2 r3 pB Bi;generalize Ge.total (Ge.fr (X,Y) D) (es.take k)=T at*;generalize Ge.fr (X,Y) D e.1 e.2=FR at*;clear c0 c1 c2 c3 kP HR HH HP hok;have wj:Below w.heap.size w (wr.alloc (.cells #[.complex .f64 wa wb,.float .f64 sh,.complex .f64 fa fb,.complex .f64 ta tb] 124)):=aj.alloc aj.size _;have mn:=heap_alloc_new wr (.cells #[.complex .f64 wa wb,.float .f64 sh,.complex .f64 fa fb,.complex .f64 ta tb] 124);have uC:(wr.alloc (.cells #[.complex .f64 wa wb,.float .f64 sh,.complex .f64 fa fb,.complex .f64 ta tb] 124)).heap[w.heap.size]?=some (.cells #[.complex .f64 na nb,.int .i64 D] 83 (0,0)):=by
    rw[Below.heap_alloc _ _ _ hwz];exact pA
   have hsz:wr.heap.size+1=(wr.alloc (.cells #[.complex .f64 wa wb,.float .f64 sh,.complex .f64 fa fb,.complex .f64 ta tb] 124)).heap.size:=by simp
   cases hfo:Ge.fo (X,Y) D e
   ·rw[hfo] at pB;have HN:Hid (∀e∈es.take (k+1),Ge.fo (X,Y) D e=false):=fun e' he'=>by
     obtain⟨h1,h2⟩:=bU.1 HEK.out;rw[rT h1,h2] at he';rcases bT.1 he' with h|h
     ·exact Fq.out e' h
     ·rw[bI.1 h];exact hfo
    clear hfo hmem
    go_wp2_with (simp only[eK,lO];go_simp)
    generalize wr.alloc (.cells #[.complex .f64 wa wb,.float .f64 sh,.complex .f64 fa fb,.complex .f64 ta tb] 124)=w0 at*;generalize hEe:wr.heap.size=E at*;clear r0 r1 r2 r3 p0 p1;refine(pB.out _).mono ?_;rintro e' w1 ⟨rfl,hb1⟩;have jl:=(hb1.block _ (show E<w0.heap.size by omega)).trans mn
    have Fs:=(hb1.block _ (show w.heap.size<w0.heap.size by omega)).trans uC
    have akK:=hb1.size;have yw:=wj.trans (hb1.mono (by omega))
    have e0:w1.cell? ⟨E,0,none⟩=some (.complex .f64 wa wb):=cell_of jl 0;have e1:w1.cell? ⟨E,1,none⟩=some (.float .f64 sh):=cell_of jl 1;have e2:w1.cell? ⟨E,2,none⟩=some (.complex .f64 fa fb):=cell_of jl 2;have e3:w1.cell? ⟨E,3,none⟩=some (.complex .f64 ta tb):=cell_of jl 3;have q0:w1.cell? ⟨w.heap.size,0,none⟩=some (.complex .f64 na nb):=cell_of Fs 0;have q1:w1.cell? ⟨w.heap.size,1,none⟩=some (.int .i64 D):=cell_of Fs 1
    go_wp2_with fail
    refine(Bi.out _).mono ?_;rintro e' w2 ⟨rfl,hb2⟩;have Fu:=(hb2.block _ (show w.heap.size<w1.heap.size by omega)).trans Fs
    have abA:=hb2.size;have hL2:=yw.trans (hb2.mono (by omega))
    clear mn jl uC Fs hb1 hb2 wj yw pA
    go_wp2_with fail
    go_roundg (gk-1)
    case measure=>omega
    case rel=>exact⟨k+1,by omega,by go_num,by rw[kf.out],HN.out,hL2,by omega,Fu⟩
   ·rw[hfo] at pB;have HA:Hid (es.any (Ge.fo (X,Y) D)=true):=Ag.2 ⟨e,hmem,hfo⟩;clear hfo hmem
    go_wp2_with (simp only[eK,lO];go_simp)
    generalize wr.alloc (.cells #[.complex .f64 wa wb,.float .f64 sh,.complex .f64 fa fb,.complex .f64 ta tb] 124)=w0 at*;refine(pB.out _).mono ?_;rintro e' w1 ⟨rfl,hb1⟩;have yw:=wj.trans (hb1.mono (by have:=wj.size;omega))
    go_wp2_with fail
    refine bodyPost_ret (v:=.tuple #[.int .i64 0,.bool true]) (by simp[results,Tryz.results35,go_sem]) rfl ⟨?_,yw⟩
    first
     |rfl
     |rw[ah HA.out]
  ·have hk:k=es.length:=by omega
   subst hk;rw[fg];have HA:Hid (¬es.any (Ge.fo (X,Y) D)=true):=fun h=>by
    obtain⟨e,h1,h2⟩:=Ag.1 h;rw[Fq.out e (by rw[fg];exact h1)] at h2;cases h2
   clear HR HH HP HT
   go_wp2_with fail
   refine bodyPost_ret (v:=.tuple #[.int .i64 (Ge.total (Ge.fr (X,Y) D) es),.bool false]) (by simp[results,Tryz.results35,go_sem]) rfl ⟨?_,aj⟩
   first
    |rfl
    |rw[aa HA.out]
theorem abB(a b:Int):Int.gcd b (a.tmod b)=Int.gcd a b:=by
 unfold Int.gcd;rw[Int.natAbs_tmod];exact abr _ _
theorem Bj(x y:Int)(w:World)(hx: -1000000000000<=x/\x<=1000000000000)(hy: -1000000000000<=y/\y<=1000000000000):
  Calls Tryz.prog 65 #[.int .i64 x,.int .i64 y] w fun e w'=>e=.returned (.int .i64 (Int.gcd x y:Int))/\Below w.heap.size w w':=by
 generalize hG:Int.gcd x y=G;have HG:Hid (Int.gcd x y=G):=hG;clear hG
 go_enter Tryz.func65,Tryz.ntmps65
 go_wp2_with fail
 go_loopg [0,1] y.natAbs (fun m av bv wr=>∃a b:Int,av=.int .i64 a/\bv=.int .i64 b/\m=b.natAbs/\Int.gcd a b=G/\(-1000000000000<=a/\a<=1000000000000)/\(-1000000000000<=b/\b<=1000000000000)/\Hid (Below w.heap.size w wr))
 case atStart=>exact⟨x,y,rfl,rfl,rfl,HG.out,hx,hy,Below.refl _ _⟩
 case round=>
  obtain⟨a,b,rfl,rfl,rfl,hg,ha,hb,HB⟩:=hrel;clear HG;by_cases hz:b=0
  ·subst hz;have hv:(G:Int)=max a (-a):=by
    rw[<-hg,Int.gcd_zero_right];omega
   have HV:Hid ((G:Int)=max a (-a)):=hv;clear hg hv;have hw:IntKind.i64.wrap (-a)= -a:=by rw[IntKind.wrap_i64];omega
   go_wp2_with fail
   go_ret
   exact⟨by rw[HV.out];rfl,HB.out⟩
  ·have hgt:=abB a b;have hlt:(a.tmod b).natAbs<b.natAbs:=by rw[Int.natAbs_tmod];exact Ji _ (by omega)
   have bW:Hid (Int.gcd b (a.tmod b)=G/\(-1000000000000<=a.tmod b/\a.tmod b<=1000000000000)):=⟨hgt.trans hg,by omega⟩
   have hbz:¬b=0:=hz;clear hg hgt;generalize hR:a.tmod b=R at*
   go_wp2_with fail
   go_region_held3 (fun _=>True) (trivial) (fail)
   go_wp2_with fail
   go_roundg R.natAbs
   case measure=>omega
   case rel=>exact⟨b,R,rfl,rfl,rfl,bW.out.1,hb,bW.out.2,HB.out.drew⟩
theorem Q0{a b:Nat}{x y:Int}(D:Int)(h1:Fl a x)(h2:Fl b y)(hx: -16000000<=x/\x<=16000000)(hy: -16000000<=y/\y<=16000000)(hD:0<D/\D<=300000)(G:Nat)(hG:Int.gcd (Int.gcd x y:Nat) D=G)(w:World):
  Calls Tryz.prog 37 #[.complex .f64 a b,.int .i64 D] w fun e w'=>e=.returned (.agg #[.complex .f64 (floatOfInt .f64 (x.tdiv G)) (floatOfInt .f64 (y.tdiv G)),.int .i64 (D.tdiv G)])/\Below w.heap.size w w':=by
 have sJ:0<G:=by rw[<-hG];exact qI (by omega)
 have abC:Int.gcd x y<=16000000:=by
  by_cases hz:x=0
  ·rw[hz,Int.gcd_zero_left];omega
  ·have:=aki (b:=y) hz;omega
 have hGD:G<=300000:=by
  have:=akj (a:=(Int.gcd x y:Nat)) (b:=D) (by omega)
  omega
 have c1:=h1.int (by omega) (by omega)
 have c2:=h2.int (by omega) (by omega)
 have hc1:∀w,(convert 120 3 (.float .f64 a)).run Tryz.prog w=.ok (.int .i64 x) w:=fun w=>run_convert_float_int w 120 3 .f64 .i64 a x (by rw[Tryz.underlying120];rfl) Tryz.underlying3 c1
 have hc2:∀w,(convert 120 3 (.float .f64 b)).run Tryz.prog w=.ok (.int .i64 y) w:=fun w=>run_convert_float_int w 120 3 .f64 .i64 b y (by rw[Tryz.underlying120];rfl) Tryz.underlying3 c2
 have KC:Hid (∀w1,Calls Tryz.prog 65 #[.int .i64 x,.int .i64 y] w1 fun e w'=>e=.returned (.int .i64 (Int.gcd x y:Nat))/\Below w1.heap.size w1 w'):=fun w1=>Bj x y w1 (by omega) (by omega)
 have KD:Hid (∀w1,Calls Tryz.prog 65 #[.int .i64 (Int.gcd x y:Nat),.int .i64 D] w1 fun e w'=>e=.returned (.int .i64 (G:Int))/\Below w1.heap.size w1 w'):=fun w1=>by rw[<-hG];exact Bj _ D w1 (by omega) (by omega)
 obtain⟨XQ,wm⟩:∃q,q=x.tdiv (G:Int):=⟨_,rfl⟩;obtain⟨YQ,wo⟩:∃q,q=y.tdiv (G:Int):=⟨_,rfl⟩;obtain⟨DQ,wq⟩:∃q,q=D.tdiv (G:Int):=⟨_,rfl⟩;rw[<-wm,<-wo,<-wq];have HP:Hid (∀w1,Calls Tryz.prog 38 #[.int .i64 XQ,.int .i64 YQ] w1 fun e w'=>e=.returned (.complex .f64 (floatOfInt .f64 XQ) (floatOfInt .f64 YQ))/\w'=w1):=fun w1=>AY _ _ w1
 have hw1:IntKind.i64.wrap (x.tdiv (G:Int))=XQ:=by rw[wm];exact IntWalk.i64_quo' _ _ ⟨by omega,by omega,by omega⟩
 have hw2:IntKind.i64.wrap (y.tdiv (G:Int))=YQ:=by rw[wo];exact IntWalk.i64_quo' _ _ ⟨by omega,by omega,by omega⟩
 have hw3:IntKind.i64.wrap (D.tdiv (G:Int))=DQ:=by rw[wq];exact IntWalk.i64_quo' _ _ ⟨by omega,by omega,by omega⟩
 have hw4:IntKind.i64.wrap (D/(G:Int))=DQ:=by rw[<-hw3,Zp (by omega)]
 clear wm wo wq;have Q3:¬G=0:=by omega
 have Q4:(0:Int)<G:=by omega
 generalize Int.gcd x y=GXY at*;clear c1 c2 h1 h2 hG;have hE:=heap_alloc_new w (.cells #[.complex .f64 0 0,.int .i64 0] 83);have hb0:Below w.heap.size w (w.alloc (.cells #[.complex .f64 0 0,.int .i64 0] 83)):=(Below.refl _ _).alloc (ax _) _;have hz:w.heap.size<(w.alloc (.cells #[.complex .f64 0 0,.int .i64 0] 83)).heap.size:=by simp
 go_enter Tryz.func37,Tryz.ntmps37
 go_wp2_with (first |(simp only[hc1])|(simp only[hc2]))
 generalize w.alloc (.cells #[.complex .f64 0 0,.int .i64 0] 83)=W at*;generalize hB:w.heap.size=B at*;refine(KC.out _).mono ?_;rintro e w1 ⟨rfl,hb1⟩
 go_wp2_with fail
 refine(KD.out _).mono ?_;rintro e w2 ⟨rfl,hb2⟩;have hs1:=hb1.size;have df:=(hb2.block _ (show B<w1.heap.size by omega)).trans ((hb1.block _ hz).trans hE)
 have aj:=(hb0.trans (hb1.mono (dN hz))).trans (hb2.mono (by omega))
 have e0:w2.cell? ⟨B,0,none⟩=some (.complex .f64 0 0):=cell_of df 0;have e1:w2.cell? ⟨B,1,none⟩=some (.int .i64 0):=cell_of df 1;have z0:w2.frozen? ⟨B,0,none⟩=false:=aX df 0;have z1:w2.frozen? ⟨B,1,none⟩=false:=aX df 1;clear hE df hb1 hb2 hb0
 go_wp2_with fail
 go_region_held3 (fun w'=>w'.frozen? ⟨B,0,none⟩=false/\w'.frozen? ⟨B,1,none⟩=false) (go_keep) (first
  |(go_at_call 38;refine(HP.out _).mono ?_;rintro e w5 ⟨rfl,qH⟩;subst qH)
  |(simp only[eK];go_simp))
 go_wp2_with fail
 refine bodyPost_ret (v:=.agg #[.complex .f64 (floatOfInt .f64 XQ) (floatOfInt .f64 YQ),.int .i64 DQ]) (by simp[results,Tryz.results37,go_sem,e0,e1]) rfl ⟨rfl,?_⟩
 rw[hB];exact((aj.setCell (ax _) _).setCell (ax _) _).drew
end Go.Proofs.YtkjhhooecopolaaGreatDoor
