import Derived.Test.YtkjhhooecopolaaGreatDoorYz06
set_option maxRecDepth 100000
set_option maxHeartbeats 4000000
namespace Go.Proofs.YtkjhhooecopolaaGreatDoor
open Go.RowKit
theorem Dp(xb:EB)(ed:Ed){na nb:Nat}{X Y D:Int}(hx:jc xb ed)(hs:fB ed)(g1:Fl na X)(g2:Fl nb Y)(hn:dC X Y D)(w:World):
  Calls Tryz.prog 62 #[.agg xb.cells,.agg #[.complex .f64 na nb,.int .i64 D]] w fun e w'=>e=.returned (.bool (Ge.fo (X,Y) D ed))/\Below w.heap.size w w':=by
 have sX:sm X:=by have:=hn.x;unfold sm;omega
 have sY:sm Y:=by have:=hn.y;unfold sm;omega
 have sD:sm D:=by have:=hn.d;unfold sm;omega
 have s1:sm (ed.2.1-ed.1.1):=by have:=hs.a;have:=hs.c;unfold small at*;unfold sm;omega
 have s2:sm (ed.2.2-ed.1.2):=by have:=hs.b;have:=hs.d;unfold small at*;unfold sm;omega
 obtain⟨r,fr,hL⟩:=Mv hx.wa hx.wb hx.sh g1 g2 s1 s2 (Hx hs) sD sX sY;obtain⟨u1,u2,TY,TZ,hU⟩:=TV (D:=D) g1 g2 hx.fa hx.fb (wM hs.a) (wM hs.b) sD sX sY;obtain⟨v1,v2,T7,T8,hV⟩:=TV (D:=D) g1 g2 hx.ta hx.tb (wM hs.c) (wM hs.d) sD sX sY;obtain⟨re,im,MA,_,hT⟩:=Mu TY TZ T7 T8 (Hw hn.x hn.d hs.a) (Hw hn.y hn.d hs.b) (Hw hn.x hn.d hs.c) (Hw hn.y hn.d hs.d);have HL:Hid (∀w,Calls Tryz.prog 97 #[.agg #[.complex .f64 xb.wa xb.wb,.float .f64 xb.sh],.agg #[.complex .f64 na nb,.int .i64 D]] w fun e w'=>e=.returned (.float .f64 r)/\Below w.heap.size w w'):=hL
 have HU:Hid (∀w,Calls Tryz.prog 99 #[.agg #[.complex .f64 na nb,.int .i64 D],.complex .f64 xb.fa xb.fb] w fun e w'=>e=.returned (.complex .f64 u1 u2)/\Below w.heap.size w w'):=hU
 have HV:Hid (∀w,Calls Tryz.prog 99 #[.agg #[.complex .f64 na nb,.int .i64 D],.complex .f64 xb.ta xb.tb] w fun e w'=>e=.returned (.complex .f64 v1 v2)/\Below w.heap.size w w'):=hV
 have HT:Hid (∀w,Calls Tryz.prog 98 #[.complex .f64 u1 u2,.complex .f64 v1 v2] w fun e w'=>e=.returned (.complex .f64 re im)/\w'=w):=hT
 have q1:=sG fr kO;have q2:(FloatKind.f64.format.order re 0 == some .lt||FloatKind.f64.format.order re 0 == some .eq)=decide ((X-ed.1.1*D)*(X-ed.2.1*D)+(Y-ed.1.2*D)*(Y-ed.2.2*D)<=0):=by
  rw[Aq MA kO,sG MA kO,<-Bool.decide_or];exact decide_eq_decide.2 (by omega)
 have hfo:=aeu X Y D ed hn.d.1;unfold lf at hfo;rw[<-q1,<-q2] at hfo;rw[<-hfo];clear hfo q1 q2 hL hU hV hT fr MA TY TZ T7 T8 hx hs hn g1 g2 sX sY sD s1 s2;obtain⟨wa,wb,sh,fa,fb,ta,tb⟩:=xb;simp only[EB.cells] at*;generalize MB:(FloatKind.f64.format.order r 0 == some Ordering.eq)=B1 at*;have hE:((w.alloc (.cells #[.complex .f64 wa wb,.float .f64 sh,.complex .f64 fa fb,.complex .f64 ta tb] 124)).alloc (.cells #[.complex .f64 na nb,.int .i64 D] 83)).heap[w.heap.size]?=some (.cells #[.complex .f64 wa wb,.float .f64 sh,.complex .f64 fa fb,.complex .f64 ta tb] 124 (0,0)):=by
  rw[Below.heap_alloc _ _ _ (by simp)];exact heap_alloc_new _ _
 have hP:((w.alloc (.cells #[.complex .f64 wa wb,.float .f64 sh,.complex .f64 fa fb,.complex .f64 ta tb] 124)).alloc (.cells #[.complex .f64 na nb,.int .i64 D] 83)).heap[w.heap.size+1]?=some (.cells #[.complex .f64 na nb,.int .i64 D] 83 (0,0)):=by
  have:=heap_alloc_new (w.alloc (.cells #[.complex .f64 wa wb,.float .f64 sh,.complex .f64 fa fb,.complex .f64 ta tb] 124)) (.cells #[.complex .f64 na nb,.int .i64 D] 83);simpa using this
 have hb0:Below w.heap.size w ((w.alloc (.cells #[.complex .f64 wa wb,.float .f64 sh,.complex .f64 fa fb,.complex .f64 ta tb] 124)).alloc (.cells #[.complex .f64 na nb,.int .i64 D] 83)):=((Below.refl _ _).alloc (ai _) _).alloc (by simp) _
 have hsz:w.heap.size+2=((w.alloc (.cells #[.complex .f64 wa wb,.float .f64 sh,.complex .f64 fa fb,.complex .f64 ta tb] 124)).alloc (.cells #[.complex .f64 na nb,.int .i64 D] 83)).heap.size:=by simp
 go_enter Tryz.func62,Tryz.ntmps62
 go_wp2_with fail
 generalize(w.alloc (.cells #[.complex .f64 wa wb,.float .f64 sh,.complex .f64 fa fb,.complex .f64 ta tb] 124)).alloc (.cells #[.complex .f64 na nb,.int .i64 D] 83)=W at*;generalize hB:w.heap.size=B at*;have cQ:B<W.heap.size:=by omega
 have hzb:B+1<W.heap.size:=by omega
 have z0:W.cell? ⟨B,0,none⟩=some (.complex .f64 wa wb):=cell_of hE 0;have z1:W.cell? ⟨B,1,none⟩=some (.float .f64 sh):=cell_of hE 1;have z2:W.cell? ⟨B,2,none⟩=some (.complex .f64 fa fb):=cell_of hE 2;have z3:W.cell? ⟨B,3,none⟩=some (.complex .f64 ta tb):=cell_of hE 3;have z4:W.cell? ⟨B+1,0,none⟩=some (.complex .f64 na nb):=cell_of hP 0;have z5:W.cell? ⟨B+1,1,none⟩=some (.int .i64 D):=cell_of hP 1;cases B1
 ·refine wp_region_held_drew (S:=(fun w'=>w'.cell? ⟨B,0,none⟩=some (.complex .f64 wa wb)/\w'.cell? ⟨B,1,none⟩=some (.float .f64 sh)/\w'.cell? ⟨B,2,none⟩=some (.complex .f64 fa fb)/\w'.cell? ⟨B,3,none⟩=some (.complex .f64 ta tb)/\w'.cell? ⟨B+1,0,none⟩=some (.complex .f64 na nb)/\w'.cell? ⟨B+1,1,none⟩=some (.int .i64 D))) (by kernel_rfl) ⟨z0,z1,z2,z3,z4,z5⟩ (fun hHeld=>?_)
  refine wpAnyH_take (i:=0) (oi:={dst:=some 5,op:=_,type:=_,pos:=_,after:=_,guard:=_}) (v:=?_) rfl (by kernel_rfl) (by kernel_rfl) (by kernel_rfl) (fun _ _ _ h=>h) (ae ⟨by rfl,?_⟩) hHeld ?_
  rotate_left
  ·intro w' aB;obtain⟨s0,s1,s2,s3,s4,s5⟩:=aB
   go_simp
   try with_reducible rfl
  simp only[Act.put,aI,aJ,aG];refine wpAnyH_take (i:=1) (oi:={dst:=some 6,op:=_,type:=_,pos:=_,after:=_,guard:=_}) (v:=?_) rfl (by kernel_rfl) (by kernel_rfl) (by kernel_rfl) (fun _ _ _ h=>h) (ae ⟨by rfl,?_⟩) hHeld ?_
  rotate_left
  ·intro w' aB;obtain⟨s0,s1,s2,s3,s4,s5⟩:=aB
   go_simp
   try with_reducible rfl
  simp only[Act.put,aI,aJ,aG];refine wpAnyH_take (i:=2) (oi:={dst:=some 7,op:=_,type:=_,pos:=_,after:=_,guard:=_}) (v:=?_) rfl (by kernel_rfl) (by kernel_rfl) (by kernel_rfl) (fun _ _ _ h=>h) (ae ⟨by rfl,?_⟩) hHeld ?_
  rotate_left
  ·intro w' aB;obtain⟨s0,s1,s2,s3,s4,s5⟩:=aB
   go_simp
   try with_reducible rfl
  simp only[Act.put,aI,aJ,aG];refine wpAnyH_ready (rs:=[3]) (by kernel_rfl) (by simp) ?_
  refine AllReadyH.cons rfl (fun K hK=>?_) AllReadyH.nil
  go_simp
  refine(HL.out _).mono ?_;rintro e w5 ⟨rfl,ax⟩;have mg:B<w5.heap.size:=aQ cQ ax.size;have hlb:B+1<w5.heap.size:=aQ hzb ax.size;have l0:=(ax.cell (p:=⟨B,0,none⟩) cQ).trans z0;have l1:=(ax.cell (p:=⟨B,1,none⟩) cQ).trans z1;have l2:=(ax.cell (p:=⟨B,2,none⟩) cQ).trans z2;have l3:=(ax.cell (p:=⟨B,3,none⟩) cQ).trans z3;have l4:=(ax.cell (p:=⟨B+1,0,none⟩) hzb).trans z4;have l5:=(ax.cell (p:=⟨B+1,1,none⟩) hzb).trans z5
  go_wp2_with fail
  refine hK.out _ _ ⟨l0,l1,l2,l3,l4,l5⟩ (fun hHeld=>?_)
  clear hK K
  try simp only[Act.put,aI,aJ,aG]
  refine wpAnyH_take (i:=4) (oi:={dst:=some 9,op:=_,type:=_,pos:=_,after:=_,guard:=_}) (v:=?_) rfl (by kernel_rfl) (by kernel_rfl) (by kernel_rfl) (fun _ _ _ h=>h) (ae ⟨by rfl,?_⟩) hHeld ?_
  rotate_left
  ·intro w' aB;obtain⟨s0,s1,s2,s3,s4,s5⟩:=aB
   go_simp
   try with_reducible rfl
  simp only[Act.put,aI,aJ,aG];refine wpAnyH_take (i:=5) (oi:={dst:=some 10,op:=_,type:=_,pos:=_,after:=_,guard:=_}) (v:=?_) rfl (by kernel_rfl) (by kernel_rfl) (by kernel_rfl) (fun _ _ _ h=>h) (ae ⟨by rfl,?_⟩) hHeld ?_
  rotate_left
  ·intro w' aB;obtain⟨s0,s1,s2,s3,s4,s5⟩:=aB
   go_simp
   try with_reducible rfl
  simp only[Act.put,aI,aJ,aG];refine wpAnyH_take (i:=6) (oi:={dst:=some 11,op:=_,type:=_,pos:=_,after:=_,guard:=_}) (v:=undef) rfl (by kernel_rfl) (by kernel_rfl) (by kernel_rfl) (fun _ _ _ h=>h) (af ⟨by kernel_rfl,rfl⟩) hHeld ?_
  simp only[Act.put,aI,aJ,aG];refine wpAnyH_take (i:=7) (oi:={dst:=some 12,op:=_,type:=_,pos:=_,after:=_,guard:=_}) (v:=undef) rfl (by kernel_rfl) (by kernel_rfl) (by kernel_rfl) (fun _ _ _ h=>h) (af ⟨by kernel_rfl,rfl⟩) hHeld ?_
  simp only[Act.put,aI,aJ,aG];refine wpAnyH_take (i:=8) (oi:={dst:=some 13,op:=_,type:=_,pos:=_,after:=_,guard:=_}) (v:=undef) rfl (by kernel_rfl) (by kernel_rfl) (by kernel_rfl) (fun _ _ _ h=>h) (af ⟨by kernel_rfl,rfl⟩) hHeld ?_
  simp only[Act.put,aI,aJ,aG];refine wpAnyH_take (i:=9) (oi:={dst:=some 14,op:=_,type:=_,pos:=_,after:=_,guard:=_}) (v:=undef) rfl (by kernel_rfl) (by kernel_rfl) (by kernel_rfl) (fun _ _ _ h=>h) (af ⟨by kernel_rfl,rfl⟩) hHeld ?_
  simp only[Act.put,aI,aJ,aG];refine wpAnyH_take (i:=10) (oi:={dst:=some 15,op:=_,type:=_,pos:=_,after:=_,guard:=_}) (v:=undef) rfl (by kernel_rfl) (by kernel_rfl) (by kernel_rfl) (fun _ _ _ h=>h) (af ⟨by kernel_rfl,rfl⟩) hHeld ?_
  simp only[Act.put,aI,aJ,aG];refine wpAnyH_take (i:=11) (oi:={dst:=some 16,op:=_,type:=_,pos:=_,after:=_,guard:=_}) (v:=undef) rfl (by kernel_rfl) (by kernel_rfl) (by kernel_rfl) (fun _ _ _ h=>h) (af ⟨by kernel_rfl,rfl⟩) hHeld ?_
  simp only[Act.put,aI,aJ,aG];refine wpAnyH_take (i:=12) (oi:={dst:=some 17,op:=_,type:=_,pos:=_,after:=_,guard:=_}) (v:=undef) rfl (by kernel_rfl) (by kernel_rfl) (by kernel_rfl) (fun _ _ _ h=>h) (af ⟨by kernel_rfl,rfl⟩) hHeld ?_
  simp only[Act.put,aI,aJ,aG];refine wpAnyH_take (i:=13) (oi:={dst:=some 18,op:=_,type:=_,pos:=_,after:=_,guard:=_}) (v:=undef) rfl (by kernel_rfl) (by kernel_rfl) (by kernel_rfl) (fun _ _ _ h=>h) (af ⟨by kernel_rfl,rfl⟩) hHeld ?_
  simp only[Act.put,aI,aJ,aG];refine wpAnyH_take (i:=14) (oi:={dst:=some 19,op:=_,type:=_,pos:=_,after:=_,guard:=_}) (v:=undef) rfl (by kernel_rfl) (by kernel_rfl) (by kernel_rfl) (fun _ _ _ h=>h) (af ⟨by kernel_rfl,rfl⟩) hHeld ?_
  simp only[Act.put,aI,aJ,aG];refine wpAnyH_take (i:=15) (oi:={dst:=some 20,op:=_,type:=_,pos:=_,after:=_,guard:=_}) (v:=undef) rfl (by kernel_rfl) (by kernel_rfl) (by kernel_rfl) (fun _ _ _ h=>h) (af ⟨by kernel_rfl,rfl⟩) hHeld ?_
  simp only[Act.put,aI,aJ,aG];refine wpAnyH_take (i:=16) (oi:={dst:=some 21,op:=_,type:=_,pos:=_,after:=_,guard:=_}) (v:=undef) rfl (by kernel_rfl) (by kernel_rfl) (by kernel_rfl) (fun _ _ _ h=>h) (af ⟨by kernel_rfl,rfl⟩) hHeld ?_
  simp only[Act.put,aI,aJ,aG];refine wpAnyH_take (i:=17) (oi:={dst:=some 22,op:=_,type:=_,pos:=_,after:=_,guard:=_}) (v:=?_) rfl (by kernel_rfl) (by kernel_rfl) (by kernel_rfl) (fun _ _ _ h=>h) (ae ⟨by rfl,?_⟩) hHeld ?_
  rotate_left
  ·intro w' aB;obtain⟨s0,s1,s2,s3,s4,s5⟩:=aB
   go_simp
   try with_reducible rfl
  simp only[Act.put,aI,aJ,aG];refine wpAnyH_take (i:=18) (oi:={dst:=some 4,op:=_,type:=_,pos:=_,after:=_,guard:=_}) (v:=?_) rfl (by kernel_rfl) (by kernel_rfl) (by kernel_rfl) (fun _ _ _ h=>h) (ae ⟨by rfl,?_⟩) hHeld ?_
  rotate_left
  ·intro w' aB;obtain⟨s0,s1,s2,s3,s4,s5⟩:=aB
   go_simp
   try with_reducible rfl
  simp only[Act.put,aI,aJ,aG];refine wpAnyH_done (by kernel_rfl) ?_ _
  go_wp2_with fail
  go_ret
  exact⟨rfl,by rw[hB];exact hb0.drew.trans (ax.mono (eF cQ))⟩
 ·go_region_held3 (fun w'=>w'.cell? ⟨B,0,none⟩=some (.complex .f64 wa wb)/\w'.cell? ⟨B,1,none⟩=some (.float .f64 sh)/\w'.cell? ⟨B,2,none⟩=some (.complex .f64 fa fb)/\w'.cell? ⟨B,3,none⟩=some (.complex .f64 ta tb)/\w'.cell? ⟨B+1,0,none⟩=some (.complex .f64 na nb)/\w'.cell? ⟨B+1,1,none⟩=some (.int .i64 D)) (go_keep) (first
   |(go_at_call 97;refine(HL.out _).mono ?_;rintro e w5 ⟨rfl,ax⟩;have mg:B<w5.heap.size:=aQ cQ ax.size;have hlb:B+1<w5.heap.size:=aQ hzb ax.size;have l0:=(ax.cell (p:=⟨B,0,none⟩) cQ).trans z0;have l1:=(ax.cell (p:=⟨B,1,none⟩) cQ).trans z1;have l2:=(ax.cell (p:=⟨B,2,none⟩) cQ).trans z2;have l3:=(ax.cell (p:=⟨B,3,none⟩) cQ).trans z3;have l4:=(ax.cell (p:=⟨B+1,0,none⟩) hzb).trans z4;have l5:=(ax.cell (p:=⟨B+1,1,none⟩) hzb).trans z5)
   |(go_at_call_of 99 (Value.complex FloatKind.f64 fa fb);refine(HU.out _).mono ?_;rintro e w6 ⟨rfl,aC⟩;have iT:B<w6.heap.size:=aQ mg aC.size;have kP:B+1<w6.heap.size:=aQ hlb aC.size;have u0:=(aC.cell (p:=⟨B,0,none⟩) mg).trans l0;have u1:=(aC.cell (p:=⟨B,1,none⟩) mg).trans l1;have u2:=(aC.cell (p:=⟨B,2,none⟩) mg).trans l2;have u3:=(aC.cell (p:=⟨B,3,none⟩) mg).trans l3;have u4:=(aC.cell (p:=⟨B+1,0,none⟩) hlb).trans l4;have u5:=(aC.cell (p:=⟨B+1,1,none⟩) hlb).trans l5)
   |(go_at_call_of 99 (Value.complex FloatKind.f64 ta tb);refine(HV.out _).mono ?_;rintro e w7 ⟨rfl,aY⟩;have qi:B<w7.heap.size:=aQ iT aY.size;have hvb:B+1<w7.heap.size:=aQ kP aY.size;have v0:=(aY.cell (p:=⟨B,0,none⟩) iT).trans u0;have v1:=(aY.cell (p:=⟨B,1,none⟩) iT).trans u1;have v2:=(aY.cell (p:=⟨B,2,none⟩) iT).trans u2;have v3:=(aY.cell (p:=⟨B,3,none⟩) iT).trans u3;have v4:=(aY.cell (p:=⟨B+1,0,none⟩) kP).trans u4;have v5:=(aY.cell (p:=⟨B+1,1,none⟩) kP).trans u5)
   |(go_at_call 98;refine(HT.out _).mono ?_;rintro e w8 ⟨rfl,qO⟩;subst qO))
  go_wp2_with fail
  go_ret
  refine⟨r9 (by simp),?_⟩
  rw[hB];exact((hb0.drew.trans (ax.mono (eF cQ))).trans (aC.mono (eF mg))).trans (aY.mono (eF iT))
theorem aew(na nb a b pa pb qa qb:Nat)(D E:Int)(w:World)
  (HA:Hid (∀w,Calls Tryz.prog 152 #[.agg #[.complex .f64 a b,.int .i64 E],.complex .f64 na nb] w fun e w'=>e=.returned (.complex .f64 pa pb)/\Below w.heap.size w w'/\w.drawn<=w'.drawn))
  (HC:Hid (∀w,Calls Tryz.prog 152 #[.agg #[.complex .f64 na nb,.int .i64 D],.complex .f64 a b] w fun e w'=>e=.returned (.complex .f64 qa qb)/\Below w.heap.size w w'/\w.drawn<=w'.drawn)):
  Calls Tryz.prog 100 #[.agg #[.complex .f64 na nb,.int .i64 D],.agg #[.complex .f64 a b,.int .i64 E]] w fun e w'=>e=.returned (.bool (FloatKind.f64.format.order pa qa == some .lt))/\Below w.heap.size w w':=by
 have hE:((w.alloc (.cells #[.complex .f64 na nb,.int .i64 D] 83)).alloc (.cells #[.complex .f64 a b,.int .i64 E] 83)).heap[w.heap.size]?=some (.cells #[.complex .f64 na nb,.int .i64 D] 83 (0,0)):=by
  rw[Below.heap_alloc _ _ _ (by simp)];exact heap_alloc_new _ _
 have hP:((w.alloc (.cells #[.complex .f64 na nb,.int .i64 D] 83)).alloc (.cells #[.complex .f64 a b,.int .i64 E] 83)).heap[w.heap.size+1]?=some (.cells #[.complex .f64 a b,.int .i64 E] 83 (0,0)):=by
  have:=heap_alloc_new (w.alloc (.cells #[.complex .f64 na nb,.int .i64 D] 83)) (.cells #[.complex .f64 a b,.int .i64 E] 83);simpa using this
 have hb0:Below w.heap.size w ((w.alloc (.cells #[.complex .f64 na nb,.int .i64 D] 83)).alloc (.cells #[.complex .f64 a b,.int .i64 E] 83)):=((Below.refl _ _).alloc (ai _) _).alloc (by simp) _
 have hsz:w.heap.size+2=((w.alloc (.cells #[.complex .f64 na nb,.int .i64 D] 83)).alloc (.cells #[.complex .f64 a b,.int .i64 E] 83)).heap.size:=by simp
 go_enter Tryz.func100,Tryz.ntmps100
 go_wp2_with fail
 generalize(w.alloc (.cells #[.complex .f64 na nb,.int .i64 D] 83)).alloc (.cells #[.complex .f64 a b,.int .i64 E] 83)=W at*;generalize hB:w.heap.size=B at*;have cQ:B<W.heap.size:=by omega
 have hzb:B+1<W.heap.size:=by omega
 have z0:W.cell? ⟨B,0,none⟩=some (.complex .f64 na nb):=cell_of hE 0;have z1:W.cell? ⟨B,1,none⟩=some (.int .i64 D):=cell_of hE 1;have z2:W.cell? ⟨B+1,0,none⟩=some (.complex .f64 a b):=cell_of hP 0;have z3:W.cell? ⟨B+1,1,none⟩=some (.int .i64 E):=cell_of hP 1
 go_region_held3 (fun w'=>w'.cell? ⟨B,0,none⟩=some (.complex .f64 na nb)/\w'.cell? ⟨B,1,none⟩=some (.int .i64 D)/\w'.cell? ⟨B+1,0,none⟩=some (.complex .f64 a b)/\w'.cell? ⟨B+1,1,none⟩=some (.int .i64 E)) (go_keep) (first
   |(go_at_call_of 152 (Value.complex FloatKind.f64 na nb);refine(HA.out _).mono ?_;rintro e w6 ⟨rfl,aC,_⟩;have iT:B<w6.heap.size:=aQ cQ aC.size;have kP:B+1<w6.heap.size:=aQ hzb aC.size;have u0:=(aC.cell (p:=⟨B,0,none⟩) cQ).trans z0;have u1:=(aC.cell (p:=⟨B,1,none⟩) cQ).trans z1;have u2:=(aC.cell (p:=⟨B+1,0,none⟩) hzb).trans z2;have u3:=(aC.cell (p:=⟨B+1,1,none⟩) hzb).trans z3)
   |(go_at_call_of 152 (Value.complex FloatKind.f64 a b);refine(HC.out _).mono ?_;rintro e w7 ⟨rfl,aY,_⟩;have v0:=(aY.cell (p:=⟨B,0,none⟩) iT).trans u0;have v1:=(aY.cell (p:=⟨B,1,none⟩) iT).trans u1;have v2:=(aY.cell (p:=⟨B+1,0,none⟩) kP).trans u2;have v3:=(aY.cell (p:=⟨B+1,1,none⟩) kP).trans u3))
 all_goals
  have ak:=(hb0.drew.trans (aC.mono (eF cQ))).trans (aY.mono (eF iT));clear aC aY hb0
  go_wp2_with fail
  go_ret
  exact⟨rfl,by rw[hB];exact ak⟩
theorem Hz{na nb:Nat}{X Y D:Int}{a b:Nat}{x y E:Int}(g1:Fl na X)(g2:Fl nb Y)(h1:Fl a x)(h2:Fl b y)(b1:sm x)(b2:sm y)(bD:sm D)(bE:sm E)(c1:sm X)(c2:sm Y)(w:World):
  Calls Tryz.prog 100 #[.agg #[.complex .f64 na nb,.int .i64 D],.agg #[.complex .f64 a b,.int .i64 E]] w fun e w'=>e=.returned (.bool (decide (X*E<x*D)))/\Below w.heap.size w w':=by
 obtain⟨pa,pb,f1,f2,hs1⟩:=Di a b E g1 g2 c1 c2 bE;obtain⟨qa,qb,k1,k2,hs2⟩:=Di na nb D h1 h2 b1 b2 bD;rw[<-Aq f1 k1];exact aew na nb a b pa pb qa qb D E w hs1 hs2
theorem T9(xb:EB)(ed:Ed){na nb:Nat}{X Y D:Int}(hx:jc xb ed)(hs:fB ed)(g1:Fl na X)(g2:Fl nb Y)(hn:dC X Y D)(w:World):
  Calls Tryz.prog 63 #[.agg xb.cells,.agg #[.complex .f64 na nb,.int .i64 D]] w fun e w'=>e=.returned (.int .i64 (Ge.fr (X,Y) D ed.1 ed.2))/\Below w.heap.size w w':=by
 have sX:sm X:=by have:=hn.x;unfold sm;omega
 have sY:sm Y:=by have:=hn.y;unfold sm;omega
 have sD:sm D:=by have:=hn.d;unfold sm;omega
 have s1:sm (ed.2.1-ed.1.1):=by have:=hs.a;have:=hs.c;unfold small at*;unfold sm;omega
 have s2:sm (ed.2.2-ed.1.2):=by have:=hs.b;have:=hs.d;unfold small at*;unfold sm;omega
 obtain⟨r,fr,hL⟩:=Mv hx.wa hx.wb hx.sh g1 g2 s1 s2 (Hx hs) sD sX sY;have HL:Hid (∀w,Calls Tryz.prog 97 #[.agg #[.complex .f64 xb.wa xb.wb,.float .f64 xb.sh],.agg #[.complex .f64 na nb,.int .i64 D]] w fun e w'=>e=.returned (.float .f64 r)/\Below w.heap.size w w'):=hL
 have s1':sm 1:=by unfold sm;decide
 have HU:Hid (∀w,Calls Tryz.prog 100 #[.agg #[.complex .f64 na nb,.int .i64 D],.agg #[.complex .f64 xb.fa xb.fb,.int .i64 1]] w fun e w'=>e=.returned (.bool (decide (X*1<ed.1.1*D)))/\Below w.heap.size w w'):=fun w=>Hz g1 g2 hx.fa hx.fb (wM hs.a) (wM hs.b) sD s1' sX sY w
 have HV:Hid (∀w,Calls Tryz.prog 100 #[.agg #[.complex .f64 na nb,.int .i64 D],.agg #[.complex .f64 xb.ta xb.tb,.int .i64 1]] w fun e w'=>e=.returned (.bool (decide (X*1<ed.2.1*D)))/\Below w.heap.size w w'):=fun w=>Hz g1 g2 hx.ta hx.tb (wM hs.c) (wM hs.d) sD s1' sX sY w
 have q1:=Hs fr kO;have q2:=Aq fr kO;have fg:=aev X Y D ed hn.d.1;unfold lf at fg;rw[fg];generalize(ed.2.1-ed.1.1)*Y-(ed.2.2-ed.1.2)*X-((ed.2.1-ed.1.1)*ed.1.2-(ed.2.2-ed.1.2)*ed.1.1)*D=L at*;generalize Ua:decide (X*1<ed.1.1*D)=FA at*;generalize pC:decide (X*1<ed.2.1*D)=TA at*;have hval:(if ¬X*1<ed.1.1*D/\X*1<ed.2.1*D/\0<L then(1:Int) else if X*1<ed.1.1*D/\¬X*1<ed.2.1*D/\L<0 then -1 else 0)=(if FA=false/\TA=true/\0<L then 1 else if FA=true/\TA=false/\L<0 then -1 else 0):=by
  rw[<-Ua,<-pC];simp
 rw[hval];clear hval fg hL fr hx hs hn g1 g2 sX sY sD s1 s2 s1' Ua pC;obtain⟨wa,wb,sh,fa,fb,ta,tb⟩:=xb;simp only[EB.cells] at*;have hE:((w.alloc (.cells #[.complex .f64 wa wb,.float .f64 sh,.complex .f64 fa fb,.complex .f64 ta tb] 124)).alloc (.cells #[.complex .f64 na nb,.int .i64 D] 83)).heap[w.heap.size]?=some (.cells #[.complex .f64 wa wb,.float .f64 sh,.complex .f64 fa fb,.complex .f64 ta tb] 124 (0,0)):=by
  rw[Below.heap_alloc _ _ _ (by simp)];exact heap_alloc_new _ _
 have hP:((w.alloc (.cells #[.complex .f64 wa wb,.float .f64 sh,.complex .f64 fa fb,.complex .f64 ta tb] 124)).alloc (.cells #[.complex .f64 na nb,.int .i64 D] 83)).heap[w.heap.size+1]?=some (.cells #[.complex .f64 na nb,.int .i64 D] 83 (0,0)):=by
  have:=heap_alloc_new (w.alloc (.cells #[.complex .f64 wa wb,.float .f64 sh,.complex .f64 fa fb,.complex .f64 ta tb] 124)) (.cells #[.complex .f64 na nb,.int .i64 D] 83);simpa using this
 have hb0:Below w.heap.size w ((w.alloc (.cells #[.complex .f64 wa wb,.float .f64 sh,.complex .f64 fa fb,.complex .f64 ta tb] 124)).alloc (.cells #[.complex .f64 na nb,.int .i64 D] 83)):=((Below.refl _ _).alloc (ai _) _).alloc (by simp) _
 have hsz:w.heap.size+2=((w.alloc (.cells #[.complex .f64 wa wb,.float .f64 sh,.complex .f64 fa fb,.complex .f64 ta tb] 124)).alloc (.cells #[.complex .f64 na nb,.int .i64 D] 83)).heap.size:=by simp
 go_enter Tryz.func63,Tryz.ntmps63
 go_wp2_with fail
 generalize(w.alloc (.cells #[.complex .f64 wa wb,.float .f64 sh,.complex .f64 fa fb,.complex .f64 ta tb] 124)).alloc (.cells #[.complex .f64 na nb,.int .i64 D] 83)=W at*;generalize hB:w.heap.size=B at*;have cQ:B<W.heap.size:=by omega
 have hzb:B+1<W.heap.size:=by omega
 have z0:W.cell? ⟨B,0,none⟩=some (.complex .f64 wa wb):=cell_of hE 0;have z1:W.cell? ⟨B,1,none⟩=some (.float .f64 sh):=cell_of hE 1;have z2:W.cell? ⟨B,2,none⟩=some (.complex .f64 fa fb):=cell_of hE 2;have z3:W.cell? ⟨B,3,none⟩=some (.complex .f64 ta tb):=cell_of hE 3;have z4:W.cell? ⟨B+1,0,none⟩=some (.complex .f64 na nb):=cell_of hP 0;have z5:W.cell? ⟨B+1,1,none⟩=some (.int .i64 D):=cell_of hP 1
 go_region_held3 (fun w'=>w'.cell? ⟨B,0,none⟩=some (.complex .f64 wa wb)/\w'.cell? ⟨B,1,none⟩=some (.float .f64 sh)/\w'.cell? ⟨B,2,none⟩=some (.complex .f64 fa fb)/\w'.cell? ⟨B,3,none⟩=some (.complex .f64 ta tb)/\w'.cell? ⟨B+1,0,none⟩=some (.complex .f64 na nb)/\w'.cell? ⟨B+1,1,none⟩=some (.int .i64 D)) (go_keep) (first
   |(go_at_call_of 100 (Value.agg #[Value.complex FloatKind.f64 fa fb,Value.int IntKind.i64 1]);refine(HU.out _).mono ?_;rintro e w6 ⟨rfl,aC⟩;have iT:B<w6.heap.size:=aQ cQ aC.size;have kP:B+1<w6.heap.size:=aQ hzb aC.size;have u0:=(aC.cell (p:=⟨B,0,none⟩) cQ).trans z0;have u1:=(aC.cell (p:=⟨B,1,none⟩) cQ).trans z1;have u2:=(aC.cell (p:=⟨B,2,none⟩) cQ).trans z2;have u3:=(aC.cell (p:=⟨B,3,none⟩) cQ).trans z3;have u4:=(aC.cell (p:=⟨B+1,0,none⟩) hzb).trans z4;have u5:=(aC.cell (p:=⟨B+1,1,none⟩) hzb).trans z5)
   |(go_at_call_of 100 (Value.agg #[Value.complex FloatKind.f64 ta tb,Value.int IntKind.i64 1]);refine(HV.out _).mono ?_;rintro e w7 ⟨rfl,aY⟩;have qi:B<w7.heap.size:=aQ iT aY.size;have hvb:B+1<w7.heap.size:=aQ kP aY.size;have v0:=(aY.cell (p:=⟨B,0,none⟩) iT).trans u0;have v1:=(aY.cell (p:=⟨B,1,none⟩) iT).trans u1;have v2:=(aY.cell (p:=⟨B,2,none⟩) iT).trans u2;have v3:=(aY.cell (p:=⟨B,3,none⟩) iT).trans u3;have v4:=(aY.cell (p:=⟨B+1,0,none⟩) kP).trans u4;have v5:=(aY.cell (p:=⟨B+1,1,none⟩) kP).trans u5))
 have ak:Below w.heap.size w w7:=by
  rw[hB];exact(hb0.drew.trans (aC.mono (eF cQ))).trans (aY.mono (eF iT))
 clear aC aY hb0;cases FA<;>cases TA
 ·go_wp2_with fail
  go_ret
  exact⟨rfl,by rw[hB] at ak;exact ak⟩
 ·go_wp2_with fail
  refine(HL.out _).mono ?_;rintro e w8 ⟨rfl,lH⟩;have uN:=ak.trans (lH.mono (by rw[hB];exact eF qi))
  by_cases hl:0<L
  ·have hq:(FloatKind.f64.format.order r 0 == some Ordering.gt)=true:=by rw[q1];simp[hl]
   clear q1 q2
   go_wp2_with fail
   go_ret
   exact⟨rfl,by rw[hB] at uN;exact uN⟩
  ·have hq:(FloatKind.f64.format.order r 0 == some Ordering.gt)=false:=by rw[q1];simp[hl]
   clear q1 q2
   go_wp2_with fail
   go_ret
   exact⟨rfl,by rw[hB] at uN;exact uN⟩
 ·go_wp2_with fail
  refine(HL.out _).mono ?_;rintro e w8 ⟨rfl,lH⟩;have uN:=ak.trans (lH.mono (by rw[hB];exact eF qi))
  by_cases hl:L<0
  ·have hq:(FloatKind.f64.format.order r 0 == some Ordering.lt)=true:=by rw[q2];simp[hl]
   clear q1 q2
   go_wp2_with fail
   go_ret
   exact⟨rfl,by rw[hB] at uN;exact uN⟩
  ·have hq:(FloatKind.f64.format.order r 0 == some Ordering.lt)=false:=by rw[q2];simp[hl]
   clear q1 q2
   go_wp2_with fail
   go_ret
   exact⟨rfl,by rw[hB] at uN;exact uN⟩
 ·go_wp2_with fail
  go_ret
  exact⟨rfl,by rw[hB] at ak;exact ak⟩
def og(l:List EB):List Value:=l.flatMap fun x=>x.cells.toList
def gG(w:World)(v:Value)(es:List Ed):Prop:=
 ∃xs:List EB,xs.length=es.length/\w.ownsRow 0 124 4 v es.length (og xs)/\∀(i:Nat) x e,xs[i]?=some x->es[i]?=some e->jc x e
theorem Ub:∀(l:List EB)(k:Nat)(e:EB),l[k]?=some e->∀j,j<4->(og l)[k*4+j]?=e.cells[j]?
 |[],_,_,h,_,_=>by simp at h
 |q::r,0,e,h,j,hj=>by
  simp at h;subst h;have e1:og (q::r)=q.cells.toList++og r:=by simp[og]
  rw[e1,eD (by simp[EB.cells];omega)]
  simp
 |q::r,k+1,e,h,j,hj=>by
  have ih:=Ub r k e (by simpa using h) j hj
  have e1:og (q::r)=q.cells.toList++og r:=by simp[og]
  rw[e1,nT (by simp[EB.cells];omega)]
  have e2:(k+1)*4+j-q.cells.toList.length=k*4+j:=by simp[EB.cells];omega
  rw[e2,ih]
theorem Dq{w:World}{v:Value}{l:List Ed}(h:gG w v l):∃so cap,v=.slice so l.length cap:=by
 obtain⟨xs,_,h,_⟩:=h;rcases h.2 with⟨hv,h0⟩|⟨b,cap,cur,hv,_⟩
 ·exact⟨none,0,by rw[hv,h0]⟩
 ·exact⟨_,cap,hv⟩
theorem Dr{w:World}{so:Option Addr}{n cap:Nat}{l:List Ed}(h:gG w (.slice so n cap) l){k:Nat}{e:Ed}(he:l[k]?=some e):
  ∃b x,so=some ⟨b,0,none⟩/\b<w.heap.size/\jc x e/\w.cell? ⟨b,k*4,none⟩=some (.complex .f64 x.wa x.wb)/\w.cell? ⟨b,k*4+1,none⟩=some (.float .f64 x.sh)/\w.cell? ⟨b,k*4+2,none⟩=some (.complex .f64 x.fa x.fb)/\w.cell? ⟨b,k*4+3,none⟩=some (.complex .f64 x.ta x.tb):=by
 obtain⟨xs,hl,ho,hr⟩:=h;have hk:k<xs.length:=by rw[hl];exact(bY.1 he).1
 obtain⟨x,hx⟩:∃x,xs[k]?=some x:=⟨_,aD hk⟩;have g:=Ub xs k x hx;obtain⟨b,c,hv,hb,hc⟩:=Dm ho (g 0 (by omega))
 injection hv with hv;exact⟨b,x,hv,hb,hr k x e hx he,hc _ _ (g 0 (by omega)),hc _ _ (g 1 (by omega)),hc _ _ (g 2 (by omega)),hc _ _ (g 3 (by omega))⟩
theorem aex(es:List Ed)(v:Value){na nb:Nat}{X Y D:Int}(w:World)(hR:gG w v es)(hl:es.length<=65000000)(hs:∀e∈es,fB e)(g1:Fl na X)(g2:Fl nb Y)(hn:dC X Y D):
  Calls Tryz.prog 35 #[v,.agg #[.complex .f64 na nb,.int .i64 D]] w fun e w'=>e=.returned (if es.any (Ge.fo (X,Y) D) then .tuple #[.int .i64 0,.bool true] else .tuple #[.int .i64 (Ge.total (Ge.fr (X,Y) D) es),.bool false])/\Below w.heap.size w w':=by
 obtain⟨so,cap,rfl⟩:=Dq hR;have HR:Hid (gG w (.slice so es.length cap) es):=hR;have HH:Hid (∀(x:EB)(e:Ed),jc x e->e∈es->∀w1,Calls Tryz.prog 62 #[.agg #[.complex .f64 x.wa x.wb,.float .f64 x.sh,.complex .f64 x.fa x.fb,.complex .f64 x.ta x.tb],.agg #[.complex .f64 na nb,.int .i64 D]] w1 fun e' w'=>e'=.returned (.bool (Ge.fo (X,Y) D e))/\Below w1.heap.size w1 w'):=fun x e hx he w1=>Dp x e hx (hs e he) g1 g2 hn w1
 have HP:Hid (∀(x:EB)(e:Ed),jc x e->e∈es->∀w1,Calls Tryz.prog 63 #[.agg #[.complex .f64 x.wa x.wb,.float .f64 x.sh,.complex .f64 x.fa x.fb,.complex .f64 x.ta x.tb],.agg #[.complex .f64 na nb,.int .i64 D]] w1 fun e' w'=>e'=.returned (.int .i64 (Ge.fr (X,Y) D e.1 e.2))/\Below w1.heap.size w1 w'):=fun x e hx he w1=>T9 x e hx (hs e he) g1 g2 hn w1
 have HT:Hid (∀k:Nat, -(k:Int)<=Ge.total (Ge.fr (X,Y) D) (es.take k)/\Ge.total (Ge.fr (X,Y) D) (es.take k)<=(k:Int)):=fun k=>by
  have h:=Hu (Ge.fr (X,Y) D) (Hv _ _) (es.take k);have h2:(es.take k).length<=k:=by simp;omega
  omega
 clear hR hs g1 g2 hn;have hb0:Below w.heap.size w (w.alloc (.cells #[.complex .f64 na nb,.int .i64 D] 83)):=(Below.refl _ _).alloc (ai _) _;have wN:=heap_alloc_new w (.cells #[.complex .f64 na nb,.int .i64 D] 83);have oh:Hid (Below w.heap.size w (w.alloc (.cells #[.complex .f64 na nb,.int .i64 D] 83))/\(w.alloc (.cells #[.complex .f64 na nb,.int .i64 D] 83)).heap[w.heap.size]?=some (.cells #[.complex .f64 na nb,.int .i64 D] 83 (0,0))):=⟨hb0,wN⟩;clear hb0 wN
 go_enter Tryz.func35,Tryz.ntmps35
 go_wp2_with fail
 go_loopg [6,11] es.length (fun n tv iv wr=>∃k:Nat,k+n=es.length/\iv=.int .i64 k/\tv=.int .i64 (Ge.total (Ge.fr (X,Y) D) (es.take k))/\Hid ((∀e∈es.take k,Ge.fo (X,Y) D e=false)/\Below w.heap.size w wr/\w.heap.size<wr.heap.size/\wr.heap[w.heap.size]?=some (.cells #[.complex .f64 na nb,.int .i64 D] 83 (0,0))))
 case atStart=>exact⟨0,by omega,rfl,rfl,by simp,oh.out.1,by simp,oh.out.2⟩
 case round=>
  obtain⟨k,hkn,rfl,rfl,HB⟩:=hrel;obtain⟨hno,ak,hwz,qP⟩:=HB.out;have Uc:Hid (∀e∈es.take k,Ge.fo (X,Y) D e=false):=hno;have Ud:=HT.out k;clear oh HB hno;by_cases hlt:k<es.length
  ·obtain⟨e,mn⟩:∃e,es[k]?=some e:=⟨_,aD hlt⟩;obtain⟨b,x,rfl,hb,hok,c0,c1,c2,c3⟩:=Dr HR.out mn;have r0:=(ak.cell (p:=⟨b,k*4,none⟩) hb).trans c0;have r1:=(ak.cell (p:=⟨b,k*4+1,none⟩) hb).trans c1;have r2:=(ak.cell (p:=⟨b,k*4+2,none⟩) hb).trans c2;have r3:=(ak.cell (p:=⟨b,k*4+3,none⟩) hb).trans c3;have p0:wr.cell? ⟨w.heap.size,0,none⟩=some (.complex .f64 na nb):=cell_of qP 0;have p1:wr.cell? ⟨w.heap.size,1,none⟩=some (.int .i64 D):=cell_of qP 1;have hbr:b<wr.heap.size:=aQ hb ak.size;have eK:(k:Int)<(es.length:Int):=by omega
   have hmem:=bn mn;have om:Hid (Ge.total (Ge.fr (X,Y) D) (es.take (k+1))=Ge.total (Ge.fr (X,Y) D) (es.take k)+Ge.fr (X,Y) D e.1 e.2):=My _ mn;have qQ:Hid (∀w1,Calls Tryz.prog 62 #[.agg #[.complex .f64 x.wa x.wb,.float .f64 x.sh,.complex .f64 x.fa x.fb,.complex .f64 x.ta x.tb],.agg #[.complex .f64 na nb,.int .i64 D]] w1 fun e' w'=>e'=.returned (.bool (Ge.fo (X,Y) D e))/\Below w1.heap.size w1 w'):=HH.out x e hok hmem
   have Dt:Hid (∀w1,Calls Tryz.prog 63 #[.agg #[.complex .f64 x.wa x.wb,.float .f64 x.sh,.complex .f64 x.fa x.fb,.complex .f64 x.ta x.tb],.agg #[.complex .f64 na nb,.int .i64 D]] w1 fun e' w'=>e'=.returned (.int .i64 (Ge.fr (X,Y) D e.1 e.2))/\Below w1.heap.size w1 w'):=HP.out x e hok hmem
   have hfin:=Hv (X,Y) D e.1 e.2;have HEK:Hid (es[k]?=some e):=mn;obtain⟨wa,wb,sh,fa,fb,ta,tb⟩:=x;simp only at r0 r1 r2 r3 qQ Dt;generalize Ge.total (Ge.fr (X,Y) D) (es.take k)=T at*;generalize Ge.fr (X,Y) D e.1 e.2=FR at*;clear c0 c1 c2 c3 mn HR HH HP hok;have yu:Below w.heap.size w (wr.alloc (.cells #[.complex .f64 wa wb,.float .f64 sh,.complex .f64 fa fb,.complex .f64 ta tb] 124)):=ak.alloc ak.size _;have nI:=heap_alloc_new wr (.cells #[.complex .f64 wa wb,.float .f64 sh,.complex .f64 fa fb,.complex .f64 ta tb] 124);have wN:(wr.alloc (.cells #[.complex .f64 wa wb,.float .f64 sh,.complex .f64 fa fb,.complex .f64 ta tb] 124)).heap[w.heap.size]?=some (.cells #[.complex .f64 na nb,.int .i64 D] 83 (0,0)):=by
    rw[Below.heap_alloc _ _ _ hwz];exact qP
   have hsz:wr.heap.size+1=(wr.alloc (.cells #[.complex .f64 wa wb,.float .f64 sh,.complex .f64 fa fb,.complex .f64 ta tb] 124)).heap.size:=by simp
   cases hfo:Ge.fo (X,Y) D e
   ·rw[hfo] at qQ;have HN:Hid (∀e∈es.take (k+1),Ge.fo (X,Y) D e=false):=fun e' he'=>by
     obtain⟨h1,h2⟩:=bY.1 HEK.out;rw[oY h1,h2] at he';rcases cu.1 he' with h|h
     ·exact Uc.out e' h
     ·rw[bU.1 h];exact hfo
    clear hfo hmem
    go_wp2_with (simp only[fL,nH];go_simp)
    generalize wr.alloc (.cells #[.complex .f64 wa wb,.float .f64 sh,.complex .f64 fa fb,.complex .f64 ta tb] 124)=w0 at*;generalize hEe:wr.heap.size=E at*;clear r0 r1 r2 r3 p0 p1;refine(qQ.out _).mono ?_;rintro e' w1 ⟨rfl,hb1⟩;have jJ:=(hb1.block _ (show E<w0.heap.size by omega)).trans nI
    have eN:=(hb1.block _ (show w.heap.size<w0.heap.size by omega)).trans wN
    have aoc:=hb1.size;have Ar:=yu.trans (hb1.mono (by omega))
    have e0:w1.cell? ⟨E,0,none⟩=some (.complex .f64 wa wb):=cell_of jJ 0;have e1:w1.cell? ⟨E,1,none⟩=some (.float .f64 sh):=cell_of jJ 1;have e2:w1.cell? ⟨E,2,none⟩=some (.complex .f64 fa fb):=cell_of jJ 2;have e3:w1.cell? ⟨E,3,none⟩=some (.complex .f64 ta tb):=cell_of jJ 3;have q0:w1.cell? ⟨w.heap.size,0,none⟩=some (.complex .f64 na nb):=cell_of eN 0;have q1:w1.cell? ⟨w.heap.size,1,none⟩=some (.int .i64 D):=cell_of eN 1
    go_wp2_with fail
    refine(Dt.out _).mono ?_;rintro e' w2 ⟨rfl,hb2⟩;have dW:=(hb2.block _ (show w.heap.size<w1.heap.size by omega)).trans eN
    have aeA:=hb2.size;have hL2:=Ar.trans (hb2.mono (by omega))
    clear nI jJ wN eN hb1 hb2 yu Ar qP
    go_wp2_with fail
    go_roundg (gk-1)
    case measure=>omega
    case rel=>exact⟨k+1,by omega,by go_num,by rw[om.out],HN.out,hL2,by omega,dW⟩
   ·rw[hfo] at qQ;have HA:Hid (es.any (Ge.fo (X,Y) D)=true):=xS.2 ⟨e,hmem,hfo⟩;clear hfo hmem
    go_wp2_with (simp only[fL,nH];go_simp)
    generalize wr.alloc (.cells #[.complex .f64 wa wb,.float .f64 sh,.complex .f64 fa fb,.complex .f64 ta tb] 124)=w0 at*;refine(qQ.out _).mono ?_;rintro e' w1 ⟨rfl,hb1⟩;have Ar:=yu.trans (hb1.mono (by have:=yu.size;omega))
    go_wp2_with fail
    refine bodyPost_ret (v:=.tuple #[.int .i64 0,.bool true]) (by simp[results,Tryz.results35,go_sem]) rfl ⟨?_,Ar⟩
    first
     |rfl
     |rw[ah HA.out]
  ·have hk:k=es.length:=by omega
   subst hk;rw[dN];have HA:Hid (¬es.any (Ge.fo (X,Y) D)=true):=fun h=>by
    obtain⟨e,h1,h2⟩:=xS.1 h;rw[Uc.out e (by rw[dN];exact h1)] at h2;cases h2
   clear HR HH HP HT
   go_wp2_with fail
   refine bodyPost_ret (v:=.tuple #[.int .i64 (Ge.total (Ge.fr (X,Y) D) es),.bool false]) (by simp[results,Tryz.results35,go_sem]) rfl ⟨?_,ak⟩
   first
    |rfl
    |rw[aa HA.out]
theorem aeB(a b:Int):Int.gcd b (a.tmod b)=Int.gcd a b:=by
 unfold Int.gcd;rw[Int.natAbs_tmod];exact aes _ _
theorem Du(x y:Int)(w:World)(hx: -1000000000000<=x/\x<=1000000000000)(hy: -1000000000000<=y/\y<=1000000000000):
  Calls Tryz.prog 65 #[.int .i64 x,.int .i64 y] w fun e w'=>e=.returned (.int .i64 (Int.gcd x y:Int))/\Below w.heap.size w w':=by
 generalize hG:Int.gcd x y=G;have HG:Hid (Int.gcd x y=G):=hG;clear hG
 go_enter Tryz.func65,Tryz.ntmps65
 go_wp2_with fail
 go_loopg [0,1] y.natAbs (fun m av bv wr=>∃a b:Int,av=.int .i64 a/\bv=.int .i64 b/\m=b.natAbs/\Int.gcd a b=G/\(-1000000000000<=a/\a<=1000000000000)/\(-1000000000000<=b/\b<=1000000000000)/\Hid (Below w.heap.size w wr))
 case atStart=>exact⟨x,y,rfl,rfl,rfl,HG.out,hx,hy,Below.refl _ _⟩
 case round=>
  obtain⟨a,b,rfl,rfl,rfl,hg,ha,hb,HB⟩:=hrel;clear HG;by_cases hz:b=0
  ·subst hz;have hv:(G:Int)=max a (-a):=by
    rw[<-hg,Int.gcd_zero_right];omega
   have HV:Hid ((G:Int)=max a (-a)):=hv;clear hg hv;have hw:IntKind.i64.wrap (-a)= -a:=by rw[IntKind.wrap_i64];omega
   go_wp2_with fail
   go_ret
   exact⟨by rw[HV.out];rfl,HB.out⟩
  ·have hgt:=aeB a b;have hlt:(a.tmod b).natAbs<b.natAbs:=by rw[Int.natAbs_tmod];exact K7 _ (by omega)
   have cI:Hid (Int.gcd b (a.tmod b)=G/\(-1000000000000<=a.tmod b/\a.tmod b<=1000000000000)):=⟨hgt.trans hg,by omega⟩
   have hbz:¬b=0:=hz;clear hg hgt;generalize hR:a.tmod b=R at*
   go_wp2_with fail
   go_region_held3 (fun _=>True) (trivial) (fail)
   go_wp2_with fail
   go_roundg R.natAbs
   case measure=>omega
   case rel=>exact⟨b,R,rfl,rfl,rfl,cI.out.1,hb,cI.out.2,HB.out.drew⟩
theorem Ue{a b:Nat}{x y:Int}(D:Int)(h1:Fl a x)(h2:Fl b y)(hx: -16000000<=x/\x<=16000000)(hy: -16000000<=y/\y<=16000000)(hD:0<D/\D<=300000)(G:Nat)(hG:Int.gcd (Int.gcd x y:Nat) D=G)(w:World):
  Calls Tryz.prog 37 #[.complex .f64 a b,.int .i64 D] w fun e w'=>e=.returned (.agg #[.complex .f64 (floatOfInt .f64 (x.tdiv G)) (floatOfInt .f64 (y.tdiv G)),.int .i64 (D.tdiv G)])/\Below w.heap.size w w':=by
 have uO:0<G:=by rw[<-hG];exact sI (by omega)
 have aeC:Int.gcd x y<=16000000:=by
  by_cases hz:x=0
  ·rw[hz,Int.gcd_zero_left];omega
  ·have:=anP (b:=y) hz;omega
 have hGD:G<=300000:=by
  have:=anQ (a:=(Int.gcd x y:Nat)) (b:=D) (by omega)
  omega
 have c1:=h1.int (by omega) (by omega)
 have c2:=h2.int (by omega) (by omega)
 have hc1:∀w,(convert 120 3 (.float .f64 a)).run Tryz.prog w=.ok (.int .i64 x) w:=fun w=>run_convert_float_int w 120 3 .f64 .i64 a x (by rw[Tryz.underlying120];rfl) Tryz.underlying3 c1
 have hc2:∀w,(convert 120 3 (.float .f64 b)).run Tryz.prog w=.ok (.int .i64 y) w:=fun w=>run_convert_float_int w 120 3 .f64 .i64 b y (by rw[Tryz.underlying120];rfl) Tryz.underlying3 c2
 have Au:Hid (∀w1,Calls Tryz.prog 65 #[.int .i64 x,.int .i64 y] w1 fun e w'=>e=.returned (.int .i64 (Int.gcd x y:Nat))/\Below w1.heap.size w1 w'):=fun w1=>Du x y w1 (by omega) (by omega)
 have Av:Hid (∀w1,Calls Tryz.prog 65 #[.int .i64 (Int.gcd x y:Nat),.int .i64 D] w1 fun e w'=>e=.returned (.int .i64 (G:Int))/\Below w1.heap.size w1 w'):=fun w1=>by rw[<-hG];exact Du _ D w1 (by omega) (by omega)
 obtain⟨XQ,yw⟩:∃q,q=x.tdiv (G:Int):=⟨_,rfl⟩;obtain⟨YQ,yx⟩:∃q,q=y.tdiv (G:Int):=⟨_,rfl⟩;obtain⟨DQ,yz⟩:∃q,q=D.tdiv (G:Int):=⟨_,rfl⟩;rw[<-yw,<-yx,<-yz];have HP:Hid (∀w1,Calls Tryz.prog 38 #[.int .i64 XQ,.int .i64 YQ] w1 fun e w'=>e=.returned (.complex .f64 (floatOfInt .f64 XQ) (floatOfInt .f64 YQ))/\w'=w1):=fun w1=>De _ _ w1
 have hw1:IntKind.i64.wrap (x.tdiv (G:Int))=XQ:=by rw[yw];exact IntWalk.i64_quo' _ _ ⟨by omega,by omega,by omega⟩
 have hw2:IntKind.i64.wrap (y.tdiv (G:Int))=YQ:=by rw[yx];exact IntWalk.i64_quo' _ _ ⟨by omega,by omega,by omega⟩
 have hw3:IntKind.i64.wrap (D.tdiv (G:Int))=DQ:=by rw[yz];exact IntWalk.i64_quo' _ _ ⟨by omega,by omega,by omega⟩
 have hw4:IntKind.i64.wrap (D/(G:Int))=DQ:=by rw[<-hw3,acu (by omega)]
 clear yw yx yz;have Uf:¬G=0:=by omega
 have Ug:(0:Int)<G:=by omega
 generalize Int.gcd x y=GXY at*;clear c1 c2 h1 h2 hG;have hE:=heap_alloc_new w (.cells #[.complex .f64 0 0,.int .i64 0] 83);have hb0:Below w.heap.size w (w.alloc (.cells #[.complex .f64 0 0,.int .i64 0] 83)):=(Below.refl _ _).alloc (ai _) _;have hz:w.heap.size<(w.alloc (.cells #[.complex .f64 0 0,.int .i64 0] 83)).heap.size:=by simp
 go_enter Tryz.func37,Tryz.ntmps37
 go_wp2_with (first |(simp only[hc1])|(simp only[hc2]))
 generalize w.alloc (.cells #[.complex .f64 0 0,.int .i64 0] 83)=W at*;generalize hB:w.heap.size=B at*;refine(Au.out _).mono ?_;rintro e w1 ⟨rfl,hb1⟩
 go_wp2_with fail
 refine(Av.out _).mono ?_;rintro e w2 ⟨rfl,hb2⟩;have hs1:=hb1.size;have dD:=(hb2.block _ (show B<w1.heap.size by omega)).trans ((hb1.block _ hz).trans hE)
 have ak:=(hb0.trans (hb1.mono (eF hz))).trans (hb2.mono (by omega))
 have e0:w2.cell? ⟨B,0,none⟩=some (.complex .f64 0 0):=cell_of dD 0;have e1:w2.cell? ⟨B,1,none⟩=some (.int .i64 0):=cell_of dD 1;have z0:w2.frozen? ⟨B,0,none⟩=false:=aH dD 0;have z1:w2.frozen? ⟨B,1,none⟩=false:=aH dD 1;clear hE dD hb1 hb2 hb0
 go_wp2_with fail
 go_region_held3 (fun w'=>w'.frozen? ⟨B,0,none⟩=false/\w'.frozen? ⟨B,1,none⟩=false) (go_keep) (first
  |(go_at_call 38;refine(HP.out _).mono ?_;rintro e w5 ⟨rfl,sH⟩;subst sH)
  |(simp only[fL];go_simp))
 go_wp2_with fail
 refine bodyPost_ret (v:=.agg #[.complex .f64 (floatOfInt .f64 XQ) (floatOfInt .f64 YQ),.int .i64 DQ]) (by simp[results,Tryz.results37,go_sem,e0,e1]) rfl ⟨rfl,?_⟩
 rw[hB];exact((ak.setCell (ai _) _).setCell (ai _) _).drew
end Go.Proofs.YtkjhhooecopolaaGreatDoor
