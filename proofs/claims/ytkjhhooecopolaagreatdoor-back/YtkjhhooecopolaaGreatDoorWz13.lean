import Derived.Test.YtkjhhooecopolaaGreatDoorWz12
set_option maxRecDepth 100000
set_option maxHeartbeats 4000000
namespace Go.Proofs.YtkjhhooecopolaaGreatDoor
open Go.RowKit
theorem Ii(p q:Int)(b cap:Nat)(w:World)(h0:w.cell? ⟨b,0,none⟩=some (.int .i64 p))(h1:w.cell? ⟨b,1,none⟩=some (.int .i64 q)):
  Calls Tryz.prog 182 #[.slice (some ⟨b,0,none⟩) 2 cap] w fun r w'=>r=.returned (.int .i64 (if p=0 then q else p))/\w'=w:=by
 go_enter Tryz.func182,Tryz.ntmps182
 go_wp2_with fail
 go_loopg [8] 2 (fun n iv wr=>wr=w/\((n=2/\iv=.int .i64 0)\/(n=1/\iv=.int .i64 1/\p=0)\/(n=0/\iv=.int .i64 2/\p=0/\q=0)))
 case atStart=>exact⟨rfl,ag ⟨rfl,rfl⟩⟩
 case round=>
  obtain⟨rfl,⟨rfl,rfl⟩|⟨rfl,rfl,hp⟩|⟨rfl,rfl,hp,hq⟩⟩:=hrel
  ·by_cases hp:p=0
   ·subst hp
    go_wp2_with fail
    go_roundg 1
    case measure=>omega
    case rel=>exact⟨rfl,ah (ag ⟨rfl,rfl,trivial⟩)⟩
   ·go_wp2_with fail
    go_ret
    exact⟨by simp,rfl⟩
  ·subst hp;by_cases hq:q=0
   ·subst hq
    go_wp2_with fail
    go_roundg 0
    case measure=>omega
    case rel=>exact⟨rfl,ah (ah ⟨rfl,rfl,by simp⟩)⟩
   ·go_wp2_with fail
    go_ret
    exact⟨by simp,rfl⟩
  ·subst hp;subst hq
   go_wp2_with fail
   go_ret
   exact⟨by simp,rfl⟩
theorem Ua{n:Ge.Nd}(h:dM n.1 n.2.1 n.2.2):sm n.1/\sm n.2.1/\sm n.2.2:=by
 have hx:=h.x;have hy:=h.y;have hd:=h.d;unfold sm;omega
theorem aeA(N1 N2 M1 M2 re im re' Ij:Nat)(P Q p q R:Int)(w:World)
  (HO:Hid (∀b cap w,w.cell? ⟨b,0,none⟩=some (.int .i64 p)->w.cell? ⟨b,1,none⟩=some (.int .i64 q)->Calls Tryz.prog 182 #[.slice (some ⟨b,0,none⟩) 2 cap] w fun r w'=>r=.returned (.int .i64 R)/\w'=w))
  (HM:Hid (∀w,Calls Tryz.prog 152 #[.agg #[.complex .f64 M1 M2,.int .i64 Q],.complex .f64 N1 N2] w fun e w'=>e=.returned (.complex .f64 re im)/\Below w.heap.size w w'/\w.drawn<=w'.drawn))
  (HT:Hid (∀w,Calls Tryz.prog 152 #[.agg #[.complex .f64 N1 N2,.int .i64 P],.complex .f64 M1 M2] w fun e w'=>e=.returned (.complex .f64 re' Ij)/\Below w.heap.size w w'/\w.drawn<=w'.drawn))
  (xV:Hid (∀w,Calls Tryz.prog 183 #[.float .f64 re,.float .f64 re'] w fun r w'=>r=.returned (.int .i64 p)/\w'=w))
  (xW:Hid (∀w,Calls Tryz.prog 183 #[.float .f64 im,.float .f64 Ij] w fun r w'=>r=.returned (.int .i64 q)/\w'=w)):
  Calls Tryz.prog 125 #[.agg #[.complex .f64 N1 N2,.int .i64 P],.agg #[.complex .f64 M1 M2,.int .i64 Q]] w fun r w'=>r=.returned (.int .i64 R)/\Below w.heap.size w w'/\w.drawn<=w'.drawn:=by
 go_enter Tryz.func125,Tryz.ntmps125
 go_wp2_with fail
 have hX:((w.alloc (.cells #[.complex .f64 N1 N2,.int .i64 P] 83)).alloc (.cells #[.complex .f64 M1 M2,.int .i64 Q] 83)).heap[w.heap.size]?=some (.cells #[.complex .f64 N1 N2,.int .i64 P] 83 (0,0)):=by
  rw[Below.heap_alloc _ _ _ (by simp)];exact heap_alloc_new _ _
 have hY:((w.alloc (.cells #[.complex .f64 N1 N2,.int .i64 P] 83)).alloc (.cells #[.complex .f64 M1 M2,.int .i64 Q] 83)).heap[w.heap.size+1]?=some (.cells #[.complex .f64 M1 M2,.int .i64 Q] 83 (0,0)):=by
  have:=heap_alloc_new (w.alloc (.cells #[.complex .f64 N1 N2,.int .i64 P] 83)) (.cells #[.complex .f64 M1 M2,.int .i64 Q] 83);simpa using this
 have hb0:Below w.heap.size w ((w.alloc (.cells #[.complex .f64 N1 N2,.int .i64 P] 83)).alloc (.cells #[.complex .f64 M1 M2,.int .i64 Q] 83)):=((Below.refl _ _).alloc (ay _) _).alloc (by simp) _
 have dJ:w.heap.size+1<((w.alloc (.cells #[.complex .f64 N1 N2,.int .i64 P] 83)).alloc (.cells #[.complex .f64 M1 M2,.int .i64 Q] 83)).heap.size:=by simp
 have hd0:w.drawn<=((w.alloc (.cells #[.complex .f64 N1 N2,.int .i64 P] 83)).alloc (.cells #[.complex .f64 M1 M2,.int .i64 Q] 83)).drawn:=ay _;generalize(w.alloc (.cells #[.complex .f64 N1 N2,.int .i64 P] 83)).alloc (.cells #[.complex .f64 M1 M2,.int .i64 Q] 83)=W at*;generalize hB:w.heap.size=B at*;have a0:W.cell? ⟨B,0,none⟩=some (.complex .f64 N1 N2):=cell_of hX 0;have a1:W.cell? ⟨B,1,none⟩=some (.int .i64 P):=cell_of hX 1;have a2:W.cell? ⟨B+1,0,none⟩=some (.complex .f64 M1 M2):=cell_of hY 0;have a3:W.cell? ⟨B+1,1,none⟩=some (.int .i64 Q):=cell_of hY 1;clear hX hY
 go_region_held3 (fun w'=>w'.cell? ⟨B,0,none⟩=some (.complex .f64 N1 N2)/\w'.cell? ⟨B,1,none⟩=some (.int .i64 P)/\w'.cell? ⟨B+1,0,none⟩=some (.complex .f64 M1 M2)/\w'.cell? ⟨B+1,1,none⟩=some (.int .i64 Q)) (go_keep) (first
   |(go_at_call_of 152 (Value.complex FloatKind.f64 N1 N2);refine(HM.out _).mono ?_;rintro e w6 ⟨rfl,aF,Db⟩;have hbz:B+1<w6.heap.size:=bu dJ aF.size;have b0:=(aF.cell (p:=⟨B,0,none⟩) (dG dJ)).trans a0;have b1:=(aF.cell (p:=⟨B,1,none⟩) (dG dJ)).trans a1;have b2:=(aF.cell (p:=⟨B+1,0,none⟩) dJ).trans a2;have b3:=(aF.cell (p:=⟨B+1,1,none⟩) dJ).trans a3)
   |(go_at_call_of 152 (Value.complex FloatKind.f64 M1 M2);refine(HT.out _).mono ?_;rintro e w7 ⟨rfl,aV,Dc⟩;have hcz:B+1<w7.heap.size:=bu hbz aV.size;have c0:=(aV.cell (p:=⟨B,0,none⟩) (dG hbz)).trans b0;have c1:=(aV.cell (p:=⟨B,1,none⟩) (dG hbz)).trans b1;have c2:=(aV.cell (p:=⟨B+1,0,none⟩) hbz).trans b2;have c3:=(aV.cell (p:=⟨B+1,1,none⟩) hbz).trans b3))
 have aw:=(hb0.drew.trans (aF.mono (eJ (dG dJ)))).trans (aV.mono (eJ (dG hbz)));have HD:Hid (w.drawn<=w7.drawn):=by
  have h1:W.drawn<=W.drew.drawn:=ny _;exact fg hd0 (fg h1 (fg Db Dc))
 clear aF aV hb0 Db Dc hd0
 go_wp2_with fail
 refine(xV.out _).mono ?_;rintro e w8 ⟨rfl,rfl⟩
 go_wp2_with fail
 refine(xW.out _).mono ?_;rintro e w9 ⟨rfl,rfl⟩
 go_wp2_with fail
 have hO:=heap_alloc_new w9 (.cells #[.int .i64 p,.int .i64 q] 3);have aeB:=aw.alloc (by omega) (.cells #[.int .i64 p,.int .i64 q] 3)
 have HDO:Hid (w.drawn<=(w9.alloc (.cells #[.int .i64 p,.int .i64 q] 3)).drawn):=HD;generalize w9.alloc (.cells #[.int .i64 p,.int .i64 q] 3)=WO at*;refine(HO.out _ _ _ (cell_of hO 0) (cell_of hO 1)).mono ?_;rintro e w10 ⟨rfl,rfl⟩
 go_wp2_with fail
 go_ret
 exact⟨rfl,by rw[hB];exact aeB,HDO.out⟩
theorem Dd(n m:Ge.Nd)(hn:dM n.1 n.2.1 n.2.2)(hm:dM m.1 m.2.1 m.2.2)(cn:Ge.Can n)(cm:Ge.Can m)(w:World):
  Calls Tryz.prog 125 #[gZ n,gZ m] w fun r w'=>r=.returned (.int .i64 (Ge.pc (Ge.ax n) (Ge.ax m)))/\Below w.heap.size w w'/\w.drawn<=w'.drawn:=by
 obtain⟨a1,a2⟩:=qD hn;obtain⟨b1,b2⟩:=qD hm;obtain⟨s1,s2,s3⟩:=Ua hn;obtain⟨t1,t2,t3⟩:=Ua hm;obtain⟨re,im,f1,f2,hM⟩:=CC (floatOfInt .f64 m.1) (floatOfInt .f64 m.2.1) m.2.2 a1 a2 s1 s2 t3;obtain⟨re',Ij,g1,g2,hT⟩:=CC (floatOfInt .f64 n.1) (floatOfInt .f64 n.2.1) n.2.2 b1 b2 t1 t2 s3;rw[Ge.Ia cn cm];exact aeA _ _ _ _ re im re' Ij n.2.2 m.2.2 _ _ _ w (fun b cap w h0 h1=>Ii _ _ b cap w h0 h1) hM hT (fun w=>xU f1 g1 w) (fun w=>xU f2 g2 w)
end Go.Proofs.YtkjhhooecopolaaGreatDoor
