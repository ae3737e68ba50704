import Derived.Test.YtkjhhooecopolaaGreatDoorMz35
set_option maxRecDepth 100000
set_option maxHeartbeats 4000000
namespace Go.Proofs.YtkjhhooecopolaaGreatDoor
open Go.RowKit
theorem ajD(cf:Nat->Nat->Int)(a:Nat)(r:List Nat)(g lo cap N1 N2:Nat)(N3:Int)(w:World)(hn:r.length<=85000000)
  (HV:Hid (∀(i:Nat) b,(a::r)[i]?=some b->w.cell? ⟨g,lo+i,none⟩=some (.pointer (some ⟨b,0,none⟩))))
  (HC:Hid (∀b∈a::r,∀c∈a::r,∀w',Below w.heap.size w w'->Calls Tryz.prog 172 #[.agg #[.complex .f64 N1 N2,.int .i64 N3],.pointer (some ⟨b,0,none⟩),.pointer (some ⟨c,0,none⟩)] w' fun r w''=>r=.returned (.int .i64 (cf b c))/\Below w'.heap.size w' w'')):
  Calls Tryz.prog 171 #[.slice (some ⟨g,lo,none⟩) (r.length+1) cap,.func (.func 172) #[.agg #[.complex .f64 N1 N2,.int .i64 N3]] #[]] w fun e w'=>e=.returned (.pointer (some ⟨bu cf r a,0,none⟩))/\Below w.heap.size w w':=by
 have c0:=HV.out 0 a rfl;rw[tY] at c0;have dw:g<w.heap.size:=lt_of_cell c0
 go_enter Tryz.func171,Tryz.ntmps171
 go_wp2_with fail
 go_loopg [5,6] r.length (fun m mv iv wr=>∃k:Nat,k+m=r.length/\iv=.int .i64 (k+1:Nat)/\mv=.pointer (some ⟨bu cf (r.take k) a,0,none⟩)/\Hid (Below w.heap.size w wr))
 case atStart=>exact⟨0,by omega,rfl,rfl,Below.refl _ _⟩
 case round=>
  obtain⟨k,hkn,rfl,rfl,HB⟩:=hrel;by_cases hlt:k<r.length
  ·obtain⟨b,hb⟩:∃b,r[k]?=some b:=⟨_,ay hlt⟩;have c1:=(HB.out.cell (p:=⟨g,lo+(k+1),none⟩) dw).trans (HV.out (k+1) b (by simpa using hb))
   have jQ:b∈a::r:=bn _ (aY hb);have hmm:bu cf (r.take k) a∈a::r:=by
    rcases wP cf (r.take k) a with h|h
    ·rw[h];simp
    ·exact bn _ (nL h)
   have ir:Hid (Calls Tryz.prog 172 #[.agg #[.complex .f64 N1 N2,.int .i64 N3],.pointer (some ⟨b,0,none⟩),.pointer (some ⟨bu cf (r.take k) a,0,none⟩)] wr fun r' w''=>r'=.returned (.int .i64 (cf b (bu cf (r.take k) a)))/\Below wr.heap.size wr w''):=HC.out b jQ _ hmm wr HB.out
   have gG:Hid (bu cf (r.take (k+1)) a=if cf b (bu cf (r.take k) a)<0 then b else bu cf (r.take k) a):=by
    have htk:r.take (k+1)=r.take k++[b]:=by rw[jx,hb];rfl
    show bu cf (r.take (k+1)) a=_;rw[htk,Jh]
   have eD:((k:Int)+1)<((r.length:Int)+1):=by omega
   have hgr:g<wr.heap.size:=aL dw HB.out.size;clear c0 hb jQ hmm;generalize bu cf (r.take k) a=M at*
   go_wp2_with fail
   refine ir.out.mono ?_;rintro e w5 ⟨rfl,ai⟩;have eI:Hid (Below w.heap.size w w5):=HB.out.trans (ai.mono HB.out.size);have c5:=(ai.cell (p:=⟨g,lo+(k+1),none⟩) hgr).trans c1;clear ir ai c1;generalize cf b M=V at*;by_cases hV:V<0
   ·have HM:Hid (bu cf (r.take (k+1)) a=b):=by rw[gG.out,if_pos hV];rfl
    go_wp2_with fail
    go_roundg (gk-1)
    case measure=>omega
    case rel=>exact⟨k+1,by omega,by go_num,by rw[HM.out],eI⟩
   ·have HM:Hid (bu cf (r.take (k+1)) a=M):=by rw[gG.out,if_neg hV];rfl
    have NY:decide (V<0)=false:=decide_eq_false hV
    go_wp2_with fail
    go_roundg (gk-1)
    case measure=>omega
    case rel=>exact⟨k+1,by omega,by go_num,by rw[HM.out],eI⟩
  ·have hk:k=r.length:=by omega
   subst hk;rw[dI];clear HC HV
   go_wp2_with fail
   go_ret
   exact⟨rfl,HB.out⟩
def dO(Xs:List PB)(n:Ge.Nd)(k:Nat):List Nat:=(List.range k).filter (js Xs n)
theorem ajE(Xs:List PB)(n:Ge.Nd)(k:Nat):dO Xs n (k+1)=dO Xs n k++(if js Xs n k then[k] else[]):=by
 unfold dO;rw[FP,F4];congr 1;cases h:js Xs n k<;>simp[h]
theorem OO(Xs:List PB)(n:Ge.Nd)(k:Nat):∀j∈dO Xs n k,j<k:=fun _j hj=>qu.1 (jw.1 hj).1
theorem Y4(Xs:List PB)(n:Ge.Nd)(k:Nat):(dO Xs n k).length<=k:=by
 have:=F5 (js Xs n) (List.range k);rw[acm] at this;exact this
theorem ajF(bs:List Nat)(Xs:List PB)(n:Ge.Nd)(N1 N2:Nat)(N3:Int)(g cap bM:Nat)(w:World)(hR:RB w g bs Xs)(hl:bs.length<=85000000)
  (HI:Hid (∀i,i<bs.length->∀w',Below w.heap.size w w'->Calls Tryz.prog 170 #[.pointer (some ⟨bx bs i,0,none⟩),.agg #[.complex .f64 N1 N2,.int .i64 N3]] w' fun e w''=>e=.returned (.bool (js Xs n i))/\Below w'.heap.size w' w''))
  (HM:Hid (∀lv wr,wr.ownsRow w.heap.size 175 1 lv (dO Xs n bs.length).length (aG ((dO Xs n bs.length).map (bx bs)))->Below w.heap.size w wr->Calls Tryz.prog 171 #[lv,.func (.func 172) #[.agg #[.complex .f64 N1 N2,.int .i64 N3]] #[]] wr fun e w''=>e=.returned (.pointer (some ⟨bM,0,none⟩))/\Below wr.heap.size wr w'')):
  Calls Tryz.prog 114 #[.slice (some ⟨g,0,none⟩) bs.length cap,.agg #[.complex .f64 N1 N2,.int .i64 N3]] w fun e w'=>e=.returned (.pointer (some ⟨bM,0,none⟩))/\Below w.heap.size w w':=by
 obtain⟨i0,hi0,hz0,hz1,hz2⟩:=info_parts yJ;have yK:Hid (RB w g bs Xs):=hR;have hT0:=heap_alloc_new w (.cells #[.complex .f64 N1 N2,.int .i64 N3] 83);have hs0:(w.alloc (.cells #[.complex .f64 N1 N2,.int .i64 N3] 83)).heap.size=w.heap.size+1:=by simp
 have bh:Hid ((w.alloc (.cells #[.complex .f64 N1 N2,.int .i64 N3] 83)).ownsRow (w.heap.size+1) 175 1 (.slice none 0 0) (dO Xs n 0).length (aG ((dO Xs n 0).map (bx bs)))/\Below w.heap.size w (w.alloc (.cells #[.complex .f64 N1 N2,.int .i64 N3] 83))/\(w.alloc (.cells #[.complex .f64 N1 N2,.int .i64 N3] 83)).heap[w.heap.size]?=some (.cells #[.complex .f64 N1 N2,.int .i64 N3] 83 (0,0))/\w.heap.size+1<=(w.alloc (.cells #[.complex .f64 N1 N2,.int .i64 N3] 83)).heap.size):=⟨World.ownsRow_nil _ _ _ _,(Below.refl _ _).alloc (ae _) _,hT0,by omega⟩
 clear hR hT0 hs0
 go_enter Tryz.func114,Tryz.ntmps114
 go_wp2_with fail
 generalize w.alloc (.cells #[.complex .f64 N1 N2,.int .i64 N3] 83)=W0 at*
 go_loopg [5,10] bs.length (fun m lv iv wr=>∃k:Nat,k+m=bs.length/\iv=.int .i64 k/\Hid (wr.ownsRow (w.heap.size+1) 175 1 lv (dO Xs n k).length (aG ((dO Xs n k).map (bx bs)))/\Below w.heap.size w wr/\wr.heap[w.heap.size]?=some (.cells #[.complex .f64 N1 N2,.int .i64 N3] 83 (0,0))/\w.heap.size+1<=wr.heap.size))
 case atStart=>exact⟨0,by omega,rfl,bh.out⟩
 case round=>
  obtain⟨k,hkn,rfl,HE⟩:=hrel;clear bh;obtain⟨gb,hb2,iB,ah6⟩:=HE.out;have t0:wr.cell? ⟨w.heap.size,0,none⟩=some (.complex .f64 N1 N2):=cell_of iB 0;have t1:wr.cell? ⟨w.heap.size,1,none⟩=some (.int .i64 N3):=cell_of iB 1;have lK:Hid (wr.ownsRow (w.heap.size+1) 175 1 u5 (dO Xs n k).length (aG ((dO Xs n k).map (bx bs)))/\Below w.heap.size w wr/\wr.heap[w.heap.size]?=some (.cells #[.complex .f64 N1 N2,.int .i64 N3] 83 (0,0))):=⟨gb,hb2,iB⟩;by_cases hlt:k<bs.length
  ·have c1:=(hb2.cell (p:=⟨g,k,none⟩) (lt_of_cell (yK.out.row k _ (wQ hlt)))).trans (yK.out.row k _ (wQ hlt));have Y5:Hid (Calls Tryz.prog 170 #[.pointer (some ⟨bx bs k,0,none⟩),.agg #[.complex .f64 N1 N2,.int .i64 N3]] wr fun e w''=>e=.returned (.bool (js Xs n k))/\Below wr.heap.size wr w''):=HI.out k hlt wr hb2
   have Jw:Hid (dO Xs n (k+1)=dO Xs n k++(if js Xs n k then[k] else[])):=ajE Xs n k
   have hsl:=Y4 Xs n k;have eD:(k:Int)<(bs.length:Int):=by omega
   clear gb hb2 iB HE HI HM yK;generalize js Xs n k=B at*;generalize dO Xs n k=T at*;generalize hbb:bx bs k=bS at*
   go_wp2_with fail
   refine Y5.out.mono ?_;rintro e w5 ⟨rfl,ai⟩;have dB:w5.ownsRow (w.heap.size+1) 175 1 u5 T.length (aG (T.map (bx bs))):=aJ lK.out.1 fun k hk=>ai.block k (au lK.out.1 k hk).2
   have eI:Hid (Below w.heap.size w w5):=lK.out.2.1.trans (ai.mono (by omega))
   have qm:Hid (w5.heap[w.heap.size]?=some (.cells #[.complex .f64 N1 N2,.int .i64 N3] 83 (0,0))):=(ai.block _ (lt_of_heap lK.out.2.2)).trans lK.out.2.2;have OP:w.heap.size+1<=w5.heap.size:=by have:=ai.size;omega
   have EF:Hid (bx bs k=bS):=hbb;clear ai Y5 lK c1 t0 t1 hbb;cases B
   ·have cC:Hid (w5.ownsRow (w.heap.size+1) 175 1 u5 (dO Xs n (k+1)).length (aG ((dO Xs n (k+1)).map (bx bs)))/\Below w.heap.size w w5/\w5.heap[w.heap.size]?=some (.cells #[.complex .f64 N1 N2,.int .i64 N3] 83 (0,0))/\w.heap.size+1<=w5.heap.size):=by
     show _/\_;have e:dO Xs n (k+1)=T:=by rw[Jw.out];simp
     rw[e];exact⟨dB,eI.out,qm.out,OP⟩
    clear dB Jw
    go_wp2_with fail
    go_roundg (gk-1)
    case measure=>omega
    case rel=>exact⟨k+1,by omega,by go_num,cC.out⟩
   ·have hnb:(w5.alloc (.cells #[.pointer (some ⟨bS,0,none⟩)] 175)).heap[w5.heap.size]?=some (.cells #[.pointer (some ⟨bS,0,none⟩)] 175 (0,0)):=heap_alloc_new _ _;have fW:(w5.alloc (.cells #[.pointer (some ⟨bS,0,none⟩)] 175)).ownsRow (w.heap.size+1) 175 1 u5 T.length (aG (T.map (bx bs))):=aJ dB fun k hk=>Below.heap_alloc _ _ _ (au dB k hk).2
    have OQ:Hid (w5.ownsRow (w.heap.size+1) 175 1 u5 T.length (aG (T.map (bx bs)))):=dB;clear dB
    go_wp2_with (at_builtin;refine wpList_append_lies _ rfl (.tmp 17) (.tmp 19) 132 rfl (w.heap.size+1) 175 i0 _ 1 8 Tryz.underlying132 hi0 hz0 hz1 hz2 rfl (by decide) u5 T.length (aG (T.map (bx bs))) rfl fW ⟨w5.heap.size,0,none⟩ 1 1 [.pointer (some ⟨bS,0,none⟩)] rfl rfl (World.news_of_block (cs:= #[.pointer (some ⟨bS,0,none⟩)]) (t:=175) (fr:=(0,0)) hnb) (by simp[Value.oneCell']) (by decide) (by unfold maxLen;omega) (by omega) (by simp;omega) (w5.heap.size+1) (by simp) ?_;intro g' cap' w8 cH aZ gA pY)
    have cC:Hid (w8.ownsRow (w.heap.size+1) 175 1 (.slice (some ⟨g',0,none⟩) (T.length+1) cap') (dO Xs n (k+1)).length (aG ((dO Xs n (k+1)).map (bx bs)))/\Below w.heap.size w w8/\w8.heap[w.heap.size]?=some (.cells #[.complex .f64 N1 N2,.int .i64 N3] 83 (0,0))/\w.heap.size+1<=w8.heap.size):=by
     show _/\_;have e:dO Xs n (k+1)=T++[k]:=by rw[Jw.out];simp
     rw[e,aS,iy];have e2:aG (T.map (bx bs)++[k].map (bx bs))=aG (T.map (bx bs))++[.pointer (some ⟨bS,0,none⟩)]:=by simp[aG,EF.out]
     rw[e2];have hzz:=aZ.size;refine⟨cH,(eI.out.alloc (by omega) _).grown aZ (by simp;omega) (fun k hk=>by have:=(au OQ.out k hk).1;omega),?_,by simp at hzz;omega⟩
     have hne:∀k,u5.ownBlock=some k->k≠w.heap.size:=fun k hk=>by have:=(au OQ.out k hk).1;omega
     exact(aZ.block _ (by simp;omega) (fun e=>hne _ e.symm rfl)).trans ((Below.heap_alloc _ _ _ (by omega)).trans qm.out)
    clear cH aZ gA hnb fW OQ Jw
    go_wp2_with fail
    go_roundg (gk-1)
    case measure=>omega
    case rel=>exact⟨k+1,by omega,by go_num,cC.out⟩
  ·have hk:k=bs.length:=by omega
   subst hk;have EG:Hid (Calls Tryz.prog 171 #[u5,.func (.func 172) #[.agg #[.complex .f64 N1 N2,.int .i64 N3]] #[]] wr fun e w''=>e=.returned (.pointer (some ⟨bM,0,none⟩))/\Below wr.heap.size wr w''):=HM.out u5 wr (uR lK.out.1 (by omega)) lK.out.2.1
   have gf:Hid (Below w.heap.size w wr):=lK.out.2.1;clear gb hb2 iB HE HI HM yK lK
   go_wp2_with fail
   refine EG.out.mono ?_;rintro e w9 ⟨rfl,mF⟩;have HF:Hid (Below w.heap.size w w9):=gf.out.trans (mF.mono (by omega))
   clear mF EG gf
   go_wp2_with fail
   go_ret
   exact⟨rfl,HF.out⟩
theorem ajG(X1 X2 X3 Y1 Y2 Y3 N1 N2 ra rb P Q im:Nat)(N3 p q R:Int)(b c:Nat)(w:World)
  (a0:w.cell? ⟨b,0,none⟩=some (.complex .f64 X1 X2))(a1:w.cell? ⟨b,1,none⟩=some (.float .f64 X3))(c0:w.cell? ⟨c,0,none⟩=some (.complex .f64 Y1 Y2))(c1:w.cell? ⟨c,1,none⟩=some (.float .f64 Y3))
  (HLa:Hid (∀w,Calls Tryz.prog 97 #[.agg #[.complex .f64 X1 X2,.float .f64 X3],.agg #[.complex .f64 N1 N2,.int .i64 N3]] w fun e w'=>e=.returned (.float .f64 ra)/\Below w.heap.size w w'))
  (HLb:Hid (∀w,Calls Tryz.prog 97 #[.agg #[.complex .f64 Y1 Y2,.float .f64 Y3],.agg #[.complex .f64 N1 N2,.int .i64 N3]] w fun e w'=>e=.returned (.float .f64 rb)/\Below w.heap.size w w'))
  (CP:∀t w,(binOp .mul t (.float .f64 ra) (.float .f64 Y1)).run Tryz.prog w=.ok (.float .f64 P) w)(vS:∀t w,(binOp .mul t (.float .f64 rb) (.float .f64 X1)).run Tryz.prog w=.ok (.float .f64 Q) w)
  (yt:Hid (∀w,Calls Tryz.prog 183 #[.float .f64 P,.float .f64 Q] w fun r w'=>r=.returned (.int .i64 p)/\w'=w))
  (Oo:Hid (∀w,Calls Tryz.prog 101 #[.complex .f64 X1 X2,.complex .f64 Y1 Y2] w fun e w'=>e=.returned (.float .f64 im)/\w'=w))
  (yu:Hid (∀w,Calls Tryz.prog 183 #[.float .f64 im,.float .f64 0] w fun r w'=>r=.returned (.int .i64 q)/\w'=w))
  (HO:Hid (∀b cap w,w.cell? ⟨b,0,none⟩=some (.int .i64 p)->w.cell? ⟨b,1,none⟩=some (.int .i64 q)->Calls Tryz.prog 182 #[.slice (some ⟨b,0,none⟩) 2 cap] w fun r w'=>r=.returned (.int .i64 R)/\w'=w)):
  Calls Tryz.prog 172 #[.agg #[.complex .f64 N1 N2,.int .i64 N3],.pointer (some ⟨b,0,none⟩),.pointer (some ⟨c,0,none⟩)] w fun e w'=>e=.returned (.int .i64 R)/\Below w.heap.size w w':=by
 have hbz:b<w.heap.size:=lt_of_cell a0;have hcz:c<w.heap.size:=lt_of_cell c0;have hb0:Below w.heap.size w (w.alloc (.cells #[.complex .f64 N1 N2,.int .i64 N3] 83)):=(Below.refl _ _).alloc (ae _) _;have hE:=heap_alloc_new w (.cells #[.complex .f64 N1 N2,.int .i64 N3] 83);have hz:w.heap.size<(w.alloc (.cells #[.complex .f64 N1 N2,.int .i64 N3] 83)).heap.size:=by simp
 go_enter Tryz.func172,Tryz.ntmps172
 go_wp2_with fail
 have z0:(w.alloc (.cells #[.complex .f64 N1 N2,.int .i64 N3] 83)).cell? ⟨w.heap.size,0,none⟩=some (.complex .f64 N1 N2):=cell_of hE 0;have z1:(w.alloc (.cells #[.complex .f64 N1 N2,.int .i64 N3] 83)).cell? ⟨w.heap.size,1,none⟩=some (.int .i64 N3):=cell_of hE 1;have z2:=(hb0.cell (p:=⟨b,0,none⟩) hbz).trans a0;have z3:=(hb0.cell (p:=⟨b,1,none⟩) hbz).trans a1;have z4:=(hb0.cell (p:=⟨c,0,none⟩) hcz).trans c0;have z5:=(hb0.cell (p:=⟨c,1,none⟩) hcz).trans c1;generalize w.alloc (.cells #[.complex .f64 N1 N2,.int .i64 N3] 83)=W at*;generalize qO:w.heap.size=B at*;have kO:B<W.heap.size:=by omega
 have hbW:b<W.heap.size:=by omega
 have OS:c<W.heap.size:=by omega
 have OL:Below B w W:=hb0;clear hE hz a0 a1 c0 c1 hb0
 go_region_held3 (fun w'=>w'.cell? ⟨B,0,none⟩=some (.complex .f64 N1 N2)/\w'.cell? ⟨B,1,none⟩=some (.int .i64 N3)/\w'.cell? ⟨b,0,none⟩=some (.complex .f64 X1 X2)/\w'.cell? ⟨b,1,none⟩=some (.float .f64 X3)/\w'.cell? ⟨c,0,none⟩=some (.complex .f64 Y1 Y2)/\w'.cell? ⟨c,1,none⟩=some (.float .f64 Y3)) (go_keep) (first
   |(go_at_call_of 97 (Value.agg #[Value.complex FloatKind.f64 X1 X2,Value.float FloatKind.f64 X3]);refine(HLa.out _).mono ?_;rintro e w5 ⟨rfl,tK⟩;have nB:B<w5.heap.size:=aL kO tK.size;have dN:b<w5.heap.size:=aL hbW tK.size;have OT:c<w5.heap.size:=aL OS tK.size;have l0:=(tK.cell (p:=⟨B,0,none⟩) kO).trans z0;have l1:=(tK.cell (p:=⟨B,1,none⟩) kO).trans z1;have l2:=(tK.cell (p:=⟨b,0,none⟩) hbW).trans z2;have l3:=(tK.cell (p:=⟨b,1,none⟩) hbW).trans z3;have l4:=(tK.cell (p:=⟨c,0,none⟩) OS).trans z4;have l5:=(tK.cell (p:=⟨c,1,none⟩) OS).trans z5;have ajJ:Below B w w5:=OL.drew.trans (tK.mono (eo kO)))
   |(go_at_call_of 97 (Value.agg #[Value.complex FloatKind.f64 Y1 Y2,Value.float FloatKind.f64 Y3]);refine(HLb.out _).mono ?_;rintro e w6 ⟨rfl,tL⟩;have tJ:B<w6.heap.size:=aL nB tL.size;have ib:b<w6.heap.size:=aL dN tL.size;have OU:c<w6.heap.size:=aL OT tL.size;have m0:=(tL.cell (p:=⟨B,0,none⟩) nB).trans l0;have m1:=(tL.cell (p:=⟨B,1,none⟩) nB).trans l1;have m2:=(tL.cell (p:=⟨b,0,none⟩) dN).trans l2;have m3:=(tL.cell (p:=⟨b,1,none⟩) dN).trans l3;have m4:=(tL.cell (p:=⟨c,0,none⟩) OT).trans l4;have m5:=(tL.cell (p:=⟨c,1,none⟩) OT).trans l5;have ajK:Below B w w6:=ajJ.trans (tL.mono (eo nB)))
   |(go_at_call_of 183 (Value.float FloatKind.f64 P);refine(yt.out _).mono ?_;rintro e w7 ⟨rfl,kN⟩;replace kN:=kN.symm;subst kN)
   |(go_at_call 101;refine(Oo.out _).mono ?_;rintro e w7 ⟨rfl,kN⟩;replace kN:=kN.symm;subst kN)
   |(go_at_call_of 183 (Value.float FloatKind.f64 im);refine(yu.out _).mono ?_;rintro e w7 ⟨rfl,kN⟩;replace kN:=kN.symm;subst kN)
   |(go_at_call 182;refine(HO.out _ _ _ (cell_of (heap_alloc_new _ _) 0) (cell_of (heap_alloc_new _ _) 1)).mono ?_;rintro e w8 ⟨rfl,qC⟩;have tM:Below w6.heap.size w6 w8:=(by(rw[qC];exact(Below.refl _ _).alloc (ae _) _));have aoM:B<w8.heap.size:=aL tJ tM.size;have aoN:b<w8.heap.size:=aL ib tM.size;have aoO:c<w8.heap.size:=aL OU tM.size;have o0:=(tM.cell (p:=⟨B,0,none⟩) tJ).trans m0;have o1:=(tM.cell (p:=⟨B,1,none⟩) tJ).trans m1;have o2:=(tM.cell (p:=⟨b,0,none⟩) ib).trans m2;have o3:=(tM.cell (p:=⟨b,1,none⟩) ib).trans m3;have o4:=(tM.cell (p:=⟨c,0,none⟩) OU).trans m4;have o5:=(tM.cell (p:=⟨c,1,none⟩) OU).trans m5;have ajL:Below B w w8:=ajK.trans (tM.mono (eo tJ));clear qC))
 all_goals
  go_wp2_with fail
  go_ret
  exact⟨rfl,by rw[qO];exact ajL⟩
def EO(n:Ge.Nd)(x y:PB):Int:=(Ge.cr (Ga.wv x.f x.t) (Ga.wv x.f n)*(y.f.2.2*(Ga.wv y.f y.t).1)-Ge.cr (Ga.wv y.f y.t) (Ga.wv y.f n)*(x.f.2.2*(Ga.wv x.f x.t).1)).sign
def qo(n:Ge.Nd)(x y:PB):Int:=if EO n x y=0 then eT x y else EO n x y
theorem Y6{x:PB}{l:Ge.Ln}(hx:LD x l)(n:Ge.Nd):∃dl DD:Int,0<dl/\0<DD/\DD*(x.f.2.2*(l.1*n.2.1-l.2.1*n.1-l.2.2*n.2.2))=dl*Ge.cr (Ga.wv x.f x.t) (Ga.wv x.f n)/\DD*l.1=dl*(Ga.wv x.f x.t).1:=by
 have hp:=hx.par;have hd:=hx.pos;have h:=hx.NU;rw[(tD x.f x.t).1,(tD x.f x.t).2] at hp hd;refine⟨l.1*(Ga.wv x.f x.t).1+l.2.1*(Ga.wv x.f x.t).2,Ge.dt (Ga.wv x.f x.t) (Ga.wv x.f x.t),hd,Ga.ez ?_,?_,?_⟩
 ·intro e;rw[e] at hd;simp at hd
 ·have e1:x.f.2.2*(l.1*n.2.1-l.2.1*n.1-l.2.2*n.2.2)=l.1*(Ga.wv x.f n).2-l.2.1*(Ga.wv x.f n).1:=by
   have e0:(Ga.wv x.f n).1=x.f.2.2*n.1-n.2.2*x.f.1:=rfl;have e0':(Ga.wv x.f n).2=x.f.2.2*n.2.1-n.2.2*x.f.2.1:=rfl;rw[e0,e0'];have:x.f.2.2*(l.1*n.2.1-l.2.1*n.1-l.2.2*n.2.2)=x.f.2.2*l.1*n.2.1-x.f.2.2*l.2.1*n.1-n.2.2*(l.2.2*x.f.2.2):=by grind
   rw[this,<-h]
   grind
  rw[e1];generalize Ga.wv x.f x.t=D at*;generalize Ga.wv x.f n=v at*;unfold Ge.dt Ge.cr;clear h e1 hd
  grind
 ·generalize Ga.wv x.f x.t=D at*;unfold Ge.dt;clear h hd
  grind
theorem ajN{x y:PB}{l m:Ge.Ln}(hx:LD x l)(hy:LD y m)(OV:0<x.f.2.2)(EP:0<y.f.2.2)(n:Ge.Nd):((l.1*n.2.1-l.2.1*n.1-l.2.2*n.2.2)*m.1-(m.1*n.2.1-m.2.1*n.1-m.2.2*n.2.2)*l.1).sign=EO n x y:=by
 obtain⟨d1,D1,p1,q1,e1,e2⟩:=Y6 hx n;obtain⟨d2,D2,p2,q2,e3,e4⟩:=Y6 hy n;unfold EO;generalize l.1*n.2.1-l.2.1*n.1-l.2.2*n.2.2=A at*;generalize m.1*n.2.1-m.2.1*n.1-m.2.2*n.2.2=B at*;generalize Ge.cr (Ga.wv x.f x.t) (Ga.wv x.f n)=CX at*;generalize Ge.cr (Ga.wv y.f y.t) (Ga.wv y.f n)=CY at*;generalize(Ga.wv x.f x.t).1=X1 at*;generalize(Ga.wv y.f y.t).1=Y1 at*;generalize x.f.2.2=fx at*;generalize y.f.2.2=fy at*;have k1:0<D1*D2*(fx*fy):=aP (aP q1 q2) (aP OV EP);have k2:0<d1*d2:=aP p1 p2;rw[<-Ge.LQ (z:=A*m.1-B*l.1) k1,<-Ge.LQ (z:=CX*(fy*Y1)-CY*(fx*X1)) k2];congr 1;have a1:D1*D2*(fx*fy)*(A*m.1-B*l.1)=(D1*(fx*A))*(fy*(D2*m.1))-(D2*(fy*B))*(fx*(D1*l.1)):=by grind
 rw[a1,e1,e2,e3,e4]
 grind
theorem ajO(x y:PB){l m:Ge.Ln}(hx:LD x l)(hy:LD y m)(OV:0<x.f.2.2)(EP:0<y.f.2.2)(n:Ge.Nd)(hn:lF n)(b c:Nat)(w:World)(h1:iE w b x)(h2:iE w c y):
  Calls Tryz.prog 172 #[gS n,.pointer (some ⟨b,0,none⟩),.pointer (some ⟨c,0,none⟩)] w fun e w'=>e=.returned (.int .i64 (qo n x y))/\Below w.heap.size w w':=by
 obtain⟨ra,fa,hLa⟩:=OM hx hn;obtain⟨rb,fb,Oi⟩:=OM hy hn;have bd:∀(k:Ge.Ln),k.1.natAbs<=100->k.2.1.natAbs<=100->k.2.2.natAbs<=10000->(k.1*n.2.1-k.2.1*n.1-k.2.2*n.2.2).natAbs<=1000000000:=fun k k1 k2 k3=>by
  have a1:(k.1*n.2.1).natAbs<=100*3000000:=by rw[nK];exact BP k1 hn.y
  have a2:(k.2.1*n.1).natAbs<=100*3000000:=by rw[nK];exact BP k2 hn.x
  have a3:(k.2.2*n.2.2).natAbs<=10000*20000:=by rw[nK];exact BP k3 (by have:=hn.d;omega)
  omega
 have ba:=bd l hx.b1 hx.b2 hx.b3;have bb:=bd m hy.b1 hy.b2 hy.b3;have m1:((l.1*n.2.1-l.2.1*n.1-l.2.2*n.2.2)*m.1).natAbs<=1000000000*100:=by rw[nK];exact BP ba hy.b1
 have m2:((m.1*n.2.1-m.2.1*n.1-m.2.2*n.2.2)*l.1).natAbs<=1000000000*100:=by rw[nK];exact BP bb hx.b1
 obtain⟨P,eP,fP⟩:=fa.mul hy.fl.a (by omega)
 obtain⟨Q,eQ,fQ⟩:=fb.mul hx.fl.a (by omega)
 obtain⟨im,f1,hl⟩:=Et hx hy;have hc1:=fun w=>yr fP fQ w
 rw[ajN hx hy OV EP n] at hc1;have hc2:=fun w=>yr f1 kE w
 rw[za,Es hx hy] at hc2;unfold gS;exact ajG _ _ _ _ _ _ _ _ ra rb P Q im _ _ _ _ b c w h1.c0 h1.c1 h2.c0 h2.c1 hLa Oi (fun t w=>run_float_arith (P:=Tryz.prog) w .mul t .f64 _ _ P eP) (fun t w=>run_float_arith (P:=Tryz.prog) w .mul t .f64 _ _ Q eQ) hc1 hl hc2 (fun b cap w h0 h1=>Ip _ _ b cap w h0 h1)
def ic(Xs:List PB)(n:Ge.Nd):Nat:=bu (fun i j=>qo n (xi Xs i) (xi Xs j)) (dO Xs n Xs.length).tail ((dO Xs n Xs.length).headD 0)
theorem Y7{Xs:List PB}{n:Ge.Nd}(h:dO Xs n Xs.length≠[]):ic Xs n∈dO Xs n Xs.length:=by
 unfold ic;generalize dO Xs n Xs.length=T at*;cases T with
 |nil=>exact absurd rfl h
 |cons a t=>
  rcases wP (fun i j=>qo n (xi Xs i) (xi Xs j)) t a with e|e
  ·rw[show(a::t).tail=t from rfl,show(a::t).headD 0=a from rfl,e];simp
  ·exact bn _ e
theorem ajQ(bs:List Nat)(Xs:List PB)(hB:BD Xs)(hnd:bs.Nodup)(n:Ge.Nd)(hn:lF n)(g cap:Nat)(w:World)(hR:RB w g bs Xs)(hne:dO Xs n Xs.length≠[]):
  Calls Tryz.prog 114 #[.slice (some ⟨g,0,none⟩) bs.length cap,gS n] w fun e w'=>e=.returned (.pointer (some ⟨bx bs (ic Xs n),0,none⟩))/\Below w.heap.size w w':=by
 have hlen:=hR.len;have hbl:bs.length<=85000000:=by rw[hlen];exact hB.len
 refine ajF bs Xs n _ _ _ g cap (bx bs (ic Xs n)) w hR hbl (fun i hi w' hb=>ajC bs Xs hB w' g (hR.below hb) n hn i (by rw[<-hlen];exact hi)) ?_
 intro lv wr ho hb;rw[hlen] at ho;have hT:∀j∈dO Xs n Xs.length,j<Xs.length:=OO Xs n Xs.length;have rh:=Y4 Xs n Xs.length;have Jx:=hB.len;have ql:ic Xs n=bu (fun i j=>qo n (xi Xs i) (xi Xs j)) (dO Xs n Xs.length).tail ((dO Xs n Xs.length).headD 0):=rfl
 rw[ql];generalize dO Xs n Xs.length=T at*;obtain⟨t0,tr,rfl⟩:∃t0 tr,T=t0::tr:=by
  cases T with
  |nil=>exact absurd rfl hne
  |cons a t=>exact⟨a,t,rfl⟩
 obtain⟨gT,cT,rfl,_,_,_,_,_,hcell⟩:=ny ho (by simp)
 have cu:=hR.below hb;have hm:=ajD (fun b b'=>qo n (xi Xs (bs.idxOf b)) (xi Xs (bs.idxOf b'))) (bx bs t0) (tr.map (bx bs)) gT 0 cT (floatOfInt .f64 n.1) (floatOfInt .f64 n.2.1) n.2.2 wr (by rw[iH];simp only[bO] at rh;omega)
  (fun i b hi=>hcell i b hi)
  (fun b h1 c h2 w'' hw=>by
   have key:∀b,b∈bx bs t0::tr.map (bx bs)->∃j,j<Xs.length/\b=bx bs j:=fun b hb=>by
    have hb2:b∈(t0::tr).map (bx bs):=hb;obtain⟨j,hj,rfl⟩:=aX.1 hb2;exact⟨j,hT j hj,rfl⟩
   obtain⟨j1,q1,rfl⟩:=key b h1;obtain⟨j2,q2,rfl⟩:=key c h2;have l8:=cu.below hw;rw[mD hnd (by rw[hlen];exact q1),mD hnd (by rw[hlen];exact q2)]
   obtain⟨l1,d1⟩:=hB.ld _ (gh q1);obtain⟨l2,d2⟩:=hB.ld _ (gh q2);exact ajO _ _ d1 d2 (hB.v _ (gh q1)).cf.pos (hB.v _ (gh q2)).cf.pos n hn _ _ w'' (l8.at q1) (l8.at q2))
 have e1:bu (fun b b'=>qo n (xi Xs (bs.idxOf b)) (xi Xs (bs.idxOf b'))) (tr.map (bx bs)) (bx bs t0)=bx bs (bu (fun i j=>qo n (xi Xs i) (xi Xs j)) (t0::tr).tail ((t0::tr).headD 0)):=by
  refine Ew _ _ fun j hj k hk=>?_
  simp only[mD hnd (by rw[hlen];exact hT j hj),mD hnd (by rw[hlen];exact hT k hk)]
 rw[e1,iH] at hm;exact hm
abbrev VR:=Value×List Nat
def fN(P:List Nat->Bool)(a:VR)(Z:List VR):VR:=Z.foldl (fun acc p=>if P p.2 then p else acc) a
def fO(P:List Nat->Bool)(Z:List VR):List VR:=Z.filter fun p=> !P p.2
theorem ajR(P:List Nat->Bool)(a:VR)(Z:List VR)(p:VR):fN P a (Z++[p])=if P p.2 then p else fN P a Z:=by unfold fN;rw[KR];rfl
theorem ajS(P:List Nat->Bool)(Z:List VR)(p:VR):fO P (Z++[p])=fO P Z++(if P p.2 then[] else[p]):=by
 unfold fO;rw[F4];congr 1;cases h:P p.2<;>simp[h]
structure TK(w:World)(base pb:Nat)(hv:Value)(s' h':Value)(hs:List Value)(wr:World):Prop where
 jX:wr.heap[pb]?=some (.cells #[s',h'] 187 (0,0))
 own:wr.ownsRow base 185 1 h' hs.length hs
 mo:Mo (pb::hv.ownBlock.toList) w wr
 fresh:∀k,h'.ownBlock=some k->hv.ownBlock=some k\/w.heap.size<=k
 ne:h'.ownBlock≠some pb
theorem TK.below{w:World}{base pb:Nat}{hv s' h':Value}{hs:List Value}{wr w':World}(h:TK w base pb hv s' h' hs wr)(hb:Below wr.heap.size wr w'):TK w base pb hv s' h' hs w':=
 ⟨(hb.block _ (lt_of_heap h.jX)).trans h.jX,aJ h.own fun k hk=>hb.block k (au h.own k hk).2,h.mo.trans (Mo.of _ hb),h.fresh,h.ne⟩
theorem TK.shell{w:World}{base pb:Nat}{hv s' h':Value}{hs:List Value}{wr:World}(h:TK w base pb hv s' h' hs wr)(v:Value):TK w base pb hv v h' hs (wr.setCell ⟨pb,0,none⟩ v):=by
 refine⟨?_,aJ h.own fun k hk=>Below.heap_setCell _ _ _ _ (fun e=>h.ne (by rw[hk,e])),h.mo.trans (Mo.setCell (pb::hv.ownBlock.toList) wr (p:=⟨pb,0,none⟩) (Rh ..) v),h.fresh,h.ne⟩
 rw[setCell_new h.jX];rfl
theorem TK.hole{w:World}{base pb:Nat}{hv s' h':Value}{hs:List Value}{wr:World}(h:TK w base pb hv s' h' hs wr)(hpw:pb<w.heap.size)(v:Value)(o:Obj){g' cap':Nat}{w8:World}(aZ:(wr.alloc o).grownBy w8 h'.ownBlock)
  (cH:w8.ownsRow base 185 1 (.slice (some ⟨g',0,none⟩) (hs.length+1) cap') (hs.length+1) (hs++[v]))(hat:h'.ownBlock=some g'\/g'=wr.heap.size+1):
  TK w base pb hv s' (.slice (some ⟨g',0,none⟩) (hs.length+1) cap') (hs++[v]) (w8.setCell ⟨pb,1,none⟩ (.slice (some ⟨g',0,none⟩) (hs.length+1) cap')):=by
 have lH:=lt_of_heap h.jX;have hwz:=h.mo.size;have ajT:w8.heap[pb]?=some (.cells #[s',h'] 187 (0,0)):=(aZ.block pb (by simp;omega) (fun e=>h.ne e.symm)).trans ((Below.heap_alloc _ _ _ lH).trans h.jX)
 have Y8:g'≠pb:=fun e=>by
  subst e;rcases hat with hat|hat
  ·exact h.ne hat
  ·omega
 refine⟨?_,?_,?_,fun k hk=>?_,fun e=>?_⟩
 ·rw[setCell_new ajT];rfl
 ·rw[aS];exact aJ cH fun k hk=>Below.heap_setCell _ _ _ _ (fun e=>by
   have:g'=k:=by simpa[Value.ownBlock] using hk
   exact Y8 (this.trans e))
 ·have m1:Mo (pb::hv.ownBlock.toList) w w8:=by
   refine h.mo.below ((Mo.alloc h'.ownBlock.toList wr o).trans (Mo.grown aZ (fun k hk=>by rw[hk];simp))) fun k hk hk'=>?_
   have hk2:h'.ownBlock=some k:=by simpa using hk'
   rcases h.fresh k hk2 with e|e
   ·exact bn _ (by rw[e];simp)
   ·omega
  exact m1.trans (Mo.setCell (pb::hv.ownBlock.toList) w8 (p:=⟨pb,1,none⟩) (Rh ..) _)
 ·have hk2:g'=k:=by simpa[Value.ownBlock] using hk
  subst hk2;rcases hat with hat|hat
  ·exact h.fresh _ hat
  ·right;omega
 ·have:g'=pb:=by simpa[Value.ownBlock] using e
  exact Y8 this
theorem Y9(P:List Nat->Bool)(Z:List VR)(a0:VR)(pb gR ajU base:Nat)(hv:Value)(hs:List Value)(w:World)(hn:Z.length<=85000000)(hhs:hs.length<=85000000)(hbase:base<=w.heap.size)
  (hI:TK w base pb hv a0.1 hv hs w)(hgR:gR≠pb/\hv.ownBlock≠some gR)
  (HV:Hid (∀(i:Nat) p,Z[i]?=some p->w.cell? ⟨gR,i,none⟩=some p.1/\∃so n c,p.1=.slice so n c))
  (HC:Hid (∀p∈Z,∀w',Mo (pb::hv.ownBlock.toList) w w'->Calls Tryz.prog 113 #[p.1] w' fun e w''=>e=.returned (.bool (P p.2))/\Below w'.heap.size w' w'')):
  Calls Tryz.prog 115 #[.pointer (some ⟨pb,0,none⟩),.slice (some ⟨gR,0,none⟩) Z.length ajU] w fun e w'=>e=.returned (.tuple #[])/\∃hv',TK w base pb hv (fN P a0 Z).1 hv' (hs++(fO P Z).map (·.1)) w':=by
 obtain⟨j0,oY,hy0,hy1,hy2⟩:=info_parts YG;have bh:Hid (∃hv',TK w base pb hv (fN P a0 (Z.take 0)).1 hv' (hs++(fO P (Z.take 0)).map (·.1)) w):=⟨hv,by simpa[fN,fO] using hI⟩
 have hpw:pb<w.heap.size:=lt_of_heap hI.jX;have OW:Hid (gR≠pb/\hv.ownBlock≠some gR):=hgR;clear hI hgR
 go_enter Tryz.func115,Tryz.ntmps115
 go_wp2_with fail
 go_loopg [8] Z.length (fun m iv wr=>∃k:Nat,k+m=Z.length/\iv=.int .i64 k/\Hid (∃hv',TK w base pb hv (fN P a0 (Z.take k)).1 hv' (hs++(fO P (Z.take k)).map (·.1)) wr))
 case atStart=>exact⟨0,by omega,rfl,bh.out⟩
 case round=>
  obtain⟨k,hkn,rfl,HE⟩:=hrel;clear bh;by_cases hlt:k<Z.length
  ·obtain⟨p,hp⟩:∃p,Z[k]?=some p:=⟨_,ay hlt⟩;obtain⟨h',jt⟩:=HE.out;obtain⟨c0,so,sn,sc,hsv⟩:=HV.out k p hp;have dw:gR<w.heap.size:=lt_of_cell c0;have c1:=(jt.mo.cell (p:=⟨gR,k,none⟩) dw (by
    intro hk;rcases aQ.1 hk with e|e
    ·exact OW.out.1 e
    ·exact OW.out.2 (by simpa using e))).trans c0
   have hcall:=HC.out p (aY hp) wr jt.mo;have htk:Z.take (k+1)=Z.take k++[p]:=by rw[jx,hp];rfl
   have Jy:Hid (fN P a0 (Z.take (k+1))=if P p.2 then p else fN P a0 (Z.take k)):=by
    show fN P a0 (Z.take (k+1))=_;rw[htk,ajR]
   have Jz:Hid (fO P (Z.take (k+1))=fO P (Z.take k)++(if P p.2 then[] else[p])):=by
    show fO P (Z.take (k+1))=_;rw[htk,ajS]
   have OX:Hid ((hs++(fO P (Z.take k)).map (·.1)).length<=85000000+k):=by
    show _<=_;have:=F5 (fun p:VR=> !P p.2) (Z.take k)
    rw[aS,iH];unfold fO;rw[ig] at this;omega
   have eD:(k:Int)<(Z.length:Int):=by omega
   obtain⟨v,r⟩:=p;simp only at*;subst hsv;have ir:Hid (Calls Tryz.prog 113 #[.slice so sn sc] wr fun e w''=>e=.returned (.bool (P r))/\Below wr.heap.size wr w''):=hcall
   have ux:Hid (TK w base pb hv (fN P a0 (Z.take k)).1 h' (hs++(fO P (Z.take k)).map (·.1)) wr):=jt
   clear c0 hp jt HE hcall htk;generalize(fN P a0 (Z.take k))=sa at*;generalize(fO P (Z.take k))=hb at*;have ajW:Hid (hs++hb.map (·.1)=hs++hb.map (·.1)):=rfl
   generalize hgl:hs++hb.map (·.1)=hl at*
   have Za:Hid (hs++hb.map (·.1)=hl):=hgl
   clear ajW hgl;generalize P r=B at*
   go_wp2_with fail
   refine ir.out.mono ?_;rintro e w5 ⟨rfl,ai⟩;have rq:=ux.out.below ai;have qm:Hid (TK w base pb hv sa.1 h' hl w5):=rq;have f0:w5.frozen? ⟨pb,0,none⟩=false:=aB rq.jX 0;have q0:w5.cell? ⟨pb,0,none⟩=some sa.1:=cell_of rq.jX 0;have q1:w5.cell? ⟨pb,1,none⟩=some h':=cell_of rq.jX 1;clear ir ux c1 ai;have wJ:=rq.mo.size;obtain⟨EU,EW,h1c,rfl⟩:∃a b c,h'=.slice a b c:=by
    rcases rq.own.2 with⟨h,_⟩|⟨_,_,_,h,_⟩
    ·exact⟨_,_,_,h⟩
    ·exact⟨_,_,_,h⟩
   have hll:=OX.out;clear rq;cases B
   ·have yR:Hid (hs++(fO P (Z.take (k+1))).map (·.1)=hl++[.slice so sn sc]/\fN P a0 (Z.take (k+1))=sa):=by
     refine⟨?_,Jy.out⟩;rw[Jz.out,iy,<-fD,Za.out];rfl
    have hnb:(w5.alloc (.cells #[.slice so sn sc] 185)).heap[w5.heap.size]?=some (.cells #[.slice so sn sc] 185 (0,0)):=heap_alloc_new _ _;have hro:=qm.out.own;have oC:(w5.alloc (.cells #[.slice so sn sc] 185)).ownsRow base 185 1 (.slice EU EW h1c) hl.length hl:=aJ hro fun k hk=>Below.heap_alloc _ _ _ (au hro k hk).2
    have Zb:Hid (∀w8,(w5.alloc (.cells #[.slice so sn sc] 185)).grownBy w8 (Value.slice EU EW h1c).ownBlock->w8.heap[pb]?=some (.cells #[sa.1,.slice EU EW h1c] 187 (0,0))):=fun w8 aZ=>(aZ.block pb (by have:=lt_of_heap qm.out.jX;simp;omega) (fun e=>qm.out.ne e.symm)).trans ((Below.heap_alloc _ _ _ (lt_of_heap qm.out.jX)).trans qm.out.jX)
    clear hro Jy Jz OX
    go_wp2_with (at_builtin;refine wpList_append_lies _ rfl (.tmp 22) (.tmp 24) 183 rfl base 185 j0 _ 1 24 Tryz.underlying183 oY hy0 hy1 hy2 rfl (by decide) (.slice EU EW h1c) hl.length hl rfl oC ⟨w5.heap.size,0,none⟩ 1 1 [.slice so sn sc] rfl rfl (World.news_of_block (cs:= #[.slice so sn sc]) (t:=185) (fr:=(0,0)) hnb) (by simp[Value.oneCell']) (by decide) (by unfold maxLen;omega) (by omega) (by simp;omega) (w5.heap.size+1) (by simp) ?_;intro g' cap' w8 cH aZ gA pY;have OY:=Zb.out w8 aZ;have f81:w8.frozen? ⟨pb,1,none⟩=false:=aB OY 1;have c81:w8.cell? ⟨pb,1,none⟩=some (.slice EU EW h1c):=cell_of OY 1)
    have cC:Hid (∃hv',TK w base pb hv (fN P a0 (Z.take (k+1))).1 hv' (hs++(fO P (Z.take (k+1))).map (·.1)) (w8.setCell ⟨pb,1,none⟩ (.slice (some ⟨g',0,none⟩) (hl.length+1) cap'))):=by
     show ∃hv',_;rw[yR.out.1,yR.out.2];exact⟨_,qm.out.hole hpw _ _ aZ cH gA⟩
    clear cH aZ gA OY Zb hnb oC qm yR
    go_wp2_with fail
    go_roundg (gk-1)
    case measure=>omega
    case rel=>exact⟨k+1,by omega,by go_num,cC.out⟩
   ·have yR:Hid (hs++(fO P (Z.take (k+1))).map (·.1)=hl/\fN P a0 (Z.take (k+1))=(.slice so sn sc,r)):=by
     refine⟨?_,Jy.out⟩;rw[Jz.out];simp only[if_true,rA];exact Za.out
    have cC:Hid (∃hv',TK w base pb hv (fN P a0 (Z.take (k+1))).1 hv' (hs++(fO P (Z.take (k+1))).map (·.1)) (w5.setCell ⟨pb,0,none⟩ (.slice so sn sc))):=by
     show ∃hv',_;rw[yR.out.1,yR.out.2];exact⟨_,qm.out.shell _⟩
    clear qm yR Jy Jz OX q1
    go_wp2_with fail
    go_roundg (gk-1)
    case measure=>omega
    case rel=>exact⟨k+1,by omega,by go_num,cC.out⟩
  ·have hk:k=Z.length:=by omega
   subst hk;have HF:Hid (∃hv',TK w base pb hv (fN P a0 Z).1 hv' (hs++(fO P Z).map (·.1)) wr):=by
    have:=HE.out;rw[dI] at this;exact this
   clear HE HV HC OW
   go_wp2_with fail
   go_end0
   exact⟨rfl,HF.out⟩
end Go.Proofs.YtkjhhooecopolaaGreatDoor
