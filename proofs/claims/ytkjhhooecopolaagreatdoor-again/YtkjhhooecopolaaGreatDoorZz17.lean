import Derived.Test.YtkjhhooecopolaaGreatDoorZz13
import Derived.Test.YtkjhhooecopolaaGreatDoorZz16
set_option maxRecDepth 100000
set_option maxHeartbeats 4000000
namespace Go.Proofs.YtkjhhooecopolaaGreatDoor
open Go.RowKit
structure ko(n:Ge.Nd):Prop where
 x:n.1.natAbs<=3000000
 y:n.2.1.natAbs<=3000000
 d:0<n.2.2/\n.2.2<=20000
theorem ko.aF{n:Ge.Nd}(h:ko n):cP n.1 n.2.1 n.2.2:=⟨by have:=h.x;omega,by have:=h.y;omega,by have:=h.d;omega⟩
theorem adp{a b s c d t:Nat}{l m:Ge.Ln}(hl:nO a b s l)(hm:nO c d t m)(b1:sm l.1)(b2:sm l.2.1)(b3:sm m.1)(b4:sm m.2.1)(w:World):
  Calls Tryz.prog 161 #[.agg #[.complex .f64 a b,.float .f64 s],.agg #[.complex .f64 c d,.float .f64 t]] w fun e w'=>e=.returned (.int .i64 (l.1*m.1+l.2.1*m.2.1).sign)/\Below w.heap.size w w':=by
 obtain⟨re,im,f1,_,ht⟩:=Ks hl.a hl.b hm.a hm.b b1 b2 b3 b4;have hc:=fun w=>wO f1 jU w
 have e1:(l.1*m.1+l.2.1*m.2.1-0).sign=(l.1*m.1+l.2.1*m.2.1).sign:=by rw[xI]
 rw[e1] at hc;have HT:Hid (∀w,Calls Tryz.prog 98 #[.complex .f64 a b,.complex .f64 c d] w fun e w'=>e=.returned (.complex .f64 re im)/\w'=w):=ht
 have HC:Hid (∀w,Calls Tryz.prog 183 #[.float .f64 re,.float .f64 0] w fun r w'=>r=.returned (.int .i64 (l.1*m.1+l.2.1*m.2.1).sign)/\w'=w):=hc
 generalize(l.1*m.1+l.2.1*m.2.1).sign=R at*;clear ht hc f1 e1;have hb0:Below w.heap.size w ((w.alloc (.cells #[.complex .f64 a b,.float .f64 s] 122)).alloc (.cells #[.complex .f64 c d,.float .f64 t] 122)):=((Below.refl _ _).alloc (ax _) _).alloc (by simp) _
 go_enter Tryz.func161,Tryz.ntmps161
 go_wp2_with fail
 refine(HT.out _).mono ?_;rintro e w1 ⟨rfl,rfl⟩
 go_wp2_with fail
 refine(HC.out _).mono ?_;rintro e w2 ⟨rfl,rfl⟩
 go_wp2_with fail
 go_ret
 exact⟨rfl,hb0⟩
structure PB where
 wa:Nat
 wb:Nat
 sh:Nat
 f:Ge.Nd
 t:Ge.Nd
def PB.cells(x:PB):List Value:=[.complex .f64 x.wa x.wb,.float .f64 x.sh,.complex .f64 (floatOfInt .f64 x.f.1) (floatOfInt .f64 x.f.2.1),.int .i64 x.f.2.2,.complex .f64 (floatOfInt .f64 x.t.1) (floatOfInt .f64 x.t.2.1),.int .i64 x.t.2.2]
theorem adq(x:PB)(hf:ko x.f)(ht:ko x.t):
  ∃n:Ge.Nd,Ge.Can n/\Ge.au n=(Ge.aS (x.f.1+x.t.1) (x.f.2.2+x.t.2.2),Ge.aS (x.f.2.1+x.t.2.1) (x.f.2.2+x.t.2.2))/\cP n.1 n.2.1 n.2.2/\∀w,Calls Tryz.prog 160 #[.agg x.cells.toArray] w fun e w'=>e=.returned (gm n)/\Below w.heap.size w w':=by
 obtain⟨a1,a2⟩:=pJ hf.aF;obtain⟨b1,b2⟩:=pJ ht.aF;have hfx:=hf.x;have hfy:=hf.y;have hfd:=hf.d;have htx:=ht.x;have hty:=ht.y;have htd:=ht.d;obtain⟨re,im,e,f1,f2⟩:=abh a1 a2 b1 b2 (by omega) (by omega)
 obtain⟨n,hc,hq,hn,hN⟩:=Gj (x.f.2.2+x.t.2.2) f1 f2 (by omega) (by omega) (by omega)
 refine⟨n,hc,hq,hn,fun w=>?_⟩
 have HN:Hid (∀w,Calls Tryz.prog 37 #[.complex .f64 re im,.int .i64 (x.f.2.2+x.t.2.2)] w fun e w'=>e=.returned (gm n)/\Below w.heap.size w w'):=hN
 have hop:=fun t w=>run_complex_sum (P:=Tryz.prog) w .add (ae rfl) t .f64 _ _ _ _ re im e
 unfold gm at HN⊢;obtain⟨wa,wb,sh,⟨x1,x2,x3⟩,y1,y2,y3⟩:=x;simp only[PB.cells] at*;generalize floatOfInt .f64 x1=X1 at*;generalize floatOfInt .f64 x2=X2 at*;generalize floatOfInt .f64 y1=Y1 at*;generalize floatOfInt .f64 y2=Y2 at*;clear hN hq e f1 f2 a1 a2 b1 b2 hc hn hf ht;generalize floatOfInt .f64 n.1=N1 at*;generalize floatOfInt .f64 n.2.1=N2 at*;have hw3:IntKind.i64.wrap (x3+y3)=x3+y3:=by rw[IntKind.wrap_i64];omega
 have hb0:Below w.heap.size w ((w.alloc (.cells #[.complex .f64 wa wb,.float .f64 sh,.complex .f64 X1 X2,.int .i64 x3,.complex .f64 Y1 Y2,.int .i64 y3] 171)).alloc (.cells #[.complex .f64 0 0,.int .i64 0] 83)):=((Below.refl _ _).alloc (ax _) _).alloc (by simp) _
 have hE:=heap_alloc_new (w.alloc (.cells #[.complex .f64 wa wb,.float .f64 sh,.complex .f64 X1 X2,.int .i64 x3,.complex .f64 Y1 Y2,.int .i64 y3] 171)) (.cells #[.complex .f64 0 0,.int .i64 0] 83);have hz:(w.alloc (.cells #[.complex .f64 wa wb,.float .f64 sh,.complex .f64 X1 X2,.int .i64 x3,.complex .f64 Y1 Y2,.int .i64 y3] 171)).heap.size=w.heap.size+1:=by simp
 have hz2:((w.alloc (.cells #[.complex .f64 wa wb,.float .f64 sh,.complex .f64 X1 X2,.int .i64 x3,.complex .f64 Y1 Y2,.int .i64 y3] 171)).alloc (.cells #[.complex .f64 0 0,.int .i64 0] 83)).heap.size=w.heap.size+2:=by simp
 rw[hz] at hE
 go_enter Tryz.func160,Tryz.ntmps160
 go_wp2_with (simp only[hop])
 generalize(w.alloc (.cells #[.complex .f64 wa wb,.float .f64 sh,.complex .f64 X1 X2,.int .i64 x3,.complex .f64 Y1 Y2,.int .i64 y3] 171)).alloc (.cells #[.complex .f64 0 0,.int .i64 0] 83)=W at*;refine(HN.out _).mono ?_;rintro e w1 ⟨rfl,hb1⟩;have jl:=(hb1.block (w.heap.size+1) (by omega)).trans hE
 have e0:w1.cell? ⟨w.heap.size+1,0,none⟩=some (.complex .f64 0 0):=cell_of jl 0;have e1:w1.cell? ⟨w.heap.size+1,1,none⟩=some (.int .i64 0):=cell_of jl 1;have z0:w1.frozen? ⟨w.heap.size+1,0,none⟩=false:=aX jl 0;have z1:w1.frozen? ⟨w.heap.size+1,1,none⟩=false:=aX jl 1;have aj:=hb0.trans (hb1.mono hb0.size);clear hop hw3
 go_wp2_with (simp only[eK];go_simp)
 refine bodyPost_ret (v:=.agg #[.complex .f64 N1 N2,.int .i64 n.2.2]) (by simp[results,Tryz.results160,go_sem,e0,e1]) rfl ⟨rfl,?_⟩
 exact(aj.setCell (p:=⟨w.heap.size+1,0,none⟩) (mb _) _).setCell (p:=⟨w.heap.size+1,1,none⟩) (mb _) _
def aY(x y:Ge.Nd):Int:=Ge.pc (Ge.au x) (Ge.au y)
def y8(x y:PB):Int:=if aY x.f y.f=0 then aY x.t y.t else aY x.f y.f
structure cK(x:PB):Prop where
 f:ko x.f
 t:ko x.t
 cf:Ge.Can x.f
 ct:Ge.Can x.t
theorem adr(a1 b1 s1 a2 b2 s2 F1 F2 T1 T2 G1 G2 H1 H2:Nat)(F3 T3 G3 H3 p q R:Int)(w:World)
  (HO:Hid (∀b cap w,w.cell? ⟨b,0,none⟩=some (.int .i64 p)->w.cell? ⟨b,1,none⟩=some (.int .i64 q)->Calls Tryz.prog 182 #[.slice (some ⟨b,0,none⟩) 2 cap] w fun r w'=>r=.returned (.int .i64 R)/\w'=w))
  (HF:Hid (∀w,Calls Tryz.prog 125 #[.agg #[.complex .f64 F1 F2,.int .i64 F3],.agg #[.complex .f64 G1 G2,.int .i64 G3]] w fun e w'=>e=.returned (.int .i64 p)/\Below w.heap.size w w'/\w.drawn<=w'.drawn))
  (HT:Hid (∀w,Calls Tryz.prog 125 #[.agg #[.complex .f64 T1 T2,.int .i64 T3],.agg #[.complex .f64 H1 H2,.int .i64 H3]] w fun e w'=>e=.returned (.int .i64 q)/\Below w.heap.size w w'/\w.drawn<=w'.drawn)):
  Calls Tryz.prog 157 #[.agg #[.complex .f64 a1 b1,.float .f64 s1,.complex .f64 F1 F2,.int .i64 F3,.complex .f64 T1 T2,.int .i64 T3],.agg #[.complex .f64 a2 b2,.float .f64 s2,.complex .f64 G1 G2,.int .i64 G3,.complex .f64 H1 H2,.int .i64 H3]] w fun e w'=>e=.returned (.int .i64 R)/\Below w.heap.size w w'/\w.drawn<=w'.drawn:=by
 have hX:((w.alloc (.cells #[.complex .f64 a1 b1,.float .f64 s1,.complex .f64 F1 F2,.int .i64 F3,.complex .f64 T1 T2,.int .i64 T3] 171)).alloc (.cells #[.complex .f64 a2 b2,.float .f64 s2,.complex .f64 G1 G2,.int .i64 G3,.complex .f64 H1 H2,.int .i64 H3] 171)).heap[w.heap.size]?=some (.cells #[.complex .f64 a1 b1,.float .f64 s1,.complex .f64 F1 F2,.int .i64 F3,.complex .f64 T1 T2,.int .i64 T3] 171 (0,0)):=by
  rw[Below.heap_alloc _ _ _ (by simp)];exact heap_alloc_new _ _
 have hY:((w.alloc (.cells #[.complex .f64 a1 b1,.float .f64 s1,.complex .f64 F1 F2,.int .i64 F3,.complex .f64 T1 T2,.int .i64 T3] 171)).alloc (.cells #[.complex .f64 a2 b2,.float .f64 s2,.complex .f64 G1 G2,.int .i64 G3,.complex .f64 H1 H2,.int .i64 H3] 171)).heap[w.heap.size+1]?=some (.cells #[.complex .f64 a2 b2,.float .f64 s2,.complex .f64 G1 G2,.int .i64 G3,.complex .f64 H1 H2,.int .i64 H3] 171 (0,0)):=by
  have:=heap_alloc_new (w.alloc (.cells #[.complex .f64 a1 b1,.float .f64 s1,.complex .f64 F1 F2,.int .i64 F3,.complex .f64 T1 T2,.int .i64 T3] 171)) (.cells #[.complex .f64 a2 b2,.float .f64 s2,.complex .f64 G1 G2,.int .i64 G3,.complex .f64 H1 H2,.int .i64 H3] 171);simpa using this
 have hb0:Below w.heap.size w ((w.alloc (.cells #[.complex .f64 a1 b1,.float .f64 s1,.complex .f64 F1 F2,.int .i64 F3,.complex .f64 T1 T2,.int .i64 T3] 171)).alloc (.cells #[.complex .f64 a2 b2,.float .f64 s2,.complex .f64 G1 G2,.int .i64 G3,.complex .f64 H1 H2,.int .i64 H3] 171)):=((Below.refl _ _).alloc (ax _) _).alloc (by simp) _
 have dm:w.heap.size+2=((w.alloc (.cells #[.complex .f64 a1 b1,.float .f64 s1,.complex .f64 F1 F2,.int .i64 F3,.complex .f64 T1 T2,.int .i64 T3] 171)).alloc (.cells #[.complex .f64 a2 b2,.float .f64 s2,.complex .f64 G1 G2,.int .i64 G3,.complex .f64 H1 H2,.int .i64 H3] 171)).heap.size:=by simp
 have hd0:w.drawn<=((w.alloc (.cells #[.complex .f64 a1 b1,.float .f64 s1,.complex .f64 F1 F2,.int .i64 F3,.complex .f64 T1 T2,.int .i64 T3] 171)).alloc (.cells #[.complex .f64 a2 b2,.float .f64 s2,.complex .f64 G1 G2,.int .i64 G3,.complex .f64 H1 H2,.int .i64 H3] 171)).drawn:=ax _
 go_enter Tryz.func157,Tryz.ntmps157
 go_wp2_with fail
 generalize(w.alloc (.cells #[.complex .f64 a1 b1,.float .f64 s1,.complex .f64 F1 F2,.int .i64 F3,.complex .f64 T1 T2,.int .i64 T3] 171)).alloc (.cells #[.complex .f64 a2 b2,.float .f64 s2,.complex .f64 G1 G2,.int .i64 G3,.complex .f64 H1 H2,.int .i64 H3] 171)=W at*;generalize hB:w.heap.size=B at*;have cH:B<W.heap.size:=by omega
 have hzb:B+1<W.heap.size:=by omega
 have a0:W.cell? ⟨B,2,none⟩=some (.complex .f64 F1 F2):=cell_of hX 2;have a1:W.cell? ⟨B,3,none⟩=some (.int .i64 F3):=cell_of hX 3;have a2:W.cell? ⟨B,4,none⟩=some (.complex .f64 T1 T2):=cell_of hX 4;have a3:W.cell? ⟨B,5,none⟩=some (.int .i64 T3):=cell_of hX 5;have a4:W.cell? ⟨B+1,2,none⟩=some (.complex .f64 G1 G2):=cell_of hY 2;have a5:W.cell? ⟨B+1,3,none⟩=some (.int .i64 G3):=cell_of hY 3;have a6:W.cell? ⟨B+1,4,none⟩=some (.complex .f64 H1 H2):=cell_of hY 4;have a7:W.cell? ⟨B+1,5,none⟩=some (.int .i64 H3):=cell_of hY 5;clear hX hY
 go_region_held3 (fun w'=>w'.cell? ⟨B,2,none⟩=some (.complex .f64 F1 F2)/\w'.cell? ⟨B,3,none⟩=some (.int .i64 F3)/\w'.cell? ⟨B,4,none⟩=some (.complex .f64 T1 T2)/\w'.cell? ⟨B,5,none⟩=some (.int .i64 T3)/\w'.cell? ⟨B+1,2,none⟩=some (.complex .f64 G1 G2)/\w'.cell? ⟨B+1,3,none⟩=some (.int .i64 G3)/\w'.cell? ⟨B+1,4,none⟩=some (.complex .f64 H1 H2)/\w'.cell? ⟨B+1,5,none⟩=some (.int .i64 H3)) (go_keep) (first
   |(go_at_call_of 125 (Value.agg #[Value.complex FloatKind.f64 F1 F2,Value.int IntKind.i64 F3]);refine(HF.out _).mono ?_;rintro e w6 ⟨rfl,aC,BM⟩;have iy:B<w6.heap.size:=aZ cH aC.size;have jV:B+1<w6.heap.size:=aZ hzb aC.size;have b0:=(aC.cell (p:=⟨B,2,none⟩) cH).trans a0;have b1:=(aC.cell (p:=⟨B,3,none⟩) cH).trans a1;have b2:=(aC.cell (p:=⟨B,4,none⟩) cH).trans a2;have b3:=(aC.cell (p:=⟨B,5,none⟩) cH).trans a3;have b4:=(aC.cell (p:=⟨B+1,2,none⟩) hzb).trans a4;have b5:=(aC.cell (p:=⟨B+1,3,none⟩) hzb).trans a5;have b6:=(aC.cell (p:=⟨B+1,4,none⟩) hzb).trans a6;have b7:=(aC.cell (p:=⟨B+1,5,none⟩) hzb).trans a7)
   |(go_at_call_of 125 (Value.agg #[Value.complex FloatKind.f64 T1 T2,Value.int IntKind.i64 T3]);refine(HT.out _).mono ?_;rintro e w7 ⟨rfl,aQ,BN⟩;have og:B<w7.heap.size:=aZ iy aQ.size;have hvb:B+1<w7.heap.size:=aZ jV aQ.size;have c0:=(aQ.cell (p:=⟨B,2,none⟩) iy).trans b0;have c1:=(aQ.cell (p:=⟨B,3,none⟩) iy).trans b1;have c2:=(aQ.cell (p:=⟨B,4,none⟩) iy).trans b2;have c3:=(aQ.cell (p:=⟨B,5,none⟩) iy).trans b3;have c4:=(aQ.cell (p:=⟨B+1,2,none⟩) jV).trans b4;have c5:=(aQ.cell (p:=⟨B+1,3,none⟩) jV).trans b5;have c6:=(aQ.cell (p:=⟨B+1,4,none⟩) jV).trans b6;have c7:=(aQ.cell (p:=⟨B+1,5,none⟩) jV).trans b7)
   |(go_at_call 182;refine(HO.out _ _ _ (cell_of (heap_alloc_new _ _) 0) (cell_of (heap_alloc_new _ _) 1)).mono ?_;rintro e w8 ⟨rfl,po⟩;have mi:Below w7.heap.size w7 w8:=(by(rw[po];exact(Below.refl _ _).alloc (ax _) _));have Tt:w7.drawn<=w8.drawn:=(by(subst po;exact ax _));clear po;have d0:=(mi.cell (p:=⟨B,2,none⟩) og).trans c0;have d1:=(mi.cell (p:=⟨B,3,none⟩) og).trans c1;have d2:=(mi.cell (p:=⟨B,4,none⟩) og).trans c2;have d3:=(mi.cell (p:=⟨B,5,none⟩) og).trans c3;have d4:=(mi.cell (p:=⟨B+1,2,none⟩) hvb).trans c4;have d5:=(mi.cell (p:=⟨B+1,3,none⟩) hvb).trans c5;have d6:=(mi.cell (p:=⟨B+1,4,none⟩) hvb).trans c6;have d7:=(mi.cell (p:=⟨B+1,5,none⟩) hvb).trans c7))
 all_goals
  have aj:=((hb0.drew.trans (aC.mono (dN cH))).trans (aQ.mono (dN iy))).trans (mi.mono (dN og));have HD:Hid (w.drawn<=w8.drawn):=by
   have h1:W.drawn<=W.drew.drawn:=mb _;exact dY hd0 (dY h1 (dY BM (dY BN Tt)))
  clear aC aQ mi hb0 BM BN Tt hd0
  go_wp2_with fail
  go_ret
  exact⟨rfl,by rw[hB];exact aj,HD.out⟩
theorem ads(x y:PB)(hx:cK x)(hy:cK y)(w:World):
  Calls Tryz.prog 157 #[.agg x.cells.toArray,.agg y.cells.toArray] w fun r w'=>r=.returned (.int .i64 (y8 x y))/\Below w.heap.size w w'/\w.drawn<=w'.drawn:=
 adr _ _ _ _ _ _ _ _ _ _ _ _ _ _ _ _ _ _ _ _ _ w (fun b cap w h0 h1=>Gp _ _ b cap w h0 h1) (fun w=>BO x.f y.f hx.f.aF hy.f.aF hx.cf hy.cf w) (fun w=>BO x.t y.t hx.t.aF hy.t.aF hx.ct hy.ct w)
theorem adt(a1 b1 s1 a2 b2 s2 F1 F2 T1 T2 G1 G2 H1 H2:Nat)(F3 T3 G3 H3:Int)(p q:Bool)(w:World)
  (Bc:∀w,(binOp .eql 83 (.agg #[.complex .f64 F1 F2,.int .i64 F3]) (.agg #[.complex .f64 G1 G2,.int .i64 G3])).run Tryz.prog w=.ok (.bool p) w)
  (uA:∀w,(binOp .eql 83 (.agg #[.complex .f64 T1 T2,.int .i64 T3]) (.agg #[.complex .f64 H1 H2,.int .i64 H3])).run Tryz.prog w=.ok (.bool q) w):
  Calls Tryz.prog 159 #[.agg #[.complex .f64 a1 b1,.float .f64 s1,.complex .f64 F1 F2,.int .i64 F3,.complex .f64 T1 T2,.int .i64 T3],.agg #[.complex .f64 a2 b2,.float .f64 s2,.complex .f64 G1 G2,.int .i64 G3,.complex .f64 H1 H2,.int .i64 H3]] w fun e w'=>e=.returned (.bool (p&&q))/\Below w.heap.size w w':=by
 have hb0:Below w.heap.size w ((w.alloc (.cells #[.complex .f64 a1 b1,.float .f64 s1,.complex .f64 F1 F2,.int .i64 F3,.complex .f64 T1 T2,.int .i64 T3] 171)).alloc (.cells #[.complex .f64 a2 b2,.float .f64 s2,.complex .f64 G1 G2,.int .i64 G3,.complex .f64 H1 H2,.int .i64 H3] 171)):=((Below.refl _ _).alloc (ax _) _).alloc (by simp) _
 cases p
 ·go_enter Tryz.func159,Tryz.ntmps159
  go_wp2_with (simp only[Bc,uA])
  go_ret
  exact⟨rfl,hb0⟩
 ·go_enter Tryz.func159,Tryz.ntmps159
  go_wp2_with (simp only[Bc,uA])
  go_ret
  exact⟨rfl,hb0⟩
theorem Tu(x y:PB)(hx:cK x)(hy:cK y)(w:World):
  Calls Tryz.prog 159 #[.agg x.cells.toArray,.agg y.cells.toArray] w fun r w'=>r=.returned (.bool (decide (x.f=y.f)&&decide (x.t=y.t)))/\Below w.heap.size w w':=
 adt _ _ _ _ _ _ _ _ _ _ _ _ _ _ _ _ _ _ _ _ w (fun w=>Ci x.f y.f hx.f.aF hy.f.aF w) (fun w=>Ci x.t y.t hx.t.aF hy.t.aF w)
def PB.rev(x:PB):PB:=⟨Op.negFloat .f64 x.wa,Op.negFloat .f64 x.wb,Op.negFloat .f64 x.sh,x.t,x.f⟩
theorem adu(a b s A B' S F1 F2 T1 T2:Nat)(F3 T3:Int)(w:World)
  (HR:Hid (∀w,Calls Tryz.prog 162 #[.agg #[.complex .f64 a b,.float .f64 s]] w fun e w'=>e=.returned (.agg #[.complex .f64 A B',.float .f64 S])/\Below w.heap.size w w')):
  Calls Tryz.prog 107 #[.agg #[.complex .f64 a b,.float .f64 s,.complex .f64 F1 F2,.int .i64 F3,.complex .f64 T1 T2,.int .i64 T3]] w fun e w'=>e=.returned (.agg #[.complex .f64 A B',.float .f64 S,.complex .f64 T1 T2,.int .i64 T3,.complex .f64 F1 F2,.int .i64 F3])/\Below w.heap.size w w':=by
 have hX:((w.alloc (.cells #[.complex .f64 a b,.float .f64 s,.complex .f64 F1 F2,.int .i64 F3,.complex .f64 T1 T2,.int .i64 T3] 171)).alloc (.cells #[.complex .f64 0 0,.float .f64 0,.complex .f64 0 0,.int .i64 0,.complex .f64 0 0,.int .i64 0] 171)).heap[w.heap.size]?=some (.cells #[.complex .f64 a b,.float .f64 s,.complex .f64 F1 F2,.int .i64 F3,.complex .f64 T1 T2,.int .i64 T3] 171 (0,0)):=by
  rw[Below.heap_alloc _ _ _ (by simp)];exact heap_alloc_new _ _
 have hY:((w.alloc (.cells #[.complex .f64 a b,.float .f64 s,.complex .f64 F1 F2,.int .i64 F3,.complex .f64 T1 T2,.int .i64 T3] 171)).alloc (.cells #[.complex .f64 0 0,.float .f64 0,.complex .f64 0 0,.int .i64 0,.complex .f64 0 0,.int .i64 0] 171)).heap[w.heap.size+1]?=some (.cells #[.complex .f64 0 0,.float .f64 0,.complex .f64 0 0,.int .i64 0,.complex .f64 0 0,.int .i64 0] 171 (0,0)):=by
  have:=heap_alloc_new (w.alloc (.cells #[.complex .f64 a b,.float .f64 s,.complex .f64 F1 F2,.int .i64 F3,.complex .f64 T1 T2,.int .i64 T3] 171)) (.cells #[.complex .f64 0 0,.float .f64 0,.complex .f64 0 0,.int .i64 0,.complex .f64 0 0,.int .i64 0] 171);simpa using this
 have hb0:Below w.heap.size w ((w.alloc (.cells #[.complex .f64 a b,.float .f64 s,.complex .f64 F1 F2,.int .i64 F3,.complex .f64 T1 T2,.int .i64 T3] 171)).alloc (.cells #[.complex .f64 0 0,.float .f64 0,.complex .f64 0 0,.int .i64 0,.complex .f64 0 0,.int .i64 0] 171)):=((Below.refl _ _).alloc (ax _) _).alloc (by simp) _
 have dm:w.heap.size+2=((w.alloc (.cells #[.complex .f64 a b,.float .f64 s,.complex .f64 F1 F2,.int .i64 F3,.complex .f64 T1 T2,.int .i64 T3] 171)).alloc (.cells #[.complex .f64 0 0,.float .f64 0,.complex .f64 0 0,.int .i64 0,.complex .f64 0 0,.int .i64 0] 171)).heap.size:=by simp
 go_enter Tryz.func107,Tryz.ntmps107
 go_wp2_with fail
 generalize(w.alloc (.cells #[.complex .f64 a b,.float .f64 s,.complex .f64 F1 F2,.int .i64 F3,.complex .f64 T1 T2,.int .i64 T3] 171)).alloc (.cells #[.complex .f64 0 0,.float .f64 0,.complex .f64 0 0,.int .i64 0,.complex .f64 0 0,.int .i64 0] 171)=W at*;generalize hB:w.heap.size=B at*;have cH:B<W.heap.size:=by omega
 have hzb:B+1<W.heap.size:=by omega
 have a0:W.cell? ⟨B,0,none⟩=some (.complex .f64 a b):=cell_of hX 0;have a1:W.cell? ⟨B,1,none⟩=some (.float .f64 s):=cell_of hX 1;have a2:W.cell? ⟨B,2,none⟩=some (.complex .f64 F1 F2):=cell_of hX 2;have a3:W.cell? ⟨B,3,none⟩=some (.int .i64 F3):=cell_of hX 3;have a4:W.cell? ⟨B,4,none⟩=some (.complex .f64 T1 T2):=cell_of hX 4;have a5:W.cell? ⟨B,5,none⟩=some (.int .i64 T3):=cell_of hX 5;have z0:W.frozen? ⟨B+1,0,none⟩=false:=aX hY 0;have z1:W.frozen? ⟨B+1,1,none⟩=false:=aX hY 1;have z2:W.frozen? ⟨B+1,2,none⟩=false:=aX hY 2;have z3:W.frozen? ⟨B+1,3,none⟩=false:=aX hY 3;have z4:W.frozen? ⟨B+1,4,none⟩=false:=aX hY 4;have z5:W.frozen? ⟨B+1,5,none⟩=false:=aX hY 5
 go_region_held3 (fun w'=>w'.cell? ⟨B,0,none⟩=some (.complex .f64 a b)/\w'.cell? ⟨B,1,none⟩=some (.float .f64 s)/\w'.cell? ⟨B,2,none⟩=some (.complex .f64 F1 F2)/\w'.cell? ⟨B,3,none⟩=some (.int .i64 F3)/\w'.cell? ⟨B,4,none⟩=some (.complex .f64 T1 T2)/\w'.cell? ⟨B,5,none⟩=some (.int .i64 T3)/\w'.frozen? ⟨B+1,0,none⟩=false/\w'.frozen? ⟨B+1,1,none⟩=false/\w'.frozen? ⟨B+1,2,none⟩=false/\w'.frozen? ⟨B+1,3,none⟩=false/\w'.frozen? ⟨B+1,4,none⟩=false/\w'.frozen? ⟨B+1,5,none⟩=false) (go_keep) (first
   |(go_at_call 162;refine(HR.out _).mono ?_;rintro e w5 ⟨rfl,az⟩;have b0:=(az.cell (p:=⟨B,0,none⟩) cH).trans a0;have b1:=(az.cell (p:=⟨B,1,none⟩) cH).trans a1;have b2:=(az.cell (p:=⟨B,2,none⟩) cH).trans a2;have b3:=(az.cell (p:=⟨B,3,none⟩) cH).trans a3;have b4:=(az.cell (p:=⟨B,4,none⟩) cH).trans a4;have b5:=(az.cell (p:=⟨B,5,none⟩) cH).trans a5;have lR:=(az.block (B+1) hzb).trans hY;have y0:w5.frozen? ⟨B+1,0,none⟩=false:=aX lR 0;have y1:w5.frozen? ⟨B+1,1,none⟩=false:=aX lR 1;have y2:w5.frozen? ⟨B+1,2,none⟩=false:=aX lR 2;have y3:w5.frozen? ⟨B+1,3,none⟩=false:=aX lR 3;have y4:w5.frozen? ⟨B+1,4,none⟩=false:=aX lR 4;have y5:w5.frozen? ⟨B+1,5,none⟩=false:=aX lR 5;have e0:w5.cell? ⟨B+1,0,none⟩=some (.complex .f64 0 0):=cell_of lR 0;have e1:w5.cell? ⟨B+1,1,none⟩=some (.float .f64 0):=cell_of lR 1;have e2:w5.cell? ⟨B+1,2,none⟩=some (.complex .f64 0 0):=cell_of lR 2;have e3:w5.cell? ⟨B+1,3,none⟩=some (.int .i64 0):=cell_of lR 3;have e4:w5.cell? ⟨B+1,4,none⟩=some (.complex .f64 0 0):=cell_of lR 4;have e5:w5.cell? ⟨B+1,5,none⟩=some (.int .i64 0):=cell_of lR 5)
   |(simp only[eK,lO];go_simp))
 all_goals
  go_wp2_with fail
  refine bodyPost_ret (v:=.agg #[.complex .f64 A B',.float .f64 S,.complex .f64 T1 T2,.int .i64 T3,.complex .f64 F1 F2,.int .i64 F3]) (by simp[results,Tryz.results107,go_sem,e0,e1,e2,e3,e4,e5]) rfl ⟨rfl,?_⟩
  have aj:=hb0.drew.trans (az.mono (dN cH));rw[hB];exact((((((aj.setCell (p:=⟨B+1,0,none⟩) (mb _) _).setCell (p:=⟨B+1,1,none⟩) (mb _) _).setCell (p:=⟨B+1,2,none⟩) (mb _) _).setCell (p:=⟨B+1,3,none⟩) (mb _) _).setCell (p:=⟨B+1,4,none⟩) (mb _) _).setCell (p:=⟨B+1,5,none⟩) (mb _) _)
theorem adv(x:PB)(w:World):
  Calls Tryz.prog 107 #[.agg x.cells.toArray] w fun e w'=>e=.returned (.agg x.rev.cells.toArray)/\Below w.heap.size w w':=
 adu _ _ _ _ _ _ _ _ _ _ _ _ w (fun w=>SJ _ _ _ w)
theorem Le{w w':World}{v:Value}{es:List Ed}(h:fG w v es)(hb:Below w.heap.size w w'):fG w' v es:=by
 obtain⟨xs,h1,h2,h3⟩:=h;exact⟨xs,h1,Rz h2 fun k cur hc=>hb.block k (lt_of_heap hc),h3⟩
theorem adw(x y d:Int):Pl.wI x y d=(decide (d<1)||decide (60<d)|| !mD 100000 x|| !mD 100000 y):=by
 unfold Pl.wI mD;rw[l8];simp only[OI,uf,Jm,Jn];omega
theorem adx(s:ByteArray)(x y d:Int)(w:World)(hm:s.size<=maxLen)(jP:Gl w):
  Calls Tryz.prog 17 #[.string s,.int .i64 x,.int .i64 y,.int .i64 d] w fun e w'=>e=.returned (Pl.wJ (Pl.qT s.data.toList x y d))/\Below w.heap.size w w':=by
 by_cases h0:(Pl.err s.data.toList).1=0
 ·have hp2:=(nN h0).2.1;obtain⟨hro,hrl,ic,hel⟩:=F7 h0;have HR:Hid (∀w1,Gl w1->Calls Tryz.prog 33 #[.string s] w1 fun e w'=>Below w1.heap.size w1 w'/\∃rb rv,e=.returned (.tuple #[.pointer (some ⟨rb,0,none⟩),.int .i64 0,.int .i64 0])/\
    w'.cell? ⟨rb,6,none⟩=some rv/\rb<w'.heap.size/\pF w' rv (Pl.rings s.data.toList)):=fun w1 g1=>by
   refine(uH s w1 hm g1).mono ?_;rintro e w' ⟨hb,pv,rfl,jz⟩;obtain⟨rb,rfl,_,hR⟩:=jz h0;obtain⟨c,t,r,tv,rv,hc,hl',hbk,hown,Cj⟩:=hR;exact⟨hb,rb,rv,by rw[h0,hp2];rfl,cell_of hbk 6,lt_of_heap hbk,KW Cj⟩
  have uQ:Hid (∀w1,Calls Tryz.prog 34 #[.int .i64 x,.int .i64 100000] w1 fun e w'=>e=.returned (.bool (mD 100000 x))/\w'=w1):=fun w1=>FC x 100000 w1 (by omega) (by omega)
  have nP:Hid (∀w1,Calls Tryz.prog 34 #[.int .i64 y,.int .i64 100000] w1 fun e w'=>e=.returned (.bool (mD 100000 y))/\w'=w1):=fun w1=>FC y 100000 w1 (by omega) (by omega)
  have hbad:=adw x y d;have hwd:Pl.wI x y d=true->Pl.qT s.data.toList x y d=(0,false,5,0):=fun h=>by unfold Pl.qT;rw[ah h0,ah h]
  by_cases h1:d<1
  ·rw[hwd (by rw[hbad];simp[h1])]
   simp only[Pl.wJ];clear hwd hbad uQ nP
   go_enter Tryz.func17,Tryz.ntmps17
   go_wp2_with fail
   refine(HR.out _ jP).mono ?_;rintro e w1 ⟨hb1,rb,rv,rfl,c6,hlt,qY⟩
   go_wp2_with fail
   refine bodyPost_ret (v:=.tuple #[.int .i64 0,.bool false,.int .i64 5,.int .i64 0]) (by simp[results,Tryz.results17,go_sem]) rfl ⟨rfl,hb1⟩
  ·by_cases h2:60<d
   ·rw[hwd (by rw[hbad];simp[h2])]
    simp only[Pl.wJ];clear hwd hbad uQ nP
    go_enter Tryz.func17,Tryz.ntmps17
    go_wp2_with fail
    refine(HR.out _ jP).mono ?_;rintro e w1 ⟨hb1,rb,rv,rfl,c6,hlt,qY⟩
    go_wp2_with fail
    refine bodyPost_ret (v:=.tuple #[.int .i64 0,.bool false,.int .i64 5,.int .i64 0]) (by simp[results,Tryz.results17,go_sem]) rfl ⟨rfl,hb1⟩
   ·cases pL:mD 100000 x
    ·rw[hwd (by rw[hbad,pL];simp)]
     rw[pL] at uQ;simp only[Pl.wJ];clear hwd hbad nP pL
     go_enter Tryz.func17,Tryz.ntmps17
     go_wp2_with fail
     refine(HR.out _ jP).mono ?_;rintro e w1 ⟨hb1,rb,rv,rfl,c6,hlt,qY⟩
     go_wp2_with fail
     refine(uQ.out _).mono ?_;rintro e w2 ⟨rfl,rfl⟩
     go_wp2_with fail
     refine bodyPost_ret (v:=.tuple #[.int .i64 0,.bool false,.int .i64 5,.int .i64 0]) (by simp[results,Tryz.results17,go_sem]) rfl ⟨rfl,hb1⟩
    ·cases wV:mD 100000 y
     ·rw[hwd (by rw[hbad,wV];simp)]
      rw[pL] at uQ;rw[wV] at nP;simp only[Pl.wJ];clear hwd hbad pL wV
      go_enter Tryz.func17,Tryz.ntmps17
      go_wp2_with fail
      refine(HR.out _ jP).mono ?_;rintro e w1 ⟨hb1,rb,rv,rfl,c6,hlt,qY⟩
      go_wp2_with fail
      refine(uQ.out _).mono ?_;rintro e w2 ⟨rfl,rfl⟩
      go_wp2_with fail
      refine(nP.out _).mono ?_;rintro e w2 ⟨rfl,rfl⟩
      go_wp2_with fail
      refine bodyPost_ret (v:=.tuple #[.int .i64 0,.bool false,.int .i64 5,.int .i64 0]) (by simp[results,Tryz.results17,go_sem]) rfl ⟨rfl,hb1⟩
     ·have Tv:Pl.wI x y d=false:=by rw[hbad,pL,wV];simp[h1,h2]
      have hxr: -100000<=x/\x<=100000:=fO pL;have hyr: -100000<=y/\y<=100000:=fO wV;obtain⟨G,Ck⟩:∃G,Int.gcd (Int.gcd x y:Nat) d=G:=⟨_,rfl⟩;have sJ:0<G:=by rw[<-Ck];exact qI (by omega)
      have sW:(G:Int)∣(Int.gcd x y:Nat):=by rw[<-Ck];exact vF _ _
      have dx:(G:Int)∣x:=vI sW (vF _ _);have dy:(G:Int)∣y:=vI sW (ub _ _);have dd:(G:Int)∣d:=by rw[<-Ck];exact ub _ _
      have ex:=(qo dx).symm;have ey:=(qo dy).symm;have ed:=(qo dd).symm;rw[acH h0 Tv (show(0:Int)<G by omega) ex ey ed]
      have lx:=Kv ex sJ;have ly:=Kv ey sJ;have ld:=Kv ed sJ;have fx:Fl (floatOfInt .f64 x) x:=lN (by omega)
      have fy:Fl (floatOfInt .f64 y) y:=lN (by omega)
      have HNA:Hid (∀w1,Calls Tryz.prog 37 #[.complex .f64 (floatOfInt .f64 x) (floatOfInt .f64 y),.int .i64 d] w1 fun e w'=>e=.returned (.agg #[.complex .f64 (floatOfInt .f64 (x.tdiv G)) (floatOfInt .f64 (y.tdiv G)),.int .i64 (d.tdiv G)])/\Below w1.heap.size w1 w'):=fun w1=>Q0 d fx fy (by omega) (by omega) (by omega) G Ck w1
      have HPA:Hid (∀w1,Calls Tryz.prog 38 #[.int .i64 x,.int .i64 y] w1 fun e w'=>e=.returned (.complex .f64 (floatOfInt .f64 x) (floatOfInt .f64 y))/\w'=w1):=fun w1=>AY x y w1
      have hDp:0<d.tdiv (G:Int):=by
       rcases eD (d.tdiv (G:Int)) 0 with h|h|h
       ·have:=tZ (show(0:Int)<G by omega) h;omega
       ·rw[h] at ed;omega
       ·exact h
      have Cm:Hid (∀v w1,fG w1 v (Ge.ag (Pl.rings s.data.toList))->Calls Tryz.prog 35 #[v,.agg #[.complex .f64 (floatOfInt .f64 (x.tdiv G)) (floatOfInt .f64 (y.tdiv G)),.int .i64 (d.tdiv G)]] w1 fun e w'=>e=.returned (if(Ge.ag (Pl.rings s.data.toList)).any (Ge.fo (x.tdiv G,y.tdiv G) (d.tdiv G)) then .tuple #[.int .i64 0,.bool true] else .tuple #[.int .i64 (Ge.total (Ge.fr (x.tdiv G,y.tdiv G) (d.tdiv G)) (Ge.ag (Pl.rings s.data.toList))),.bool false])/\Below w1.heap.size w1 w'):=fun v w1 hv=>
       abx _ v w1 hv hel ic (lN (by omega)) (lN (by omega)) ⟨by omega,by omega,by omega⟩
      have y9:Hid (∀v w1,pF w1 v (Pl.rings s.data.toList)->Calls Tryz.prog 36 #[v] w1 fun e w'=>∃v,e=.returned v/\fG w' v (Ge.ag (Pl.rings s.data.toList))/\Below w1.heap.size w1 w'):=fun v w1 hv=>KX _ v w1 hv hro hrl
      rw[pL] at uQ;rw[wV] at nP;clear hwd hbad Tv pL wV sW dx dy dd ex ey ed lx ly ld fx fy hDp Ck hel ic hro hrl hp2 h0;generalize Pl.rings s.data.toList=RG at*;generalize Ge.ag RG=ES at*;generalize x.tdiv (G:Int)=XQ at*;generalize y.tdiv (G:Int)=YQ at*;generalize d.tdiv (G:Int)=DQ at*
      go_enter Tryz.func17,Tryz.ntmps17
      go_wp2_with fail
      refine(HR.out _ jP).mono ?_;rintro e w1 ⟨hb1,rb,rv,rfl,c6,hlt,qY⟩
      go_wp2_with fail
      refine(uQ.out _).mono ?_;rintro e w2 ⟨rfl,rfl⟩
      go_wp2_with fail
      refine(nP.out _).mono ?_;rintro e w2 ⟨rfl,rfl⟩
      go_wp2_with fail
      refine(y9.out _ _ qY).mono ?_;rintro e w3 ⟨ev,rfl,od,hb3⟩;have fw:=hb1.trans (hb3.mono hb1.size)
      go_wp2_with fail
      refine(HPA.out _).mono ?_;rintro e w4 ⟨rfl,rfl⟩
      go_wp2_with fail
      refine(HNA.out _).mono ?_;rintro e w5 ⟨rfl,az⟩;have ib:=fw.trans (az.mono fw.size);have adB:=Le od az
      go_wp2_with fail
      refine(Cm.out _ _ adB).mono ?_;rintro e w6 ⟨rfl,aC⟩;have Tw:=ib.trans (aC.mono ib.size);by_cases ha:ES.any (Ge.fo (XQ,YQ) DQ)=true
      ·rw[ah ha]
       go_wp2_with fail
       refine bodyPost_ret (v:=.tuple #[.int .i64 0,.bool true,.int .i64 0,.int .i64 0]) (by simp[results,Tryz.results17,go_sem]) rfl ⟨?_,Tw⟩
       first
        |rfl
        |(rw[ah ha];rfl)
      ·rw[aa ha]
       go_wp2_with fail
       refine bodyPost_ret (v:=.tuple #[.int .i64 (Ge.total (Ge.fr (XQ,YQ) DQ) ES),.bool false,.int .i64 0,.int .i64 0]) (by simp[results,Tryz.results17,go_sem]) rfl ⟨?_,Tw⟩
       first
        |rfl
        |(rw[aa ha];rfl)
 ·have hw:Pl.qT s.data.toList x y d=(0,false,Pl.err s.data.toList):=aa h0;rw[hw];have hne:(((Pl.err s.data.toList).1:Int) != 0)=true:=by rw[Aa];omega
  have HR:Hid (∀w1,Gl w1->Calls Tryz.prog 33 #[.string s] w1 fun e w'=>Below w1.heap.size w1 w'/\∃pv,e=.returned (.tuple #[.pointer pv,.int .i64 (Pl.err s.data.toList).1,.int .i64 (Pl.err s.data.toList).2])):=fun w1 g1=>by
   refine(uH s w1 hm g1).mono ?_;rintro e w' ⟨hb,pv,rfl,_⟩;exact⟨hb,pv,rfl⟩
  simp only[Pl.wJ];generalize(Pl.err s.data.toList).1=E at*;generalize(Pl.err s.data.toList).2=Pp at*;clear hw h0
  go_enter Tryz.func17,Tryz.ntmps17
  go_wp2_with fail
  refine(HR.out _ jP).mono ?_;rintro e w1 ⟨hb1,pv,rfl⟩
  go_wp2_with fail
  refine bodyPost_ret (v:=.tuple #[.int .i64 0,.bool false,.int .i64 E,.int .i64 Pp]) (by simp[results,Tryz.results17,go_sem]) rfl ⟨rfl,hb1⟩
end Go.Proofs.YtkjhhooecopolaaGreatDoor
