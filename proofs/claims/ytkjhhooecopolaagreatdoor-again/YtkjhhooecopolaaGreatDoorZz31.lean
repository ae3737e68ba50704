import Derived.Test.YtkjhhooecopolaaGreatDoorZz30
set_option maxRecDepth 100000
set_option maxHeartbeats 4000000
namespace Go.Proofs.YtkjhhooecopolaaGreatDoor
open Go.RowKit
theorem agM(X1 X2 X3 Y1 Y2 Y3 N1 N2 ra rb P Q im:Nat)(N3 p q R:Int)(b c:Nat)(w:World)
  (a0:w.cell? ⟨b,0,none⟩=some (.complex .f64 X1 X2))(a1:w.cell? ⟨b,1,none⟩=some (.float .f64 X3))(c0:w.cell? ⟨c,0,none⟩=some (.complex .f64 Y1 Y2))(c1:w.cell? ⟨c,1,none⟩=some (.float .f64 Y3))
  (HLa:Hid (∀w,Calls Tryz.prog 97 #[.agg #[.complex .f64 X1 X2,.float .f64 X3],.agg #[.complex .f64 N1 N2,.int .i64 N3]] w fun e w'=>e=.returned (.float .f64 ra)/\Below w.heap.size w w'))
  (HLb:Hid (∀w,Calls Tryz.prog 97 #[.agg #[.complex .f64 Y1 Y2,.float .f64 Y3],.agg #[.complex .f64 N1 N2,.int .i64 N3]] w fun e w'=>e=.returned (.float .f64 rb)/\Below w.heap.size w w'))
  (Bc:∀t w,(binOp .mul t (.float .f64 ra) (.float .f64 Y1)).run Tryz.prog w=.ok (.float .f64 P) w)(uA:∀t w,(binOp .mul t (.float .f64 rb) (.float .f64 X1)).run Tryz.prog w=.ok (.float .f64 Q) w)
  (wP:Hid (∀w,Calls Tryz.prog 183 #[.float .f64 P,.float .f64 Q] w fun r w'=>r=.returned (.int .i64 p)/\w'=w))
  (My:Hid (∀w,Calls Tryz.prog 101 #[.complex .f64 X1 X2,.complex .f64 Y1 Y2] w fun e w'=>e=.returned (.float .f64 im)/\w'=w))
  (wQ:Hid (∀w,Calls Tryz.prog 183 #[.float .f64 im,.float .f64 0] w fun r w'=>r=.returned (.int .i64 q)/\w'=w))
  (HO:Hid (∀b cap w,w.cell? ⟨b,0,none⟩=some (.int .i64 p)->w.cell? ⟨b,1,none⟩=some (.int .i64 q)->Calls Tryz.prog 182 #[.slice (some ⟨b,0,none⟩) 2 cap] w fun r w'=>r=.returned (.int .i64 R)/\w'=w)):
  Calls Tryz.prog 172 #[.agg #[.complex .f64 N1 N2,.int .i64 N3],.pointer (some ⟨b,0,none⟩),.pointer (some ⟨c,0,none⟩)] w fun e w'=>e=.returned (.int .i64 R)/\Below w.heap.size w w':=by
 have hbz:b<w.heap.size:=lt_of_cell a0;have hcz:c<w.heap.size:=lt_of_cell c0;have hb0:Below w.heap.size w (w.alloc (.cells #[.complex .f64 N1 N2,.int .i64 N3] 83)):=(Below.refl _ _).alloc (ax _) _;have hE:=heap_alloc_new w (.cells #[.complex .f64 N1 N2,.int .i64 N3] 83);have hz:w.heap.size<(w.alloc (.cells #[.complex .f64 N1 N2,.int .i64 N3] 83)).heap.size:=by simp
 go_enter Tryz.func172,Tryz.ntmps172
 go_wp2_with fail
 have z0:(w.alloc (.cells #[.complex .f64 N1 N2,.int .i64 N3] 83)).cell? ⟨w.heap.size,0,none⟩=some (.complex .f64 N1 N2):=cell_of hE 0;have z1:(w.alloc (.cells #[.complex .f64 N1 N2,.int .i64 N3] 83)).cell? ⟨w.heap.size,1,none⟩=some (.int .i64 N3):=cell_of hE 1;have z2:=(hb0.cell (p:=⟨b,0,none⟩) hbz).trans a0;have z3:=(hb0.cell (p:=⟨b,1,none⟩) hbz).trans a1;have z4:=(hb0.cell (p:=⟨c,0,none⟩) hcz).trans c0;have z5:=(hb0.cell (p:=⟨c,1,none⟩) hcz).trans c1;generalize w.alloc (.cells #[.complex .f64 N1 N2,.int .i64 N3] 83)=W at*;generalize pH:w.heap.size=B at*;have jW:B<W.heap.size:=by omega
 have hbW:b<W.heap.size:=by omega
 have MV:c<W.heap.size:=by omega
 have MR:Below B w W:=hb0;clear hE hz a0 a1 c0 c1 hb0
 go_region_held3 (fun w'=>w'.cell? ⟨B,0,none⟩=some (.complex .f64 N1 N2)/\w'.cell? ⟨B,1,none⟩=some (.int .i64 N3)/\w'.cell? ⟨b,0,none⟩=some (.complex .f64 X1 X2)/\w'.cell? ⟨b,1,none⟩=some (.float .f64 X3)/\w'.cell? ⟨c,0,none⟩=some (.complex .f64 Y1 Y2)/\w'.cell? ⟨c,1,none⟩=some (.float .f64 Y3)) (go_keep) (first
   |(go_at_call_of 97 (Value.agg #[Value.complex FloatKind.f64 X1 X2,Value.float FloatKind.f64 X3]);refine(HLa.out _).mono ?_;rintro e w5 ⟨rfl,rE⟩;have lV:B<w5.heap.size:=aZ jW rE.size;have dG:b<w5.heap.size:=aZ hbW rE.size;have MW:c<w5.heap.size:=aZ MV rE.size;have l0:=(rE.cell (p:=⟨B,0,none⟩) jW).trans z0;have l1:=(rE.cell (p:=⟨B,1,none⟩) jW).trans z1;have l2:=(rE.cell (p:=⟨b,0,none⟩) hbW).trans z2;have l3:=(rE.cell (p:=⟨b,1,none⟩) hbW).trans z3;have l4:=(rE.cell (p:=⟨c,0,none⟩) MV).trans z4;have l5:=(rE.cell (p:=⟨c,1,none⟩) MV).trans z5;have agP:Below B w w5:=MR.drew.trans (rE.mono (dN jW)))
   |(go_at_call_of 97 (Value.agg #[Value.complex FloatKind.f64 Y1 Y2,Value.float FloatKind.f64 Y3]);refine(HLb.out _).mono ?_;rintro e w6 ⟨rfl,rF⟩;have rC:B<w6.heap.size:=aZ lV rF.size;have gz:b<w6.heap.size:=aZ dG rF.size;have MX:c<w6.heap.size:=aZ MW rF.size;have m0:=(rF.cell (p:=⟨B,0,none⟩) lV).trans l0;have m1:=(rF.cell (p:=⟨B,1,none⟩) lV).trans l1;have m2:=(rF.cell (p:=⟨b,0,none⟩) dG).trans l2;have m3:=(rF.cell (p:=⟨b,1,none⟩) dG).trans l3;have m4:=(rF.cell (p:=⟨c,0,none⟩) MW).trans l4;have m5:=(rF.cell (p:=⟨c,1,none⟩) MW).trans l5;have agQ:Below B w w6:=agP.trans (rF.mono (dN lV)))
   |(go_at_call_of 183 (Value.float FloatKind.f64 P);refine(wP.out _).mono ?_;rintro e w7 ⟨rfl,jB⟩;replace jB:=jB.symm;subst jB)
   |(go_at_call 101;refine(My.out _).mono ?_;rintro e w7 ⟨rfl,jB⟩;replace jB:=jB.symm;subst jB)
   |(go_at_call_of 183 (Value.float FloatKind.f64 im);refine(wQ.out _).mono ?_;rintro e w7 ⟨rfl,jB⟩;replace jB:=jB.symm;subst jB)
   |(go_at_call 182;refine(HO.out _ _ _ (cell_of (heap_alloc_new _ _) 0) (cell_of (heap_alloc_new _ _) 1)).mono ?_;rintro e w8 ⟨rfl,po⟩;have rG:Below w6.heap.size w6 w8:=(by(rw[po];exact(Below.refl _ _).alloc (ax _) _));have alM:B<w8.heap.size:=aZ rC rG.size;have alN:b<w8.heap.size:=aZ gz rG.size;have alO:c<w8.heap.size:=aZ MX rG.size;have o0:=(rG.cell (p:=⟨B,0,none⟩) rC).trans m0;have o1:=(rG.cell (p:=⟨B,1,none⟩) rC).trans m1;have o2:=(rG.cell (p:=⟨b,0,none⟩) gz).trans m2;have o3:=(rG.cell (p:=⟨b,1,none⟩) gz).trans m3;have o4:=(rG.cell (p:=⟨c,0,none⟩) MX).trans m4;have o5:=(rG.cell (p:=⟨c,1,none⟩) MX).trans m5;have agR:Below B w w8:=agQ.trans (rG.mono (dN rC));clear po))
 all_goals
  go_wp2_with fail
  go_ret
  exact⟨rfl,by rw[pH];exact agR⟩
def Dm(n:Ge.Nd)(x y:PB):Int:=(Ge.cr (Ga.wv x.f x.t) (Ga.wv x.f n)*(y.f.2.2*(Ga.wv y.f y.t).1)-Ge.cr (Ga.wv y.f y.t) (Ga.wv y.f n)*(x.f.2.2*(Ga.wv x.f x.t).1)).sign
def oO(n:Ge.Nd)(x y:PB):Int:=if Dm n x y=0 then dX x y else Dm n x y
theorem WC{x:PB}{l:Ge.Ln}(hx:LD x l)(n:Ge.Nd):∃dl DD:Int,0<dl/\0<DD/\DD*(x.f.2.2*(l.1*n.2.1-l.2.1*n.1-l.2.2*n.2.2))=dl*Ge.cr (Ga.wv x.f x.t) (Ga.wv x.f n)/\DD*l.1=dl*(Ga.wv x.f x.t).1:=by
 have hp:=hx.par;have hd:=hx.pos;have h:=hx.Mb;rw[(rq x.f x.t).1,(rq x.f x.t).2] at hp hd;refine⟨l.1*(Ga.wv x.f x.t).1+l.2.1*(Ga.wv x.f x.t).2,Ge.dt (Ga.wv x.f x.t) (Ga.wv x.f x.t),hd,Ga.dO ?_,?_,?_⟩
 ·intro e;rw[e] at hd;simp at hd
 ·have e1:x.f.2.2*(l.1*n.2.1-l.2.1*n.1-l.2.2*n.2.2)=l.1*(Ga.wv x.f n).2-l.2.1*(Ga.wv x.f n).1:=by
   have e0:(Ga.wv x.f n).1=x.f.2.2*n.1-n.2.2*x.f.1:=rfl;have e0':(Ga.wv x.f n).2=x.f.2.2*n.2.1-n.2.2*x.f.2.1:=rfl;rw[e0,e0'];have:x.f.2.2*(l.1*n.2.1-l.2.1*n.1-l.2.2*n.2.2)=x.f.2.2*l.1*n.2.1-x.f.2.2*l.2.1*n.1-n.2.2*(l.2.2*x.f.2.2):=by grind
   rw[this,<-h]
   grind
  rw[e1];generalize Ga.wv x.f x.t=D at*;generalize Ga.wv x.f n=v at*;unfold Ge.dt Ge.cr;clear h e1 hd
  grind
 ·generalize Ga.wv x.f x.t=D at*;unfold Ge.dt;clear h hd
  grind
theorem agT{x y:PB}{l m:Ge.Ln}(hx:LD x l)(hy:LD y m)(MZ:0<x.f.2.2)(Dp:0<y.f.2.2)(n:Ge.Nd):((l.1*n.2.1-l.2.1*n.1-l.2.2*n.2.2)*m.1-(m.1*n.2.1-m.2.1*n.1-m.2.2*n.2.2)*l.1).sign=Dm n x y:=by
 obtain⟨d1,D1,p1,q1,e1,e2⟩:=WC hx n;obtain⟨d2,D2,p2,q2,e3,e4⟩:=WC hy n;unfold Dm;generalize l.1*n.2.1-l.2.1*n.1-l.2.2*n.2.2=A at*;generalize m.1*n.2.1-m.2.1*n.1-m.2.2*n.2.2=B at*;generalize Ge.cr (Ga.wv x.f x.t) (Ga.wv x.f n)=CX at*;generalize Ge.cr (Ga.wv y.f y.t) (Ga.wv y.f n)=CY at*;generalize(Ga.wv x.f x.t).1=X1 at*;generalize(Ga.wv y.f y.t).1=Y1 at*;generalize x.f.2.2=fx at*;generalize y.f.2.2=fy at*;have k1:0<D1*D2*(fx*fy):=aR (aR q1 q2) (aR MZ Dp);have k2:0<d1*d2:=aR p1 p2;rw[<-Ge.Kn (z:=A*m.1-B*l.1) k1,<-Ge.Kn (z:=CX*(fy*Y1)-CY*(fx*X1)) k2];congr 1;have a1:D1*D2*(fx*fy)*(A*m.1-B*l.1)=(D1*(fx*A))*(fy*(D2*m.1))-(D2*(fy*B))*(fx*(D1*l.1)):=by grind
 rw[a1,e1,e2,e3,e4]
 grind
theorem agU(x y:PB){l m:Ge.Ln}(hx:LD x l)(hy:LD y m)(MZ:0<x.f.2.2)(Dp:0<y.f.2.2)(n:Ge.Nd)(hn:ko n)(b c:Nat)(w:World)(h1:ig w b x)(h2:ig w c y):
  Calls Tryz.prog 172 #[gm n,.pointer (some ⟨b,0,none⟩),.pointer (some ⟨c,0,none⟩)] w fun e w'=>e=.returned (.int .i64 (oO n x y))/\Below w.heap.size w w':=by
 obtain⟨ra,fa,hLa⟩:=MS hx hn;obtain⟨rb,fb,Mu⟩:=MS hy hn;have bd:∀(k:Ge.Ln),k.1.natAbs<=100->k.2.1.natAbs<=100->k.2.2.natAbs<=10000->(k.1*n.2.1-k.2.1*n.1-k.2.2*n.2.2).natAbs<=1000000000:=fun k k1 k2 k3=>by
  have a1:(k.1*n.2.1).natAbs<=100*3000000:=by rw[l9];exact Af k1 hn.y
  have a2:(k.2.1*n.1).natAbs<=100*3000000:=by rw[l9];exact Af k2 hn.x
  have a3:(k.2.2*n.2.2).natAbs<=10000*20000:=by rw[l9];exact Af k3 (by have:=hn.d;omega)
  omega
 have ba:=bd l hx.b1 hx.b2 hx.b3;have bb:=bd m hy.b1 hy.b2 hy.b3;have m1:((l.1*n.2.1-l.2.1*n.1-l.2.2*n.2.2)*m.1).natAbs<=1000000000*100:=by rw[l9];exact Af ba hy.b1
 have m2:((m.1*n.2.1-m.2.1*n.1-m.2.2*n.2.2)*l.1).natAbs<=1000000000*100:=by rw[l9];exact Af bb hx.b1
 obtain⟨P,eP,fP⟩:=fa.mul hy.fl.a (by omega)
 obtain⟨Q,eQ,fQ⟩:=fb.mul hx.fl.a (by omega)
 obtain⟨im,f1,hl⟩:=CZ hx hy;have hc1:=fun w=>wO fP fQ w
 rw[agT hx hy MZ Dp n] at hc1;have hc2:=fun w=>wO f1 jU w
 rw[xI,CW hx hy] at hc2;unfold gm;exact agM _ _ _ _ _ _ _ _ ra rb P Q im _ _ _ _ b c w h1.c0 h1.c1 h2.c0 h2.c1 hLa Mu (fun t w=>run_float_arith (P:=Tryz.prog) w .mul t .f64 _ _ P eP) (fun t w=>run_float_arith (P:=Tryz.prog) w .mul t .f64 _ _ Q eQ) hc1 hl hc2 (fun b cap w h0 h1=>Gp _ _ b cap w h0 h1)
def gA(Xs:List PB)(n:Ge.Nd):Nat:=bw (fun i j=>oO n (xi Xs i) (xi Xs j)) (dH Xs n Xs.length).tail ((dH Xs n Xs.length).headD 0)
theorem WD{Xs:List PB}{n:Ge.Nd}(h:dH Xs n Xs.length≠[]):gA Xs n∈dH Xs n Xs.length:=by
 unfold gA;generalize dH Xs n Xs.length=T at*;cases T with
 |nil=>exact absurd rfl h
 |cons a t=>
  rcases uX (fun i j=>oO n (xi Xs i) (xi Xs j)) t a with e|e
  ·rw[show(a::t).tail=t from rfl,show(a::t).headD 0=a from rfl,e];simp
  ·exact bo _ e
theorem agW(bs:List Nat)(Xs:List PB)(hB:BD Xs)(hnd:bs.Nodup)(n:Ge.Nd)(hn:ko n)(g cap:Nat)(w:World)(hR:RB w g bs Xs)(hne:dH Xs n Xs.length≠[]):
  Calls Tryz.prog 114 #[.slice (some ⟨g,0,none⟩) bs.length cap,gm n] w fun e w'=>e=.returned (.pointer (some ⟨bx bs (gA Xs n),0,none⟩))/\Below w.heap.size w w':=by
 have hlen:=hR.len;have hbl:bs.length<=85000000:=by rw[hlen];exact hB.len
 refine agK bs Xs n _ _ _ g cap (bx bs (gA Xs n)) w hR hbl (fun i hi w' hb=>agH bs Xs hB w' g (hR.below hb) n hn i (by rw[<-hlen];exact hi)) ?_
 intro lv wr ho hb;rw[hlen] at ho;have hT:∀j∈dH Xs n Xs.length,j<Xs.length:=MT Xs n Xs.length;have pW:=WA Xs n Xs.length;have Ib:=hB.len;have oM:gA Xs n=bw (fun i j=>oO n (xi Xs i) (xi Xs j)) (dH Xs n Xs.length).tail ((dH Xs n Xs.length).headD 0):=rfl
 rw[oM];generalize dH Xs n Xs.length=T at*;obtain⟨t0,tr,rfl⟩:∃t0 tr,T=t0::tr:=by
  cases T with
  |nil=>exact absurd rfl hne
  |cons a t=>exact⟨a,t,rfl⟩
 obtain⟨gT,cT,rfl,_,_,_,_,_,hcell⟩:=lU ho (by simp)
 have cd:=hR.below hb;have hm:=agI (fun b b'=>oO n (xi Xs (bs.idxOf b)) (xi Xs (bs.idxOf b'))) (bx bs t0) (tr.map (bx bs)) gT 0 cT (floatOfInt .f64 n.1) (floatOfInt .f64 n.2.1) n.2.2 wr (by rw[gV];simp only[cG] at pW;omega)
  (fun i b hi=>hcell i b hi)
  (fun b h1 c h2 w'' hw=>by
   have key:∀b,b∈bx bs t0::tr.map (bx bs)->∃j,j<Xs.length/\b=bx bs j:=fun b hb=>by
    have hb2:b∈(t0::tr).map (bx bs):=hb;obtain⟨j,hj,rfl⟩:=bp.1 hb2;exact⟨j,hT j hj,rfl⟩
   obtain⟨j1,q1,rfl⟩:=key b h1;obtain⟨j2,q2,rfl⟩:=key c h2;have kQ:=cd.below hw;rw[kZ hnd (by rw[hlen];exact q1),kZ hnd (by rw[hlen];exact q2)]
   obtain⟨l1,d1⟩:=hB.ld _ (fN q1);obtain⟨l2,d2⟩:=hB.ld _ (fN q2);exact agU _ _ d1 d2 (hB.v _ (fN q1)).cf.pos (hB.v _ (fN q2)).cf.pos n hn _ _ w'' (kQ.at q1) (kQ.at q2))
 have e1:bw (fun b b'=>oO n (xi Xs (bs.idxOf b)) (xi Xs (bs.idxOf b'))) (tr.map (bx bs)) (bx bs t0)=bx bs (bw (fun i j=>oO n (xi Xs i) (xi Xs j)) (t0::tr).tail ((t0::tr).headD 0)):=by
  refine C5 _ _ fun j hj k hk=>?_
  simp only[kZ hnd (by rw[hlen];exact hT j hj),kZ hnd (by rw[hlen];exact hT k hk)]
 rw[e1,gV] at hm;exact hm
abbrev VR:=Value×List Nat
def fB(P:List Nat->Bool)(a:VR)(Z:List VR):VR:=Z.foldl (fun acc p=>if P p.2 then p else acc) a
def fC(P:List Nat->Bool)(Z:List VR):List VR:=Z.filter fun p=> !P p.2
theorem agX(P:List Nat->Bool)(a:VR)(Z:List VR)(p:VR):fB P a (Z++[p])=if P p.2 then p else fB P a Z:=by unfold fB;rw[Ju];rfl
theorem agY(P:List Nat->Bool)(Z:List VR)(p:VR):fC P (Z++[p])=fC P Z++(if P p.2 then[] else[p]):=by
 unfold fC;rw[Ep];congr 1;cases h:P p.2<;>simp[h]
structure TK(w:World)(base pb:Nat)(hv:Value)(s' h':Value)(hs:List Value)(wr:World):Prop where
 jH:wr.heap[pb]?=some (.cells #[s',h'] 187 (0,0))
 own:wr.ownsRow base 185 1 h' hs.length hs
 mo:Mo (pb::hv.ownBlock.toList) w wr
 fresh:∀k,h'.ownBlock=some k->hv.ownBlock=some k\/w.heap.size<=k
 ne:h'.ownBlock≠some pb
theorem TK.below{w:World}{base pb:Nat}{hv s' h':Value}{hs:List Value}{wr w':World}(h:TK w base pb hv s' h' hs wr)(hb:Below wr.heap.size wr w'):TK w base pb hv s' h' hs w':=
 ⟨(hb.block _ (lt_of_heap h.jH)).trans h.jH,aO h.own fun k hk=>hb.block k (aB h.own k hk).2,h.mo.trans (Mo.of _ hb),h.fresh,h.ne⟩
theorem TK.shell{w:World}{base pb:Nat}{hv s' h':Value}{hs:List Value}{wr:World}(h:TK w base pb hv s' h' hs wr)(v:Value):TK w base pb hv v h' hs (wr.setCell ⟨pb,0,none⟩ v):=by
 refine⟨?_,aO h.own fun k hk=>Below.heap_setCell _ _ _ _ (fun e=>h.ne (by rw[hk,e])),h.mo.trans (Mo.setCell (pb::hv.ownBlock.toList) wr (p:=⟨pb,0,none⟩) (Ev ..) v),h.fresh,h.ne⟩
 rw[setCell_new h.jH];rfl
theorem TK.hole{w:World}{base pb:Nat}{hv s' h':Value}{hs:List Value}{wr:World}(h:TK w base pb hv s' h' hs wr)(hpw:pb<w.heap.size)(v:Value)(o:Obj){g' cap':Nat}{w8:World}(bf:(wr.alloc o).grownBy w8 h'.ownBlock)
  (cD:w8.ownsRow base 185 1 (.slice (some ⟨g',0,none⟩) (hs.length+1) cap') (hs.length+1) (hs++[v]))(hat:h'.ownBlock=some g'\/g'=wr.heap.size+1):
  TK w base pb hv s' (.slice (some ⟨g',0,none⟩) (hs.length+1) cap') (hs++[v]) (w8.setCell ⟨pb,1,none⟩ (.slice (some ⟨g',0,none⟩) (hs.length+1) cap')):=by
 have kz:=lt_of_heap h.jH;have hwz:=h.mo.size;have agZ:w8.heap[pb]?=some (.cells #[s',h'] 187 (0,0)):=(bf.block pb (by simp;omega) (fun e=>h.ne e.symm)).trans ((Below.heap_alloc _ _ _ kz).trans h.jH)
 have WE:g'≠pb:=fun e=>by
  subst e;rcases hat with hat|hat
  ·exact h.ne hat
  ·omega
 refine⟨?_,?_,?_,fun k hk=>?_,fun e=>?_⟩
 ·rw[setCell_new agZ];rfl
 ·rw[aT];exact aO cD fun k hk=>Below.heap_setCell _ _ _ _ (fun e=>by
   have:g'=k:=by simpa[Value.ownBlock] using hk
   exact WE (this.trans e))
 ·have m1:Mo (pb::hv.ownBlock.toList) w w8:=by
   refine h.mo.below ((Mo.alloc h'.ownBlock.toList wr o).trans (Mo.grown bf (fun k hk=>by rw[hk];simp))) fun k hk hk'=>?_
   have hk2:h'.ownBlock=some k:=by simpa using hk'
   rcases h.fresh k hk2 with e|e
   ·exact bo _ (by rw[e];simp)
   ·omega
  exact m1.trans (Mo.setCell (pb::hv.ownBlock.toList) w8 (p:=⟨pb,1,none⟩) (Ev ..) _)
 ·have hk2:g'=k:=by simpa[Value.ownBlock] using hk
  subst hk2;rcases hat with hat|hat
  ·exact h.fresh _ hat
  ·right;omega
 ·have:g'=pb:=by simpa[Value.ownBlock] using e
  exact WE this
theorem WH(P:List Nat->Bool)(Z:List VR)(a0:VR)(pb gR ag0 base:Nat)(hv:Value)(hs:List Value)(w:World)(hn:Z.length<=85000000)(hhs:hs.length<=85000000)(hbase:base<=w.heap.size)
  (hI:TK w base pb hv a0.1 hv hs w)(hgR:gR≠pb/\hv.ownBlock≠some gR)
  (HV:Hid (∀(i:Nat) p,Z[i]?=some p->w.cell? ⟨gR,i,none⟩=some p.1/\∃so n c,p.1=.slice so n c))
  (HC:Hid (∀p∈Z,∀w',Mo (pb::hv.ownBlock.toList) w w'->Calls Tryz.prog 113 #[p.1] w' fun e w''=>e=.returned (.bool (P p.2))/\Below w'.heap.size w' w'')):
  Calls Tryz.prog 115 #[.pointer (some ⟨pb,0,none⟩),.slice (some ⟨gR,0,none⟩) Z.length ag0] w fun e w'=>e=.returned (.tuple #[])/\∃hv',TK w base pb hv (fB P a0 Z).1 hv' (hs++(fC P Z).map (·.1)) w':=by
 obtain⟨j0,Dh,hy0,hy1,hy2⟩:=info_parts Wb;have bH:Hid (∃hv',TK w base pb hv (fB P a0 (Z.take 0)).1 hv' (hs++(fC P (Z.take 0)).map (·.1)) w):=⟨hv,by simpa[fB,fC] using hI⟩
 have hpw:pb<w.heap.size:=lt_of_heap hI.jH;have M0:Hid (gR≠pb/\hv.ownBlock≠some gR):=hgR;clear hI hgR
 go_enter Tryz.func115,Tryz.ntmps115
 go_wp2_with fail
 go_loopg [8] Z.length (fun m iv wr=>∃k:Nat,k+m=Z.length/\iv=.int .i64 k/\Hid (∃hv',TK w base pb hv (fB P a0 (Z.take k)).1 hv' (hs++(fC P (Z.take k)).map (·.1)) wr))
 case atStart=>exact⟨0,by omega,rfl,bH.out⟩
 case round=>
  obtain⟨k,hkn,rfl,HE⟩:=hrel;clear bH;by_cases hlt:k<Z.length
  ·obtain⟨p,hp⟩:∃p,Z[k]?=some p:=⟨_,aD hlt⟩;obtain⟨h',je⟩:=HE.out;obtain⟨c0,so,sn,sc,hsv⟩:=HV.out k p hp;have dh:gR<w.heap.size:=lt_of_cell c0;have c1:=(je.mo.cell (p:=⟨gR,k,none⟩) dh (by
    intro hk;rcases aP.1 hk with e|e
    ·exact M0.out.1 e
    ·exact M0.out.2 (by simpa using e))).trans c0
   have hcall:=HC.out p (bh hp) wr je.mo;have htk:Z.take (k+1)=Z.take k++[p]:=by rw[jh,hp];rfl
   have Ic:Hid (fB P a0 (Z.take (k+1))=if P p.2 then p else fB P a0 (Z.take k)):=by
    show fB P a0 (Z.take (k+1))=_;rw[htk,agX]
   have Ie:Hid (fC P (Z.take (k+1))=fC P (Z.take k)++(if P p.2 then[] else[p])):=by
    show fC P (Z.take (k+1))=_;rw[htk,agY]
   have M3:Hid ((hs++(fC P (Z.take k)).map (·.1)).length<=85000000+k):=by
    show _<=_;have:=Er (fun p:VR=> !P p.2) (Z.take k)
    rw[aT,gV];unfold fC;rw[ir] at this;omega
   have ez:(k:Int)<(Z.length:Int):=by omega
   obtain⟨v,r⟩:=p;simp only at*;subst hsv;have gP:Hid (Calls Tryz.prog 113 #[.slice so sn sc] wr fun e w''=>e=.returned (.bool (P r))/\Below wr.heap.size wr w''):=hcall
   have zG:Hid (TK w base pb hv (fB P a0 (Z.take k)).1 h' (hs++(fC P (Z.take k)).map (·.1)) wr):=je
   clear c0 hp je HE hcall htk;generalize(fB P a0 (Z.take k))=sa at*;generalize(fC P (Z.take k))=hb at*;have ag2:Hid (hs++hb.map (·.1)=hs++hb.map (·.1)):=rfl
   generalize hgl:hs++hb.map (·.1)=hl at*
   have WI:Hid (hs++hb.map (·.1)=hl):=hgl
   clear ag2 hgl;generalize P r=B at*
   go_wp2_with fail
   refine gP.out.mono ?_;rintro e w5 ⟨rfl,az⟩;have xt:=zG.out.below az;have oN:Hid (TK w base pb hv sa.1 h' hl w5):=xt;have f0:w5.frozen? ⟨pb,0,none⟩=false:=aX xt.jH 0;have q0:w5.cell? ⟨pb,0,none⟩=some sa.1:=cell_of xt.jH 0;have q1:w5.cell? ⟨pb,1,none⟩=some h':=cell_of xt.jH 1;clear gP zG c1 az;have ov:=xt.mo.size;obtain⟨Dq,Dr,h1c,rfl⟩:∃a b c,h'=.slice a b c:=by
    rcases xt.own.2 with⟨h,_⟩|⟨_,_,_,h,_⟩
    ·exact⟨_,_,_,h⟩
    ·exact⟨_,_,_,h⟩
   have hll:=M3.out;clear xt;cases B
   ·have xw:Hid (hs++(fC P (Z.take (k+1))).map (·.1)=hl++[.slice so sn sc]/\fB P a0 (Z.take (k+1))=sa):=by
     refine⟨?_,Ic.out⟩;rw[Ie.out,iD,<-eF,WI.out];rfl
    have hnb:(w5.alloc (.cells #[.slice so sn sc] 185)).heap[w5.heap.size]?=some (.cells #[.slice so sn sc] 185 (0,0)):=heap_alloc_new _ _;have hro:=oN.out.own;have mM:(w5.alloc (.cells #[.slice so sn sc] 185)).ownsRow base 185 1 (.slice Dq Dr h1c) hl.length hl:=aO hro fun k hk=>Below.heap_alloc _ _ _ (aB hro k hk).2
    have WJ:Hid (∀w8,(w5.alloc (.cells #[.slice so sn sc] 185)).grownBy w8 (Value.slice Dq Dr h1c).ownBlock->w8.heap[pb]?=some (.cells #[sa.1,.slice Dq Dr h1c] 187 (0,0))):=fun w8 bf=>(bf.block pb (by have:=lt_of_heap oN.out.jH;simp;omega) (fun e=>oN.out.ne e.symm)).trans ((Below.heap_alloc _ _ _ (lt_of_heap oN.out.jH)).trans oN.out.jH)
    clear hro Ic Ie M3
    go_wp2_with (at_builtin;refine wpList_append_lies _ rfl (.tmp 22) (.tmp 24) 183 rfl base 185 j0 _ 1 24 Tryz.underlying183 Dh hy0 hy1 hy2 rfl (by decide) (.slice Dq Dr h1c) hl.length hl rfl mM ⟨w5.heap.size,0,none⟩ 1 1 [.slice so sn sc] rfl rfl (World.news_of_block (cs:= #[.slice so sn sc]) (t:=185) (fr:=(0,0)) hnb) (by simp[Value.oneCell']) (by decide) (by unfold maxLen;omega) (by omega) (by simp;omega) (w5.heap.size+1) (by simp) ?_;intro g' cap' w8 cD bf fU oF;have M4:=WJ.out w8 bf;have f81:w8.frozen? ⟨pb,1,none⟩=false:=aX M4 1;have c81:w8.cell? ⟨pb,1,none⟩=some (.slice Dq Dr h1c):=cell_of M4 1)
    have bW:Hid (∃hv',TK w base pb hv (fB P a0 (Z.take (k+1))).1 hv' (hs++(fC P (Z.take (k+1))).map (·.1)) (w8.setCell ⟨pb,1,none⟩ (.slice (some ⟨g',0,none⟩) (hl.length+1) cap'))):=by
     show ∃hv',_;rw[xw.out.1,xw.out.2];exact⟨_,oN.out.hole hpw _ _ bf cD fU⟩
    clear cD bf fU M4 WJ hnb mM oN xw
    go_wp2_with fail
    go_roundg (gk-1)
    case measure=>omega
    case rel=>exact⟨k+1,by omega,by go_num,bW.out⟩
   ·have xw:Hid (hs++(fC P (Z.take (k+1))).map (·.1)=hl/\fB P a0 (Z.take (k+1))=(.slice so sn sc,r)):=by
     refine⟨?_,Ic.out⟩;rw[Ie.out];simp only[fJ,qg];exact WI.out
    have bW:Hid (∃hv',TK w base pb hv (fB P a0 (Z.take (k+1))).1 hv' (hs++(fC P (Z.take (k+1))).map (·.1)) (w5.setCell ⟨pb,0,none⟩ (.slice so sn sc))):=by
     show ∃hv',_;rw[xw.out.1,xw.out.2];exact⟨_,oN.out.shell _⟩
    clear oN xw Ic Ie M3 q1
    go_wp2_with fail
    go_roundg (gk-1)
    case measure=>omega
    case rel=>exact⟨k+1,by omega,by go_num,bW.out⟩
  ·have hk:k=Z.length:=by omega
   subst hk;have HF:Hid (∃hv',TK w base pb hv (fB P a0 Z).1 hv' (hs++(fC P Z).map (·.1)) wr):=by
    have:=HE.out;rw[fg] at this;exact this
   clear HE HV HC M0
   go_wp2_with fail
   go_end0
   exact⟨rfl,HF.out⟩
structure Tg where
 k:Nat
 q:Nat
abbrev Tg.vk:Tg:=⟨0,0⟩
abbrev Tg.jH(q:Nat):Tg:=⟨1,q⟩
abbrev Tg.holes(q:Nat):Tg:=⟨2,q⟩
abbrev Tg.ring:Tg:=⟨3,0⟩
abbrev Pg:=List Nat×List (List Nat)
structure jf where
 pb:Nat
 sv:Value
 hv:Value
 hvs:List Value
def iR(p:jf):Value:=.pointer (some ⟨p.pb,0,none⟩)
structure Ig(bs:List Nat)(base:Nat)(T:Nat->Tg)(q:Nat)(ph:jf)(ps:Pg)(wr:World):Prop where
 blk:wr.heap[ph.pb]?=some (.cells #[ph.sv,ph.hv] 187 (0,0))
 ge:base<=ph.pb
 tp:T ph.pb=.jH q
 sh:wr.ownsRow base 175 1 ph.sv ps.1.length (aK (ps.1.map (bx bs)))
 ts:∀k,ph.sv.ownBlock=some k->T k=.ring
 ho:wr.ownsRow base 185 1 ph.hv ph.hvs.length ph.hvs
 th:∀k,ph.hv.ownBlock=some k->T k=.holes q
 hl:ph.hvs.length=ps.2.length
 hr:∀(i:Nat) v r,ph.hvs[i]?=some v->ps.2[i]?=some r->wr.ownsRow base 175 1 v r.length (aK (r.map (bx bs)))/\∀k,v.ownBlock=some k->T k=.ring
structure PI(bs:List Nat)(base:Nat)(fk:Value)(PS:List Pg)(PH:List jf)(T:Nat->Tg)(wr:World):Prop where
 row:wr.ownsRow base 165 1 fk PH.length (PH.map iR)
 tl:∀k,fk.ownBlock=some k->T k=.vk
 len:PH.length=PS.length
 pg:∀(q:Nat) ph ps,PH[q]?=some ph->PS[q]?=some ps->Ig bs base T q ph ps wr
theorem Ig.keep{bs:List Nat}{base:Nat}{T T':Nat->Tg}{q:Nat}{ph:jf}{ps:Pg}{wr w':World}(h:Ig bs base T q ph ps wr)(hk:∀b,base<=b->b<wr.heap.size->T b=.jH q\/T b=.ring\/T b=.holes q->w'.heap[b]?=wr.heap[b]?)(hT:∀b,b<wr.heap.size->T' b=T b):Ig bs base T' q ph ps w':=by
 have kz:=lt_of_heap h.blk;refine⟨(hk _ h.ge kz (ae h.tp)).trans h.blk,h.ge,by rw[hT _ kz];exact h.tp,aO h.sh fun k e=>hk k (aB h.sh k e).1 (aB h.sh k e).2 (af (ae (h.ts k e))),fun k e=>by rw[hT k (aB h.sh k e).2];exact h.ts k e,aO h.ho fun k e=>hk k (aB h.ho k e).1 (aB h.ho k e).2 (af (af (h.th k e))),fun k e=>by rw[hT k (aB h.ho k e).2];exact h.th k e,h.hl,fun i v r h1 h2=>?_⟩
 obtain⟨k1,k2⟩:=h.hr i v r h1 h2;exact⟨aO k1 fun k e=>hk k (aB k1 k e).1 (aB k1 k e).2 (af (ae (k2 k e))),fun k e=>by rw[hT k (aB k1 k e).2];exact k2 k e⟩
theorem PI.keep{bs:List Nat}{base:Nat}{fk:Value}{PS:List Pg}{PH:List jf}{T:Nat->Tg}{wr w':World}(h:PI bs base fk PS PH T wr)(hk:∀b,base<=b->b<wr.heap.size->w'.heap[b]?=wr.heap[b]?):PI bs base fk PS PH T w':=
 ⟨aO h.row fun k e=>hk k (aB h.row k e).1 (aB h.row k e).2,h.tl,h.len,fun q ph ps h1 h2=>(h.pg q ph ps h1 h2).keep (fun b hb hz _=>hk b hb hz) (fun _ _=>rfl)⟩
theorem Dt{α β:Type}{a:List α}{b:List β}{i:Nat}{p:α×β}(h:(a.zip b)[i]?=some p):a[i]?=some p.1/\b[i]?=some p.2:=by
 rw[Zn] at h;exact h
theorem M5(P:List Nat->Bool)(a:VR):∀(Z:List VR),fB P a Z=a\/(fB P a Z∈Z/\P (fB P a Z).2=true):=by
 intro Z;unfold fB;induction Z generalizing a with
 |nil=>exact ae rfl
 |cons p Z ih=>
  rw[qj];by_cases hp:P p.2=true
  ·rw[ah hp];rcases ih p with h|h
   ·rw[h];exact af ⟨by simp,hp⟩
   ·exact af ⟨bo _ h.1,h.2⟩
  ·rw[aa hp];rcases ih a with h|h
   ·exact ae h
   ·exact af ⟨bo _ h.1,h.2⟩
structure RV(bs:List Nat)(lo hi:Nat)(Z:List VR)(w:World):Prop where
 own:∀p∈Z,w.ownsRow lo 175 1 p.1 p.2.length (aK (p.2.map (bx bs)))/\∀k,p.1.ownBlock=some k->k<hi
theorem RV.keep{bs:List Nat}{lo hi:Nat}{Z:List VR}{w w':World}(h:RV bs lo hi Z w)(hk:∀b,lo<=b->b<hi->w'.heap[b]?=w.heap[b]?):RV bs lo hi Z w':=
 ⟨fun p hp=>⟨aO (h.own p hp).1 fun k e=>hk k (aB (h.own p hp).1 k e).1 ((h.own p hp).2 k e),(h.own p hp).2⟩⟩
theorem PI.push{bs:List Nat}{base:Nat}{fk lvQ:Value}{PS:List Pg}{PH:List jf}{T:Nat->Tg}{wr w5 w6:World}(h:PI bs base fk PS PH T wr)(P:List Nat->Bool)(Z:List VR)(N lo:Nat)(hv':Value)
  (hlo:wr.heap.size<=lo)(hbase:base<=lo)(hN:lo<=N)(zb:N<w5.heap.size)(hZ:RV bs lo N Z w6)
  (hold:∀b,base<=b->b<wr.heap.size->T b≠.vk->w6.heap[b]?=wr.heap[b]?)
  (hrow:w6.ownsRow base 165 1 lvQ (PH.length+1) (PH.map iR++[.pointer (some ⟨N,0,none⟩)]))(hQ:∀k,lvQ.ownBlock=some k->fk.ownBlock=some k\/(N<k/\k<w5.heap.size))
  (je:w6.heap[N]?=some (.cells #[(fB P (.slice none 0 0,[]) Z).1,hv'] 187 (0,0)))(tP:w6.ownsRow base 185 1 hv' ((fC P Z).map (·.1)).length ((fC P Z).map (·.1)))(gK:∀k,hv'.ownBlock=some k->w5.heap.size<=k):
  ∃T',PI bs base lvQ (PS++[((fB P (.slice none 0 0,[]) Z).2,(fC P Z).map (·.2))]) (PH++[⟨N,(fB P (.slice none 0 0,[]) Z).1,hv',(fC P Z).map (·.1)⟩]) T' w6:=by
 refine⟨fun b=>if b<wr.heap.size then T b else if b=N then .jH PH.length else if hv'.ownBlock=some b then .holes PH.length else if lvQ.ownBlock=some b then .vk else .ring,?_⟩
 have Ih:∀k,lo<=k->k<N->(fun b=>if b<wr.heap.size then T b else if b=N then Tg.jH PH.length else if hv'.ownBlock=some b then .holes PH.length else if lvQ.ownBlock=some b then .vk else .ring) k=Tg.ring:=fun k k1 k2=>by
  have e1:¬k<wr.heap.size:=by omega
  have e2:¬k=N:=by omega
  have e3:¬hv'.ownBlock=some k:=fun e=>by have:=gK k e;omega
  have e4:¬lvQ.ownBlock=some k:=fun e=>by
   rcases hQ k e with e|e
   ·have:=(aB h.row k e).2;omega
   ·omega
  simp only[aa e1,aa e2,aa e3,aa e4]
 refine⟨?_,fun k hk=>?_,by rw[aT,aT,h.len];rfl,fun q ph ps h1 h2=>?_⟩
 ·rw[iD,aT];exact hrow
 ·rcases hQ k hk with e|⟨e1,e2⟩
  ·have hz:=(aB h.row k e).2;simp only[ah hz];exact h.tl k e
  ·have a1:¬k<wr.heap.size:=by omega
   have a2:¬k=N:=by omega
   have a3:¬hv'.ownBlock=some k:=fun e=>by have:=gK k e;omega
   simp only[aa a1,aa a2,aa a3,ah hk]
 ·by_cases hq:q<PH.length
  ·rw[eG hq] at h1;rw[eG (by rw[<-h.len];exact hq)] at h2
   refine(h.pg q ph ps h1 h2).keep (fun b hb hz ht=>hold b hb hz (fun e=>by rw[e] at ht;simp at ht)) (fun b hb=>by simp only[ah hb])
  ·have hq2:q=PH.length:=by
    have:=(bU.1 h1).1;simp at this;omega
   subst hq2;have e1:ph=⟨N,(fB P (.slice none 0 0,[]) Z).1,hv',(fC P Z).map (·.1)⟩:=by simpa using h1.symm
   have e2:ps=((fB P (.slice none 0 0,[]) Z).2,(fC P Z).map (·.2)):=by rw[h.len] at h2;simpa using h2.symm
   subst e1 e2;refine⟨je,dY hbase hN,?_,?_,fun k hk=>?_,tP,fun k hk=>?_,by simp,fun i v r h3 h4=>?_⟩
   ·have a1:¬N<wr.heap.size:=by omega
    simp only[aa a1,fJ]
   ·rcases M5 P (.slice none 0 0,[]) Z with e|⟨e,_⟩
    ·rw[e];exact World.ownsRow_nil _ _ _ _
    ·exact td (hZ.own _ e).1 hbase
   ·rcases M5 P (.slice none 0 0,[]) Z with e|⟨e,_⟩
    ·simp only at hk;rw[e] at hk;simp[Value.ownBlock] at hk
    ·exact Ih k (aB (hZ.own _ e).1 k hk).1 ((hZ.own _ e).2 k hk)
   ·have hz:=gK k hk;have a1:¬k<wr.heap.size:=by omega
    have a2:¬k=N:=by omega
    simp only at hk;simp only[aa a1,aa a2,ah hk]
   ·simp only at h3 h4;rw[fR] at h3 h4;obtain⟨p,hp,rfl⟩:=nZ.1 h3;rw[hp] at h4;have e:p.2=r:=by simpa using h4
    subst e;have hpZ:p∈Z:=(ik.1 (bh hp)).1;obtain⟨k1,k2⟩:=hZ.own p hpZ;exact⟨td k1 hbase,fun k hk=>Ih k (aB k1 k hk).1 (k2 k hk)⟩
theorem PI.more{bs:List Nat}{base:Nat}{fk:Value}{PS:List Pg}{PH:List jf}{T:Nat->Tg}{wr w5 w6:World}(h:PI bs base fk PS PH T wr)(Z:List VR)(lo hi q:Nat)(ph:jf)(ps:Pg)(fD:PH[q]?=some ph)(hps:PS[q]?=some ps)(hv':Value)
  (hlo:wr.heap.size<=lo)(hbase:base<=lo)(hhi:hi<=w5.heap.size)(hlh:lo<=hi)(hZ:RV bs lo hi Z w6)
  (hold:∀b,base<=b->b<wr.heap.size->T b≠.jH q->T b≠.holes q->w6.heap[b]?=wr.heap[b]?)
  (je:w6.heap[ph.pb]?=some (.cells #[ph.sv,hv'] 187 (0,0)))(tP:w6.ownsRow base 185 1 hv' (ph.hvs++Z.map (·.1)).length (ph.hvs++Z.map (·.1)))(gK:∀k,hv'.ownBlock=some k->ph.hv.ownBlock=some k\/w5.heap.size<=k):
  ∃T',PI bs base fk (PS.set q (ps.1,ps.2++Z.map (·.2))) (PH.set q ⟨ph.pb,ph.sv,hv',ph.hvs++Z.map (·.1)⟩) T' w6:=by
 have ll:q<PH.length:=(bU.1 fD).1;have Du:q<PS.length:=by rw[<-h.len];exact ll
 have hP:=h.pg q ph ps fD hps;have kz:=lt_of_heap hP.blk;refine⟨fun b=>if b<wr.heap.size then T b else if hv'.ownBlock=some b then .holes q else .ring,?_⟩
 have told:∀b,b<wr.heap.size->(fun b=>if b<wr.heap.size then T b else if hv'.ownBlock=some b then Tg.holes q else .ring) b=T b:=fun b hb=>by simp only[ah hb]
 have Ih:∀k,lo<=k->k<hi->(fun b=>if b<wr.heap.size then T b else if hv'.ownBlock=some b then Tg.holes q else .ring) k=Tg.ring:=fun k k1 k2=>by
  have e1:¬k<wr.heap.size:=by omega
  have e3:¬hv'.ownBlock=some k:=fun e=>by
   rcases gK k e with e|e
   ·have:=(aB hP.ho k e).2;omega
   ·omega
  simp only[aa e1,aa e3]
 have hmap:(PH.set q ⟨ph.pb,ph.sv,hv',ph.hvs++Z.map (·.1)⟩).map iR=PH.map iR:=by
  rw[ZQ];have:iR ⟨ph.pb,ph.sv,hv',ph.hvs++Z.map (·.1)⟩=(PH.map iR)[q]'(by simpa using ll):=by
   rw[ZR];have:=(bU.1 fD).2;rw[this];rfl
  rw[this];exact akt _
 refine⟨?_,fun k hk=>?_,by simp[h.len],fun q' rH ps' h1 h2=>?_⟩
 ·rw[hmap,Jq];exact aO h.row fun k e=>hold k (aB h.row k e).1 (aB h.row k e).2 (by rw[h.tl k e];simp) (by rw[h.tl k e];simp)
 ·exact(told k (aB h.row k hk).2).trans (h.tl k hk)
 ·by_cases nT:q=q'
  ·subst nT;rw[ql ll] at h1;rw[ql Du] at h2;injection h1 with h1;injection h2 with h2;subst h1 h2;have mB:∀b,base<=b->b<wr.heap.size->T b=.ring->w6.heap[b]?=wr.heap[b]?:=fun b hb hz ht=>hold b hb hz (by rw[ht];simp) (by rw[ht];simp)
   refine⟨je,hP.ge,(told _ kz).trans hP.tp,aO hP.sh fun k e=>mB k (aB hP.sh k e).1 (aB hP.sh k e).2 (hP.ts k e),fun k e=>(told k (aB hP.sh k e).2).trans (hP.ts k e),tP,fun k hk=>?_,by simp[hP.hl],fun i v r h3 h4=>?_⟩
   ·rcases gK k hk with e|e
    ·exact(told k (aB hP.ho k e).2).trans (hP.th k e)
    ·have a1:¬k<wr.heap.size:=by omega
     simp only at hk;simp only[aa a1,ah hk]
   ·simp only at h3 h4;by_cases hi':i<ph.hvs.length
    ·rw[eG hi'] at h3;rw[eG (by rw[<-hP.hl];exact hi')] at h4
     obtain⟨k1,k2⟩:=hP.hr i v r h3 h4;exact⟨aO k1 fun k e=>mB k (aB k1 k e).1 (aB k1 k e).2 (k2 k e),fun k e=>(told k (aB k1 k e).2).trans (k2 k e)⟩
    ·rw[mW (by omega)] at h3
     rw[mW (by rw[<-hP.hl];omega),<-hP.hl] at h4
     rw[fR] at h3 h4;obtain⟨p,hp,rfl⟩:=nZ.1 h3;rw[hp] at h4;have e:p.2=r:=by simpa using h4
     subst e;obtain⟨k1,k2⟩:=hZ.own p (bh hp);exact⟨td k1 hbase,fun k hk=>Ih k (aB k1 k hk).1 (k2 k hk)⟩
  ·rw[vE nT] at h1 h2;refine(h.pg q' rH ps' h1 h2).keep (fun b hb hz ht=>hold b hb hz (fun e=>?_) (fun e=>?_)) told
   ·rw[e] at ht;simp at ht;exact nT ht
   ·rw[e] at ht;simp at ht;exact nT ht
structure Ch(nx:Nat->Nat)(mk:Nat->Bool)(n i:Nat)(A:List Nat)(j:Nat):Prop where
 head:∀a,A[0]?=some a->a=i
 nil:A=[]->j=i
 step:∀(t a b:Nat),A[t]?=some a->A[t+1]?=some b->b=nx a
 last:∀a,A.getLast?=some a->j=nx a
 nd:A.Nodup
 free:∀a∈A,a<n/\mk a=false
theorem Ch.snoc{nx:Nat->Nat}{mk:Nat->Bool}{n i:Nat}{A:List Nat}{j:Nat}(h:Ch nx mk n i A j)(hj:j<n)(hm:(mk j||A.contains j)=false):Ch nx mk n i (A++[j]) (nx j):=by
 have sQ:mk j=false:=by revert hm;cases mk j<;>simp
 have hm2:j∉A:=by
  intro hk;rw[rW.2 hk] at hm;simp at hm
 refine⟨fun a ha=>?_,fun h0=>by simp at h0,fun t a b ha hb=>?_,fun a ha=>?_,?_,fun a ha=>?_⟩
 ·cases A with
  |nil=>
   have:j=a:=by simpa using ha
   rw[<-this];exact h.nil rfl
  |cons x r=>exact h.head a (by simpa using ha)
 ·by_cases ht:t+1<A.length
  ·rw[eG (by omega)] at ha
   rw[eG ht] at hb;exact h.step t a b ha hb
  ·have ht2:t+1=A.length:=by
    have:=(bU.1 hb).1;simp at this;omega
   have e1:b=j:=by
    rw[ht2] at hb;simpa using hb.symm
   rw[e1];refine h.last a ?_;rw[eG (by omega)] at ha
   rw[nY,<-ht2];exact ha
 ·have:a=j:=by simpa using ha.symm
  rw[this]
 ·rw[Jr];refine⟨h.nd,by simp,fun a ha b hb=>?_⟩
  rw[bI.1 hb];intro e;exact hm2 (e▸ha)
 ·rcases bT.1 ha with ha|ha
  ·exact h.free a ha
  ·rw[bI.1 ha];exact⟨hj,sQ⟩
theorem WK{nx:Nat->Nat}{mk:Nat->Bool}{n i:Nat}(hnx:∀j,j<n->nx j<n):∀(m:Nat)(A:List Nat)(j:Nat),Ch nx mk n i A j->j<n->iA n mk A<=m->∃j',Ch nx mk n i (iP nx mk m A j) j'/\j'<n/\(mk j'||(iP nx mk m A j).contains j')=true
 |0,A,j,h,hj,hl=>by
  refine⟨j,h,hj,?_⟩;show(mk j||A.contains j)=true
  cases hm:(mk j||A.contains j)
  ·have:=HZ hj hm;omega
  ·rfl
 |m+1,A,j,h,hj,hl=>by
  show ∃j',Ch nx mk n i (if mk j||A.contains j then A else iP nx mk m (A++[j]) (nx j)) j'/\j'<n/\(mk j'||(if mk j||A.contains j then A else iP nx mk m (A++[j]) (nx j)).contains j')=true
  cases hm:(mk j||A.contains j)
  ·have:=HZ hj hm;simp only[iC,jg];exact WK hnx m (A++[j]) (nx j) (h.snoc hj hm) (hnx j hj) (by omega)
  ·simp only[fJ];exact⟨j,h,hj,hm⟩
structure mP(nx:Nat->Nat)(mk:Nat->Bool)(n i:Nat)(L:List Nat):Prop where
 head:L[0]?=some i
 step:∀(t a b:Nat),L[t]?=some a->L[t+1]?=some b->b=nx a
 back:∀a,L.getLast?=some a->nx a=i
 nd:L.Nodup
 free:∀a∈L,a<n/\mk a=false
theorem ag4{nx:Nat->Nat}{mk:Nat->Bool}{n i:Nat}(hnx:∀j,j<n->nx j<n)(hinj:∀a b,a<n->b<n->nx a=nx b->a=b)(hmk:∀j,j<n->mk (nx j)=mk j)(hi:i<n)(hm:mk i=false):mP nx mk n i (iP nx mk n [] i):=by
 have h0:Ch nx mk n i [] i:=⟨fun a h=>by simp at h,fun _=>rfl,fun t a b h=>by simp at h,fun a h=>by simp at h,List.nodup_nil,fun a h=>by simp at h⟩
 obtain⟨j,hc,hj,hjm⟩:=WK hnx n [] i h0 hi (tM _ _ _);generalize iP nx mk n [] i=L at*;have hne:L≠[]:=by
  intro h;have:=hc.nil h;rw[h,this,hm] at hjm;simp at hjm
 have hlen:0<L.length:=il.2 hne;obtain⟨z,hz⟩:∃z,L.getLast?=some z:=⟨_,O7 hne⟩;have M6:=hc.last z hz;have Ii:z∈L:=rS hz;have M7:=hc.free z Ii;have hjL:j∈L:=by
  have:mk j=false:=by rw[M6,hmk z M7.1];exact M7.2
  rw[this] at hjm;exact rW.1 (by simpa using hjm)
 have GI:j=i:=by
  obtain⟨t,ht,xx⟩:=jL.1 hjL;have WM:L[t]?=some j:=by rw[aD ht,xx]
  cases t with
  |zero=>exact hc.head j WM
  |succ t=>
   exfalso;obtain⟨a,ha⟩:∃a,L[t]?=some a:=⟨_,aD (by omega)⟩
   have hja:=hc.step t a j ha WM;have M8:=bh ha;have cH:z=a:=hinj z a M7.1 (hc.free a M8).1 (M6.symm.trans hja);rw[nY] at hz;have e1:=(bU.1 hz).2;have e2:=(bU.1 ha).2;have h1:=ZM hc.nd (L.length-1) (by omega)
   have h2:=ZM hc.nd t (by omega)
   rw[e1] at h1;rw[e2,<-cH] at h2;omega
 refine⟨?_,hc.step,fun a ha=>?_,hc.nd,hc.free⟩
 ·obtain⟨a,ha⟩:∃a,L[0]?=some a:=⟨_,aD hlen⟩;rw[ha,hc.head a ha]
 ·rw[ha] at hz;injection hz with hz;rw[hz,<-M6,GI]
theorem mP.WN{nx:Nat->Nat}{mk:Nat->Bool}{n i:Nat}{L:List Nat}(h:mP nx mk n i L){j:Nat}(hj:j∈L):nx j∈L:=by
 obtain⟨t,ht,xx⟩:=jL.1 hj;by_cases hl:t+1<L.length
 ·have:=h.step t j L[t+1] (by rw[aD ht,xx]) (aD hl)
  rw[<-this];exact gF hl
 ·have:nx j=i:=h.back j (by rw[nY,show L.length-1=t by omega,aD ht,xx])
  rw[this];exact bh h.head
theorem mP.ag7{nx:Nat->Nat}{mk:Nat->Bool}{n i:Nat}{L:List Nat}(h:mP nx mk n i L)(hinj:∀a b,a<n->b<n->nx a=nx b->a=b){j:Nat}(hjn:j<n)(hj:nx j∈L):j∈L:=by
 obtain⟨t,ht,xx⟩:=jL.1 hj;cases t with
 |zero=>
  have hlen:0<L.length:=ht;obtain⟨z,hz⟩:∃z,L.getLast?=some z:=⟨_,O7 (il.1 hlen)⟩;have hzi:=h.back z hz;have hi:L[0]?=some (nx j):=by rw[aD ht,xx]
  rw[h.head] at hi;injection hi with hi;have Ii:=rS hz;rw[hinj j z hjn (h.free z Ii).1 (hi.symm.trans hzi.symm)];exact Ii
 |succ t=>
  have:=h.step t L[t] (nx j) (aD (by omega)) (by rw[aD ht,xx])
  have hm:L[t]∈L:=gF _;rw[hinj j L[t] hjn (h.free _ hm).1 this];exact hm
theorem mP.closed{nx:Nat->Nat}{mk:Nat->Bool}{n i:Nat}{L:List Nat}(h:mP nx mk n i L)(hinj:∀a b,a<n->b<n->nx a=nx b->a=b)(hmk:∀j,j<n->mk (nx j)=mk j):∀j,j<n->(mk (nx j)||L.contains (nx j))=(mk j||L.contains j):=by
 intro j hj;rw[hmk j hj];congr 1;cases h1:L.contains j
 ·cases h2:L.contains (nx j)
  ·rfl
  ·rw[rW.2 (h.ag7 hinj hj (rW.1 h2))] at h1;cases h1
 ·exact rW.2 (h.WN (rW.1 h1))
end Go.Proofs.YtkjhhooecopolaaGreatDoor
