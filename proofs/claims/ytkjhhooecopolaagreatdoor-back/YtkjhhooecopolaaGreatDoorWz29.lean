import Derived.Test.YtkjhhooecopolaaGreatDoorWz28
set_option maxRecDepth 100000
set_option maxHeartbeats 4000000
namespace Go.Proofs.YtkjhhooecopolaaGreatDoor
open Go.RowKit
theorem ah6(X1 X2 X3 Y1 Y2 Y3 N1 N2 ra rb P Q im:Nat)(N3 p q R:Int)(b c:Nat)(w:World)
  (a0:w.cell? ⟨b,0,none⟩=some (.complex .f64 X1 X2))(a1:w.cell? ⟨b,1,none⟩=some (.float .f64 X3))(c0:w.cell? ⟨c,0,none⟩=some (.complex .f64 Y1 Y2))(c1:w.cell? ⟨c,1,none⟩=some (.float .f64 Y3))
  (HLa:Hid (∀w,Calls Tryz.prog 97 #[.agg #[.complex .f64 X1 X2,.float .f64 X3],.agg #[.complex .f64 N1 N2,.int .i64 N3]] w fun e w'=>e=.returned (.float .f64 ra)/\Below w.heap.size w w'))
  (HLb:Hid (∀w,Calls Tryz.prog 97 #[.agg #[.complex .f64 Y1 Y2,.float .f64 Y3],.agg #[.complex .f64 N1 N2,.int .i64 N3]] w fun e w'=>e=.returned (.float .f64 rb)/\Below w.heap.size w w'))
  (CD:∀t w,(binOp .mul t (.float .f64 ra) (.float .f64 Y1)).run Tryz.prog w=.ok (.float .f64 P) w)(vH:∀t w,(binOp .mul t (.float .f64 rb) (.float .f64 X1)).run Tryz.prog w=.ok (.float .f64 Q) w)
  (xV:Hid (∀w,Calls Tryz.prog 183 #[.float .f64 P,.float .f64 Q] w fun r w'=>r=.returned (.int .i64 p)/\w'=w))
  (ND:Hid (∀w,Calls Tryz.prog 101 #[.complex .f64 X1 X2,.complex .f64 Y1 Y2] w fun e w'=>e=.returned (.float .f64 im)/\w'=w))
  (xW:Hid (∀w,Calls Tryz.prog 183 #[.float .f64 im,.float .f64 0] w fun r w'=>r=.returned (.int .i64 q)/\w'=w))
  (HO:Hid (∀b cap w,w.cell? ⟨b,0,none⟩=some (.int .i64 p)->w.cell? ⟨b,1,none⟩=some (.int .i64 q)->Calls Tryz.prog 182 #[.slice (some ⟨b,0,none⟩) 2 cap] w fun r w'=>r=.returned (.int .i64 R)/\w'=w)):
  Calls Tryz.prog 172 #[.agg #[.complex .f64 N1 N2,.int .i64 N3],.pointer (some ⟨b,0,none⟩),.pointer (some ⟨c,0,none⟩)] w fun e w'=>e=.returned (.int .i64 R)/\Below w.heap.size w w':=by
 have hbz:b<w.heap.size:=lt_of_cell a0;have hcz:c<w.heap.size:=lt_of_cell c0;have hb0:Below w.heap.size w (w.alloc (.cells #[.complex .f64 N1 N2,.int .i64 N3] 83)):=(Below.refl _ _).alloc (ay _) _;have hE:=heap_alloc_new w (.cells #[.complex .f64 N1 N2,.int .i64 N3] 83);have hz:w.heap.size<(w.alloc (.cells #[.complex .f64 N1 N2,.int .i64 N3] 83)).heap.size:=by simp
 go_enter Tryz.func172,Tryz.ntmps172
 go_wp2_with fail
 have z0:(w.alloc (.cells #[.complex .f64 N1 N2,.int .i64 N3] 83)).cell? ⟨w.heap.size,0,none⟩=some (.complex .f64 N1 N2):=cell_of hE 0;have z1:(w.alloc (.cells #[.complex .f64 N1 N2,.int .i64 N3] 83)).cell? ⟨w.heap.size,1,none⟩=some (.int .i64 N3):=cell_of hE 1;have z2:=(hb0.cell (p:=⟨b,0,none⟩) hbz).trans a0;have z3:=(hb0.cell (p:=⟨b,1,none⟩) hbz).trans a1;have z4:=(hb0.cell (p:=⟨c,0,none⟩) hcz).trans c0;have z5:=(hb0.cell (p:=⟨c,1,none⟩) hcz).trans c1;generalize w.alloc (.cells #[.complex .f64 N1 N2,.int .i64 N3] 83)=W at*;generalize qC:w.heap.size=B at*;have kP:B<W.heap.size:=by omega
 have hbW:b<W.heap.size:=by omega
 have N9:c<W.heap.size:=by omega
 have N6:Below B w W:=hb0;clear hE hz a0 a1 c0 c1 hb0
 go_region_held3 (fun w'=>w'.cell? ⟨B,0,none⟩=some (.complex .f64 N1 N2)/\w'.cell? ⟨B,1,none⟩=some (.int .i64 N3)/\w'.cell? ⟨b,0,none⟩=some (.complex .f64 X1 X2)/\w'.cell? ⟨b,1,none⟩=some (.float .f64 X3)/\w'.cell? ⟨c,0,none⟩=some (.complex .f64 Y1 Y2)/\w'.cell? ⟨c,1,none⟩=some (.float .f64 Y3)) (go_keep) (first
   |(go_at_call_of 97 (Value.agg #[Value.complex FloatKind.f64 X1 X2,Value.float FloatKind.f64 X3]);refine(HLa.out _).mono ?_;rintro e w5 ⟨rfl,sU⟩;have mW:B<w5.heap.size:=bu kP sU.size;have dV:b<w5.heap.size:=bu hbW sU.size;have Oa:c<w5.heap.size:=bu N9 sU.size;have l0:=(sU.cell (p:=⟨B,0,none⟩) kP).trans z0;have l1:=(sU.cell (p:=⟨B,1,none⟩) kP).trans z1;have l2:=(sU.cell (p:=⟨b,0,none⟩) hbW).trans z2;have l3:=(sU.cell (p:=⟨b,1,none⟩) hbW).trans z3;have l4:=(sU.cell (p:=⟨c,0,none⟩) N9).trans z4;have l5:=(sU.cell (p:=⟨c,1,none⟩) N9).trans z5;have ah9:Below B w w5:=N6.drew.trans (sU.mono (eJ kP)))
   |(go_at_call_of 97 (Value.agg #[Value.complex FloatKind.f64 Y1 Y2,Value.float FloatKind.f64 Y3]);refine(HLb.out _).mono ?_;rintro e w6 ⟨rfl,sV⟩;have sP:B<w6.heap.size:=bu mW sV.size;have ig:b<w6.heap.size:=bu dV sV.size;have Ob:c<w6.heap.size:=bu Oa sV.size;have m0:=(sV.cell (p:=⟨B,0,none⟩) mW).trans l0;have m1:=(sV.cell (p:=⟨B,1,none⟩) mW).trans l1;have m2:=(sV.cell (p:=⟨b,0,none⟩) dV).trans l2;have m3:=(sV.cell (p:=⟨b,1,none⟩) dV).trans l3;have m4:=(sV.cell (p:=⟨c,0,none⟩) Oa).trans l4;have m5:=(sV.cell (p:=⟨c,1,none⟩) Oa).trans l5;have aia:Below B w w6:=ah9.trans (sV.mono (eJ mW)))
   |(go_at_call_of 183 (Value.float FloatKind.f64 P);refine(xV.out _).mono ?_;rintro e w7 ⟨rfl,kO⟩;replace kO:=kO.symm;subst kO)
   |(go_at_call 101;refine(ND.out _).mono ?_;rintro e w7 ⟨rfl,kO⟩;replace kO:=kO.symm;subst kO)
   |(go_at_call_of 183 (Value.float FloatKind.f64 im);refine(xW.out _).mono ?_;rintro e w7 ⟨rfl,kO⟩;replace kO:=kO.symm;subst kO)
   |(go_at_call 182;refine(HO.out _ _ _ (cell_of (heap_alloc_new _ _) 0) (cell_of (heap_alloc_new _ _) 1)).mono ?_;rintro e w8 ⟨rfl,qy⟩;have sW:Below w6.heap.size w6 w8:=(by(rw[qy];exact(Below.refl _ _).alloc (ay _) _));have anY:B<w8.heap.size:=bu sP sW.size;have anZ:b<w8.heap.size:=bu ig sW.size;have an0:c<w8.heap.size:=bu Ob sW.size;have o0:=(sW.cell (p:=⟨B,0,none⟩) sP).trans m0;have o1:=(sW.cell (p:=⟨B,1,none⟩) sP).trans m1;have o2:=(sW.cell (p:=⟨b,0,none⟩) ig).trans m2;have o3:=(sW.cell (p:=⟨b,1,none⟩) ig).trans m3;have o4:=(sW.cell (p:=⟨c,0,none⟩) Ob).trans m4;have o5:=(sW.cell (p:=⟨c,1,none⟩) Ob).trans m5;have aib:Below B w w8:=aia.trans (sW.mono (eJ sP));clear qy))
 all_goals
  go_wp2_with fail
  go_ret
  exact⟨rfl,by rw[qC];exact aib⟩
def EF(n:Ge.Nd)(x y:PB):Int:=(Ge.cr (Ga.wv x.f x.t) (Ga.wv x.f n)*(y.f.2.2*(Ga.wv y.f y.t).1)-Ge.cr (Ga.wv y.f y.t) (Ga.wv y.f n)*(x.f.2.2*(Ga.wv x.f x.t).1)).sign
def pY(n:Ge.Nd)(x y:PB):Int:=if EF n x y=0 then eW x y else EF n x y
theorem XE{x:PB}{l:Ge.Ln}(hx:LD x l)(n:Ge.Nd):∃dl DD:Int,0<dl/\0<DD/\DD*(x.f.2.2*(l.1*n.2.1-l.2.1*n.1-l.2.2*n.2.2))=dl*Ge.cr (Ga.wv x.f x.t) (Ga.wv x.f n)/\DD*l.1=dl*(Ga.wv x.f x.t).1:=by
 have hp:=hx.par;have hd:=hx.pos;have h:=hx.M8;rw[(sM x.f x.t).1,(sM x.f x.t).2] at hp hd;refine⟨l.1*(Ga.wv x.f x.t).1+l.2.1*(Ga.wv x.f x.t).2,Ge.dt (Ga.wv x.f x.t) (Ga.wv x.f x.t),hd,Ga.cP ?_,?_,?_⟩
 ·intro e;rw[e] at hd;simp at hd
 ·have e1:x.f.2.2*(l.1*n.2.1-l.2.1*n.1-l.2.2*n.2.2)=l.1*(Ga.wv x.f n).2-l.2.1*(Ga.wv x.f n).1:=by
   have e0:(Ga.wv x.f n).1=x.f.2.2*n.1-n.2.2*x.f.1:=rfl;have e0':(Ga.wv x.f n).2=x.f.2.2*n.2.1-n.2.2*x.f.2.1:=rfl;rw[e0,e0'];have:x.f.2.2*(l.1*n.2.1-l.2.1*n.1-l.2.2*n.2.2)=x.f.2.2*l.1*n.2.1-x.f.2.2*l.2.1*n.1-n.2.2*(l.2.2*x.f.2.2):=by grind
   rw[this,<-h]
   grind
  rw[e1];generalize Ga.wv x.f x.t=D at*;generalize Ga.wv x.f n=v at*;unfold Ge.dt Ge.cr;clear h e1 hd
  grind
 ·generalize Ga.wv x.f x.t=D at*;unfold Ge.dt;clear h hd
  grind
theorem aid{x y:PB}{l m:Ge.Ln}(hx:LD x l)(hy:LD y m)(Oc:0<x.f.2.2)(EG:0<y.f.2.2)(n:Ge.Nd):((l.1*n.2.1-l.2.1*n.1-l.2.2*n.2.2)*m.1-(m.1*n.2.1-m.2.1*n.1-m.2.2*n.2.2)*l.1).sign=EF n x y:=by
 obtain⟨d1,D1,p1,q1,e1,e2⟩:=XE hx n;obtain⟨d2,D2,p2,q2,e3,e4⟩:=XE hy n;unfold EF;generalize l.1*n.2.1-l.2.1*n.1-l.2.2*n.2.2=A at*;generalize m.1*n.2.1-m.2.1*n.1-m.2.2*n.2.2=B at*;generalize Ge.cr (Ga.wv x.f x.t) (Ga.wv x.f n)=CX at*;generalize Ge.cr (Ga.wv y.f y.t) (Ga.wv y.f n)=CY at*;generalize(Ga.wv x.f x.t).1=X1 at*;generalize(Ga.wv y.f y.t).1=Y1 at*;generalize x.f.2.2=fx at*;generalize y.f.2.2=fy at*;have k1:0<D1*D2*(fx*fy):=aR (aR q1 q2) (aR Oc EG);have k2:0<d1*d2:=aR p1 p2;rw[<-Ge.LA (z:=A*m.1-B*l.1) k1,<-Ge.LA (z:=CX*(fy*Y1)-CY*(fx*X1)) k2];congr 1;have a1:D1*D2*(fx*fy)*(A*m.1-B*l.1)=(D1*(fx*A))*(fy*(D2*m.1))-(D2*(fy*B))*(fx*(D1*l.1)):=by grind
 rw[a1,e1,e2,e3,e4]
 grind
theorem aie(x y:PB){l m:Ge.Ln}(hx:LD x l)(hy:LD y m)(Oc:0<x.f.2.2)(EG:0<y.f.2.2)(n:Ge.Nd)(hn:lF n)(b c:Nat)(w:World)(h1:iK w b x)(h2:iK w c y):
  Calls Tryz.prog 172 #[gZ n,.pointer (some ⟨b,0,none⟩),.pointer (some ⟨c,0,none⟩)] w fun e w'=>e=.returned (.int .i64 (pY n x y))/\Below w.heap.size w w':=by
 obtain⟨ra,fa,hLa⟩:=N7 hx hn;obtain⟨rb,fb,Ny⟩:=N7 hy hn;have bd:∀(k:Ge.Ln),k.1.natAbs<=100->k.2.1.natAbs<=100->k.2.2.natAbs<=10000->(k.1*n.2.1-k.2.1*n.1-k.2.2*n.2.2).natAbs<=1000000000:=fun k k1 k2 k3=>by
  have a1:(k.1*n.2.1).natAbs<=100*3000000:=by rw[oa];exact BC k1 hn.y
  have a2:(k.2.1*n.1).natAbs<=100*3000000:=by rw[oa];exact BC k2 hn.x
  have a3:(k.2.2*n.2.2).natAbs<=10000*20000:=by rw[oa];exact BC k3 (by have:=hn.d;omega)
  omega
 have ba:=bd l hx.b1 hx.b2 hx.b3;have bb:=bd m hy.b1 hy.b2 hy.b3;have m1:((l.1*n.2.1-l.2.1*n.1-l.2.2*n.2.2)*m.1).natAbs<=1000000000*100:=by rw[oa];exact BC ba hy.b1
 have m2:((m.1*n.2.1-m.2.1*n.1-m.2.2*n.2.2)*l.1).natAbs<=1000000000*100:=by rw[oa];exact BC bb hx.b1
 obtain⟨P,eP,fP⟩:=fa.mul hy.fl.a (by omega)
 obtain⟨Q,eQ,fQ⟩:=fb.mul hx.fl.a (by omega)
 obtain⟨im,f1,hl⟩:=Ee hx hy;have hc1:=fun w=>xU fP fQ w
 rw[aid hx hy Oc EG n] at hc1;have hc2:=fun w=>xU f1 kM w
 rw[yQ,Ec hx hy] at hc2;unfold gZ;exact ah6 _ _ _ _ _ _ _ _ ra rb P Q im _ _ _ _ b c w h1.c0 h1.c1 h2.c0 h2.c1 hLa Ny (fun t w=>run_float_arith (P:=Tryz.prog) w .mul t .f64 _ _ P eP) (fun t w=>run_float_arith (P:=Tryz.prog) w .mul t .f64 _ _ Q eQ) hc1 hl hc2 (fun b cap w h0 h1=>Ii _ _ b cap w h0 h1)
def ij(Xs:List PB)(n:Ge.Nd):Nat:=bG (fun i j=>pY n (xi Xs i) (xi Xs j)) (dW Xs n Xs.length).tail ((dW Xs n Xs.length).headD 0)
theorem XG{Xs:List PB}{n:Ge.Nd}(h:dW Xs n Xs.length≠[]):ij Xs n∈dW Xs n Xs.length:=by
 unfold ij;generalize dW Xs n Xs.length=T at*;cases T with
 |nil=>exact absurd rfl h
 |cons a t=>
  rcases wu (fun i j=>pY n (xi Xs i) (xi Xs j)) t a with e|e
  ·rw[show(a::t).tail=t from rfl,show(a::t).headD 0=a from rfl,e];simp
  ·exact aT _ e
theorem aih(bs:List Nat)(Xs:List PB)(hB:BD Xs)(hnd:bs.Nodup)(n:Ge.Nd)(hn:lF n)(g cap:Nat)(w:World)(hR:RB w g bs Xs)(hne:dW Xs n Xs.length≠[]):
  Calls Tryz.prog 114 #[.slice (some ⟨g,0,none⟩) bs.length cap,gZ n] w fun e w'=>e=.returned (.pointer (some ⟨bx bs (ij Xs n),0,none⟩))/\Below w.heap.size w w':=by
 have hlen:=hR.len;have hbl:bs.length<=85000000:=by rw[hlen];exact hB.len
 refine ah4 bs Xs n _ _ _ g cap (bx bs (ij Xs n)) w hR hbl (fun i hi w' hb=>ah1 bs Xs hB w' g (hR.below hb) n hn i (by rw[<-hlen];exact hi)) ?_
 intro lv wr ho hb;rw[hlen] at ho;have hT:∀j∈dW Xs n Xs.length,j<Xs.length:=N8 Xs n Xs.length;have qR:=XC Xs n Xs.length;have Jv:=hB.len;have pW:ij Xs n=bG (fun i j=>pY n (xi Xs i) (xi Xs j)) (dW Xs n Xs.length).tail ((dW Xs n Xs.length).headD 0):=rfl
 rw[pW];generalize dW Xs n Xs.length=T at*;obtain⟨t0,tr,rfl⟩:∃t0 tr,T=t0::tr:=by
  cases T with
  |nil=>exact absurd rfl hne
  |cons a t=>exact⟨a,t,rfl⟩
 obtain⟨gT,cT,rfl,_,_,_,_,_,hcell⟩:=mV ho (by simp)
 have cD:=hR.below hb;have hm:=ah2 (fun b b'=>pY n (xi Xs (bs.idxOf b)) (xi Xs (bs.idxOf b'))) (bx bs t0) (tr.map (bx bs)) gT 0 cT (floatOfInt .f64 n.1) (floatOfInt .f64 n.2.1) n.2.2 wr (by rw[iF];simp only[cN] at qR;omega)
  (fun i b hi=>hcell i b hi)
  (fun b h1 c h2 w'' hw=>by
   have key:∀b,b∈bx bs t0::tr.map (bx bs)->∃j,j<Xs.length/\b=bx bs j:=fun b hb=>by
    have hb2:b∈(t0::tr).map (bx bs):=hb;obtain⟨j,hj,rfl⟩:=aN.1 hb2;exact⟨j,hT j hj,rfl⟩
   obtain⟨j1,q1,rfl⟩:=key b h1;obtain⟨j2,q2,rfl⟩:=key c h2;have lY:=cD.below hw;rw[mj hnd (by rw[hlen];exact q1),mj hnd (by rw[hlen];exact q2)]
   obtain⟨l1,d1⟩:=hB.ld _ (gu q1);obtain⟨l2,d2⟩:=hB.ld _ (gu q2);exact aie _ _ d1 d2 (hB.v _ (gu q1)).cf.pos (hB.v _ (gu q2)).cf.pos n hn _ _ w'' (lY.at q1) (lY.at q2))
 have e1:bG (fun b b'=>pY n (xi Xs (bs.idxOf b)) (xi Xs (bs.idxOf b'))) (tr.map (bx bs)) (bx bs t0)=bx bs (bG (fun i j=>pY n (xi Xs i) (xi Xs j)) (t0::tr).tail ((t0::tr).headD 0)):=by
  refine Eh _ _ fun j hj k hk=>?_
  simp only[mj hnd (by rw[hlen];exact hT j hj),mj hnd (by rw[hlen];exact hT k hk)]
 rw[e1,iF] at hm;exact hm
abbrev VR:=Value×List Nat
def fS(P:List Nat->Bool)(a:VR)(Z:List VR):VR:=Z.foldl (fun acc p=>if P p.2 then p else acc) a
def fT(P:List Nat->Bool)(Z:List VR):List VR:=Z.filter fun p=> !P p.2
theorem aii(P:List Nat->Bool)(a:VR)(Z:List VR)(p:VR):fS P a (Z++[p])=if P p.2 then p else fS P a Z:=by unfold fS;rw[KJ];rfl
theorem aij(P:List Nat->Bool)(Z:List VR)(p:VR):fT P (Z++[p])=fT P Z++(if P p.2 then[] else[p]):=by
 unfold fT;rw[BB];congr 1;cases h:P p.2<;>simp[h]
structure TK(w:World)(base pb:Nat)(hv:Value)(s' h':Value)(hs:List Value)(wr:World):Prop where
 j5:wr.heap[pb]?=some (.cells #[s',h'] 187 (0,0))
 own:wr.ownsRow base 185 1 h' hs.length hs
 mo:Mo (pb::hv.ownBlock.toList) w wr
 fresh:∀k,h'.ownBlock=some k->hv.ownBlock=some k\/w.heap.size<=k
 ne:h'.ownBlock≠some pb
theorem TK.below{w:World}{base pb:Nat}{hv s' h':Value}{hs:List Value}{wr w':World}(h:TK w base pb hv s' h' hs wr)(hb:Below wr.heap.size wr w'):TK w base pb hv s' h' hs w':=
 ⟨(hb.block _ (lt_of_heap h.j5)).trans h.j5,aU h.own fun k hk=>hb.block k (aB h.own k hk).2,h.mo.trans (Mo.of _ hb),h.fresh,h.ne⟩
theorem TK.shell{w:World}{base pb:Nat}{hv s' h':Value}{hs:List Value}{wr:World}(h:TK w base pb hv s' h' hs wr)(v:Value):TK w base pb hv v h' hs (wr.setCell ⟨pb,0,none⟩ v):=by
 refine⟨?_,aU h.own fun k hk=>Below.heap_setCell _ _ _ _ (fun e=>h.ne (by rw[hk,e])),h.mo.trans (Mo.setCell (pb::hv.ownBlock.toList) wr (p:=⟨pb,0,none⟩) (FT ..) v),h.fresh,h.ne⟩
 rw[setCell_new h.j5];rfl
theorem TK.hole{w:World}{base pb:Nat}{hv s' h':Value}{hs:List Value}{wr:World}(h:TK w base pb hv s' h' hs wr)(hpw:pb<w.heap.size)(v:Value)(o:Obj){g' cap':Nat}{w8:World}(bo:(wr.alloc o).grownBy w8 h'.ownBlock)
  (cU:w8.ownsRow base 185 1 (.slice (some ⟨g',0,none⟩) (hs.length+1) cap') (hs.length+1) (hs++[v]))(hat:h'.ownBlock=some g'\/g'=wr.heap.size+1):
  TK w base pb hv s' (.slice (some ⟨g',0,none⟩) (hs.length+1) cap') (hs++[v]) (w8.setCell ⟨pb,1,none⟩ (.slice (some ⟨g',0,none⟩) (hs.length+1) cap')):=by
 have lH:=lt_of_heap h.j5;have hwz:=h.mo.size;have aik:w8.heap[pb]?=some (.cells #[s',h'] 187 (0,0)):=(bo.block pb (by simp;omega) (fun e=>h.ne e.symm)).trans ((Below.heap_alloc _ _ _ lH).trans h.j5)
 have XH:g'≠pb:=fun e=>by
  subst e;rcases hat with hat|hat
  ·exact h.ne hat
  ·omega
 refine⟨?_,?_,?_,fun k hk=>?_,fun e=>?_⟩
 ·rw[setCell_new aik];rfl
 ·rw[aX];exact aU cU fun k hk=>Below.heap_setCell _ _ _ _ (fun e=>by
   have:g'=k:=by simpa[Value.ownBlock] using hk
   exact XH (this.trans e))
 ·have m1:Mo (pb::hv.ownBlock.toList) w w8:=by
   refine h.mo.below ((Mo.alloc h'.ownBlock.toList wr o).trans (Mo.grown bo (fun k hk=>by rw[hk];simp))) fun k hk hk'=>?_
   have hk2:h'.ownBlock=some k:=by simpa using hk'
   rcases h.fresh k hk2 with e|e
   ·exact aT _ (by rw[e];simp)
   ·omega
  exact m1.trans (Mo.setCell (pb::hv.ownBlock.toList) w8 (p:=⟨pb,1,none⟩) (FT ..) _)
 ·have hk2:g'=k:=by simpa[Value.ownBlock] using hk
  subst hk2;rcases hat with hat|hat
  ·exact h.fresh _ hat
  ·right;omega
 ·have:g'=pb:=by simpa[Value.ownBlock] using e
  exact XH this
theorem XI(P:List Nat->Bool)(Z:List VR)(a0:VR)(pb gR ail base:Nat)(hv:Value)(hs:List Value)(w:World)(hn:Z.length<=85000000)(hhs:hs.length<=85000000)(hbase:base<=w.heap.size)
  (hI:TK w base pb hv a0.1 hv hs w)(hgR:gR≠pb/\hv.ownBlock≠some gR)
  (HV:Hid (∀(i:Nat) p,Z[i]?=some p->w.cell? ⟨gR,i,none⟩=some p.1/\∃so n c,p.1=.slice so n c))
  (HC:Hid (∀p∈Z,∀w',Mo (pb::hv.ownBlock.toList) w w'->Calls Tryz.prog 113 #[p.1] w' fun e w''=>e=.returned (.bool (P p.2))/\Below w'.heap.size w' w'')):
  Calls Tryz.prog 115 #[.pointer (some ⟨pb,0,none⟩),.slice (some ⟨gR,0,none⟩) Z.length ail] w fun e w'=>e=.returned (.tuple #[])/\∃hv',TK w base pb hv (fS P a0 Z).1 hv' (hs++(fT P Z).map (·.1)) w':=by
 obtain⟨j0,Ez,hy0,hy1,hy2⟩:=info_parts Xh;have bW:Hid (∃hv',TK w base pb hv (fS P a0 (Z.take 0)).1 hv' (hs++(fT P (Z.take 0)).map (·.1)) w):=⟨hv,by simpa[fS,fT] using hI⟩
 have hpw:pb<w.heap.size:=lt_of_heap hI.j5;have Od:Hid (gR≠pb/\hv.ownBlock≠some gR):=hgR;clear hI hgR
 go_enter Tryz.func115,Tryz.ntmps115
 go_wp2_with fail
 go_loopg [8] Z.length (fun m iv wr=>∃k:Nat,k+m=Z.length/\iv=.int .i64 k/\Hid (∃hv',TK w base pb hv (fS P a0 (Z.take k)).1 hv' (hs++(fT P (Z.take k)).map (·.1)) wr))
 case atStart=>exact⟨0,by omega,rfl,bW.out⟩
 case round=>
  obtain⟨k,hkn,rfl,HE⟩:=hrel;clear bW;by_cases hlt:k<Z.length
  ·obtain⟨p,hp⟩:∃p,Z[k]?=some p:=⟨_,aC hlt⟩;obtain⟨h',jB⟩:=HE.out;obtain⟨c0,so,sn,sc,hsv⟩:=HV.out k p hp;have dH:gR<w.heap.size:=lt_of_cell c0;have c1:=(jB.mo.cell (p:=⟨gR,k,none⟩) dH (by
    intro hk;rcases aP.1 hk with e|e
    ·exact Od.out.1 e
    ·exact Od.out.2 (by simpa using e))).trans c0
   have hcall:=HC.out p (aZ hp) wr jB.mo;have htk:Z.take (k+1)=Z.take k++[p]:=by rw[jF,hp];rfl
   have Jw:Hid (fS P a0 (Z.take (k+1))=if P p.2 then p else fS P a0 (Z.take k)):=by
    show fS P a0 (Z.take (k+1))=_;rw[htk,aii]
   have Jx:Hid (fT P (Z.take (k+1))=fT P (Z.take k)++(if P p.2 then[] else[p])):=by
    show fT P (Z.take (k+1))=_;rw[htk,aij]
   have Oe:Hid ((hs++(fT P (Z.take k)).map (·.1)).length<=85000000+k):=by
    show _<=_;have:=FM (fun p:VR=> !P p.2) (Z.take k)
    rw[aX,iF];unfold fT;rw[iE] at this;omega
   have fN:(k:Int)<(Z.length:Int):=by omega
   obtain⟨v,r⟩:=p;simp only at*;subst hsv;have iz:Hid (Calls Tryz.prog 113 #[.slice so sn sc] wr fun e w''=>e=.returned (.bool (P r))/\Below wr.heap.size wr w''):=hcall
   have AR:Hid (TK w base pb hv (fS P a0 (Z.take k)).1 h' (hs++(fT P (Z.take k)).map (·.1)) wr):=jB
   clear c0 hp jB HE hcall htk;generalize(fS P a0 (Z.take k))=sa at*;generalize(fT P (Z.take k))=hb at*;have ain:Hid (hs++hb.map (·.1)=hs++hb.map (·.1)):=rfl
   generalize hgl:hs++hb.map (·.1)=hl at*
   have XJ:Hid (hs++hb.map (·.1)=hl):=hgl
   clear ain hgl;generalize P r=B at*
   go_wp2_with fail
   refine iz.out.mono ?_;rintro e w5 ⟨rfl,az⟩;have yz:=AR.out.below az;have pX:Hid (TK w base pb hv sa.1 h' hl w5):=yz;have f0:w5.frozen? ⟨pb,0,none⟩=false:=bw yz.j5 0;have q0:w5.cell? ⟨pb,0,none⟩=some sa.1:=cell_of yz.j5 0;have q1:w5.cell? ⟨pb,1,none⟩=some h':=cell_of yz.j5 1;clear iz AR c1 az;have pM:=yz.mo.size;obtain⟨EH,EI,h1c,rfl⟩:∃a b c,h'=.slice a b c:=by
    rcases yz.own.2 with⟨h,_⟩|⟨_,_,_,h,_⟩
    ·exact⟨_,_,_,h⟩
    ·exact⟨_,_,_,h⟩
   have hll:=Oe.out;clear yz;cases B
   ·have yA:Hid (hs++(fT P (Z.take (k+1))).map (·.1)=hl++[.slice so sn sc]/\fS P a0 (Z.take (k+1))=sa):=by
     refine⟨?_,Jw.out⟩;rw[Jx.out,ja,<-fB,XJ.out];rfl
    have hnb:(w5.alloc (.cells #[.slice so sn sc] 185)).heap[w5.heap.size]?=some (.cells #[.slice so sn sc] 185 (0,0)):=heap_alloc_new _ _;have hro:=pX.out.own;have nT:(w5.alloc (.cells #[.slice so sn sc] 185)).ownsRow base 185 1 (.slice EH EI h1c) hl.length hl:=aU hro fun k hk=>Below.heap_alloc _ _ _ (aB hro k hk).2
    have XK:Hid (∀w8,(w5.alloc (.cells #[.slice so sn sc] 185)).grownBy w8 (Value.slice EH EI h1c).ownBlock->w8.heap[pb]?=some (.cells #[sa.1,.slice EH EI h1c] 187 (0,0))):=fun w8 bo=>(bo.block pb (by have:=lt_of_heap pX.out.j5;simp;omega) (fun e=>pX.out.ne e.symm)).trans ((Below.heap_alloc _ _ _ (lt_of_heap pX.out.j5)).trans pX.out.j5)
    clear hro Jw Jx Oe
    go_wp2_with (at_builtin;refine wpList_append_lies _ rfl (.tmp 22) (.tmp 24) 183 rfl base 185 j0 _ 1 24 Tryz.underlying183 Ez hy0 hy1 hy2 rfl (by decide) (.slice EH EI h1c) hl.length hl rfl nT ⟨w5.heap.size,0,none⟩ 1 1 [.slice so sn sc] rfl rfl (World.news_of_block (cs:= #[.slice so sn sc]) (t:=185) (fr:=(0,0)) hnb) (by simp[Value.oneCell']) (by decide) (by unfold maxLen;omega) (by omega) (by simp;omega) (w5.heap.size+1) (by simp) ?_;intro g' cap' w8 cU bo gJ pP;have Og:=XK.out w8 bo;have f81:w8.frozen? ⟨pb,1,none⟩=false:=bw Og 1;have c81:w8.cell? ⟨pb,1,none⟩=some (.slice EH EI h1c):=cell_of Og 1)
    have cI:Hid (∃hv',TK w base pb hv (fS P a0 (Z.take (k+1))).1 hv' (hs++(fT P (Z.take (k+1))).map (·.1)) (w8.setCell ⟨pb,1,none⟩ (.slice (some ⟨g',0,none⟩) (hl.length+1) cap'))):=by
     show ∃hv',_;rw[yA.out.1,yA.out.2];exact⟨_,pX.out.hole hpw _ _ bo cU gJ⟩
    clear cU bo gJ Og XK hnb nT pX yA
    go_wp2_with fail
    go_roundg (gk-1)
    case measure=>omega
    case rel=>exact⟨k+1,by omega,by go_num,cI.out⟩
   ·have yA:Hid (hs++(fT P (Z.take (k+1))).map (·.1)=hl/\fS P a0 (Z.take (k+1))=(.slice so sn sc,r)):=by
     refine⟨?_,Jw.out⟩;rw[Jx.out];simp only[gD,q9];exact XJ.out
    have cI:Hid (∃hv',TK w base pb hv (fS P a0 (Z.take (k+1))).1 hv' (hs++(fT P (Z.take (k+1))).map (·.1)) (w5.setCell ⟨pb,0,none⟩ (.slice so sn sc))):=by
     show ∃hv',_;rw[yA.out.1,yA.out.2];exact⟨_,pX.out.shell _⟩
    clear pX yA Jw Jx Oe q1
    go_wp2_with fail
    go_roundg (gk-1)
    case measure=>omega
    case rel=>exact⟨k+1,by omega,by go_num,cI.out⟩
  ·have hk:k=Z.length:=by omega
   subst hk;have HF:Hid (∃hv',TK w base pb hv (fS P a0 Z).1 hv' (hs++(fT P Z).map (·.1)) wr):=by
    have:=HE.out;rw[gm] at this;exact this
   clear HE HV HC Od
   go_wp2_with fail
   go_end0
   exact⟨rfl,HF.out⟩
structure Tg where
 k:Nat
 q:Nat
abbrev Tg.qU:Tg:=⟨0,0⟩
abbrev Tg.j5(q:Nat):Tg:=⟨1,q⟩
abbrev Tg.holes(q:Nat):Tg:=⟨2,q⟩
abbrev Tg.ring:Tg:=⟨3,0⟩
abbrev Pg:=List Nat×List (List Nat)
structure jC where
 pb:Nat
 sv:Value
 hv:Value
 hvs:List Value
def jq(p:jC):Value:=.pointer (some ⟨p.pb,0,none⟩)
structure Jy(bs:List Nat)(base:Nat)(T:Nat->Tg)(q:Nat)(ph:jC)(ps:Pg)(wr:World):Prop where
 blk:wr.heap[ph.pb]?=some (.cells #[ph.sv,ph.hv] 187 (0,0))
 ge:base<=ph.pb
 tp:T ph.pb=.j5 q
 sh:wr.ownsRow base 175 1 ph.sv ps.1.length (aL (ps.1.map (bx bs)))
 ts:∀k,ph.sv.ownBlock=some k->T k=.ring
 ho:wr.ownsRow base 185 1 ph.hv ph.hvs.length ph.hvs
 th:∀k,ph.hv.ownBlock=some k->T k=.holes q
 hl:ph.hvs.length=ps.2.length
 hr:∀(i:Nat) v r,ph.hvs[i]?=some v->ps.2[i]?=some r->wr.ownsRow base 175 1 v r.length (aL (r.map (bx bs)))/\∀k,v.ownBlock=some k->T k=.ring
structure PI(bs:List Nat)(base:Nat)(fJ:Value)(PS:List Pg)(PH:List jC)(T:Nat->Tg)(wr:World):Prop where
 row:wr.ownsRow base 165 1 fJ PH.length (PH.map jq)
 tl:∀k,fJ.ownBlock=some k->T k=.qU
 len:PH.length=PS.length
 pg:∀(q:Nat) ph ps,PH[q]?=some ph->PS[q]?=some ps->Jy bs base T q ph ps wr
theorem Jy.keep{bs:List Nat}{base:Nat}{T T':Nat->Tg}{q:Nat}{ph:jC}{ps:Pg}{wr w':World}(h:Jy bs base T q ph ps wr)(hk:∀b,base<=b->b<wr.heap.size->T b=.j5 q\/T b=.ring\/T b=.holes q->w'.heap[b]?=wr.heap[b]?)(hT:∀b,b<wr.heap.size->T' b=T b):Jy bs base T' q ph ps w':=by
 have lH:=lt_of_heap h.blk;refine⟨(hk _ h.ge lH (ag h.tp)).trans h.blk,h.ge,by rw[hT _ lH];exact h.tp,aU h.sh fun k e=>hk k (aB h.sh k e).1 (aB h.sh k e).2 (ah (ag (h.ts k e))),fun k e=>by rw[hT k (aB h.sh k e).2];exact h.ts k e,aU h.ho fun k e=>hk k (aB h.ho k e).1 (aB h.ho k e).2 (ah (ah (h.th k e))),fun k e=>by rw[hT k (aB h.ho k e).2];exact h.th k e,h.hl,fun i v r h1 h2=>?_⟩
 obtain⟨k1,k2⟩:=h.hr i v r h1 h2;exact⟨aU k1 fun k e=>hk k (aB k1 k e).1 (aB k1 k e).2 (ah (ag (k2 k e))),fun k e=>by rw[hT k (aB k1 k e).2];exact k2 k e⟩
theorem PI.keep{bs:List Nat}{base:Nat}{fJ:Value}{PS:List Pg}{PH:List jC}{T:Nat->Tg}{wr w':World}(h:PI bs base fJ PS PH T wr)(hk:∀b,base<=b->b<wr.heap.size->w'.heap[b]?=wr.heap[b]?):PI bs base fJ PS PH T w':=
 ⟨aU h.row fun k e=>hk k (aB h.row k e).1 (aB h.row k e).2,h.tl,h.len,fun q ph ps h1 h2=>(h.pg q ph ps h1 h2).keep (fun b hb hz _=>hk b hb hz) (fun _ _=>rfl)⟩
theorem EJ{α β:Type}{a:List α}{b:List β}{i:Nat}{p:α×β}(h:(a.zip b)[i]?=some p):a[i]?=some p.1/\b[i]?=some p.2:=by
 rw[aaZ] at h;exact h
theorem Oh(P:List Nat->Bool)(a:VR):∀(Z:List VR),fS P a Z=a\/(fS P a Z∈Z/\P (fS P a Z).2=true):=by
 intro Z;unfold fS;induction Z generalizing a with
 |nil=>exact ag rfl
 |cons p Z ih=>
  rw[rq];by_cases hp:P p.2=true
  ·rw[aj hp];rcases ih p with h|h
   ·rw[h];exact ah ⟨by simp,hp⟩
   ·exact ah ⟨aT _ h.1,h.2⟩
  ·rw[af hp];rcases ih a with h|h
   ·exact ag h
   ·exact ah ⟨aT _ h.1,h.2⟩
structure RV(bs:List Nat)(lo hi:Nat)(Z:List VR)(w:World):Prop where
 own:∀p∈Z,w.ownsRow lo 175 1 p.1 p.2.length (aL (p.2.map (bx bs)))/\∀k,p.1.ownBlock=some k->k<hi
theorem RV.keep{bs:List Nat}{lo hi:Nat}{Z:List VR}{w w':World}(h:RV bs lo hi Z w)(hk:∀b,lo<=b->b<hi->w'.heap[b]?=w.heap[b]?):RV bs lo hi Z w':=
 ⟨fun p hp=>⟨aU (h.own p hp).1 fun k e=>hk k (aB (h.own p hp).1 k e).1 ((h.own p hp).2 k e),(h.own p hp).2⟩⟩
theorem PI.push{bs:List Nat}{base:Nat}{fJ lvQ:Value}{PS:List Pg}{PH:List jC}{T:Nat->Tg}{wr w5 w6:World}(h:PI bs base fJ PS PH T wr)(P:List Nat->Bool)(Z:List VR)(N lo:Nat)(hv':Value)
  (hlo:wr.heap.size<=lo)(hbase:base<=lo)(hN:lo<=N)(Ag:N<w5.heap.size)(hZ:RV bs lo N Z w6)
  (hold:∀b,base<=b->b<wr.heap.size->T b≠.qU->w6.heap[b]?=wr.heap[b]?)
  (hrow:w6.ownsRow base 165 1 lvQ (PH.length+1) (PH.map jq++[.pointer (some ⟨N,0,none⟩)]))(hQ:∀k,lvQ.ownBlock=some k->fJ.ownBlock=some k\/(N<k/\k<w5.heap.size))
  (jB:w6.heap[N]?=some (.cells #[(fS P (.slice none 0 0,[]) Z).1,hv'] 187 (0,0)))(uH:w6.ownsRow base 185 1 hv' ((fT P Z).map (·.1)).length ((fT P Z).map (·.1)))(iu:∀k,hv'.ownBlock=some k->w5.heap.size<=k):
  ∃T',PI bs base lvQ (PS++[((fS P (.slice none 0 0,[]) Z).2,(fT P Z).map (·.2))]) (PH++[⟨N,(fS P (.slice none 0 0,[]) Z).1,hv',(fT P Z).map (·.1)⟩]) T' w6:=by
 refine⟨fun b=>if b<wr.heap.size then T b else if b=N then .j5 PH.length else if hv'.ownBlock=some b then .holes PH.length else if lvQ.ownBlock=some b then .qU else .ring,?_⟩
 have Jz:∀k,lo<=k->k<N->(fun b=>if b<wr.heap.size then T b else if b=N then Tg.j5 PH.length else if hv'.ownBlock=some b then .holes PH.length else if lvQ.ownBlock=some b then .qU else .ring) k=Tg.ring:=fun k k1 k2=>by
  have e1:¬k<wr.heap.size:=by omega
  have e2:¬k=N:=by omega
  have e3:¬hv'.ownBlock=some k:=fun e=>by have:=iu k e;omega
  have e4:¬lvQ.ownBlock=some k:=fun e=>by
   rcases hQ k e with e|e
   ·have:=(aB h.row k e).2;omega
   ·omega
  simp only[af e1,af e2,af e3,af e4]
 refine⟨?_,fun k hk=>?_,by rw[aX,aX,h.len];rfl,fun q ph ps h1 h2=>?_⟩
 ·rw[ja,aX];exact hrow
 ·rcases hQ k hk with e|⟨e1,e2⟩
  ·have hz:=(aB h.row k e).2;simp only[aj hz];exact h.tl k e
  ·have a1:¬k<wr.heap.size:=by omega
   have a2:¬k=N:=by omega
   have a3:¬hv'.ownBlock=some k:=fun e=>by have:=iu k e;omega
   simp only[af a1,af a2,af a3,aj hk]
 ·by_cases hq:q<PH.length
  ·rw[fC hq] at h1;rw[fC (by rw[<-h.len];exact hq)] at h2
   refine(h.pg q ph ps h1 h2).keep (fun b hb hz ht=>hold b hb hz (fun e=>by rw[e] at ht;simp at ht)) (fun b hb=>by simp only[aj hb])
  ·have hq2:q=PH.length:=by
    have:=(bZ.1 h1).1;simp at this;omega
   subst hq2;have e1:ph=⟨N,(fS P (.slice none 0 0,[]) Z).1,hv',(fT P Z).map (·.1)⟩:=by simpa using h1.symm
   have e2:ps=((fS P (.slice none 0 0,[]) Z).2,(fT P Z).map (·.2)):=by rw[h.len] at h2;simpa using h2.symm
   subst e1 e2;refine⟨jB,fg hbase hN,?_,?_,fun k hk=>?_,uH,fun k hk=>?_,by simp,fun i v r h3 h4=>?_⟩
   ·have a1:¬N<wr.heap.size:=by omega
    simp only[af a1,gD]
   ·rcases Oh P (.slice none 0 0,[]) Z with e|⟨e,_⟩
    ·rw[e];exact World.ownsRow_nil _ _ _ _
    ·exact ur (hZ.own _ e).1 hbase
   ·rcases Oh P (.slice none 0 0,[]) Z with e|⟨e,_⟩
    ·simp only at hk;rw[e] at hk;simp[Value.ownBlock] at hk
    ·exact Jz k (aB (hZ.own _ e).1 k hk).1 ((hZ.own _ e).2 k hk)
   ·have hz:=iu k hk;have a1:¬k<wr.heap.size:=by omega
    have a2:¬k=N:=by omega
    simp only at hk;simp only[af a1,af a2,aj hk]
   ·simp only at h3 h4;rw[gz] at h3 h4;obtain⟨p,hp,rfl⟩:=pA.1 h3;rw[hp] at h4;have e:p.2=r:=by simpa using h4
    subst e;have hpZ:p∈Z:=(eY.1 (aZ hp)).1;obtain⟨k1,k2⟩:=hZ.own p hpZ;exact⟨ur k1 hbase,fun k hk=>Jz k (aB k1 k hk).1 (k2 k hk)⟩
theorem PI.more{bs:List Nat}{base:Nat}{fJ:Value}{PS:List Pg}{PH:List jC}{T:Nat->Tg}{wr w5 w6:World}(h:PI bs base fJ PS PH T wr)(Z:List VR)(lo hi q:Nat)(ph:jC)(ps:Pg)(fU:PH[q]?=some ph)(hps:PS[q]?=some ps)(hv':Value)
  (hlo:wr.heap.size<=lo)(hbase:base<=lo)(hhi:hi<=w5.heap.size)(hlh:lo<=hi)(hZ:RV bs lo hi Z w6)
  (hold:∀b,base<=b->b<wr.heap.size->T b≠.j5 q->T b≠.holes q->w6.heap[b]?=wr.heap[b]?)
  (jB:w6.heap[ph.pb]?=some (.cells #[ph.sv,hv'] 187 (0,0)))(uH:w6.ownsRow base 185 1 hv' (ph.hvs++Z.map (·.1)).length (ph.hvs++Z.map (·.1)))(iu:∀k,hv'.ownBlock=some k->ph.hv.ownBlock=some k\/w5.heap.size<=k):
  ∃T',PI bs base fJ (PS.set q (ps.1,ps.2++Z.map (·.2))) (PH.set q ⟨ph.pb,ph.sv,hv',ph.hvs++Z.map (·.1)⟩) T' w6:=by
 have mr:q<PH.length:=(bZ.1 fU).1;have EK:q<PS.length:=by rw[<-h.len];exact mr
 have hP:=h.pg q ph ps fU hps;have lH:=lt_of_heap hP.blk;refine⟨fun b=>if b<wr.heap.size then T b else if hv'.ownBlock=some b then .holes q else .ring,?_⟩
 have told:∀b,b<wr.heap.size->(fun b=>if b<wr.heap.size then T b else if hv'.ownBlock=some b then Tg.holes q else .ring) b=T b:=fun b hb=>by simp only[aj hb]
 have Jz:∀k,lo<=k->k<hi->(fun b=>if b<wr.heap.size then T b else if hv'.ownBlock=some b then Tg.holes q else .ring) k=Tg.ring:=fun k k1 k2=>by
  have e1:¬k<wr.heap.size:=by omega
  have e3:¬hv'.ownBlock=some k:=fun e=>by
   rcases iu k e with e|e
   ·have:=(aB hP.ho k e).2;omega
   ·omega
  simp only[af e1,af e3]
 have hmap:(PH.set q ⟨ph.pb,ph.sv,hv',ph.hvs++Z.map (·.1)⟩).map jq=PH.map jq:=by
  rw[abq];have:jq ⟨ph.pb,ph.sv,hv',ph.hvs++Z.map (·.1)⟩=(PH.map jq)[q]'(by simpa using mr):=by
   rw[abr];have:=(bZ.1 fU).2;rw[this];rfl
  rw[this];exact amC _
 refine⟨?_,fun k hk=>?_,by simp[h.len],fun q' sZ ps' h1 h2=>?_⟩
 ·rw[hmap,KF];exact aU h.row fun k e=>hold k (aB h.row k e).1 (aB h.row k e).2 (by rw[h.tl k e];simp) (by rw[h.tl k e];simp)
 ·exact(told k (aB h.row k hk).2).trans (h.tl k hk)
 ·by_cases oY:q=q'
  ·subst oY;rw[ru mr] at h1;rw[ru EK] at h2;injection h1 with h1;injection h2 with h2;subst h1 h2;have nJ:∀b,base<=b->b<wr.heap.size->T b=.ring->w6.heap[b]?=wr.heap[b]?:=fun b hb hz ht=>hold b hb hz (by rw[ht];simp) (by rw[ht];simp)
   refine⟨jB,hP.ge,(told _ lH).trans hP.tp,aU hP.sh fun k e=>nJ k (aB hP.sh k e).1 (aB hP.sh k e).2 (hP.ts k e),fun k e=>(told k (aB hP.sh k e).2).trans (hP.ts k e),uH,fun k hk=>?_,by simp[hP.hl],fun i v r h3 h4=>?_⟩
   ·rcases iu k hk with e|e
    ·exact(told k (aB hP.ho k e).2).trans (hP.th k e)
    ·have a1:¬k<wr.heap.size:=by omega
     simp only at hk;simp only[af a1,aj hk]
   ·simp only at h3 h4;by_cases hi':i<ph.hvs.length
    ·rw[fC hi'] at h3;rw[fC (by rw[<-hP.hl];exact hi')] at h4
     obtain⟨k1,k2⟩:=hP.hr i v r h3 h4;exact⟨aU k1 fun k e=>nJ k (aB k1 k e).1 (aB k1 k e).2 (k2 k e),fun k e=>(told k (aB k1 k e).2).trans (k2 k e)⟩
    ·rw[n9 (by omega)] at h3
     rw[n9 (by rw[<-hP.hl];omega),<-hP.hl] at h4
     rw[gz] at h3 h4;obtain⟨p,hp,rfl⟩:=pA.1 h3;rw[hp] at h4;have e:p.2=r:=by simpa using h4
     subst e;obtain⟨k1,k2⟩:=hZ.own p (aZ hp);exact⟨ur k1 hbase,fun k hk=>Jz k (aB k1 k hk).1 (k2 k hk)⟩
  ·rw[wZ oY] at h1 h2;refine(h.pg q' sZ ps' h1 h2).keep (fun b hb hz ht=>hold b hb hz (fun e=>?_) (fun e=>?_)) told
   ·rw[e] at ht;simp at ht;exact oY ht
   ·rw[e] at ht;simp at ht;exact oY ht
structure Ch(nx:Nat->Nat)(mk:Nat->Bool)(n i:Nat)(A:List Nat)(j:Nat):Prop where
 head:∀a,A[0]?=some a->a=i
 nil:A=[]->j=i
 step:∀(t a b:Nat),A[t]?=some a->A[t+1]?=some b->b=nx a
 last:∀a,A.getLast?=some a->j=nx a
 nd:A.Nodup
 free:∀a∈A,a<n/\mk a=false
theorem Ch.snoc{nx:Nat->Nat}{mk:Nat->Bool}{n i:Nat}{A:List Nat}{j:Nat}(h:Ch nx mk n i A j)(hj:j<n)(hm:(mk j||A.contains j)=false):Ch nx mk n i (A++[j]) (nx j):=by
 have xO:mk j=false:=by revert hm;cases mk j<;>simp
 have hm2:j∉A:=by
  intro hk;rw[tP.2 hk] at hm;simp at hm
 refine⟨fun a ha=>?_,fun h0=>by simp at h0,fun t a b ha hb=>?_,fun a ha=>?_,?_,fun a ha=>?_⟩
 ·cases A with
  |nil=>
   have:j=a:=by simpa using ha
   rw[<-this];exact h.nil rfl
  |cons x r=>exact h.head a (by simpa using ha)
 ·by_cases ht:t+1<A.length
  ·rw[fC (by omega)] at ha
   rw[fC ht] at hb;exact h.step t a b ha hb
  ·have ht2:t+1=A.length:=by
    have:=(bZ.1 hb).1;simp at this;omega
   have e1:b=j:=by
    rw[ht2] at hb;simpa using hb.symm
   rw[e1];refine h.last a ?_;rw[fC (by omega)] at ha
   rw[mH,<-ht2];exact ha
 ·have:a=j:=by simpa using ha.symm
  rw[this]
 ·rw[KG];refine⟨h.nd,by simp,fun a ha b hb=>?_⟩
  rw[bY.1 hb];intro e;exact hm2 (e▸ha)
 ·rcases bQ.1 ha with ha|ha
  ·exact h.free a ha
  ·rw[bY.1 ha];exact⟨hj,xO⟩
theorem XL{nx:Nat->Nat}{mk:Nat->Bool}{n i:Nat}(hnx:∀j,j<n->nx j<n):∀(m:Nat)(A:List Nat)(j:Nat),Ch nx mk n i A j->j<n->iY n mk A<=m->∃j',Ch nx mk n i (jn nx mk m A j) j'/\j'<n/\(mk j'||(jn nx mk m A j).contains j')=true
 |0,A,j,h,hj,hl=>by
  refine⟨j,h,hj,?_⟩;show(mk j||A.contains j)=true
  cases hm:(mk j||A.contains j)
  ·have:=Jn hj hm;omega
  ·rfl
 |m+1,A,j,h,hj,hl=>by
  show ∃j',Ch nx mk n i (if mk j||A.contains j then A else jn nx mk m (A++[j]) (nx j)) j'/\j'<n/\(mk j'||(if mk j||A.contains j then A else jn nx mk m (A++[j]) (nx j)).contains j')=true
  cases hm:(mk j||A.contains j)
  ·have:=Jn hj hm;simp only[js,jR];exact XL hnx m (A++[j]) (nx j) (h.snoc hj hm) (hnx j hj) (by omega)
  ·simp only[gD];exact⟨j,h,hj,hm⟩
structure nW(nx:Nat->Nat)(mk:Nat->Bool)(n i:Nat)(L:List Nat):Prop where
 head:L[0]?=some i
 step:∀(t a b:Nat),L[t]?=some a->L[t+1]?=some b->b=nx a
 back:∀a,L.getLast?=some a->nx a=i
 nd:L.Nodup
 free:∀a∈L,a<n/\mk a=false
theorem aip{nx:Nat->Nat}{mk:Nat->Bool}{n i:Nat}(hnx:∀j,j<n->nx j<n)(hinj:∀a b,a<n->b<n->nx a=nx b->a=b)(hmk:∀j,j<n->mk (nx j)=mk j)(hi:i<n)(hm:mk i=false):nW nx mk n i (jn nx mk n [] i):=by
 have h0:Ch nx mk n i [] i:=⟨fun a h=>by simp at h,fun _=>rfl,fun t a b h=>by simp at h,fun a h=>by simp at h,List.nodup_nil,fun a h=>by simp at h⟩
 obtain⟨j,hc,hj,hjm⟩:=XL hnx n [] i h0 hi (uE _ _ _);generalize jn nx mk n [] i=L at*;have hne:L≠[]:=by
  intro h;have:=hc.nil h;rw[h,this,hm] at hjm;simp at hjm
 have hlen:0<L.length:=iP.2 hne;obtain⟨z,hz⟩:∃z,L.getLast?=some z:=⟨_,QE hne⟩;have Oi:=hc.last z hz;have JA:z∈L:=pB hz;have Oj:=hc.free z JA;have hjL:j∈L:=by
  have:mk j=false:=by rw[Oi,hmk z Oj.1];exact Oj.2
  rw[this] at hjm;exact tP.1 (by simpa using hjm)
 have UQ:j=i:=by
  obtain⟨t,ht,yB⟩:=iO.1 hjL;have XM:L[t]?=some j:=by rw[aC ht,yB]
  cases t with
  |zero=>exact hc.head j XM
  |succ t=>
   exfalso;obtain⟨a,ha⟩:∃a,L[t]?=some a:=⟨_,aC (by omega)⟩
   have hja:=hc.step t a j ha XM;have EL:=aZ ha;have cZ:z=a:=hinj z a Oj.1 (hc.free a EL).1 (Oi.symm.trans hja);rw[mH] at hz;have e1:=(bZ.1 hz).2;have e2:=(bZ.1 ha).2;have h1:=abn hc.nd (L.length-1) (by omega)
   have h2:=abn hc.nd t (by omega)
   rw[e1] at h1;rw[e2,<-cZ] at h2;omega
 refine⟨?_,hc.step,fun a ha=>?_,hc.nd,hc.free⟩
 ·obtain⟨a,ha⟩:∃a,L[0]?=some a:=⟨_,aC hlen⟩;rw[ha,hc.head a ha]
 ·rw[ha] at hz;injection hz with hz;rw[hz,<-Oi,UQ]
theorem nW.XN{nx:Nat->Nat}{mk:Nat->Bool}{n i:Nat}{L:List Nat}(h:nW nx mk n i L){j:Nat}(hj:j∈L):nx j∈L:=by
 obtain⟨t,ht,yB⟩:=iO.1 hj;by_cases hl:t+1<L.length
 ·have:=h.step t j L[t+1] (by rw[aC ht,yB]) (aC hl)
  rw[<-this];exact gw hl
 ·have:nx j=i:=h.back j (by rw[mH,show L.length-1=t by omega,aC ht,yB])
  rw[this];exact aZ h.head
theorem nW.ais{nx:Nat->Nat}{mk:Nat->Bool}{n i:Nat}{L:List Nat}(h:nW nx mk n i L)(hinj:∀a b,a<n->b<n->nx a=nx b->a=b){j:Nat}(hjn:j<n)(hj:nx j∈L):j∈L:=by
 obtain⟨t,ht,yB⟩:=iO.1 hj;cases t with
 |zero=>
  have hlen:0<L.length:=ht;obtain⟨z,hz⟩:∃z,L.getLast?=some z:=⟨_,QE (iP.1 hlen)⟩;have hzi:=h.back z hz;have hi:L[0]?=some (nx j):=by rw[aC ht,yB]
  rw[h.head] at hi;injection hi with hi;have JA:=pB hz;rw[hinj j z hjn (h.free z JA).1 (hi.symm.trans hzi.symm)];exact JA
 |succ t=>
  have:=h.step t L[t] (nx j) (aC (by omega)) (by rw[aC ht,yB])
  have hm:L[t]∈L:=gw _;rw[hinj j L[t] hjn (h.free _ hm).1 this];exact hm
theorem nW.closed{nx:Nat->Nat}{mk:Nat->Bool}{n i:Nat}{L:List Nat}(h:nW nx mk n i L)(hinj:∀a b,a<n->b<n->nx a=nx b->a=b)(hmk:∀j,j<n->mk (nx j)=mk j):∀j,j<n->(mk (nx j)||L.contains (nx j))=(mk j||L.contains j):=by
 intro j hj;rw[hmk j hj];congr 1;cases h1:L.contains j
 ·cases h2:L.contains (nx j)
  ·rfl
  ·rw[tP.2 (h.ais hinj hj (tP.1 h2))] at h1;cases h1
 ·exact tP.2 (h.XN (tP.1 h1))
end Go.Proofs.YtkjhhooecopolaaGreatDoor
