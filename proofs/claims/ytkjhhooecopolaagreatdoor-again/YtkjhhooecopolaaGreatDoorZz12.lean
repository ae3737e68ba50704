import Derived.Test.YtkjhhooecopolaaGreatDoorZz11
set_option maxRecDepth 100000
set_option maxHeartbeats 4000000
namespace Go.Proofs.YtkjhhooecopolaaGreatDoor.Ge
abbrev Nd:=Int×Int×Int
structure Can(n:Nd):Prop where
 pos:0<n.2.2
 co:Int.gcd (Int.gcd n.1 n.2.1) n.2.2=1
def au(n:Nd):Qt:=(aS n.1 n.2.2,aS n.2.1 n.2.2)
theorem Ss{n m:Nd}(hn:Can n)(h1:n.1*m.2.2=m.1*n.2.2)(h2:n.2.1*m.2.2=m.2.1*n.2.2):n.2.2∣m.2.2:=by
 have d1:n.2.2∣n.1*m.2.2:=⟨m.1,by rw[h1,dM]⟩
 have d2:n.2.2∣n.2.1*m.2.2:=⟨m.2.1,by rw[h2,dM]⟩
 have d3:n.2.2∣(Int.gcd (n.1*m.2.2) (n.2.1*m.2.2):Int):=Int.dvd_coe_gcd d1 d2;rw[Int.gcd_mul_right] at d3;have d4:n.2.2∣(Int.gcd n.1 n.2.1:Int)*m.2.2:=by
  rw[Je] at d3;rcases Int.natAbs_eq m.2.2 with h|h
  ·rw[h];exact d3
  ·rw[h,vz];exact Int.dvd_neg.2 d3
 exact KE (by rw[Zq];exact hn.co) d4
theorem acR{n m:Nd}(hn:Can n)(hm:Can m)(h1:n.1*m.2.2=m.1*n.2.2)(h2:n.2.1*m.2.2=m.2.1*n.2.2):n=m:=by
 have a:=Ss hn h1 h2;have b:=Ss hm h1.symm h2.symm;have p1:=Zz hm.pos a;have p2:=Zz hn.pos b;have e:n.2.2=m.2.2:=by omega
 have hz:m.2.2≠0:=by have:=hm.pos;omega
 rw[e] at h1 h2;have e1:=OU hz h1;have e2:=OU hz h2;exact dC e1 (dC e2 e)
theorem acS{g z:Int}(hg:0<g):(g*z).sign=z.sign:=by
 rw[OV,nX hg,Ac]
theorem yP{a b c d:Int}(hb:0<b)(hd:0<d):fc (aS a b) (aS c d)=(a*d-c*b).sign:=by
 obtain⟨g,g0,e1,e2,gp⟩:=yA (n:=a) (d:=b) (by omega)
 obtain⟨k,k0,e3,e4,kp⟩:=yA (n:=c) (d:=d) (by omega)
 have hg:=gp.2 hb;have hk:=kp.2 hd;unfold fc;have:a*d-c*b=(g*k)*((aS a b).1*(aS c d).2-(aS c d).1*(aS a b).2):=by
  generalize aS a b=A at*;generalize aS c d=B at*;rw[e1,e2,e3,e4];grind
 rw[this,acS (aR hg hk)]
theorem cJ{n:Nd}(h:Can n):fL (au n):=⟨yz (by have:=h.pos;omega),yz (by have:=h.pos;omega)⟩
theorem Gf{n m:Nd}(hn:Can n)(hm:Can m):pc (au n) (au m)=if(n.1*m.2.2-m.1*n.2.2).sign=0 then(n.2.1*m.2.2-m.2.1*n.2.2).sign else(n.1*m.2.2-m.1*n.2.2).sign:=by
 unfold pc au;rw[yP hn.pos hm.pos,yP hn.pos hm.pos]
theorem sU{n m:Nd}(hn:Can n)(hm:Can m)(h:pc (au n) (au m)=0):n=m:=by
 rw[Gf hn hm] at h;split at h
 ·rename_i h1
  have a:=ud.1 h1;have b:=ud.1 h;exact acR hn hm (by omega) (by omega)
 ·contradiction
theorem Gg{n m:Nd}(hn:Can n)(hm:Can m)(h:au n=au m):n=m:=sU hn hm (by rw[h];exact wu _)
theorem Gh{x y d k X Y P:Int}(hd:d≠0)(h1:x=k*X)(h2:y=k*Y)(h3:d=k*P)(hP:0<P)(hk:k.natAbs=Int.gcd (Int.gcd x y:Nat) d):Can (X,Y,P)/\au (X,Y,P)=(aS x d,aS y d):=by
 have k0:k≠0:=by rintro rfl;rw[Ad] at h3;exact hd h3
 refine⟨⟨hP,?_⟩,?_⟩
 ·show Int.gcd (Int.gcd X Y:Nat) P=1;have e1:Int.gcd x y=k.natAbs*Int.gcd X Y:=by rw[h1,h2,Zr]
  have e2:Int.gcd (Int.gcd x y:Nat) d=k.natAbs*Int.gcd (Int.gcd X Y:Nat) P:=by
   have:Int.gcd (k*((Int.gcd X Y:Nat):Int)) (k*P)=k.natAbs*Int.gcd (Int.gcd X Y:Nat) P:=Zr ..;rw[<-this,e1,h3];unfold Int.gcd;congr 1;rw[l9];simp[Int.natAbs_mul]
  rw[e2] at hk;have kp:0<k.natAbs:=by omega
  exact akn kp (by omega)
 ·unfold au;show(aS X P,aS Y P)=_;rw[yB (n:=X) (d:=P) (m:=x) (e:=d) (by omega) hd (by rw[h1,h3];grind),yB (n:=Y) (d:=P) (m:=y) (e:=d) (by omega) hd (by rw[h2,h3];grind)]
theorem Gi{x g:Int}(h:g∣x):x=g*x.tdiv g:=(qo h).symm
end Go.Proofs.YtkjhhooecopolaaGreatDoor.Ge
namespace Go.Proofs.YtkjhhooecopolaaGreatDoor
open Go.RowKit
def gm(n:Ge.Nd):Value:=.agg #[.complex .f64 (floatOfInt .f64 n.1) (floatOfInt .f64 n.2.1),.int .i64 n.2.2]
theorem Gj{a b:Nat}{x y:Int}(D:Int)(h1:Fl a x)(h2:Fl b y)(hx: -16000000<=x/\x<=16000000)(hy: -16000000<=y/\y<=16000000)(hD:D≠0/\ -300000<=D/\D<=300000):
  ∃n:Ge.Nd,Ge.Can n/\Ge.au n=(Ge.aS x D,Ge.aS y D)/\cP n.1 n.2.1 n.2.2/\∀w,Calls Tryz.prog 37 #[.complex .f64 a b,.int .i64 D] w fun e w'=>e=.returned (gm n)/\Below w.heap.size w w':=by
 obtain⟨G,hG⟩:∃G,Int.gcd (Int.gcd x y:Nat) D=G:=⟨_,rfl⟩;have sJ:0<G:=by rw[<-hG];exact Zo _ hD.1
 have dg:(G:Int)∣(Int.gcd x y:Nat):=by rw[<-hG];exact vF ..
 have dd:(G:Int)∣D:=by rw[<-hG];exact ub ..
 have dx:(G:Int)∣x:=vI dg (vF ..);have dy:(G:Int)∣y:=vI dg (ub ..);have ex:=Ge.Gi dx;have ey:=Ge.Gi dy;have ed:=Ge.Gi dd;have bx:=qU x G;have by':=qU y G
 have bd:=qU D G;rcases eD D 0 with h|h|h
 ·have call:=acQ D h1 h2 hx hy ⟨h,hD.2.1⟩ G hG;rw[vH,vH,vH] at call;have hP:0< -(D.tdiv G):=by
   rcases Int.lt_or_le (D.tdiv G) 0 with q|q
   ·omega
   ·have:=iB (Int.natCast_nonneg G) q;omega
  obtain⟨c1,c2⟩:=Ge.Gh (x:=x) (y:=y) (d:=D) (k:= -(G:Int)) (X:= -(x.tdiv G)) (Y:= -(y.tdiv G)) (P:= -(D.tdiv G)) hD.1 (ex.trans (xR ..).symm) (ey.trans (xR ..).symm) (ed.trans (xR ..).symm) hP (by rw[hG];omega)
  exact⟨(-(x.tdiv G), -(y.tdiv G), -(D.tdiv G)),c1,c2,⟨by show(-(x.tdiv G)).natAbs<=_;omega,by show(-(y.tdiv G)).natAbs<=_;omega,hP,by show -(D.tdiv G)<=_;omega⟩,call⟩
 ·exact absurd h hD.1
 ·have call:=Q0 D h1 h2 hx hy ⟨h,hD.2.2⟩ G hG;have hP:0<D.tdiv G:=by
   rcases Int.lt_or_le 0 (D.tdiv G) with q|q
   ·exact q
   ·have:=iB (Int.natCast_nonneg G) (Int.neg_nonneg_of_nonpos q);rw[vz] at this;omega
  obtain⟨c1,c2⟩:=Ge.Gh (x:=x) (y:=y) (d:=D) (k:=(G:Int)) (X:=x.tdiv G) (Y:=y.tdiv G) (P:=D.tdiv G) hD.1 ex ey ed hP (by rw[hG];omega)
  exact⟨(x.tdiv G,y.tdiv G,D.tdiv G),c1,c2,⟨by show(x.tdiv G).natAbs<=_;omega,by show(y.tdiv G).natAbs<=_;omega,hP,by show D.tdiv G<=_;omega⟩,call⟩
end Go.Proofs.YtkjhhooecopolaaGreatDoor
namespace Go.Proofs.YtkjhhooecopolaaGreatDoor
open Go.RowKit
theorem Gk{e:Ed}(h:dU e):(-100<=e.2.1-e.1.1/\e.2.1-e.1.1<=100)/\(-100<=e.2.2-e.1.2/\e.2.2-e.1.2<=100):=by
 obtain⟨a,b,c,d⟩:=h;unfold small at a b c d;omega
theorem Su(x y:EB)(e f:Ed)(hx:iH x e)(hy:iH y f)(he:dU e)(hf:dU f)(w:World):
  Calls Tryz.prog 179 #[.agg #[.complex .f64 x.wa x.wb,.float .f64 x.sh],.agg #[.complex .f64 y.wa y.wb,.float .f64 y.sh]] w fun r w'=>r=.returned (.bool (decide (Ge.cu e f=0)))/\Below w.heap.size w w':=by
 have we:=Gk he;have wf:=Gk hf;obtain⟨im,f1,hl⟩:=Ba hx.wa hx.wb hy.wa hy.wb (by unfold sm;omega) (by unfold sm;omega) (by unfold sm;omega) (by unfold sm;omega)
 have HL:Hid (∀w,Calls Tryz.prog 101 #[.complex .f64 x.wa x.wb,.complex .f64 y.wa y.wb] w fun e w'=>e=.returned (.float .f64 im)/\w'=w):=hl
 have q:=qG f1 jU;have hc:decide (Ge.cu e f=0)=(FloatKind.f64.format.order im 0 == some .eq):=by rw[q];rfl
 rw[hc];clear hl q hc f1 hx hy he hf we wf;obtain⟨wa,wb,sh,fa,fb,ta,tb⟩:=x;obtain⟨iJ,iK,sh',kR,kT,kU,kV⟩:=y;simp only at*;have hb0:Below w.heap.size w ((w.alloc (.cells #[.complex .f64 wa wb,.float .f64 sh] 122)).alloc (.cells #[.complex .f64 iJ iK,.float .f64 sh'] 122)):=((Below.refl _ _).alloc (ax _) _).alloc (by simp) _
 go_enter Tryz.func179,Tryz.ntmps179
 go_wp2_with fail
 refine(HL.out _).mono ?_;rintro e w1 ⟨rfl,rfl⟩
 go_wp2_with fail
 go_ret
 exact⟨rfl,hb0⟩
theorem acT(e f:Ed):(f.2.1-f.1.1)*((e.2.1-e.1.1)*e.1.2-(e.2.2-e.1.2)*e.1.1)-(e.2.1-e.1.1)*((f.2.1-f.1.1)*f.1.2-(f.2.2-f.1.2)*f.1.1)=Ge.mX e f:=by
 unfold Ge.mX Ge.mT Ge.cu;grind
theorem acU(e f:Ed):(f.2.2-f.1.2)*((e.2.1-e.1.1)*e.1.2-(e.2.2-e.1.2)*e.1.1)-(e.2.2-e.1.2)*((f.2.1-f.1.1)*f.1.2-(f.2.2-f.1.2)*f.1.1)=Ge.mY e f:=by
 unfold Ge.mY Ge.mT Ge.cu;grind
theorem Sv{a b s z:Nat}{x y t:Int}(h1:Fl a x)(h2:Fl b y)(h3:Fl s t)(hz:Fl z 0)(b1:sm x)(b2:sm y)(b3:sm t):
  ∃re im,(∀ty w,(binOp .mul ty (.complex .f64 a b) (.complex .f64 s z)).run Tryz.prog w=.ok (.complex .f64 re im) w)/\Fl re (x*t)/\Fl im (y*t):=by
 have m1:=nG b1 b3;have m2:=nG b2 b3;obtain⟨re,im,e,f1,f2⟩:=Km h1 h2 h3 hz (by omega) (by omega) (by omega) (by omega) (by omega) (by omega)
 refine⟨re,im,fun ty w=>run_complex_mul (P:=Tryz.prog) w ty a b s z re im e,?_,?_⟩
 ·have:x*t=x*t-y*0:=by omega
  rw[this];exact f1
 ·have:y*t=x*0+y*t:=by omega
  rw[this];exact f2
theorem acV(x y:EB)(e f:Ed)(hx:iH x e)(hy:iH y f)(he:dU e)(hf:dU f)(hc:Ge.cu e f≠0):
  ∃n:Ge.Nd,Ge.Can n/\Ge.au n=Ge.eA e f/\cP n.1 n.2.1 n.2.2/\∀w,Calls Tryz.prog 180 #[.agg #[.complex .f64 x.wa x.wb,.float .f64 x.sh],.agg #[.complex .f64 y.wa y.wb,.float .f64 y.sh]] w fun r w'=>r=.returned (gm n)/\Below w.heap.size w w':=by
 have we:=Gk he;have wf:=Gk hf;have cin:=RF he hf;obtain⟨im,f1,hl⟩:=Ba hx.wa hx.wb hy.wa hy.wb (by unfold sm;omega) (by unfold sm;omega) (by unfold sm;omega) (by unfold sm;omega)
 have hcr:(e.2.1-e.1.1)*(f.2.2-f.1.2)-(e.2.2-e.1.2)*(f.2.1-f.1.1)=Ge.cu e f:=rfl;rw[hcr] at f1;have c1:=f1.int (by omega) (by omega)
 obtain⟨p1,p2,o1,g1,g2⟩:=Sv hy.wa hy.wb hx.sh jU (by unfold sm;omega) (by unfold sm;omega) (Fk he)
 obtain⟨r1,r2,o2,k1,k2⟩:=Sv hx.wa hx.wb hy.sh jU (by unfold sm;omega) (by unfold sm;omega) (Fk hf)
 have cx:=acT e f;have cy:=acU e f;obtain⟨s1,s2,e3,j1,j2⟩:=Kl g1 g2 k1 k2 (by rw[cx];omega) (by rw[cy];omega)
 have o3:=fun t w=>run_complex_sum (P:=Tryz.prog) w .sub (af rfl) t .f64 p1 p2 r1 r2 s1 s2 e3
 rw[cx] at j1;rw[cy] at j2;obtain⟨n,n1,n2,n3,hN⟩:=Gj (Ge.cu e f) j1 j2 (by omega) (by omega) (by omega)
 refine⟨n,n1,n2,n3,fun w=>?_⟩
 have HL:Hid (∀w,Calls Tryz.prog 101 #[.complex .f64 x.wa x.wb,.complex .f64 y.wa y.wb] w fun e w'=>e=.returned (.float .f64 im)/\w'=w):=hl
 generalize Ge.cu e f=C at*;have hc1:∀w,(convert 120 3 (.float .f64 im)).run Tryz.prog w=.ok (.int .i64 C) w:=fun w=>run_convert_float_int w 120 3 .f64 .i64 im C (by rw[Tryz.underlying120];rfl) Tryz.underlying3 c1
 unfold gm at*;generalize floatOfInt .f64 n.1=N1 at*;generalize floatOfInt .f64 n.2.1=N2 at*;have HN:Hid (∀w,Calls Tryz.prog 37 #[.complex .f64 s1 s2,.int .i64 C] w fun e w'=>e=.returned (.agg #[.complex .f64 N1 N2,.int .i64 n.2.2])/\Below w.heap.size w w'):=hN
 clear hl hN c1 cx cy j1 j2 e3 g1 g2 k1 k2 n1 n2 n3 f1 hcr cin we wf hx hy he hf hc;obtain⟨wa,wb,sh,fa,fb,ta,tb⟩:=x;obtain⟨iJ,iK,sh',kR,kT,kU,kV⟩:=y;simp only at*;have hb1:Below w.heap.size w ((w.alloc (.cells #[.complex .f64 wa wb,.float .f64 sh] 122)).alloc (.cells #[.complex .f64 iJ iK,.float .f64 sh'] 122)):=((Below.refl _ _).alloc (ax _) _).alloc (by simp) _
 go_enter Tryz.func180,Tryz.ntmps180
 go_wp2_with (first |(simp only[o1])|(simp only[o2])|(simp only[o3]))
 have hs1:w.heap.size+2=((w.alloc (.cells #[.complex .f64 wa wb,.float .f64 sh] 122)).alloc (.cells #[.complex .f64 iJ iK,.float .f64 sh'] 122)).heap.size:=by simp
 generalize(w.alloc (.cells #[.complex .f64 wa wb,.float .f64 sh] 122)).alloc (.cells #[.complex .f64 iJ iK,.float .f64 sh'] 122)=W1 at*;have hE:=heap_alloc_new W1 (.cells #[.complex .f64 0 0,.int .i64 0] 83);have hb0:=hb1.alloc (by omega) (.cells #[.complex .f64 0 0,.int .i64 0] 83)
 have hz:W1.heap.size<(W1.alloc (.cells #[.complex .f64 0 0,.int .i64 0] 83)).heap.size:=by simp
 generalize W1.alloc (.cells #[.complex .f64 0 0,.int .i64 0] 83)=W at*;generalize hB:w.heap.size=B at*;generalize W1.heap.size=B1 at*;have nK:B1=B+1+1:=by omega
 have pH:B<=B+1+1:=by omega
 subst nK;clear hs1;refine(HL.out _).mono ?_;rintro e w1 ⟨rfl,rfl⟩
 go_wp2_with (simp only)
 refine(HN.out _).mono ?_;rintro e w2 ⟨rfl,hb2⟩;have df:=(hb2.block _ hz).trans hE;have aj:=hb0.trans (hb2.mono (by omega))
 have e0:w2.cell? ⟨B+1+1,0,none⟩=some (.complex .f64 0 0):=cell_of df 0;have e1:w2.cell? ⟨B+1+1,1,none⟩=some (.int .i64 0):=cell_of df 1;have z0:w2.frozen? ⟨B+1+1,0,none⟩=false:=aX df 0;have z1:w2.frozen? ⟨B+1+1,1,none⟩=false:=aX df 1;clear hE df hb2 hb0 hb1
 go_wp2_with (simp only[eK];go_simp)
 refine bodyPost_ret (v:=.agg #[.complex .f64 N1 N2,.int .i64 n.2.2]) (by simp[results,Tryz.results180,go_sem,e0,e1]) rfl ⟨rfl,?_⟩
 rw[hB];exact(aj.setCell pH _).setCell pH _
theorem acW(x y:EB)(w:World)
  (HP:Hid (∀w,Calls Tryz.prog 179 #[.agg #[.complex .f64 x.wa x.wb,.float .f64 x.sh],.agg #[.complex .f64 y.wa y.wb,.float .f64 y.sh]] w fun r w'=>r=.returned (.bool true)/\Below w.heap.size w w')):
  Calls Tryz.prog 123 #[.agg x.cells,.agg y.cells] w fun r w'=>r=.returned (.tuple #[.agg #[.complex .f64 0 0,.int .i64 0],.bool false])/\Below w.heap.size w w':=by
 obtain⟨wa,wb,sh,fa,fb,ta,tb⟩:=x;obtain⟨iJ,iK,sh',kR,kT,kU,kV⟩:=y;simp only[EB.cells] at*
 go_enter Tryz.func123,Tryz.ntmps123
 go_wp2_with fail
 have hs1:w.heap.size+1+1=((w.alloc (.cells #[.complex .f64 wa wb,.float .f64 sh,.complex .f64 fa fb,.complex .f64 ta tb] 124)).alloc (.cells #[.complex .f64 iJ iK,.float .f64 sh',.complex .f64 kR kT,.complex .f64 kU kV] 124)).heap.size:=by simp
 have hb0:Below w.heap.size w ((w.alloc (.cells #[.complex .f64 wa wb,.float .f64 sh,.complex .f64 fa fb,.complex .f64 ta tb] 124)).alloc (.cells #[.complex .f64 iJ iK,.float .f64 sh',.complex .f64 kR kT,.complex .f64 kU kV] 124)):=((Below.refl _ _).alloc (ax _) _).alloc (by simp) _
 generalize(w.alloc (.cells #[.complex .f64 wa wb,.float .f64 sh,.complex .f64 fa fb,.complex .f64 ta tb] 124)).alloc (.cells #[.complex .f64 iJ iK,.float .f64 sh',.complex .f64 kR kT,.complex .f64 kU kV] 124)=W1 at*;have hE:=heap_alloc_new W1 (.cells #[.complex .f64 0 0,.int .i64 0] 83);have hb2:=hb0.alloc (by omega) (.cells #[.complex .f64 0 0,.int .i64 0] 83)
 have hz:W1.heap.size<(W1.alloc (.cells #[.complex .f64 0 0,.int .i64 0] 83)).heap.size:=by simp
 generalize W1.alloc (.cells #[.complex .f64 0 0,.int .i64 0] 83)=W at*;generalize hB:w.heap.size=B at*;rw[<-hs1] at hE hz;refine(HP.out _).mono ?_;rintro e w1 ⟨rfl,hb1⟩;have df:=(hb1.block _ hz).trans hE;have aj:=hb2.trans (hb1.mono (by omega))
 have e0:w1.cell? ⟨B+1+1,0,none⟩=some (.complex .f64 0 0):=cell_of df 0;have e1:w1.cell? ⟨B+1+1,1,none⟩=some (.int .i64 0):=cell_of df 1;have z0:w1.frozen? ⟨B+1+1,0,none⟩=false:=aX df 0;have z1:w1.frozen? ⟨B+1+1,1,none⟩=false:=aX df 1;have pH:B<=B+1+1:=by omega
 clear hE df hb2 hb0 hb1 hs1
 go_wp2_with (simp only[eK];go_simp)
 refine bodyPost_ret (v:=.tuple #[.agg #[.complex .f64 0 0,.int .i64 0],.bool false]) (by simp[results,Tryz.results123,go_sem,e0,e1]) rfl ⟨rfl,?_⟩
 rw[hB];exact(aj.setCell pH _).setCell pH _
theorem acX(x y:EB)(N1 N2:Nat)(P:Int)(u1 u2:Bool)(w:World)
  (HP:Hid (∀w,Calls Tryz.prog 179 #[.agg #[.complex .f64 x.wa x.wb,.float .f64 x.sh],.agg #[.complex .f64 y.wa y.wb,.float .f64 y.sh]] w fun r w'=>r=.returned (.bool false)/\Below w.heap.size w w'))
  (HC:Hid (∀w,Calls Tryz.prog 180 #[.agg #[.complex .f64 x.wa x.wb,.float .f64 x.sh],.agg #[.complex .f64 y.wa y.wb,.float .f64 y.sh]] w fun r w'=>r=.returned (.agg #[.complex .f64 N1 N2,.int .i64 P])/\Below w.heap.size w w'))
  (HX:Hid (∀w,Calls Tryz.prog 62 #[.agg x.cells,.agg #[.complex .f64 N1 N2,.int .i64 P]] w fun r w'=>r=.returned (.bool u1)/\Below w.heap.size w w'))
  (HY:Hid (∀w,Calls Tryz.prog 62 #[.agg y.cells,.agg #[.complex .f64 N1 N2,.int .i64 P]] w fun r w'=>r=.returned (.bool u2)/\Below w.heap.size w w')):
  Calls Tryz.prog 123 #[.agg x.cells,.agg y.cells] w fun r w'=>r=.returned (.tuple #[.agg #[.complex .f64 N1 N2,.int .i64 P],.bool (u1&&u2)])/\Below w.heap.size w w':=by
 obtain⟨wa,wb,sh,fa,fb,ta,tb⟩:=x;obtain⟨iJ,iK,sh',kR,kT,kU,kV⟩:=y;simp only[EB.cells] at*
 go_enter Tryz.func123,Tryz.ntmps123
 go_wp2_with fail
 have hs1:w.heap.size+1+1=((w.alloc (.cells #[.complex .f64 wa wb,.float .f64 sh,.complex .f64 fa fb,.complex .f64 ta tb] 124)).alloc (.cells #[.complex .f64 iJ iK,.float .f64 sh',.complex .f64 kR kT,.complex .f64 kU kV] 124)).heap.size:=by simp
 have hb0:Below w.heap.size w ((w.alloc (.cells #[.complex .f64 wa wb,.float .f64 sh,.complex .f64 fa fb,.complex .f64 ta tb] 124)).alloc (.cells #[.complex .f64 iJ iK,.float .f64 sh',.complex .f64 kR kT,.complex .f64 kU kV] 124)):=((Below.refl _ _).alloc (ax _) _).alloc (by simp) _
 have hX:((w.alloc (.cells #[.complex .f64 wa wb,.float .f64 sh,.complex .f64 fa fb,.complex .f64 ta tb] 124)).alloc (.cells #[.complex .f64 iJ iK,.float .f64 sh',.complex .f64 kR kT,.complex .f64 kU kV] 124)).heap[w.heap.size]?=some (.cells #[.complex .f64 wa wb,.float .f64 sh,.complex .f64 fa fb,.complex .f64 ta tb] 124 (0,0)):=by
  rw[Below.heap_alloc _ _ _ (by simp)];exact heap_alloc_new _ _
 have hY:((w.alloc (.cells #[.complex .f64 wa wb,.float .f64 sh,.complex .f64 fa fb,.complex .f64 ta tb] 124)).alloc (.cells #[.complex .f64 iJ iK,.float .f64 sh',.complex .f64 kR kT,.complex .f64 kU kV] 124)).heap[w.heap.size+1]?=some (.cells #[.complex .f64 iJ iK,.float .f64 sh',.complex .f64 kR kT,.complex .f64 kU kV] 124 (0,0)):=by
  have:=heap_alloc_new (w.alloc (.cells #[.complex .f64 wa wb,.float .f64 sh,.complex .f64 fa fb,.complex .f64 ta tb] 124)) (.cells #[.complex .f64 iJ iK,.float .f64 sh',.complex .f64 kR kT,.complex .f64 kU kV] 124);simpa using this
 generalize(w.alloc (.cells #[.complex .f64 wa wb,.float .f64 sh,.complex .f64 fa fb,.complex .f64 ta tb] 124)).alloc (.cells #[.complex .f64 iJ iK,.float .f64 sh',.complex .f64 kR kT,.complex .f64 kU kV] 124)=W1 at*;have hE:=heap_alloc_new W1 (.cells #[.complex .f64 0 0,.int .i64 0] 83);have Sw:=(Below.heap_alloc W1 (.cells #[.complex .f64 0 0,.int .i64 0] 83) w.heap.size (by omega)).trans hX
 have Sy:=(Below.heap_alloc W1 (.cells #[.complex .f64 0 0,.int .i64 0] 83) (w.heap.size+1) (by omega)).trans hY
 have hb2:=hb0.alloc (by omega) (.cells #[.complex .f64 0 0,.int .i64 0] 83)
 have hz:W1.heap.size<(W1.alloc (.cells #[.complex .f64 0 0,.int .i64 0] 83)).heap.size:=by simp
 generalize W1.alloc (.cells #[.complex .f64 0 0,.int .i64 0] 83)=W at*;generalize hB:w.heap.size=B at*;rw[<-hs1] at hE hz;clear hX hY hb0 hs1;refine(HP.out _).mono ?_;rintro e w1 ⟨rfl,hb1⟩;have hz1:B+1+1<w1.heap.size:=aZ hz hb1.size;have df:=(hb1.block _ hz).trans hE;have yQ:=(hb1.block B (by omega)).trans Sw
 have Gm:=(hb1.block (B+1) (by omega)).trans Sy
 have gL:=hb2.trans (hb1.mono (by omega))
 clear hE Sw Sy hb2 hb1;have x0:w1.cell? ⟨B,0,none⟩=some (.complex .f64 wa wb):=cell_of yQ 0;have x1:w1.cell? ⟨B,1,none⟩=some (.float .f64 sh):=cell_of yQ 1;have y0:w1.cell? ⟨B+1,0,none⟩=some (.complex .f64 iJ iK):=cell_of Gm 0;have y1:w1.cell? ⟨B+1,1,none⟩=some (.float .f64 sh'):=cell_of Gm 1
 go_wp2_with fail
 refine(HC.out _).mono ?_;rintro e w2 ⟨rfl,hb3⟩;have hz2:B+1+1<w2.heap.size:=aZ hz1 hb3.size;have Sz:=(hb3.block _ hz1).trans df;have SA:=(hb3.block B (by omega)).trans yQ
 have SB:=(hb3.block (B+1) (by omega)).trans Gm
 have wL:=gL.trans (hb3.mono (by omega))
 clear df yQ Gm gL hb3 x0 x1 y0 y1
 go_wp2_with fail
 have hN:=heap_alloc_new w2 (.cells #[.complex .f64 0 0,.int .i64 0] 83);have BG:=(Below.heap_alloc w2 (.cells #[.complex .f64 0 0,.int .i64 0] 83) _ hz2).trans Sz;have SC:=(Below.heap_alloc w2 (.cells #[.complex .f64 0 0,.int .i64 0] 83) B (by omega)).trans SA
 have lR:=(Below.heap_alloc w2 (.cells #[.complex .f64 0 0,.int .i64 0] 83) (B+1) (by omega)).trans SB
 have fw:=wL.alloc (by omega) (.cells #[.complex .f64 0 0,.int .i64 0] 83)
 have hz3:w2.heap.size<(w2.alloc (.cells #[.complex .f64 0 0,.int .i64 0] 83)).heap.size:=by simp
 generalize w2.alloc (.cells #[.complex .f64 0 0,.int .i64 0] 83)=W3 at*;generalize w2.heap.size=M at*;clear Sz SA SB wL;have n0:W3.cell? ⟨M,0,none⟩=some (.complex .f64 0 0):=cell_of hN 0;have n1:W3.cell? ⟨M,1,none⟩=some (.int .i64 0):=cell_of hN 1;have f0:W3.frozen? ⟨M,0,none⟩=false:=aX hN 0;have f1:W3.frozen? ⟨M,1,none⟩=false:=aX hN 1
 go_wp2_with (simp only[eK];go_simp)
 have wM:M≠B/\M≠B+1/\M≠B+1+1:=by omega
 have BH:=(gJ (o:=1) wM.1.symm (.int .i64 P)).trans ((gJ (o:=0) wM.1.symm (.complex .f64 N1 N2)).trans SC);have BI:=(gJ (o:=1) wM.2.1.symm (.int .i64 P)).trans ((gJ (o:=0) wM.2.1.symm (.complex .f64 N1 N2)).trans lR);have yR:=(gJ (o:=1) wM.2.2.symm (.int .i64 P)).trans ((gJ (o:=0) wM.2.2.symm (.complex .f64 N1 N2)).trans BG);have a8:((W3.setCell ⟨M,0,none⟩ (.complex .f64 N1 N2)).setCell ⟨M,1,none⟩ (.int .i64 P)).cell? ⟨M,0,none⟩=some (.complex .f64 N1 N2):=by simp[go_sem,n0]
 have a9:((W3.setCell ⟨M,0,none⟩ (.complex .f64 N1 N2)).setCell ⟨M,1,none⟩ (.int .i64 P)).cell? ⟨M,1,none⟩=some (.int .i64 P):=by simp[go_sem,n1]
 have pI:=(fw.setCell (p:=⟨M,0,none⟩) (by show B<=M;omega) (.complex .f64 N1 N2)).setCell (p:=⟨M,1,none⟩) (by show B<=M;omega) (.int .i64 P)
 have wN:M<((W3.setCell ⟨M,0,none⟩ (.complex .f64 N1 N2)).setCell ⟨M,1,none⟩ (.int .i64 P)).heap.size:=by simpa using hz3
 generalize(W3.setCell ⟨M,0,none⟩ (.complex .f64 N1 N2)).setCell ⟨M,1,none⟩ (.int .i64 P)=W4 at*;have dm:B+1+1<W4.heap.size:=ZA hz2 wN;have jW:B<=W4.heap.size:=by omega
 clear SC lR BG fw n0 n1 f0 f1 hN hz3;have a0:=cell_of BH 0;have a1:=cell_of BH 1;have a2:=cell_of BH 2;have a3:=cell_of BH 3;have a4:=cell_of BI 0;have a5:=cell_of BI 1;have a6:=cell_of BI 2;have a7:=cell_of BI 3;simp at a0 a1 a2 a3 a4 a5 a6 a7;have aq0:W4.cell? ⟨B+1+1,0,none⟩=some (.complex .f64 0 0):=cell_of yR 0;have aq1:W4.cell? ⟨B+1+1,1,none⟩=some (.int .i64 0):=cell_of yR 1;have ay0:W4.frozen? ⟨B+1+1,0,none⟩=false:=aX yR 0;have ay1:W4.frozen? ⟨B+1+1,1,none⟩=false:=aX yR 1;clear BH BI;obtain⟨m1,m2,m3⟩:=wM;have m4:=Ne.symm m3;have kM:¬(B=B+1+1):=by omega
 have qA:¬(B+1+1=B):=by omega
 have hn3:¬(B+1=B+1+1):=by omega
 have hn4:¬(B+1+1=B+1):=by omega
 have hn5:¬(B=B+2):=by omega
 have hn6:¬(B+2=B):=by omega
 cases u1
 ·refine wp_region_held_drew (S:=(fun w'=>w'.cell? ⟨B,0,none⟩=some (.complex .f64 wa wb)/\w'.cell? ⟨B,1,none⟩=some (.float .f64 sh)/\w'.cell? ⟨B,2,none⟩=some (.complex .f64 fa fb)/\w'.cell? ⟨B,3,none⟩=some (.complex .f64 ta tb)/\w'.cell? ⟨B+1,0,none⟩=some (.complex .f64 iJ iK)/\w'.cell? ⟨B+1,1,none⟩=some (.float .f64 sh')/\w'.cell? ⟨B+1,2,none⟩=some (.complex .f64 kR kT)/\w'.cell? ⟨B+1,3,none⟩=some (.complex .f64 kU kV)/\w'.cell? ⟨M,0,none⟩=some (.complex .f64 N1 N2)/\w'.cell? ⟨M,1,none⟩=some (.int .i64 P)/\w'.frozen? ⟨B+1+1,0,none⟩=false/\w'.frozen? ⟨B+1+1,1,none⟩=false)) (by kernel_rfl) ⟨a0,a1,a2,a3,a4,a5,a6,a7,a8,a9,ay0,ay1⟩ (fun hHeld=>?_)
  refine wpAnyH_take (i:=0) (oi:={dst:=some 18,op:=_,type:=_,pos:=_,after:=_,guard:=_}) (v:=?_) rfl (by kernel_rfl) (by kernel_rfl) (by kernel_rfl) (fun _ _ _ h=>h) (ae ⟨by rfl,?_⟩) hHeld ?_
  rotate_left
  ·intro w' aA;obtain⟨s0,s1,s2,s3,s4,s5,s6,s7,s8,s9,BJ,BK⟩:=aA
   go_simp
   try with_reducible rfl
  simp only[Act.put,aH,aI,aG];refine wpAnyH_take (i:=1) (oi:={dst:=some 19,op:=_,type:=_,pos:=_,after:=_,guard:=_}) (v:=?_) rfl (by kernel_rfl) (by kernel_rfl) (by kernel_rfl) (fun _ _ _ h=>h) (ae ⟨by rfl,?_⟩) hHeld ?_
  rotate_left
  ·intro w' aA;obtain⟨s0,s1,s2,s3,s4,s5,s6,s7,s8,s9,BJ,BK⟩:=aA
   go_simp
   try with_reducible rfl
  simp only[Act.put,aH,aI,aG];refine wpAnyH_take (i:=2) (oi:={dst:=some 20,op:=_,type:=_,pos:=_,after:=_,guard:=_}) (v:=?_) rfl (by kernel_rfl) (by kernel_rfl) (by kernel_rfl) (fun _ _ _ h=>h) (ae ⟨by rfl,?_⟩) hHeld ?_
  rotate_left
  ·intro w' aA;obtain⟨s0,s1,s2,s3,s4,s5,s6,s7,s8,s9,BJ,BK⟩:=aA
   go_simp
   try with_reducible rfl
  simp only[Act.put,aH,aI,aG];refine wpAnyH_ready (rs:=[3]) (by kernel_rfl) (by simp) ?_
  refine AllReadyH.cons rfl (fun K hK=>?_) AllReadyH.nil
  go_simp
  refine(HX.out _).mono ?_;rintro e w6 ⟨rfl,aC⟩;have hbz:B+1+1<w6.heap.size:=aZ dm aC.size;have jm:M<w6.heap.size:=aZ wN aC.size;have b0:=(aC.cell (p:=⟨B,0,none⟩) (cU (cU dm))).trans a0;have b1:=(aC.cell (p:=⟨B,1,none⟩) (cU (cU dm))).trans a1;have b2:=(aC.cell (p:=⟨B,2,none⟩) (cU (cU dm))).trans a2;have b3:=(aC.cell (p:=⟨B,3,none⟩) (cU (cU dm))).trans a3;have b4:=(aC.cell (p:=⟨B+1,0,none⟩) (cU dm)).trans a4;have b5:=(aC.cell (p:=⟨B+1,1,none⟩) (cU dm)).trans a5;have b6:=(aC.cell (p:=⟨B+1,2,none⟩) (cU dm)).trans a6;have b7:=(aC.cell (p:=⟨B+1,3,none⟩) (cU dm)).trans a7;have b8:=(aC.cell (p:=⟨M,0,none⟩) wN).trans a8;have b9:=(aC.cell (p:=⟨M,1,none⟩) wN).trans a9;have qV:=(aC.block (B+1+1) dm).trans yR;have SD:w6.cell? ⟨B+1+1,0,none⟩=some (.complex .f64 0 0):=cell_of qV 0;have SE:w6.cell? ⟨B+1+1,1,none⟩=some (.int .i64 0):=cell_of qV 1;have K3:w6.frozen? ⟨B+1+1,0,none⟩=false:=aX qV 0;have K4:w6.frozen? ⟨B+1+1,1,none⟩=false:=aX qV 1
  go_wp2_with fail
  refine hK.out _ _ ⟨b0,b1,b2,b3,b4,b5,b6,b7,b8,b9,K3,K4⟩ (fun hHeld=>?_)
  clear hK K
  try simp only[Act.put,aH,aI,aG]
  refine wpAnyH_take (i:=4) (oi:={dst:=some 22,op:=_,type:=_,pos:=_,after:=_,guard:=_}) (v:=?_) rfl (by kernel_rfl) (by kernel_rfl) (by kernel_rfl) (fun _ _ _ h=>h) (ae ⟨by rfl,?_⟩) hHeld ?_
  rotate_left
  ·intro w' aA;obtain⟨s0,s1,s2,s3,s4,s5,s6,s7,s8,s9,BJ,BK⟩:=aA
   go_simp
   try with_reducible rfl
  simp only[Act.put,aH,aI,aG];refine wpAnyH_take (i:=5) (oi:={dst:=some 23,op:=_,type:=_,pos:=_,after:=_,guard:=_}) (v:=undef) rfl (by kernel_rfl) (by kernel_rfl) (by kernel_rfl) (fun _ _ _ h=>h) (af ⟨by kernel_rfl,rfl⟩) hHeld ?_
  simp only[Act.put,aH,aI,aG];refine wpAnyH_take (i:=6) (oi:={dst:=some 24,op:=_,type:=_,pos:=_,after:=_,guard:=_}) (v:=undef) rfl (by kernel_rfl) (by kernel_rfl) (by kernel_rfl) (fun _ _ _ h=>h) (af ⟨by kernel_rfl,rfl⟩) hHeld ?_
  simp only[Act.put,aH,aI,aG];refine wpAnyH_take (i:=7) (oi:={dst:=some 25,op:=_,type:=_,pos:=_,after:=_,guard:=_}) (v:=undef) rfl (by kernel_rfl) (by kernel_rfl) (by kernel_rfl) (fun _ _ _ h=>h) (af ⟨by kernel_rfl,rfl⟩) hHeld ?_
  simp only[Act.put,aH,aI,aG];refine wpAnyH_take (i:=8) (oi:={dst:=some 26,op:=_,type:=_,pos:=_,after:=_,guard:=_}) (v:=?_) rfl (by kernel_rfl) (by kernel_rfl) (by kernel_rfl) (fun _ _ _ h=>h) (ae ⟨by rfl,?_⟩) hHeld ?_
  rotate_left
  ·intro w' aA;obtain⟨s0,s1,s2,s3,s4,s5,s6,s7,s8,s9,BJ,BK⟩:=aA
   go_simp
   try with_reducible rfl
  simp only[Act.put,aH,aI,aG];refine wpAnyH_ready (rs:=[9]) (by kernel_rfl) (by simp) ?_
  refine AllReadyH.cons rfl (fun K hK=>?_) AllReadyH.nil
  go_simp
  simp only[eK]
  go_simp
  refine hK.out _ _ ?_ (fun hHeld=>?_)
  ·refine⟨?_,?_,?_,?_,?_,?_,?_,?_,?_,?_,?_,?_⟩<;>simp[World.frozen?_setCell,go_sem,b0,b1,b2,b3,b4,b5,b6,b7,b8,b9,K3,K4]
  clear hK K
  try simp only[Act.put,aH,aI,aG]
  refine wpAnyH_take (i:=10) (oi:={dst:=some 5,op:=_,type:=_,pos:=_,after:=_,guard:=_}) (v:=?_) rfl (by kernel_rfl) (by kernel_rfl) (by kernel_rfl) (fun _ _ _ h=>h) (ae ⟨by rfl,?_⟩) hHeld ?_
  rotate_left
  ·intro w' aA;obtain⟨s0,s1,s2,s3,s4,s5,s6,s7,s8,s9,BJ,BK⟩:=aA
   go_simp
   try with_reducible rfl
  simp only[Act.put,aH,aI,aG];refine wpAnyH_done (by kernel_rfl) ?_ _
  go_wp2_with fail
  refine bodyPost_ret (v:=.tuple #[.agg #[.complex .f64 N1 N2,.int .i64 P],.bool false]) (by simp[results,Tryz.results123,go_sem,SD,SE]) rfl ⟨rfl,?_⟩
  rw[hB];exact((pI.drew.trans (aC.mono jW)).setCell (by show B<=B+1+1;omega) _).setCell (by show B<=B+1+1;omega) _
 ·go_region_held3 (fun w'=>w'.cell? ⟨B,0,none⟩=some (.complex .f64 wa wb)/\w'.cell? ⟨B,1,none⟩=some (.float .f64 sh)/\w'.cell? ⟨B,2,none⟩=some (.complex .f64 fa fb)/\w'.cell? ⟨B,3,none⟩=some (.complex .f64 ta tb)/\w'.cell? ⟨B+1,0,none⟩=some (.complex .f64 iJ iK)/\w'.cell? ⟨B+1,1,none⟩=some (.float .f64 sh')/\w'.cell? ⟨B+1,2,none⟩=some (.complex .f64 kR kT)/\w'.cell? ⟨B+1,3,none⟩=some (.complex .f64 kU kV)/\w'.cell? ⟨M,0,none⟩=some (.complex .f64 N1 N2)/\w'.cell? ⟨M,1,none⟩=some (.int .i64 P)/\w'.frozen? ⟨B+1+1,0,none⟩=false/\w'.frozen? ⟨B+1+1,1,none⟩=false) (first |go_keep|(go_split_ands;refine⟨?_,?_,?_,?_,?_,?_,?_,?_,?_,?_,?_,?_⟩<;>first |(simp[World.frozen?_setCell, *];done)|(simp[*];done))) (first
   |(go_at_call_of 62 (Value.agg #[Value.complex FloatKind.f64 wa wb,Value.float FloatKind.f64 sh,Value.complex FloatKind.f64 fa fb,Value.complex FloatKind.f64 ta tb]);refine(HX.out _).mono ?_;rintro e w6 ⟨rfl,aC⟩;have hbz:B+1+1<w6.heap.size:=aZ dm aC.size;have jm:M<w6.heap.size:=aZ wN aC.size;have b0:=(aC.cell (p:=⟨B,0,none⟩) (cU (cU dm))).trans a0;have b1:=(aC.cell (p:=⟨B,1,none⟩) (cU (cU dm))).trans a1;have b2:=(aC.cell (p:=⟨B,2,none⟩) (cU (cU dm))).trans a2;have b3:=(aC.cell (p:=⟨B,3,none⟩) (cU (cU dm))).trans a3;have b4:=(aC.cell (p:=⟨B+1,0,none⟩) (cU dm)).trans a4;have b5:=(aC.cell (p:=⟨B+1,1,none⟩) (cU dm)).trans a5;have b6:=(aC.cell (p:=⟨B+1,2,none⟩) (cU dm)).trans a6;have b7:=(aC.cell (p:=⟨B+1,3,none⟩) (cU dm)).trans a7;have b8:=(aC.cell (p:=⟨M,0,none⟩) wN).trans a8;have b9:=(aC.cell (p:=⟨M,1,none⟩) wN).trans a9;have qV:=(aC.block (B+1+1) dm).trans yR;have SD:w6.cell? ⟨B+1+1,0,none⟩=some (.complex .f64 0 0):=cell_of qV 0;have SE:w6.cell? ⟨B+1+1,1,none⟩=some (.int .i64 0):=cell_of qV 1;have K3:w6.frozen? ⟨B+1+1,0,none⟩=false:=aX qV 0;have K4:w6.frozen? ⟨B+1+1,1,none⟩=false:=aX qV 1)
   |(go_at_call_of 62 (Value.agg #[Value.complex FloatKind.f64 iJ iK,Value.float FloatKind.f64 sh',Value.complex FloatKind.f64 kR kT,Value.complex FloatKind.f64 kU kV]);refine(HY.out _).mono ?_;rintro e w7 ⟨rfl,aQ⟩;have hcz:B+1+1<w7.heap.size:=aZ hbz aQ.size;have hcm:M<w7.heap.size:=aZ jm aQ.size;have c0:=(aQ.cell (p:=⟨B,0,none⟩) (cU (cU hbz))).trans b0;have c1:=(aQ.cell (p:=⟨B,1,none⟩) (cU (cU hbz))).trans b1;have c2:=(aQ.cell (p:=⟨B,2,none⟩) (cU (cU hbz))).trans b2;have c3:=(aQ.cell (p:=⟨B,3,none⟩) (cU (cU hbz))).trans b3;have c4:=(aQ.cell (p:=⟨B+1,0,none⟩) (cU hbz)).trans b4;have c5:=(aQ.cell (p:=⟨B+1,1,none⟩) (cU hbz)).trans b5;have c6:=(aQ.cell (p:=⟨B+1,2,none⟩) (cU hbz)).trans b6;have c7:=(aQ.cell (p:=⟨B+1,3,none⟩) (cU hbz)).trans b7;have c8:=(aQ.cell (p:=⟨M,0,none⟩) jm).trans b8;have c9:=(aQ.cell (p:=⟨M,1,none⟩) jm).trans b9;have hce:=(aQ.block (B+1+1) hbz).trans qV;have cq0:w7.cell? ⟨B+1+1,0,none⟩=some (.complex .f64 0 0):=cell_of hce 0;have cq1:w7.cell? ⟨B+1+1,1,none⟩=some (.int .i64 0):=cell_of hce 1;have cy0:w7.frozen? ⟨B+1+1,0,none⟩=false:=aX hce 0;have cy1:w7.frozen? ⟨B+1+1,1,none⟩=false:=aX hce 1)
   |(simp only[eK];go_simp))
  go_wp2_with fail
  refine bodyPost_ret (v:=.tuple #[.agg #[.complex .f64 N1 N2,.int .i64 P],.bool u2]) (by simp[results,Tryz.results123,go_sem,cq0,cq1]) rfl ⟨rfl,?_⟩
  rw[hB];exact(((pI.drew.trans (aC.mono jW)).trans (aQ.mono (dN (cU (cU hbz))))).setCell (by show B<=B+1+1;omega) _).setCell (by show B<=B+1+1;omega) _
end Go.Proofs.YtkjhhooecopolaaGreatDoor
namespace Go.Proofs.YtkjhhooecopolaaGreatDoor.Ge
theorem Gn{n:Nd}(h:Can n)(e:Pt×Pt):hq (au n) e=fo (n.1,n.2.1) n.2.2 e:=by
 obtain⟨X,Y,P⟩:=n;have hp:0<P:=h.pos;obtain⟨g,g0,e1,e2,gp⟩:=yA (n:=X) (d:=P) (by omega)
 obtain⟨k,k0,e3,e4,kp⟩:=yA (n:=Y) (d:=P) (by omega)
 have uw:=aR (gp.2 hp) (kp.2 hp);unfold hq au;show fo ((aS X P).1*(aS Y P).2,(aS Y P).1*(aS X P).2) ((aS X P).2*(aS Y P).2) e=fo (X,Y) P e;rw[<-K2 (x:=P*X) (y:=P*Y) (d:=P*P) hp rfl rfl rfl e];generalize aS X P=A at*;generalize aS Y P=B at*;have q1:P*X=g*k*(A.1*B.2):=by rw[e1];grind
 have q2:P*Y=g*k*(B.1*A.2):=by rw[e3];grind
 have q3:P*P=g*k*(A.2*B.2):=by grind
 exact(K2 uw q1 q2 q3 e).symm
end Go.Proofs.YtkjhhooecopolaaGreatDoor.Ge
namespace Go.Proofs.YtkjhhooecopolaaGreatDoor
open Go.RowKit
theorem pJ{n:Ge.Nd}(h:cP n.1 n.2.1 n.2.2):Fl (floatOfInt .f64 n.1) n.1/\Fl (floatOfInt .f64 n.2.1) n.2.1:=by
 have hx:=h.x;have hy:=h.y;exact⟨lN (by omega),lN (by omega)⟩
theorem ac2(x y:EB)(e f:Ed)(hx:iH x e)(hy:iH y f)(he:dU e)(hf:dU f):
  ∃(v:Ge.Nd)(b:Bool)(nv:Value),(∀w,Calls Tryz.prog 123 #[.agg x.cells,.agg y.cells] w fun r w'=>r=.returned (.tuple #[nv,.bool b])/\Below w.heap.size w w')
   /\(∃N1 N2 P,nv=.agg #[.complex .f64 N1 N2,.int .i64 P])
   /\(b=true↔Ge.cu e f≠0/\Ge.hq (Ge.eA e f) e=true/\Ge.hq (Ge.eA e f) f=true)
   /\(b=true->nv=gm v/\Ge.Can v/\Ge.au v=Ge.eA e f/\cP v.1 v.2.1 v.2.2):=by
 by_cases hc:Ge.cu e f=0
 ·refine⟨(0,0,1),false,_,fun w=>acW x y w (fun w=>?_),⟨_,_,_,rfl⟩,?_,?_⟩
  ·have:=Su x y e f hx hy he hf w;rw[gD hc] at this;exact this
  ·simp[hc]
  ·simp
 ·obtain⟨n,n1,n2,n3,hC⟩:=acV x y e f hx hy he hf hc;obtain⟨f1,f2⟩:=pJ n3;refine⟨n,Ge.hq (Ge.eA e f) e&&Ge.hq (Ge.eA e f) f,_,fun w=>acX x y (floatOfInt .f64 n.1) (floatOfInt .f64 n.2.1) n.2.2 _ _ w (fun w=>?_) hC (fun w=>?_) (fun w=>?_),⟨_,_,_,rfl⟩,?_,?_⟩
  ·have:=Su x y e f hx hy he hf w;rw[kH hc] at this;exact this
  ·rw[<-n2,Ge.Gn n1];exact Bf x e hx he f1 f2 n3 w
  ·rw[<-n2,Ge.Gn n1];exact Bf y f hy hf f1 f2 n3 w
  ·simp[hc]
  ·exact fun _=>⟨rfl,n1,n2,n3⟩
end Go.Proofs.YtkjhhooecopolaaGreatDoor
namespace Go.Proofs.YtkjhhooecopolaaGreatDoor
open Go.RowKit
theorem SF{a:Nat}{x:Int}(h:Fl a x)(w:World):
  Calls Tryz.prog 227 #[.float .f64 a] w fun r w'=>r=.returned (.bool false)/\w'=w:=by
 have q:(FloatKind.f64.format.order a a == some Ordering.eq)=true:=by rw[qG h h];simp
 have q2:(FloatKind.f64.format.order a a)=some Ordering.eq:=by simpa using q
 go_enter Tryz.func227,Tryz.ntmps227
 go_wp2_with fail
 go_ret
 exact⟨by simp,rfl⟩
theorem wO{a b:Nat}{x y:Int}(h1:Fl a x)(h2:Fl b y)(w:World):
  Calls Tryz.prog 183 #[.float .f64 a,.float .f64 b] w fun r w'=>r=.returned (.int .i64 (x-y).sign)/\w'=w:=by
 have H1:Hid (∀w,Calls Tryz.prog 227 #[.float .f64 a] w fun r w'=>r=.returned (.bool false)/\w'=w):=fun w=>SF h1 w
 have H2:Hid (∀w,Calls Tryz.prog 227 #[.float .f64 b] w fun r w'=>r=.returned (.bool false)/\w'=w):=fun w=>SF h2 w
 have q1:=yu h1 h2;have q2:=Fe h1 h2;rcases eD x y with h|h|h
 ·have hs:(x-y).sign= -1:=Ec (by omega)
  have hq:(FloatKind.f64.format.order a b == some Ordering.lt)=true:=by rw[q1];simp[h]
  rw[hs];clear q1 q2
  go_enter Tryz.func183,Tryz.ntmps183
  go_wp2_with fail
  refine(H1.out _).mono ?_;rintro e w1 ⟨rfl,rfl⟩
  go_wp2_with fail
  refine(H2.out _).mono ?_;rintro e w2 ⟨rfl,rfl⟩
  go_wp2_with fail
  go_ret
  exact⟨rfl,rfl⟩
 ·have hs:(x-y).sign=0:=by rw[h,Int.sub_self];rfl
  have hq:(FloatKind.f64.format.order a b == some Ordering.lt)=false:=by rw[q1];simp;omega
  have hq2:(FloatKind.f64.format.order a b == some Ordering.gt)=false:=by rw[q2];simp;omega
  rw[hs];clear q1 q2
  go_enter Tryz.func183,Tryz.ntmps183
  go_wp2_with fail
  refine(H1.out _).mono ?_;rintro e w1 ⟨rfl,rfl⟩
  go_wp2_with fail
  refine(H2.out _).mono ?_;rintro e w2 ⟨rfl,rfl⟩
  go_wp2_with fail
  go_ret
  exact⟨rfl,rfl⟩
 ·have hs:(x-y).sign=1:=nX (by omega)
  have hq:(FloatKind.f64.format.order a b == some Ordering.lt)=false:=by rw[q1];simp;omega
  have hq2:(FloatKind.f64.format.order a b == some Ordering.gt)=true:=by rw[q2];simp[h]
  rw[hs];clear q1 q2
  go_enter Tryz.func183,Tryz.ntmps183
  go_wp2_with fail
  refine(H1.out _).mono ?_;rintro e w1 ⟨rfl,rfl⟩
  go_wp2_with fail
  refine(H2.out _).mono ?_;rintro e w2 ⟨rfl,rfl⟩
  go_wp2_with fail
  go_ret
  exact⟨rfl,rfl⟩
end Go.Proofs.YtkjhhooecopolaaGreatDoor
