import Derived.Test.YtkjhhooecopolaaGreatDoorMz06
import Derived.Deep.RegionHeld3
import Derived.Deep.LoopGhost
set_option maxRecDepth 100000
set_option maxHeartbeats 4000000
namespace Go.Proofs.YtkjhhooecopolaaGreatDoor
open Go.RowKit
theorem oV{n:Int}(h:sm n):Fl (floatOfInt .f64 n) n:=pS (by unfold sm at h;omega)
theorem CO(na nb:Nat)(D:Int){a b:Nat}{x y:Int}(h1:Fl a x)(h2:Fl b y)(b1:sm x)(b2:sm y)(bD:sm D):
  ∃re im,Fl re (x*D)/\Fl im (y*D)/\∀w,Calls Tryz.prog 152 #[.agg #[.complex .f64 na nb,.int .i64 D],.complex .f64 a b] w fun e w'=>e=.returned (.complex .f64 re im)/\Below w.heap.size w w'/\w.drawn<=w'.drawn:=by
 have m1:=oU b1 bD;have m2:=oU b2 bD;have z0:sm 0:=by unfold sm;decide
 obtain⟨re,im,e,f1,f2⟩:=LP h1 h2 (oV bD) (oV z0) (by omega) (by omega) (by omega) (by omega) (by omega) (by omega)
 refine⟨re,im,?_,?_,fun w=>?_⟩
 ·have:x*D=x*D-y*0:=by omega
  rw[this];exact f1
 ·have:y*D=x*0+y*D:=by omega
  rw[this];exact f2
 ·have hop:=fun t w=>run_complex_mul (P:=Tryz.prog) w t a b (floatOfInt .f64 D) (floatOfInt .f64 0) re im e
  have HP:Hid (∀w1,Calls Tryz.prog 38 #[.int .i64 D,.int .i64 0] w1 fun e w'=>e=.returned (.complex .f64 (floatOfInt .f64 D) (floatOfInt .f64 0))/\w'=w1):=fun w1=>CK D 0 w1
  clear m1 m2 e f1 f2;generalize floatOfInt .f64 D=fd at*;generalize floatOfInt .f64 0=fz at*;have hb0:Below w.heap.size w (w.alloc (.cells #[.complex .f64 na nb,.int .i64 D] 83)):=(Below.refl _ _).alloc (ae _) _
  go_enter Tryz.func152,Tryz.ntmps152
  go_wp2_with fail
  refine(HP.out _).mono ?_;rintro e w1 ⟨rfl,rfl⟩
  go_wp2_with (simp only)
  go_ret
  exact⟨rfl,hb0,ae _⟩
theorem Tc{na nb:Nat}{X Y D:Int}{a b:Nat}{x y:Int}(g1:Fl na X)(g2:Fl nb Y)(h1:Fl a x)(h2:Fl b y)(b1:sm x)(b2:sm y)(bD:sm D)(c1:sm X)(c2:sm Y):
  ∃re im,Fl re (X-x*D)/\Fl im (Y-y*D)/\∀w,Calls Tryz.prog 99 #[.agg #[.complex .f64 na nb,.int .i64 D],.complex .f64 a b] w fun e w'=>e=.returned (.complex .f64 re im)/\Below w.heap.size w w':=by
 have m1:=oU b1 bD;have m2:=oU b2 bD;obtain⟨sa,sb,s1,s2,hs⟩:=CO na nb D h1 h2 b1 b2 bD;obtain⟨re,im,e,f1,f2⟩:=LO g1 g2 s1 s2 (by unfold sm at c1;omega) (by unfold sm at c2;omega)
 refine⟨re,im,f1,f2,fun w=>?_⟩
 have hop:=fun t w=>run_complex_sum (P:=Tryz.prog) w .sub (Or.inr rfl) t .f64 na nb sa sb re im e
 have HS:Hid (∀w,Calls Tryz.prog 152 #[.agg #[.complex .f64 na nb,.int .i64 D],.complex .f64 a b] w fun e w'=>e=.returned (.complex .f64 sa sb)/\Below w.heap.size w w'/\w.drawn<=w'.drawn):=hs
 clear hs m1 m2;have hE:=heap_alloc_new w (.cells #[.complex .f64 na nb,.int .i64 D] 83);have hb0:Below w.heap.size w (w.alloc (.cells #[.complex .f64 na nb,.int .i64 D] 83)):=(Below.refl _ _).alloc (ae _) _;have hz:w.heap.size<(w.alloc (.cells #[.complex .f64 na nb,.int .i64 D] 83)).heap.size:=by simp
 go_enter Tryz.func99,Tryz.ntmps99
 go_wp2_with fail
 generalize w.alloc (.cells #[.complex .f64 na nb,.int .i64 D] 83)=W at*;generalize hB:w.heap.size=B at*;have e0:W.cell? ⟨B,0,none⟩=some (.complex .f64 na nb):=cell_of hE 0;have e1:W.cell? ⟨B,1,none⟩=some (.int .i64 D):=cell_of hE 1
 go_region_held3 (fun w'=>w'.cell? ⟨B,0,none⟩=some (.complex .f64 na nb)/\w'.cell? ⟨B,1,none⟩=some (.int .i64 D)) (go_keep) (first
  |(go_at_call 152;refine(HS.out _).mono ?_;rintro e w5 ⟨rfl,ai,_⟩;have q0:=(ai.cell (p:=⟨B,0,none⟩) hz).trans e0;have q1:=(ai.cell (p:=⟨B,1,none⟩) hz).trans e1)
  |(simp only))
 go_wp2_with fail
 go_ret
 exact⟨rfl,by rw[hB];exact hb0.drew.trans (ai.mono (eo hz))⟩
theorem zS{a b:Nat}{x y:Int}(ha:Fl a x)(hb:Fl b y):(FloatKind.f64.format.order a b == some .lt)=decide (x<y):=by
 have e:FloatKind.f64.format.order a b=some (compare x y):=ha.order hb;rw[e];rcases fk x y with h|h|h
 ·rw[Kz.2 h];simp[h]
 ·rw[KA.2 h];simp[h]
 ·rw[KB.2 h];simp;omega
theorem GU{a b:Nat}{x y:Int}(ha:Fl a x)(hb:Fl b y):(FloatKind.f64.format.order a b == some .gt)=decide (y<x):=by
 have e:FloatKind.f64.format.order a b=some (compare x y):=ha.order hb;rw[e];rcases fk x y with h|h|h
 ·rw[Kz.2 h];simp;omega
 ·rw[KA.2 h];simp[h]
 ·rw[KB.2 h];simp[h]
theorem rW{a b:Nat}{x y:Int}(ha:Fl a x)(hb:Fl b y):(FloatKind.f64.format.order a b == some .eq)=decide (x=y):=by
 have e:FloatKind.f64.format.order a b=some (compare x y):=ha.order hb;rw[e];rcases fk x y with h|h|h
 ·rw[Kz.2 h];simp;omega
 ·rw[KA.2 h];simp[h]
 ·rw[KB.2 h];simp;omega
theorem kE:Fl 0 0:=by
 have h:=pS (n:=0) (by decide)
 have e:floatOfInt .f64 0=0:=by decide
 rwa[e] at h
theorem LY{wa wb sh na nb:Nat}{wx wy s X Y D:Int}(h1:Fl wa wx)(h2:Fl wb wy)(h3:Fl sh s)(g1:Fl na X)(g2:Fl nb Y)(b1:sm wx)(b2:sm wy)(b3:sm s)(bD:sm D)(c1:sm X)(c2:sm Y):
  ∃r,Fl r (wx*Y-wy*X-s*D)/\∀w,Calls Tryz.prog 97 #[.agg #[.complex .f64 wa wb,.float .f64 sh],.agg #[.complex .f64 na nb,.int .i64 D]] w fun e w'=>e=.returned (.float .f64 r)/\Below w.heap.size w w':=by
 have m1:=oU b1 c2;have m2:=oU b2 c1;have m3:=oU b3 bD;obtain⟨im,f1,hl⟩:=CN h1 h2 g1 g2 b1 b2 c1 c2;obtain⟨p,e1,f2⟩:=h3.mul (oV bD) (by omega)
 obtain⟨r,e2,f3⟩:=f1.sub f2 (by omega)
 refine⟨r,f3,fun w=>?_⟩
 have CP:=fun t w=>run_float_arith (P:=Tryz.prog) w .mul t .f64 _ _ p e1
 have vS:=fun t w=>run_float_arith (P:=Tryz.prog) w .sub t .f64 _ _ r e2
 have HL:Hid (∀w,Calls Tryz.prog 101 #[.complex .f64 wa wb,.complex .f64 na nb] w fun e w'=>e=.returned (.float .f64 im)/\w'=w):=hl
 clear hl m1 m2 m3;have hE:((w.alloc (.cells #[.complex .f64 wa wb,.float .f64 sh] 122)).alloc (.cells #[.complex .f64 na nb,.int .i64 D] 83)).heap[w.heap.size]?=some (.cells #[.complex .f64 wa wb,.float .f64 sh] 122 (0,0)):=by
  rw[Below.heap_alloc _ _ _ (by simp)];exact heap_alloc_new _ _
 have hP:((w.alloc (.cells #[.complex .f64 wa wb,.float .f64 sh] 122)).alloc (.cells #[.complex .f64 na nb,.int .i64 D] 83)).heap[w.heap.size+1]?=some (.cells #[.complex .f64 na nb,.int .i64 D] 83 (0,0)):=by
  have:=heap_alloc_new (w.alloc (.cells #[.complex .f64 wa wb,.float .f64 sh] 122)) (.cells #[.complex .f64 na nb,.int .i64 D] 83);simpa using this
 have hb0:Below w.heap.size w ((w.alloc (.cells #[.complex .f64 wa wb,.float .f64 sh] 122)).alloc (.cells #[.complex .f64 na nb,.int .i64 D] 83)):=((Below.refl _ _).alloc (ae _) _).alloc (by simp) _
 go_enter Tryz.func97,Tryz.ntmps97
 go_wp2_with fail
 generalize(w.alloc (.cells #[.complex .f64 wa wb,.float .f64 sh] 122)).alloc (.cells #[.complex .f64 na nb,.int .i64 D] 83)=W at*;generalize hB:w.heap.size=B at*;have e0:W.cell? ⟨B,0,none⟩=some (.complex .f64 wa wb):=cell_of hE 0;have mU:W.cell? ⟨B,1,none⟩=some (.float .f64 sh):=cell_of hE 1;have p0:W.cell? ⟨B+1,0,none⟩=some (.complex .f64 na nb):=cell_of hP 0;have p1:W.cell? ⟨B+1,1,none⟩=some (.int .i64 D):=cell_of hP 1
 go_region_held3 (fun w'=>w'.cell? ⟨B,0,none⟩=some (.complex .f64 wa wb)/\w'.cell? ⟨B,1,none⟩=some (.float .f64 sh)/\w'.cell? ⟨B+1,0,none⟩=some (.complex .f64 na nb)/\w'.cell? ⟨B+1,1,none⟩=some (.int .i64 D)) (go_keep) (first
  |(go_at_call 101;refine(HL.out _).mono ?_;rintro e w5 ⟨rfl,rX⟩;subst rX)
  |(simp only)
  |(simp only[vS]))
 go_wp2_with fail
 go_ret
 exact⟨rfl,by rw[hB];exact hb0.drew⟩
def small(z:Int):Prop:= -50<=z/\z<=50
theorem oW{x y a b:Int}(hx: -a<=x/\x<=a)(hy: -b<=y/\y<=b): -(a*b)<=x*y/\x*y<=a*b:=by
 have h:(x*y).natAbs<=(a*b).natAbs:=by
  rw[nK,nK];exact BP (by omega) (by omega)
 have hab:0<=a*b:=iO (by omega) (by omega)
 omega
theorem ur{w:World}{b:Nat}{c:Array Value}{T:TypeId}(h:w.heap[b]?=some (.cells c T (0,0)))(o:Nat):w.cell? ⟨b,o,none⟩=c[o]?:=by
 simp[World.cell?,h]
def CQ(n d:Int):Int:=n.tdiv (Int.gcd n d)
def xN(n d:Int):Int:=d.tdiv (Int.gcd n d)
theorem rY{n d:Int}(hd:d≠0):0<Int.gcd n d:=abX _ hd
theorem GV(n d:Int):n=(Int.gcd n d:Int)*CQ n d:=(rH (xm _ _)).symm
theorem CR(n d:Int):d=(Int.gcd n d:Int)*xN n d:=(rH (vD _ _)).symm
theorem Td{n d:Int}(hd:0<d):0<xN n d:=by
 have h:=CR n d;have hg:=rY (n:=n) (d:=d) (by omega)
 generalize xN n d=x at*;generalize Int.gcd n d=g at*;rcases fk x 0 with hx|hx|hx
 ·have:=vC (show(0:Int)<g by omega) hx;omega
 ·subst hx;omega
 ·exact hx
theorem LZ{z x:Int}{g:Nat}(h:z=(g:Int)*x)(hg:0<g):x.natAbs<=z.natAbs:=by
 rw[h,nK];exact anl _ (by simpa using hg)
theorem L3{w:World}{b:Nat}{c:Array Value}{T:TypeId}(h:w.heap[b]?=some (.cells c T (0,0)))(o:Nat):w.frozen? ⟨b,o,none⟩=false:=by
 simp[World.frozen?,h]
theorem adZ(a b:Nat):Nat.gcd b (a%b)=Nat.gcd a b:=by
 rw[Nat.gcd_comm b,<-Nat.gcd_rec,Nat.gcd_comm]
structure fg(e:(Int×Int)×(Int×Int)):Prop where
 a:small e.1.1
 b:small e.1.2
 c:small e.2.1
 d:small e.2.2
abbrev Ed:=(Int×Int)×(Int×Int)
theorem CS{w:World}{e:TypeId}{size:Nat}{v:Value}{n:Nat}{xs:List Value}(h:w.ownsRow 0 e size v n xs){o:Nat}{u:Value}(hu:xs[o]?=some u):
  ∃b cap,v=.slice (some ⟨b,0,none⟩) n cap/\b<w.heap.size/\∀o' u',xs[o']?=some u'->w.cell? ⟨b,o',none⟩=some u':=by
 obtain⟨h1,h2⟩:=h;rcases h2 with⟨_,h0⟩|⟨b,cap,cur,hv,_,hb,_,_,_,ht⟩
 ·rw[h0,zk] at h1;rw[gq.1 h1] at hu;simp at hu
 ·refine⟨b,cap,hv,?_,fun o' u' hu'=>?_⟩
  ·rcases Ku b w.heap.size with h1|h1
   ·exact h1
   ·rw[FY h1] at hb;cases hb
  rw[ur hb o',<-iQ];rw[<-ht,j6] at hu';split at hu'
  ·exact hu'
  ·cases hu'
theorem L4(f:Ge.Pt->Ge.Pt->Int){l:List Ed}{k:Nat}{e:Ed}(he:l[k]?=some e):Ge.total f (l.take (k+1))=Ge.total f (l.take k)+f e.1 e.2:=by
 obtain⟨hlt,he'⟩:=bT.1 he;have e1:l.take (k+1)=l.take k++[e]:=by rw[oK hlt,he']
 rw[e1,Ge.Cb,Ge.fq,Ge.zx];omega
theorem GW(f:Ge.Pt->Ge.Pt->Int)(hf:∀a b, -1<=f a b/\f a b<=1):∀l:List Ed, -(l.length:Int)<=Ge.total f l/\Ge.total f l<=l.length
 |[]=>by simp[Ge.total]
 |e::l=>by
  have ih:=GW f hf l;have h1:=hf e.1 e.2;rw[Ge.fq];simp only[bO];omega
theorem GX(n:Ge.Pt)(d:Int)(a b:Ge.Pt): -1<=Ge.fr n d a b/\Ge.fr n d a b<=1:=by
 unfold Ge.fr Ge.right;split
 ·decide
 ·split<;>decide
structure EB where
 wa:Nat
 wb:Nat
 sh:Nat
 fa:Nat
 fb:Nat
 ta:Nat
 tb:Nat
def EB.cells(x:EB):Array Value:= #[.complex .f64 x.wa x.wb,.float .f64 x.sh,.complex .f64 x.fa x.fb,.complex .f64 x.ta x.tb]
structure iT(x:EB)(e:Ed):Prop where
 wa:Fl x.wa (e.2.1-e.1.1)
 wb:Fl x.wb (e.2.2-e.1.2)
 sh:Fl x.sh ((e.2.1-e.1.1)*e.1.2-(e.2.2-e.1.2)*e.1.1)
 fa:Fl x.fa e.1.1
 fb:Fl x.fb e.1.2
 ta:Fl x.ta e.2.1
 tb:Fl x.tb e.2.2
structure dm(X Y D:Int):Prop where
 x:X.natAbs<=16000000
 y:Y.natAbs<=16000000
 d:0<D/\D<=300000
theorem vT{z:Int}(h:small z):sm z:=by unfold small at h;unfold sm;omega
theorem GY{X D x:Int}(hX:X.natAbs<=16000000)(hD:0<D/\D<=300000)(hx:small x):sm (X-x*D):=by
 have m: -15000000<=x*D/\x*D<=15000000:=oW (a:=50) (b:=300000) hx ⟨by omega,hD.2⟩
 unfold sm;omega
theorem GZ{e:Ed}(h:fg e):sm ((e.2.1-e.1.1)*e.1.2-(e.2.2-e.1.2)*e.1.1):=by
 obtain⟨a,b,c,d⟩:=h;unfold small at a b c d;have m1: -5000<=(e.2.1-e.1.1)*e.1.2/\(e.2.1-e.1.1)*e.1.2<=5000:=oW (a:=100) (b:=50) (by omega) (by omega)
 have m2: -5000<=(e.2.2-e.1.2)*e.1.1/\(e.2.2-e.1.2)*e.1.1<=5000:=oW (a:=100) (b:=50) (by omega) (by omega)
 unfold sm;omega
def lf(X Y D:Int)(e:Ed):Int:=(e.2.1-e.1.1)*Y-(e.2.2-e.1.2)*X-((e.2.1-e.1.1)*e.1.2-(e.2.2-e.1.2)*e.1.1)*D
theorem L5(X Y D:Int)(e:Ed):D*lf X Y D e=Ge.cr (Ge.rel (X,Y) D e.1) (Ge.rel (X,Y) D e.2):=by
 obtain⟨⟨a,b⟩,c,d⟩:=e;simp only[lf,Ge.cr,Ge.rel]
 grind
theorem G5{D z:Int}(hD:0<D):(0<D*z↔0<z)/\(D*z<0↔z<0)/\(D*z=0↔z=0):=by
 rcases fk z 0 with h|h|h
 ·have:=vC hD h;omega
 ·subst h;omega
 ·have:=aP hD h;omega
theorem ad0(X Y D:Int)(e:Ed):(X-e.1.1*D)*(X-e.2.1*D)+(Y-e.1.2*D)*(Y-e.2.2*D)=Ge.dt (Ge.rel (X,Y) D e.1) (Ge.rel (X,Y) D e.2):=by
 obtain⟨⟨a,b⟩,c,d⟩:=e;simp only[Ge.dt,Ge.rel]
 grind
theorem ad1(X Y D:Int)(e:Ed)(hD:0<D):(decide (lf X Y D e=0)&&decide ((X-e.1.1*D)*(X-e.2.1*D)+(Y-e.1.2*D)*(Y-e.2.2*D)<=0))=Ge.fo (X,Y) D e:=by
 unfold Ge.fo Ge.on;rw[ad0,<-L5];congr 1;exact decide_eq_decide.2 (G5 hD).2.2.symm
theorem ad2(X Y D:Int)(e:Ed)(hD:0<D):Ge.fr (X,Y) D e.1 e.2=if ¬X*1<e.1.1*D/\X*1<e.2.1*D/\0<lf X Y D e then 1 else if X*1<e.1.1*D/\¬X*1<e.2.1*D/\lf X Y D e<0 then -1 else 0:=by
 unfold Ge.fr Ge.right;rw[<-L5];obtain⟨p1,p2,_⟩:=G5 (z:=lf X Y D e) hD;have h1:(Ge.rel (X,Y) D e.1).1=D*e.1.1-X:=rfl;have h2:(Ge.rel (X,Y) D e.2).1=D*e.2.1-X:=rfl;rw[h1,h2,dX D e.1.1,dX D e.2.1];generalize D*lf X Y D e=Z at*;generalize lf X Y D e=L at*;generalize e.1.1*D=U at*;generalize e.2.1*D=V at*
 repeat' split
 all_goals omega
theorem CT(xb:EB)(ed:Ed){na nb:Nat}{X Y D:Int}(hx:iT xb ed)(hs:fg ed)(g1:Fl na X)(g2:Fl nb Y)(hn:dm X Y D)(w:World):
  Calls Tryz.prog 62 #[.agg xb.cells,.agg #[.complex .f64 na nb,.int .i64 D]] w fun e w'=>e=.returned (.bool (Ge.fo (X,Y) D ed))/\Below w.heap.size w w':=by
 have sX:sm X:=by have:=hn.x;unfold sm;omega
 have sY:sm Y:=by have:=hn.y;unfold sm;omega
 have sD:sm D:=by have:=hn.d;unfold sm;omega
 have s1:sm (ed.2.1-ed.1.1):=by have:=hs.a;have:=hs.c;unfold small at*;unfold sm;omega
 have s2:sm (ed.2.2-ed.1.2):=by have:=hs.b;have:=hs.d;unfold small at*;unfold sm;omega
 obtain⟨r,fr,hL⟩:=LY hx.wa hx.wb hx.sh g1 g2 s1 s2 (GZ hs) sD sX sY;obtain⟨u1,u2,Te,Tf,hU⟩:=Tc (D:=D) g1 g2 hx.fa hx.fb (vT hs.a) (vT hs.b) sD sX sY;obtain⟨v1,v2,Th,Ti,hV⟩:=Tc (D:=D) g1 g2 hx.ta hx.tb (vT hs.c) (vT hs.d) sD sX sY;obtain⟨re,im,L6,_,hT⟩:=LX Te Tf Th Ti (GY hn.x hn.d hs.a) (GY hn.y hn.d hs.b) (GY hn.x hn.d hs.c) (GY hn.y hn.d hs.d);have HL:Hid (∀w,Calls Tryz.prog 97 #[.agg #[.complex .f64 xb.wa xb.wb,.float .f64 xb.sh],.agg #[.complex .f64 na nb,.int .i64 D]] w fun e w'=>e=.returned (.float .f64 r)/\Below w.heap.size w w'):=hL
 have HU:Hid (∀w,Calls Tryz.prog 99 #[.agg #[.complex .f64 na nb,.int .i64 D],.complex .f64 xb.fa xb.fb] w fun e w'=>e=.returned (.complex .f64 u1 u2)/\Below w.heap.size w w'):=hU
 have HV:Hid (∀w,Calls Tryz.prog 99 #[.agg #[.complex .f64 na nb,.int .i64 D],.complex .f64 xb.ta xb.tb] w fun e w'=>e=.returned (.complex .f64 v1 v2)/\Below w.heap.size w w'):=hV
 have HT:Hid (∀w,Calls Tryz.prog 98 #[.complex .f64 u1 u2,.complex .f64 v1 v2] w fun e w'=>e=.returned (.complex .f64 re im)/\w'=w):=hT
 have q1:=rW fr kE;have q2:(FloatKind.f64.format.order re 0 == some .lt||FloatKind.f64.format.order re 0 == some .eq)=decide ((X-ed.1.1*D)*(X-ed.2.1*D)+(Y-ed.1.2*D)*(Y-ed.2.2*D)<=0):=by
  rw[zS L6 kE,rW L6 kE,<-Bool.decide_or];exact decide_eq_decide.2 (by omega)
 have hfo:=ad1 X Y D ed hn.d.1;unfold lf at hfo;rw[<-q1,<-q2] at hfo;rw[<-hfo];clear hfo q1 q2 hL hU hV hT fr L6 Te Tf Th Ti hx hs hn g1 g2 sX sY sD s1 s2;obtain⟨wa,wb,sh,fa,fb,ta,tb⟩:=xb;simp only[EB.cells] at*;generalize L8:(FloatKind.f64.format.order r 0 == some Ordering.eq)=B1 at*;have hE:((w.alloc (.cells #[.complex .f64 wa wb,.float .f64 sh,.complex .f64 fa fb,.complex .f64 ta tb] 124)).alloc (.cells #[.complex .f64 na nb,.int .i64 D] 83)).heap[w.heap.size]?=some (.cells #[.complex .f64 wa wb,.float .f64 sh,.complex .f64 fa fb,.complex .f64 ta tb] 124 (0,0)):=by
  rw[Below.heap_alloc _ _ _ (by simp)];exact heap_alloc_new _ _
 have hP:((w.alloc (.cells #[.complex .f64 wa wb,.float .f64 sh,.complex .f64 fa fb,.complex .f64 ta tb] 124)).alloc (.cells #[.complex .f64 na nb,.int .i64 D] 83)).heap[w.heap.size+1]?=some (.cells #[.complex .f64 na nb,.int .i64 D] 83 (0,0)):=by
  have:=heap_alloc_new (w.alloc (.cells #[.complex .f64 wa wb,.float .f64 sh,.complex .f64 fa fb,.complex .f64 ta tb] 124)) (.cells #[.complex .f64 na nb,.int .i64 D] 83);simpa using this
 have hb0:Below w.heap.size w ((w.alloc (.cells #[.complex .f64 wa wb,.float .f64 sh,.complex .f64 fa fb,.complex .f64 ta tb] 124)).alloc (.cells #[.complex .f64 na nb,.int .i64 D] 83)):=((Below.refl _ _).alloc (ae _) _).alloc (by simp) _
 have hsz:w.heap.size+2=((w.alloc (.cells #[.complex .f64 wa wb,.float .f64 sh,.complex .f64 fa fb,.complex .f64 ta tb] 124)).alloc (.cells #[.complex .f64 na nb,.int .i64 D] 83)).heap.size:=by simp
 go_enter Tryz.func62,Tryz.ntmps62
 go_wp2_with fail
 generalize(w.alloc (.cells #[.complex .f64 wa wb,.float .f64 sh,.complex .f64 fa fb,.complex .f64 ta tb] 124)).alloc (.cells #[.complex .f64 na nb,.int .i64 D] 83)=W at*;generalize hB:w.heap.size=B at*;have cK:B<W.heap.size:=by omega
 have hzb:B+1<W.heap.size:=by omega
 have z0:W.cell? ⟨B,0,none⟩=some (.complex .f64 wa wb):=cell_of hE 0;have z1:W.cell? ⟨B,1,none⟩=some (.float .f64 sh):=cell_of hE 1;have z2:W.cell? ⟨B,2,none⟩=some (.complex .f64 fa fb):=cell_of hE 2;have z3:W.cell? ⟨B,3,none⟩=some (.complex .f64 ta tb):=cell_of hE 3;have z4:W.cell? ⟨B+1,0,none⟩=some (.complex .f64 na nb):=cell_of hP 0;have z5:W.cell? ⟨B+1,1,none⟩=some (.int .i64 D):=cell_of hP 1;cases B1
 ·refine wp_region_held_drew (S:=(fun w'=>w'.cell? ⟨B,0,none⟩=some (.complex .f64 wa wb)/\w'.cell? ⟨B,1,none⟩=some (.float .f64 sh)/\w'.cell? ⟨B,2,none⟩=some (.complex .f64 fa fb)/\w'.cell? ⟨B,3,none⟩=some (.complex .f64 ta tb)/\w'.cell? ⟨B+1,0,none⟩=some (.complex .f64 na nb)/\w'.cell? ⟨B+1,1,none⟩=some (.int .i64 D))) (by kernel_rfl) ⟨z0,z1,z2,z3,z4,z5⟩ (fun hHeld=>?_)
  refine wpAnyH_take (i:=0) (oi:={dst:=some 5,op:=_,type:=_,pos:=_,after:=_,guard:=_}) (v:=?_) rfl (by kernel_rfl) (by kernel_rfl) (by kernel_rfl) (fun _ _ _ h=>h) (Or.inl ⟨by rfl,?_⟩) hHeld ?_
  rotate_left
  ·intro w' aw;obtain⟨s0,s1,s2,s3,s4,s5⟩:=aw
   go_simp
   try with_reducible rfl
  simp only[Act.put,aC,aD,aA];refine wpAnyH_take (i:=1) (oi:={dst:=some 6,op:=_,type:=_,pos:=_,after:=_,guard:=_}) (v:=?_) rfl (by kernel_rfl) (by kernel_rfl) (by kernel_rfl) (fun _ _ _ h=>h) (Or.inl ⟨by rfl,?_⟩) hHeld ?_
  rotate_left
  ·intro w' aw;obtain⟨s0,s1,s2,s3,s4,s5⟩:=aw
   go_simp
   try with_reducible rfl
  simp only[Act.put,aC,aD,aA];refine wpAnyH_take (i:=2) (oi:={dst:=some 7,op:=_,type:=_,pos:=_,after:=_,guard:=_}) (v:=?_) rfl (by kernel_rfl) (by kernel_rfl) (by kernel_rfl) (fun _ _ _ h=>h) (Or.inl ⟨by rfl,?_⟩) hHeld ?_
  rotate_left
  ·intro w' aw;obtain⟨s0,s1,s2,s3,s4,s5⟩:=aw
   go_simp
   try with_reducible rfl
  simp only[Act.put,aC,aD,aA];refine wpAnyH_ready (rs:=[3]) (by kernel_rfl) (by simp) ?_
  refine AllReadyH.cons rfl (fun K hK=>?_) AllReadyH.nil
  go_simp
  refine(HL.out _).mono ?_;rintro e w5 ⟨rfl,ai⟩;have lT:B<w5.heap.size:=aL cK ai.size;have hlb:B+1<w5.heap.size:=aL hzb ai.size;have l0:=(ai.cell (p:=⟨B,0,none⟩) cK).trans z0;have l1:=(ai.cell (p:=⟨B,1,none⟩) cK).trans z1;have l2:=(ai.cell (p:=⟨B,2,none⟩) cK).trans z2;have l3:=(ai.cell (p:=⟨B,3,none⟩) cK).trans z3;have l4:=(ai.cell (p:=⟨B+1,0,none⟩) hzb).trans z4;have l5:=(ai.cell (p:=⟨B+1,1,none⟩) hzb).trans z5
  go_wp2_with fail
  refine hK.out _ _ ⟨l0,l1,l2,l3,l4,l5⟩ (fun hHeld=>?_)
  clear hK K
  try simp only[Act.put,aC,aD,aA]
  refine wpAnyH_take (i:=4) (oi:={dst:=some 9,op:=_,type:=_,pos:=_,after:=_,guard:=_}) (v:=?_) rfl (by kernel_rfl) (by kernel_rfl) (by kernel_rfl) (fun _ _ _ h=>h) (Or.inl ⟨by rfl,?_⟩) hHeld ?_
  rotate_left
  ·intro w' aw;obtain⟨s0,s1,s2,s3,s4,s5⟩:=aw
   go_simp
   try with_reducible rfl
  simp only[Act.put,aC,aD,aA];refine wpAnyH_take (i:=5) (oi:={dst:=some 10,op:=_,type:=_,pos:=_,after:=_,guard:=_}) (v:=?_) rfl (by kernel_rfl) (by kernel_rfl) (by kernel_rfl) (fun _ _ _ h=>h) (Or.inl ⟨by rfl,?_⟩) hHeld ?_
  rotate_left
  ·intro w' aw;obtain⟨s0,s1,s2,s3,s4,s5⟩:=aw
   go_simp
   try with_reducible rfl
  simp only[Act.put,aC,aD,aA];refine wpAnyH_take (i:=6) (oi:={dst:=some 11,op:=_,type:=_,pos:=_,after:=_,guard:=_}) (v:=undef) rfl (by kernel_rfl) (by kernel_rfl) (by kernel_rfl) (fun _ _ _ h=>h) (Or.inr ⟨by kernel_rfl,rfl⟩) hHeld ?_
  simp only[Act.put,aC,aD,aA];refine wpAnyH_take (i:=7) (oi:={dst:=some 12,op:=_,type:=_,pos:=_,after:=_,guard:=_}) (v:=undef) rfl (by kernel_rfl) (by kernel_rfl) (by kernel_rfl) (fun _ _ _ h=>h) (Or.inr ⟨by kernel_rfl,rfl⟩) hHeld ?_
  simp only[Act.put,aC,aD,aA];refine wpAnyH_take (i:=8) (oi:={dst:=some 13,op:=_,type:=_,pos:=_,after:=_,guard:=_}) (v:=undef) rfl (by kernel_rfl) (by kernel_rfl) (by kernel_rfl) (fun _ _ _ h=>h) (Or.inr ⟨by kernel_rfl,rfl⟩) hHeld ?_
  simp only[Act.put,aC,aD,aA];refine wpAnyH_take (i:=9) (oi:={dst:=some 14,op:=_,type:=_,pos:=_,after:=_,guard:=_}) (v:=undef) rfl (by kernel_rfl) (by kernel_rfl) (by kernel_rfl) (fun _ _ _ h=>h) (Or.inr ⟨by kernel_rfl,rfl⟩) hHeld ?_
  simp only[Act.put,aC,aD,aA];refine wpAnyH_take (i:=10) (oi:={dst:=some 15,op:=_,type:=_,pos:=_,after:=_,guard:=_}) (v:=undef) rfl (by kernel_rfl) (by kernel_rfl) (by kernel_rfl) (fun _ _ _ h=>h) (Or.inr ⟨by kernel_rfl,rfl⟩) hHeld ?_
  simp only[Act.put,aC,aD,aA];refine wpAnyH_take (i:=11) (oi:={dst:=some 16,op:=_,type:=_,pos:=_,after:=_,guard:=_}) (v:=undef) rfl (by kernel_rfl) (by kernel_rfl) (by kernel_rfl) (fun _ _ _ h=>h) (Or.inr ⟨by kernel_rfl,rfl⟩) hHeld ?_
  simp only[Act.put,aC,aD,aA];refine wpAnyH_take (i:=12) (oi:={dst:=some 17,op:=_,type:=_,pos:=_,after:=_,guard:=_}) (v:=undef) rfl (by kernel_rfl) (by kernel_rfl) (by kernel_rfl) (fun _ _ _ h=>h) (Or.inr ⟨by kernel_rfl,rfl⟩) hHeld ?_
  simp only[Act.put,aC,aD,aA];refine wpAnyH_take (i:=13) (oi:={dst:=some 18,op:=_,type:=_,pos:=_,after:=_,guard:=_}) (v:=undef) rfl (by kernel_rfl) (by kernel_rfl) (by kernel_rfl) (fun _ _ _ h=>h) (Or.inr ⟨by kernel_rfl,rfl⟩) hHeld ?_
  simp only[Act.put,aC,aD,aA];refine wpAnyH_take (i:=14) (oi:={dst:=some 19,op:=_,type:=_,pos:=_,after:=_,guard:=_}) (v:=undef) rfl (by kernel_rfl) (by kernel_rfl) (by kernel_rfl) (fun _ _ _ h=>h) (Or.inr ⟨by kernel_rfl,rfl⟩) hHeld ?_
  simp only[Act.put,aC,aD,aA];refine wpAnyH_take (i:=15) (oi:={dst:=some 20,op:=_,type:=_,pos:=_,after:=_,guard:=_}) (v:=undef) rfl (by kernel_rfl) (by kernel_rfl) (by kernel_rfl) (fun _ _ _ h=>h) (Or.inr ⟨by kernel_rfl,rfl⟩) hHeld ?_
  simp only[Act.put,aC,aD,aA];refine wpAnyH_take (i:=16) (oi:={dst:=some 21,op:=_,type:=_,pos:=_,after:=_,guard:=_}) (v:=undef) rfl (by kernel_rfl) (by kernel_rfl) (by kernel_rfl) (fun _ _ _ h=>h) (Or.inr ⟨by kernel_rfl,rfl⟩) hHeld ?_
  simp only[Act.put,aC,aD,aA];refine wpAnyH_take (i:=17) (oi:={dst:=some 22,op:=_,type:=_,pos:=_,after:=_,guard:=_}) (v:=?_) rfl (by kernel_rfl) (by kernel_rfl) (by kernel_rfl) (fun _ _ _ h=>h) (Or.inl ⟨by rfl,?_⟩) hHeld ?_
  rotate_left
  ·intro w' aw;obtain⟨s0,s1,s2,s3,s4,s5⟩:=aw
   go_simp
   try with_reducible rfl
  simp only[Act.put,aC,aD,aA];refine wpAnyH_take (i:=18) (oi:={dst:=some 4,op:=_,type:=_,pos:=_,after:=_,guard:=_}) (v:=?_) rfl (by kernel_rfl) (by kernel_rfl) (by kernel_rfl) (fun _ _ _ h=>h) (Or.inl ⟨by rfl,?_⟩) hHeld ?_
  rotate_left
  ·intro w' aw;obtain⟨s0,s1,s2,s3,s4,s5⟩:=aw
   go_simp
   try with_reducible rfl
  simp only[Act.put,aC,aD,aA];refine wpAnyH_done (by kernel_rfl) ?_ _
  go_wp2_with fail
  go_ret
  exact⟨rfl,by rw[hB];exact hb0.drew.trans (ai.mono (eo cK))⟩
 ·go_region_held3 (fun w'=>w'.cell? ⟨B,0,none⟩=some (.complex .f64 wa wb)/\w'.cell? ⟨B,1,none⟩=some (.float .f64 sh)/\w'.cell? ⟨B,2,none⟩=some (.complex .f64 fa fb)/\w'.cell? ⟨B,3,none⟩=some (.complex .f64 ta tb)/\w'.cell? ⟨B+1,0,none⟩=some (.complex .f64 na nb)/\w'.cell? ⟨B+1,1,none⟩=some (.int .i64 D)) (go_keep) (first
   |(go_at_call 97;refine(HL.out _).mono ?_;rintro e w5 ⟨rfl,ai⟩;have lT:B<w5.heap.size:=aL cK ai.size;have hlb:B+1<w5.heap.size:=aL hzb ai.size;have l0:=(ai.cell (p:=⟨B,0,none⟩) cK).trans z0;have l1:=(ai.cell (p:=⟨B,1,none⟩) cK).trans z1;have l2:=(ai.cell (p:=⟨B,2,none⟩) cK).trans z2;have l3:=(ai.cell (p:=⟨B,3,none⟩) cK).trans z3;have l4:=(ai.cell (p:=⟨B+1,0,none⟩) hzb).trans z4;have l5:=(ai.cell (p:=⟨B+1,1,none⟩) hzb).trans z5)
   |(go_at_call_of 99 (Value.complex FloatKind.f64 fa fb);refine(HU.out _).mono ?_;rintro e w6 ⟨rfl,ax⟩;have iJ:B<w6.heap.size:=aL lT ax.size;have kF:B+1<w6.heap.size:=aL hlb ax.size;have u0:=(ax.cell (p:=⟨B,0,none⟩) lT).trans l0;have u1:=(ax.cell (p:=⟨B,1,none⟩) lT).trans l1;have u2:=(ax.cell (p:=⟨B,2,none⟩) lT).trans l2;have u3:=(ax.cell (p:=⟨B,3,none⟩) lT).trans l3;have u4:=(ax.cell (p:=⟨B+1,0,none⟩) hlb).trans l4;have u5:=(ax.cell (p:=⟨B+1,1,none⟩) hlb).trans l5)
   |(go_at_call_of 99 (Value.complex FloatKind.f64 ta tb);refine(HV.out _).mono ?_;rintro e w7 ⟨rfl,aT⟩;have pT:B<w7.heap.size:=aL iJ aT.size;have hvb:B+1<w7.heap.size:=aL kF aT.size;have v0:=(aT.cell (p:=⟨B,0,none⟩) iJ).trans u0;have v1:=(aT.cell (p:=⟨B,1,none⟩) iJ).trans u1;have v2:=(aT.cell (p:=⟨B,2,none⟩) iJ).trans u2;have v3:=(aT.cell (p:=⟨B,3,none⟩) iJ).trans u3;have v4:=(aT.cell (p:=⟨B+1,0,none⟩) kF).trans u4;have v5:=(aT.cell (p:=⟨B+1,1,none⟩) kF).trans u5)
   |(go_at_call 98;refine(HT.out _).mono ?_;rintro e w8 ⟨rfl,qC⟩;subst qC))
  go_wp2_with fail
  go_ret
  refine⟨rO (by simp),?_⟩
  rw[hB];exact((hb0.drew.trans (ai.mono (eo cK))).trans (ax.mono (eo lT))).trans (aT.mono (eo iJ))
theorem ad3(na nb a b pa pb qa qb:Nat)(D E:Int)(w:World)
  (HA:Hid (∀w,Calls Tryz.prog 152 #[.agg #[.complex .f64 a b,.int .i64 E],.complex .f64 na nb] w fun e w'=>e=.returned (.complex .f64 pa pb)/\Below w.heap.size w w'/\w.drawn<=w'.drawn))
  (HC:Hid (∀w,Calls Tryz.prog 152 #[.agg #[.complex .f64 na nb,.int .i64 D],.complex .f64 a b] w fun e w'=>e=.returned (.complex .f64 qa qb)/\Below w.heap.size w w'/\w.drawn<=w'.drawn)):
  Calls Tryz.prog 100 #[.agg #[.complex .f64 na nb,.int .i64 D],.agg #[.complex .f64 a b,.int .i64 E]] w fun e w'=>e=.returned (.bool (FloatKind.f64.format.order pa qa == some .lt))/\Below w.heap.size w w':=by
 have hE:((w.alloc (.cells #[.complex .f64 na nb,.int .i64 D] 83)).alloc (.cells #[.complex .f64 a b,.int .i64 E] 83)).heap[w.heap.size]?=some (.cells #[.complex .f64 na nb,.int .i64 D] 83 (0,0)):=by
  rw[Below.heap_alloc _ _ _ (by simp)];exact heap_alloc_new _ _
 have hP:((w.alloc (.cells #[.complex .f64 na nb,.int .i64 D] 83)).alloc (.cells #[.complex .f64 a b,.int .i64 E] 83)).heap[w.heap.size+1]?=some (.cells #[.complex .f64 a b,.int .i64 E] 83 (0,0)):=by
  have:=heap_alloc_new (w.alloc (.cells #[.complex .f64 na nb,.int .i64 D] 83)) (.cells #[.complex .f64 a b,.int .i64 E] 83);simpa using this
 have hb0:Below w.heap.size w ((w.alloc (.cells #[.complex .f64 na nb,.int .i64 D] 83)).alloc (.cells #[.complex .f64 a b,.int .i64 E] 83)):=((Below.refl _ _).alloc (ae _) _).alloc (by simp) _
 have hsz:w.heap.size+2=((w.alloc (.cells #[.complex .f64 na nb,.int .i64 D] 83)).alloc (.cells #[.complex .f64 a b,.int .i64 E] 83)).heap.size:=by simp
 go_enter Tryz.func100,Tryz.ntmps100
 go_wp2_with fail
 generalize(w.alloc (.cells #[.complex .f64 na nb,.int .i64 D] 83)).alloc (.cells #[.complex .f64 a b,.int .i64 E] 83)=W at*;generalize hB:w.heap.size=B at*;have cK:B<W.heap.size:=by omega
 have hzb:B+1<W.heap.size:=by omega
 have z0:W.cell? ⟨B,0,none⟩=some (.complex .f64 na nb):=cell_of hE 0;have z1:W.cell? ⟨B,1,none⟩=some (.int .i64 D):=cell_of hE 1;have z2:W.cell? ⟨B+1,0,none⟩=some (.complex .f64 a b):=cell_of hP 0;have z3:W.cell? ⟨B+1,1,none⟩=some (.int .i64 E):=cell_of hP 1
 go_region_held3 (fun w'=>w'.cell? ⟨B,0,none⟩=some (.complex .f64 na nb)/\w'.cell? ⟨B,1,none⟩=some (.int .i64 D)/\w'.cell? ⟨B+1,0,none⟩=some (.complex .f64 a b)/\w'.cell? ⟨B+1,1,none⟩=some (.int .i64 E)) (go_keep) (first
   |(go_at_call_of 152 (Value.complex FloatKind.f64 na nb);refine(HA.out _).mono ?_;rintro e w6 ⟨rfl,ax,_⟩;have iJ:B<w6.heap.size:=aL cK ax.size;have kF:B+1<w6.heap.size:=aL hzb ax.size;have u0:=(ax.cell (p:=⟨B,0,none⟩) cK).trans z0;have u1:=(ax.cell (p:=⟨B,1,none⟩) cK).trans z1;have u2:=(ax.cell (p:=⟨B+1,0,none⟩) hzb).trans z2;have u3:=(ax.cell (p:=⟨B+1,1,none⟩) hzb).trans z3)
   |(go_at_call_of 152 (Value.complex FloatKind.f64 a b);refine(HC.out _).mono ?_;rintro e w7 ⟨rfl,aT,_⟩;have v0:=(aT.cell (p:=⟨B,0,none⟩) iJ).trans u0;have v1:=(aT.cell (p:=⟨B,1,none⟩) iJ).trans u1;have v2:=(aT.cell (p:=⟨B+1,0,none⟩) kF).trans u2;have v3:=(aT.cell (p:=⟨B+1,1,none⟩) kF).trans u3))
 all_goals
  have ag:=(hb0.drew.trans (ax.mono (eo cK))).trans (aT.mono (eo iJ));clear ax aT hb0
  go_wp2_with fail
  go_ret
  exact⟨rfl,by rw[hB];exact ag⟩
theorem G6{na nb:Nat}{X Y D:Int}{a b:Nat}{x y E:Int}(g1:Fl na X)(g2:Fl nb Y)(h1:Fl a x)(h2:Fl b y)(b1:sm x)(b2:sm y)(bD:sm D)(bE:sm E)(c1:sm X)(c2:sm Y)(w:World):
  Calls Tryz.prog 100 #[.agg #[.complex .f64 na nb,.int .i64 D],.agg #[.complex .f64 a b,.int .i64 E]] w fun e w'=>e=.returned (.bool (decide (X*E<x*D)))/\Below w.heap.size w w':=by
 obtain⟨pa,pb,f1,f2,hs1⟩:=CO a b E g1 g2 c1 c2 bE;obtain⟨qa,qb,k1,k2,hs2⟩:=CO na nb D h1 h2 b1 b2 bD;rw[<-zS f1 k1];exact ad3 na nb a b pa pb qa qb D E w hs1 hs2
end Go.Proofs.YtkjhhooecopolaaGreatDoor
