import Derived.Test.YtkjhhooecopolaaGreatDoorFz12
set_option maxRecDepth 100000
set_option maxHeartbeats 4000000
namespace Go.Proofs.YtkjhhooecopolaaGreatDoor
open Go.Proofs.Tryz
open Value renaming int->I,complex->A,float->aA,agg->u
open IntKind renaming i64->J
open FloatKind renaming f64->C
open Ending renaming returned->aJ
open Go renaming World->G,Value->Y,floatOfInt->aM
open Option renaming none->Z
open Bool renaming false->aQ
section
open Go.RowKit
theorem oM(x:Int)(g:Nat): -(x.natAbs:Int)<=x.tdiv g/\x.tdiv g<=(x.natAbs:Int):=by
 have:(x.tdiv g).natAbs<=x.natAbs:=by
  rw[Int.natAbs_tdiv];exact Nat.div_le_self _ _
 omega
theorem aaK{a b:Nat}{x y:Int}(c:Int)(T:Fl a x)(V:Fl b y)(hx: -16000000<=x/\x<=16000000)(hy: -16000000<=y/\y<=16000000)(hD:c<0/\ -300000<=c)(d:Nat)(i:Int.gcd (Int.gcd x y:Nat) c=d)(w:G):
  M 37 #[A C a b,I J c] w λe w'=>e=aJ (u #[A C (aM C<|x.tdiv<|-(d:Int)) (aM C<|y.tdiv<|-(d:Int)),I J<|c.tdiv<|-(d:Int)])/\Below w.heap.size w w':=by
 have:0<d:=by rw[<-i];exact oI U
 have:Int.gcd x y<=16000000:=by
  by_cases Q:x=0
  .rw[Q,Int.gcd_zero_left];omega
  .have:=ajn (b:=y) Q;omega
 have:d<=300000:=by
  have:=ajo (a:=(Int.gcd x y:Nat)) (b:=c) U;omega
 have N:=T.int U U;have O:=V.int U U;have j:∀w,(convert 120 3<|aA C a).run prog w=.ok (I J x) w:=λw=>abL w 120 3 C J a x (by rw[underlying120];rfl) underlying3 N;have o:∀w,(convert 120 3<|aA C b).run prog w=.ok (I J y) w:=λw=>abL w 120 3 C J b y (by rw[underlying120];rfl) underlying3 O;have R:=hid<|λw1=>xS x y w1 U U;have S:H (∀w1,M 65 #[I J (Int.gcd x y:Nat),I J c] w1 λe w'=>e=aJ (I J (d:Int))/\Below w1.heap.size w1 w'):=λw1=>by rw[<-i];exact xS _ c w1 U U
 obtain⟨p,l⟩:=am<|x.tdiv<|-(d:Int);obtain⟨r,m⟩:=am<|y.tdiv<|-(d:Int);obtain⟨DQ,k⟩:=am<|c.tdiv<|-(d:Int);rw[<-l,<-m,<-k];have HP:H (∀w1,M 38 #[I J p,I J r] w1 λe w'=>e=aJ (A C (aM C p)<|aM C r)/\w'=w1):=λw1=>AK _ _ w1;have z:J.wrap (x.tdiv<|-(d:Int))=p:=by rw[l,sG,ah];have:=oM x d;omega
 have F:J.wrap (y.tdiv<|-(d:Int))=r:=by rw[m,sG,ah];have:=oM y d;omega
 have L:J.wrap (c.tdiv<|-(d:Int))=DQ:=by rw[k,sG,ah];have:=oM c d;omega
 have P:J.wrap (-(x.tdiv (d:Int)))=p:=by rw[<-sG];exact z
 have:J.wrap (-(y.tdiv (d:Int)))=r:=by rw[<-sG];exact F
 have:J.wrap (-(c.tdiv (d:Int)))=DQ:=by rw[<-sG];exact L
 have:J.wrap (-(d:Int))= -(d:Int):=by rw[ah];omega
 clear l m k;have:¬d=0:=U;have:¬(-(d:Int)=0):=U;generalize Int.gcd x y=Y at*;clear N O T V i;have X:=aa w<|.cells #[A C 0 0,I J 0] 83;have s:Below w.heap.size w (w.alloc<|.cells #[A C 0 0,I J 0] 83):=(Below.refl _ _).alloc (aX _) _;have Q:w.heap.size<(w.alloc<|.cells #[A C 0 0,I J 0] 83).heap.size:=E;go_enter func37,ntmps37;go_wp2_with (first |(simp only[j])|(simp only[o]));generalize w.alloc (.cells #[A C 0 0,I J 0] 83)=W at*;generalize hB:w.heap.size=B at*;refine(R.o _).mono ?_;rintro e w1 ⟨rfl,g⟩;go_wp2_with fail;refine(S.o _).mono ?_;rintro e w2 ⟨rfl,n⟩;have:=g.size;have f:=(n.block _ (show B<w1.heap.size by omega)).trans<|(g.block _ Q).trans X;have t:=(s.trans<|g.mono<|du Q).trans<|n.mono U;have e0:=bz f;have e1:=bw f;have:=bE f 0;have:=bE f 1;clear X f g n s;go_wp2_with fail;go_region_held3 (λw'=>w'.frozen? ⟨B,0,Z⟩=aQ/\w'.frozen? ⟨B,1,Z⟩=aQ) (go_keep) (first
  |(go_at_call 38;refine(HP.o _).mono ?_;rintro e w5 ⟨rfl,P⟩;subst P)
  |(simp only[fW];go_simp))
 go_wp2_with fail;refine ab (v:=u #[A C (aM C p) (aM C r),I J DQ]) (by simp[results,results37,go_sem,e0,e1]) rfl ⟨rfl,?_⟩;rw[hB];exact((t.setCell (aX _) _).setCell (aX _) _).drew
end
end Go.Proofs.YtkjhhooecopolaaGreatDoor
namespace Go.Proofs.YtkjhhooecopolaaGreatDoor.N
open Value renaming complex->A
open Go renaming Value->Y
abbrev Nd:=Int×Int×Int
structure Can(n:Nd):Prop where
 pos:0<n.2.2
 co:Int.gcd (Int.gcd n.1 n.2.1) n.2.2=1
def T(n:Nd):Qt:=(bu n.1 n.2.2,bu n.2.1 n.2.2)
theorem Nw{n m:Nd}(g:Can n)(e:n.1*m.2.2=m.1*n.2.2)(f:n.2.1*m.2.2=m.2.1*n.2.2):n.2.2∣m.2.2:=by
 have b:n.2.2∣n.1*m.2.2:=⟨m.1,by rw[e,dw]⟩;have c:n.2.2∣n.2.1*m.2.2:=⟨m.2.1,by rw[f,dw]⟩;have a:n.2.2∣(Int.gcd (n.1*m.2.2) (n.2.1*m.2.2):Int):=Km b c;rw[Int.gcd_mul_right] at a;have d:n.2.2∣(Int.gcd n.1 n.2.1:Int)*m.2.2:=by
  rw[ET] at a;rcases Int.natAbs_eq m.2.2 with h|h
  .rw[h];exact a
  .rw[h,pF];exact Int.dvd_neg.2 a
 exact FY (by rw[Vr];exact g.co) d
theorem aaL{n m:Nd}(g:Can n)(f:Can m)(c:n.1*m.2.2=m.1*n.2.2)(d:n.2.1*m.2.2=m.2.1*n.2.2):n=m:=by
 have a:=Nw g c d;have b:=Nw f c.symm d.symm;have:=Kn f.pos a;have:=Kn g.pos b;have e:n.2.2=m.2.2:=U;have h:m.2.2≠0:=by have:=f.pos;omega
 rw[e] at c d;have k:=Ke h c;have l:=Ke h d;exact dj k<|dj l e
theorem aaM{g z:Int}(a:0<g):(g*z).sign=z.sign:=by
 rw[Al,kw a,ui]
theorem vo{a b c d:Int}(p:0<b)(q:0<d):fc (bu a b) (bu c d)=(a*d-c*b).sign:=by
 obtain⟨g,v,e,f,m⟩:=kE (n:=a) (d:=b) U;obtain⟨k,x,h,l,t⟩:=kE (n:=c) (d:=d) U;have r:=m.2 p;have s:=t.2 q;unfold fc;have:a*d-c*b=(g*k)*((bu a b).1*(bu c d).2-(bu c d).1*(bu a b).2):=by
  generalize bu a b=A at*;generalize bu c d=B at*;rw[e,f,h,l];grind
 rw[this,aaM<|bD r s]
theorem dH{n:Nd}(h:Can n):dD (T n):=⟨lG (by have:=h.pos;omega),lG (by have:=h.pos;omega)⟩
theorem Cn{n m:Nd}(b:Can n)(a:Can m):pc (T n) (T m)=if(n.1*m.2.2-m.1*n.2.2).sign=0 then(n.2.1*m.2.2-m.2.1*n.2.2).sign else(n.1*m.2.2-m.1*n.2.2).sign:=by
 unfold pc T;rw[vo b.pos a.pos,vo b.pos a.pos]
theorem qg{n m:Nd}(d:Can n)(c:Can m)(h:pc (T n) (T m)=0):n=m:=by
 rw[Cn d c] at h;split at h
 .rename_i e;have:=pC.1 e;have:=pC.1 h;exact aaL d c U U
 .contradiction
theorem oN{n m:Nd}(b:Can n)(a:Can m)(h:T n=T m):n=m:=qg b a (by rw[h];exact tm _)
theorem Co{x y d k X Y P:Int}(b:d≠0)(c:x=k*X)(f:y=k*Y)(a:d=k*P)(l:0<P)(p:k.natAbs=Int.gcd (Int.gcd x y:Nat) d):Can (X,Y,P)/\T (X,Y,P)=(bu x d,bu y d):=by
 have r:k≠0:=by rintro rfl;rw[sD] at a;exact b a
 refine⟨⟨l,?_⟩,?_⟩
 .show Int.gcd (Int.gcd X Y:Nat) P=1;have g:Int.gcd x y=k.natAbs*Int.gcd X Y:=by rw[c,f,Kg]
  have h:Int.gcd (Int.gcd x y:Nat) d=k.natAbs*Int.gcd (Int.gcd X Y:Nat) P:=by
   have:Int.gcd (k*((Int.gcd X Y:Nat):Int)) (k*P)=k.natAbs*Int.gcd (Int.gcd X Y:Nat) P:=Kg ..;rw[<-this,g,a];unfold Int.gcd;congr 1;rw[kz];simp[Int.natAbs_mul]
  rw[h] at p;have q:0<k.natAbs:=U;exact ajl q U
 .unfold T;show(bu X P,bu Y P)=_;rw[q9 (n:=X) (d:=P) (m:=x) (e:=d) U b (by rw[c,a];grind),q9 (n:=Y) (d:=P) (m:=y) (e:=d) U b (by rw[f,a];grind)]
theorem Cp{x g:Int}(h:g∣x):x=g*x.tdiv g:=(sA h).symm
end Go.Proofs.YtkjhhooecopolaaGreatDoor.N
namespace Go.Proofs.YtkjhhooecopolaaGreatDoor
open Value renaming int->I,complex->A,agg->u,slice->D
open IntKind renaming i64->J
open FloatKind renaming f64->C
open Go renaming World->G,Value->Y,floatOfInt->aM
open Go.RowKit
def iQ(n:N.Nd):Y:=u #[A C (aM C n.1) (aM C n.2.1),I J n.2.2]
theorem Cq{a b:Nat}{x y:Int}(D:Int)(B:Fl a x)(Q:Fl b y)(R: -16000000<=x/\x<=16000000)(S: -16000000<=y/\y<=16000000)(g:D≠0/\ -300000<=D/\D<=300000):
  ∃n:N.Nd,N.Can n/\N.T n=(N.bu x D,N.bu y D)/\eM n.1 n.2.1 n.2.2/\∀w,M 37 #[A C a b,I J D] w (ai (iQ n) w):=by
 obtain⟨G,f⟩:∃G,Int.gcd (Int.gcd x y:Nat) D=G:=⟨_,rfl⟩;have z:0<G:=by rw[<-f];exact Vp _ g.1
 have r:(G:Int)∣(Int.gcd x y:Nat):=by rw[<-f];exact wP ..
 have j:(G:Int)∣D:=by rw[<-f];exact ul ..
 have o:(G:Int)∣x:=wR r<|wP ..;have u:(G:Int)∣y:=wR r<|ul ..;have t:=N.Cp o;have v:=N.Cp u;have s:=N.Cp j;have bx:=oM x G;have i:=oM y G;have E:=oM D G;rcases dG D 0 with h|h|h
 .have c:=aaK D B Q R S ⟨h,g.2.1⟩ G f;rw[sG,sG,sG] at c;have l:0< -(D.tdiv G):=by
   rcases Int.lt_or_le (D.tdiv G) 0 with q|q
   .omega
   .have:=gM (Int.natCast_nonneg G) q;omega
  obtain⟨m,p⟩:=N.Co (x:=x) (y:=y) (d:=D) (k:= -(G:Int)) (X:= -(x.tdiv G)) (Y:= -(y.tdiv G)) (P:= -(D.tdiv G)) g.1 (t.trans (pD ..).symm) (v.trans (pD ..).symm) (s.trans (pD ..).symm) l (by rw[f];omega);exact⟨(-(x.tdiv G), -(y.tdiv G), -(D.tdiv G)),m,p,⟨by show(-(x.tdiv G)).natAbs<=_;omega,by show(-(y.tdiv G)).natAbs<=_;omega,l,by show -(D.tdiv G)<=_;omega⟩,c⟩
 .exact absurd h g.1
 .have c:=YM D B Q R S ⟨h,g.2.2⟩ G f;have l:0<D.tdiv G:=by
   rcases Int.lt_or_le 0 (D.tdiv G) with q|q
   .exact q
   .have:=gM (Int.natCast_nonneg G)<|Int.neg_nonneg_of_nonpos q;rw[pF] at this;omega
  obtain⟨m,p⟩:=N.Co (x:=x) (y:=y) (d:=D) (k:=(G:Int)) (X:=x.tdiv G) (Y:=y.tdiv G) (P:=D.tdiv G) g.1 t v s l (by rw[f];omega);exact⟨(x.tdiv G,y.tdiv G,D.tdiv G),m,p,⟨by show(x.tdiv G).natAbs<=_;omega,by show(y.tdiv G).natAbs<=_;omega,l,by show D.tdiv G<=_;omega⟩,c⟩
end Go.Proofs.YtkjhhooecopolaaGreatDoor
namespace Go.Proofs.YtkjhhooecopolaaGreatDoor
open Go.Proofs.Tryz
open Value renaming int->I,complex->A,float->aA,agg->u,bool->aC,slice->D,tuple->aG
open IntKind renaming i64->J
open FloatKind renaming f64->C
open Ending renaming returned->aJ
open Go renaming World->G,Value->Y,floatOfInt->aM
open Option renaming some->K,none->Z
open Bool renaming true->aP,false->aQ
section
open Go.RowKit
theorem Cr{e:Ed}(h:cM e):(-100<=e.2.1-e.1.1/\e.2.1-e.1.1<=100)/\(-100<=e.2.2-e.1.2/\e.2.2-e.1.2<=100):=by
 obtain⟨a,b,c,d⟩:=h;unfold small at a b c d;omega
theorem Nx(x y:EB)(e f:Ed)(b:jV x e)(c:jV y f)(n:cM e)(p:cM f)(w:G):
  M 179 #[u #[A C x.wa x.wb,aA C x.sh],u #[A C y.wa y.wb,aA C y.sh]] w (ai (aC<|decide (N.cH e f=0)) w):=by
 have j:=Cr n;have o:=Cr p;obtain⟨P,l,s⟩:=xQ b.wa b.wb c.wa c.wb (by unfold sm;omega) (by unfold sm;omega) (by unfold sm;omega) (by unfold sm;omega);have t:=hid s;have q:=oL l jU;have m:decide (N.cH e f=0)=(C.format.order P 0 == K .eq):=by rw[q];rfl
 rw[m];clear s q m l b c n p j o;obtain⟨S,i,sh,z,fb,D,F⟩:=x;obtain⟨g,k,d,v,B,Q,R⟩:=y;simp only at*;have a:ag w ((w.alloc<|.cells #[A C S i,aA C sh] 122).alloc<|.cells #[A C g k,aA C d] 122):=(aj _ _).alloc E _;go_enter func179,ntmps179;go_wp2_with fail;refine(t.out _).mono ?_;rintro e w1 ⟨rfl,rfl⟩;go_wp2_with fail;go_ret;exact⟨rfl,a⟩
theorem aaN(e f:Ed):(f.2.1-f.1.1)*((e.2.1-e.1.1)*e.1.2-(e.2.2-e.1.2)*e.1.1)-(e.2.1-e.1.1)*((f.2.1-f.1.1)*f.1.2-(f.2.2-f.1.2)*f.1.1)=N.mX e f:=by
 unfold N.mX N.mT N.cH;grind
theorem aaO(e f:Ed):(f.2.2-f.1.2)*((e.2.1-e.1.1)*e.1.2-(e.2.2-e.1.2)*e.1.1)-(e.2.2-e.1.2)*((f.2.1-f.1.1)*f.1.2-(f.2.2-f.1.2)*f.1.1)=N.mY e f:=by
 unfold N.mY N.mT N.cH;grind
theorem Ny{a b s z:Nat}{x y t:Int}(n:Fl a x)(p:Fl b y)(q:Fl s t)(r:Fl z 0)(h:sm x)(k:sm y)(g:sm t):
  ∃d c,(∀f w,(binOp .mul f (A C a b)<|A C s z).run prog w=.ok (A C d c) w)/\Fl d (x*t)/\Fl c (y*t):=by
 have v:=mn h g;have B:=mn k g;obtain⟨d,c,e,l,m⟩:=Gh n p q r U U U U U U;refine⟨d,c,λf w=>aj9 (P:=prog) w f a b s z d c e,?_,?_⟩
 .have:x*t=x*t-y*0:=U;rw[this];exact l
 .have:y*t=x*0+y*t:=U;rw[this];exact m
theorem aaP(x y:EB)(e f:Ed)(q:jV x e)(s:jV y f)(j:cM e)(o:cM f)(hc:N.cH e f≠0):
  ∃n:N.Nd,N.Can n/\N.T n=N.eF e f/\eM n.1 n.2.1 n.2.2/\∀w,M 180 #[u #[A C x.wa x.wb,aA C x.sh],u #[A C y.wa y.wb,aA C y.sh]] w λr w'=>r=aJ (iQ n)/\Below w.heap.size w w':=by
 have:=Cr j;have:=Cr o;have:=Gf j o;obtain⟨O,L,hl⟩:=xQ q.wa q.wb s.wa s.wb (by unfold sm;omega) (by unfold sm;omega) (by unfold sm;omega) (by unfold sm;omega);have i:(e.2.1-e.1.1)*(f.2.2-f.1.2)-(e.2.2-e.1.2)*(f.2.1-f.1.1)=N.cH e f:=rfl;rw[i] at L;have c1:=L.int U U;obtain⟨p1,p2,o1,g1,g2⟩:=Ny s.wa s.wb q.sh jU (by unfold sm;omega) (by unfold sm;omega)<|BK j;obtain⟨r1,r2,o2,k1,k2⟩:=Ny q.wa q.wb s.sh jU (by unfold sm;omega) (by unfold sm;omega)<|BK o;have G:=aaN e f;have K:=aaO e f;obtain⟨s1,s2,e3,V,X⟩:=Gg g1 g2 k1 k2 (by rw[G];omega) (by rw[K];omega);have o3:=λt w=>ahx (P:=prog) w .sub (F rfl) t C p1 p2 r1 r2 s1 s2 e3;rw[G] at V;rw[K] at X;obtain⟨n,n1,n2,n3,hN⟩:=Cq (N.cH e f) V X U U U;refine⟨n,n1,n2,n3,λw=>?_⟩;have Z:=hid hl;generalize N.cH e f=a at*;have:∀w,(convert 120 3<|aA C O).run prog w=.ok (I J a) w:=λw=>abL w 120 3 C J O a (by rw[underlying120];rfl) underlying3 c1;unfold iQ at*;generalize aM C n.1=N1 at*;generalize aM C n.2.1=N2 at*;have HN:=hid hN;obtain⟨z,D,sh,fa,fb,ta,tb⟩:=x;obtain⟨d,g,c,fa',fb',ta',tb'⟩:=y;simp only at*;have S:Below w.heap.size w ((w.alloc<|.cells #[A C z D,aA C sh] 122).alloc<|.cells #[A C d g,aA C c] 122):=((Below.refl _ _).alloc (aX _) _).alloc E _;go_enter func180,ntmps180;go_wp2_with (first |(simp only[o1])|(simp only[o2])|(simp only[o3]));have:w.heap.size+2=((w.alloc<|.cells #[A C z D,aA C sh] 122).alloc<|.cells #[A C d g,aA C c] 122).heap.size:=E;generalize(w.alloc<|.cells #[A C z D,aA C sh] 122).alloc (.cells #[A C d g,aA C c] 122)=k at*;have hE:=aa k<|.cells #[A C 0 0,I J 0] 83;have R:=S.alloc U<|.cells #[A C 0 0,I J 0] 83;have hz:k.heap.size<(k.alloc<|.cells #[A C 0 0,I J 0] 83).heap.size:=E;generalize k.alloc (.cells #[A C 0 0,I J 0] 83)=W at*;generalize hB:w.heap.size=B at*;generalize k.heap.size=Y at*;have Q:Y=B+1+1:=U;have l:B<=B+1+1:=U;subst Q;refine(Z.out _).mono ?_;rintro e w1 ⟨rfl,rfl⟩;go_wp2_with (simp only);refine(HN.out _).mono ?_;rintro e w2 ⟨rfl,m⟩;have b:=(m.block _ hz).trans hE;have p:=R.trans<|m.mono U;have e0:=bz b;have e1:=bw b;have:=bE b 0;have:=bE b 1;go_wp2_with (simp only[fW];go_simp);refine ab (v:=u #[A C N1 N2,I J n.2.2]) (by simp[results,results180,go_sem,e0,e1]) rfl ⟨rfl,?_⟩;rw[hB];exact(p.setCell l _).setCell l _
theorem aaQ(x y:EB)(w:G)
  (D:H (∀w,M 179 #[u #[A C x.wa x.wb,aA C x.sh],u #[A C y.wa y.wb,aA C y.sh]] w λr w'=>r=aJ (aC aP)/\Below w.heap.size w w')):
  M 123 #[u x.cells,u y.cells] w λr w'=>r=aJ (aG #[u #[A C 0 0,I J 0],aC aQ])/\Below w.heap.size w w':=by
 obtain⟨j,o,sh,Q,fb,S,i⟩:=x;obtain⟨l,m,f,b,c,g,k⟩:=y;simp only[EB.cells] at*
 go_enter func123,ntmps123;go_wp2_with fail;have t:w.heap.size+1+1=((w.alloc<|.cells #[A C j o,aA C sh,A C Q fb,A C S i] 124).alloc<|.cells #[A C l m,aA C f,A C b c,A C g k] 124).heap.size:=E;have p:Below w.heap.size w ((w.alloc<|.cells #[A C j o,aA C sh,A C Q fb,A C S i] 124).alloc<|.cells #[A C l m,aA C f,A C b c,A C g k] 124):=((Below.refl _ _).alloc (aX _) _).alloc E _;generalize(w.alloc<|.cells #[A C j o,aA C sh,A C Q fb,A C S i] 124).alloc (.cells #[A C l m,aA C f,A C b c,A C g k] 124)=P at*;have R:=aa P<|.cells #[A C 0 0,I J 0] 83;have q:=p.alloc U<|.cells #[A C 0 0,I J 0] 83;have z:P.heap.size<(P.alloc<|.cells #[A C 0 0,I J 0] 83).heap.size:=E;generalize P.alloc (.cells #[A C 0 0,I J 0] 83)=W at*;generalize K:w.heap.size=B at*;rw[<-t] at R z;refine(D.o _).mono ?_;rintro e w1 ⟨rfl,d⟩;have a:=(d.block _ z).trans R;have s:=q.trans<|d.mono U;have e0:=bz a;have F:=bw a;have:=bE a 0;have:=bE a 1;have n:B<=B+1+1:=U;clear R a q p d t;go_wp2_with (simp only[fW];go_simp);refine ab (v:=aG #[u #[A C 0 0,I J 0],aC aQ]) (by simp[results,results123,go_sem,e0,F]) rfl ⟨rfl,?_⟩;rw[K];exact(s.setCell n _).setCell n _
theorem aaR(x y:EB)(R i:Nat)(P:Int)(u1 u2:Bool)(w:G)
  (HP:H (∀w,M 179 #[u #[A C x.wa x.wb,aA C x.sh],u #[A C y.wa y.wb,aA C y.sh]] w λr w'=>r=aJ (aC aQ)/\Below w.heap.size w w'))
  (HC:H (∀w,M 180 #[u #[A C x.wa x.wb,aA C x.sh],u #[A C y.wa y.wb,aA C y.sh]] w λr w'=>r=aJ (u #[A C R i,I J P])/\Below w.heap.size w w'))
  (HX:H (∀w,M 62 #[u x.cells,u #[A C R i,I J P]] w λr w'=>r=aJ (aC u1)/\Below w.heap.size w w'))
  (HY:H (∀w,M 62 #[u y.cells,u #[A C R i,I J P]] w λr w'=>r=aJ (aC u2)/\Below w.heap.size w w')):
  M 123 #[u x.cells,u y.cells] w λr w'=>r=aJ (aG #[u #[A C R i,I J P],aC (u1&&u2)])/\Below w.heap.size w w':=by
 obtain⟨wa,wb,sh,fa,fb,ta,tb⟩:=x;obtain⟨t,Q,n,k,l,q,s⟩:=y;simp only[EB.cells] at*
 go_enter func123,ntmps123;go_wp2_with fail;have hs1:w.heap.size+1+1=((w.alloc<|.cells #[A C wa wb,aA C sh,A C fa fb,A C ta tb] 124).alloc<|.cells #[A C t Q,aA C n,A C k l,A C q s] 124).heap.size:=E;have hb0:Below w.heap.size w ((w.alloc<|.cells #[A C wa wb,aA C sh,A C fa fb,A C ta tb] 124).alloc<|.cells #[A C t Q,aA C n,A C k l,A C q s] 124):=((Below.refl _ _).alloc (aX _) _).alloc E _;have hX:((w.alloc<|.cells #[A C wa wb,aA C sh,A C fa fb,A C ta tb] 124).alloc<|.cells #[A C t Q,aA C n,A C k l,A C q s] 124).heap[w.heap.size]?=K (.cells #[A C wa wb,aA C sh,A C fa fb,A C ta tb] 124 (0,0)):=by
  rw[ad _ _ _ E];exact aa _ _
 have hY:((w.alloc<|.cells #[A C wa wb,aA C sh,A C fa fb,A C ta tb] 124).alloc<|.cells #[A C t Q,aA C n,A C k l,A C q s] 124).heap[w.heap.size+1]?=K (.cells #[A C t Q,aA C n,A C k l,A C q s] 124 (0,0)):=by
  have:=aa (w.alloc<|.cells #[A C wa wb,aA C sh,A C fa fb,A C ta tb] 124)<|.cells #[A C t Q,aA C n,A C k l,A C q s] 124;simpa using this
 generalize(w.alloc<|.cells #[A C wa wb,aA C sh,A C fa fb,A C ta tb] 124).alloc (.cells #[A C t Q,aA C n,A C k l,A C q s] 124)=W1 at*;have hE:=aa W1<|.cells #[A C 0 0,I J 0] 83;have Nz:=(ad W1 (.cells #[A C 0 0,I J 0] 83) w.heap.size U).trans hX;have NA:=(ad W1 (.cells #[A C 0 0,I J 0] 83) (w.heap.size+1) U).trans hY;have hb2:=hb0.alloc U<|.cells #[A C 0 0,I J 0] 83;have hz:W1.heap.size<(W1.alloc<|.cells #[A C 0 0,I J 0] 83).heap.size:=E;generalize W1.alloc (.cells #[A C 0 0,I J 0] 83)=W at*;generalize hB:w.heap.size=B at*;rw[<-hs1] at hE hz;clear hX hY hb0 hs1;refine(HP.o _).mono ?_;rintro e w1 ⟨rfl,N⟩;have hz1:=bg hz N.size;have xU:=(N.block _ hz).trans hE;have hX3:=(N.block B U).trans Nz;have hY3:=(N.block (B+1) U).trans NA;have ahP:=hb2.trans<|N.mono U;clear hE Nz NA hb2 N;have x0:=bz hX3;have x1:=bw hX3;have y0:=bz hY3;have y1:=bw hY3;go_wp2_with fail;refine(HC.o _).mono ?_;rintro e w2 ⟨rfl,O⟩;have hz2:=bg hz1 O.size;have NB:=(O.block _ hz1).trans xU;have ND:=(O.block B U).trans hX3;have NE:=(O.block (B+1) U).trans hY3;have ahR:=ahP.trans<|O.mono U;clear xU hX3 hY3 ahP O x0 x1 y0 y1;go_wp2_with fail;have hN:=aa w2<|.cells #[A C 0 0,I J 0] 83;have yx:=(ad w2 (.cells #[A C 0 0,I J 0] 83) _ hz2).trans NB;have NF:=(ad w2 (.cells #[A C 0 0,I J 0] 83) B U).trans ND;have NG:=(ad w2 (.cells #[A C 0 0,I J 0] 83) (B+1) U).trans NE;have ahS:=ahR.alloc U<|.cells #[A C 0 0,I J 0] 83;have hz3:w2.heap.size<(w2.alloc<|.cells #[A C 0 0,I J 0] 83).heap.size:=E;generalize w2.alloc (.cells #[A C 0 0,I J 0] 83)=W3 at*;generalize w2.heap.size=b at*;clear NB ND NE ahR;have n0:=bz hN;have n1:=bw hN;have f0:=bE hN 0;have f1:=bE hN 1;go_wp2_with (simp only[fW];go_simp);have j:b≠B/\b≠B+1/\b≠B+1+1:=U;have T:=(bY (o:=1) j.1.symm<|I J P).trans<|(bY (o:=0) j.1.symm<|A C R i).trans NF;have X:=(bY (o:=1) j.2.1.symm<|I J P).trans<|(bY (o:=0) j.2.1.symm<|A C R i).trans NG;have hae:=(bY (o:=1) j.2.2.symm<|I J P).trans<|(bY (o:=0) j.2.2.symm<|A C R i).trans yx;have a8:((W3.setCell ⟨b,0,Z⟩<|A C R i).setCell ⟨b,1,Z⟩<|I J P).cell? ⟨b,0,Z⟩=K (A C R i):=by simp[go_sem,n0]
 have a9:((W3.setCell ⟨b,0,Z⟩<|A C R i).setCell ⟨b,1,Z⟩<|I J P).cell? ⟨b,1,Z⟩=K (I J P):=by simp[go_sem,n1]
 have ahT:=(ahS.setCell (p:=⟨b,0,Z⟩) (by show B<=b;omega)<|A C R i).setCell (p:=⟨b,1,Z⟩) (by show B<=b;omega)<|I J P;have L:b<((W3.setCell ⟨b,0,Z⟩<|A C R i).setCell ⟨b,1,Z⟩<|I J P).heap.size:=by simpa using hz3
 generalize(W3.setCell ⟨b,0,Z⟩<|A C R i).setCell ⟨b,1,Z⟩ (I J P)=W4 at*;have d:=VB hz2 L;have NH:B<=W4.heap.size:=U;clear NF NG yx ahS n0 n1 f0 f1 hN hz3;have a0:=apL T 0;have a1:=apL T 1;have a2:=apL T 2;have a3:=apL T 3;have a4:=apL X 0;have a5:=apL X 1;have a6:=apL X 2;have a7:=apL X 3;simp at a0 a1 a2 a3 a4 a5 a6 a7;have ay0:=bE hae 0;have ay1:=bE hae 1;clear T X;obtain⟨m1,m2,m3⟩:=j;have m4:=lu m3;have BC:¬(B+1+1=B):=U;cases u1
 .refine aN (S:=(λw'=>w'.cell? ⟨B,0,Z⟩=K (A C wa wb)/\w'.cell? ⟨B,1,Z⟩=K (aA C sh)/\w'.cell? ⟨B,2,Z⟩=K (A C fa fb)/\w'.cell? ⟨B,3,Z⟩=K (A C ta tb)/\w'.cell? ⟨B+1,0,Z⟩=K (A C t Q)/\w'.cell? ⟨B+1,1,Z⟩=K (aA C n)/\w'.cell? ⟨B+1,2,Z⟩=K (A C k l)/\w'.cell? ⟨B+1,3,Z⟩=K (A C q s)/\w'.cell? ⟨b,0,Z⟩=K (A C R i)/\w'.cell? ⟨b,1,Z⟩=K (I J P)/\w'.frozen? ⟨B+1+1,0,Z⟩=aQ/\w'.frozen? ⟨B+1+1,1,Z⟩=aQ)) z ⟨a0,a1,a2,a3,a4,a5,a6,a7,a8,a9,ay0,ay1⟩ (λhHeld=>?_)
  iterate 3
   (
    refine gY (oi:=⟨_,_,_,_,_,_⟩) (v:=?_) rfl rfl (by rfl) hHeld ?_ ?_;rotate_left
    .intro w' F;obtain⟨s0,s1,s2,s3,s4,s5,s6,s7,s8,s9,rn,rp⟩:=F;go_simp
     try with_reducible rfl
    simp only[Act.put,dh,di,cQ])
  refine aI (rs:=[3]) z E ?_;refine aK rfl (λa hK=>?_) AllReadyH.nil;go_simp;refine(HX.o _).mono ?_;rintro e w6 ⟨rfl,c⟩;have b0:=aR c a0<|eb<|eb d;have b1:=aR c a1<|eb<|eb d;have b2:=aR c a2<|eb<|eb d;have b3:=aR c a3<|eb<|eb d;obtain⟨b4,b5,b6,b7⟩:=ajE c (eb d) a4 a5 a6 a7;have b8:=aR c a8 L;have b9:=aR c a9 L;have m:=(c.block (B+1+1) d).trans hae;have NK:=bz m;have NM:=bw m;have GA:=bE m 0;have GC:=bE m 1;go_wp2_with fail;refine hK.out _ _ ⟨b0,b1,b2,b3,b4,b5,b6,b7,b8,b9,GA,GC⟩<|λhHeld=>?_;clear hK a
  try simp only[Act.put,dh,di,cQ]
  refine gY (oi:=⟨_,_,_,_,_,_⟩) (v:=?_) rfl rfl (by rfl) hHeld ?_ ?_;rotate_left
  .intro w' F;obtain⟨s0,s1,s2,s3,s4,s5,s6,s7,s8,s9,rn,rp⟩:=F;go_simp
   try with_reducible rfl
  simp only[Act.put,dh,di,cQ]
  iterate 3
   (
    refine pL (oi:=⟨_,_,_,_,_,_⟩) rfl rfl hHeld ?_;simp only[Act.put,dh,di,cQ])
  refine gY (oi:=⟨_,_,_,_,_,_⟩) (v:=?_) rfl rfl (by rfl) hHeld ?_ ?_;rotate_left
  .intro w' F;obtain⟨s0,s1,s2,s3,s4,s5,s6,s7,s8,s9,rn,rp⟩:=F;go_simp
   try with_reducible rfl
  simp only[Act.put,dh,di,cQ];refine aI (rs:=[9]) z E ?_;refine aK rfl (λa hK=>?_) AllReadyH.nil;go_simp;simp only[fW];go_simp;refine hK.out _ _ ?_<|λhHeld=>?_
  .refine⟨?_,?_,?_,?_,?_,?_,?_,?_,?_,?_,?_,?_⟩<;>simp[World.frozen?_setCell,go_sem,b0,b1,b2,b3,b4,b5,b6,b7,b8,b9,GA,GC]
  clear hK a
  try simp only[Act.put,dh,di,cQ]
  refine gY (oi:=⟨_,_,_,_,_,_⟩) (v:=?_) rfl rfl (by rfl) hHeld ?_ ?_;rotate_left
  .intro w' F;obtain⟨s0,s1,s2,s3,s4,s5,s6,s7,s8,s9,rn,rp⟩:=F;go_simp
   try with_reducible rfl
  simp only[Act.put,dh,di,cQ];refine aO z ?_ _;go_wp2_with fail;refine ab (v:=aG #[u #[A C R i,I J P],aC aQ]) (by simp[results,results123,go_sem,NK,NM]) rfl ⟨rfl,?_⟩;rw[hB];exact((ahT.drew.trans<|c.mono NH).setCell (by show B<=B+1+1;omega) _).setCell (by show B<=B+1+1;omega) _
 .go_region_held3 (λw'=>w'.cell? ⟨B,0,Z⟩=K (A C wa wb)/\w'.cell? ⟨B,1,Z⟩=K (aA C sh)/\w'.cell? ⟨B,2,Z⟩=K (A C fa fb)/\w'.cell? ⟨B,3,Z⟩=K (A C ta tb)/\w'.cell? ⟨B+1,0,Z⟩=K (A C t Q)/\w'.cell? ⟨B+1,1,Z⟩=K (aA C n)/\w'.cell? ⟨B+1,2,Z⟩=K (A C k l)/\w'.cell? ⟨B+1,3,Z⟩=K (A C q s)/\w'.cell? ⟨b,0,Z⟩=K (A C R i)/\w'.cell? ⟨b,1,Z⟩=K (I J P)/\w'.frozen? ⟨B+1+1,0,Z⟩=aQ/\w'.frozen? ⟨B+1+1,1,Z⟩=aQ) (first |go_keep|(go_split_ands;refine⟨?_,?_,?_,?_,?_,?_,?_,?_,?_,?_,?_,?_⟩<;>first |(simp[World.frozen?_setCell, *];done)|(simp[*];done))) (first
   |(go_at_call_of 62 (u #[A C wa wb,aA C sh,A C fa fb,A C ta tb]);refine(HX.o _).mono ?_;rintro e w6 ⟨rfl,c⟩;have g:B+1+1<w6.heap.size:=bg d c.size;have hbm:b<w6.heap.size:=bg L c.size;have b0:=aR c a0<|eb<|eb d;have b1:=aR c a1<|eb<|eb d;have b2:=aR c a2<|eb<|eb d;have b3:=aR c a3<|eb<|eb d;obtain⟨b4,b5,b6,b7⟩:=ajE c (eb d) a4 a5 a6 a7;have b8:=aR c a8 L;have b9:=aR c a9 L;have m:=(c.block (B+1+1) d).trans hae;have NK:=bz m;have NM:=bw m;have GA:=bE m 0;have GC:=bE m 1)
   |(go_at_call_of 62 (u #[A C t Q,aA C n,A C k l,A C q s]);refine(HY.o _).mono ?_;rintro e w7 ⟨rfl,f⟩;have hcz:B+1+1<w7.heap.size:=bg g f.size;have hcm:b<w7.heap.size:=bg hbm f.size;have c0:=aR f b0<|eb<|eb g;have c1:=aR f b1<|eb<|eb g;have c2:=aR f b2<|eb<|eb g;have c3:=aR f b3<|eb<|eb g;obtain⟨c4,c5,c6,c7⟩:=ajE f (eb g) b4 b5 b6 b7;have c8:=aR f b8 hbm;have c9:=aR f b9 hbm;have hce:=(f.block (B+1+1) g).trans m;have cq0:=bz hce;have cq1:=bw hce;have cy0:=bE hce 0;have cy1:=bE hce 1)
   |(simp only[fW];go_simp))
  go_wp2_with fail;refine ab (v:=aG #[u #[A C R i,I J P],aC u2]) (by simp[results,results123,go_sem,cq0,cq1]) rfl ⟨rfl,?_⟩;rw[hB];exact(((ahT.drew.trans<|c.mono NH).trans<|f.mono<|du<|eb<|eb g).setCell (by show B<=B+1+1;omega) _).setCell (by show B<=B+1+1;omega) _
end
end Go.Proofs.YtkjhhooecopolaaGreatDoor
namespace Go.Proofs.YtkjhhooecopolaaGreatDoor.N
open Value renaming complex->A
open Go renaming Value->Y
theorem vp{n:Nd}(h:Can n)(e:O×O):hq (T n) e=fo (n.1,n.2.1) n.2.2 e:=by
 obtain⟨X,Y,P⟩:=n;have b:0<P:=h.pos;obtain⟨g,v,c,s,l⟩:=kE (n:=X) (d:=P) U;obtain⟨k,Q,f,t,m⟩:=kE (n:=Y) (d:=P) U;have a:=bD (l.2 b)<|m.2 b;unfold hq T;show fo ((bu X P).1*(bu Y P).2,(bu Y P).1*(bu X P).2) ((bu X P).2*(bu Y P).2) e=fo (X,Y) P e;rw[<-Nl (x:=P*X) (y:=P*Y) (d:=P*P) b rfl rfl rfl e];generalize bu X P=A at*;generalize bu Y P=B at*;have p:P*X=g*k*(A.1*B.2):=by rw[c];grind
 have q:P*Y=g*k*(B.1*A.2):=by rw[f];grind
 have r:P*P=g*k*(A.2*B.2):=by grind
 exact(Nl a p q r e).symm
end Go.Proofs.YtkjhhooecopolaaGreatDoor.N
namespace Go.Proofs.YtkjhhooecopolaaGreatDoor
open Value renaming int->I,complex->A,agg->u,bool->aC,tuple->aG
open IntKind renaming i64->J
open FloatKind renaming f64->C
open Go renaming Value->Y,floatOfInt->aM
open Bool renaming true->aP,false->aQ
open Go.RowKit
theorem nU{n:N.Nd}(h:eM n.1 n.2.1 n.2.2):Fl (aM C n.1) n.1/\Fl (aM C n.2.1) n.2.1:=by
 have:=h.x;have:=h.y;exact⟨rj U,rj U⟩
theorem aaW(x y:EB)(e f:Ed)(g:jV x e)(h:jV y f)(c:cM e)(d:cM f):
  ∃(v:N.Nd)(b:Bool)(m:Y),(∀w,M 123 #[u x.cells,u y.cells] w (ai (aG #[m,aC b]) w))
   /\(∃s t P,m=u #[A C s t,I J P])
   /\(b=aP↔N.cH e f≠0/\N.hq (N.eF e f) e=aP/\N.hq (N.eF e f) f=aP)
   /\(b=aP->m=iQ v/\N.Can v/\N.T v=N.eF e f/\eM v.1 v.2.1 v.2.2):=by
 by_cases a:N.cH e f=0
 .refine⟨(0,0,1),aQ,_,λw=>aaQ x y w<|λw=>?_,⟨_,_,_,rfl⟩,?_,?_⟩
  .have:=Nx x y e f g h c d w;rw[ff a] at this;exact this
  .simp[a]
  .simp
 .obtain⟨n,n1,l,k,B⟩:=aaP x y e f g h c d a;obtain⟨p,q⟩:=nU k;refine⟨n,N.hq (N.eF e f) e&&N.hq (N.eF e f) f,_,λw=>aaR x y (aM C n.1) (aM C n.2.1) n.2.2 _ _ w (λw=>?_) B (λw=>?_)<|λw=>?_,⟨_,_,_,rfl⟩,?_,?_⟩
  .have:=Nx x y e f g h c d w;rw[jd a] at this;exact this
  .rw[<-l,N.vp n1];exact BM x e g c p q k w
  .rw[<-l,N.vp n1];exact BM y f h d p q k w
  .simp[a]
  .exact λ_=>⟨rfl,n1,l,k⟩
end Go.Proofs.YtkjhhooecopolaaGreatDoor
namespace Go.Proofs.YtkjhhooecopolaaGreatDoor
open Go.Proofs.Tryz
open Value renaming int->I,complex->A,float->aA,agg->u,bool->aC,slice->D
open IntKind renaming i64->J
open FloatKind renaming f64->C
open Ending renaming returned->aJ
open Go renaming World->G
open Option renaming some->K,none->Z
open Bool renaming true->aP,false->aQ
section
open Go.RowKit
variable{a b s:Nat}
theorem NN{x:Int}(h:Fl a x)(w:G):
  M 227 #[aA C a] w λr w'=>r=aJ (aC aQ)/\w'=w:=by
 have q:(C.format.order a a == K Ordering.eq)=aP:=by rw[oL h h];simp
 have:(C.format.order a a)=K Ordering.eq:=by simpa using q
 go_enter func227,ntmps227;go_wp2_with fail;go_ret;exact⟨E,rfl⟩
theorem tF{x y:Int}(l:Fl a x)(m:Fl b y)(w:G):
  M 183 #[aA C a,aA C b] w λr w'=>r=aJ (I J (x-y).sign)/\w'=w:=by
 have g:=hid<|λw=>NN l w;have k:=hid<|λw=>NN m w;have c:=vf l m;have f:=BI l m;rcases dG x y with h|h|h
 .have d:(x-y).sign= -1:=qN U;have p:(C.format.order a b == K Ordering.lt)=aP:=by rw[c];simp[h]
  rw[d];clear c f;go_enter func183,ntmps183;go_wp2_with fail;refine(g.out _).mono ?_;rintro e w1 ⟨rfl,rfl⟩;go_wp2_with fail;refine(k.out _).mono ?_;rintro e q ⟨rfl,rfl⟩;go_wp2_with fail;go_ret;exact⟨rfl,rfl⟩
 .have d:(x-y).sign=0:=by rw[h,Kc];rfl
  have p:(C.format.order a b == K Ordering.lt)=aQ:=by rw[c];simp;omega
  have n:(C.format.order a b == K Ordering.gt)=aQ:=by rw[f];simp;omega
  rw[d];clear c f;go_enter func183,ntmps183;go_wp2_with fail;refine(g.out _).mono ?_;rintro e w1 ⟨rfl,rfl⟩;go_wp2_with fail;refine(k.out _).mono ?_;rintro e q ⟨rfl,rfl⟩;go_wp2_with fail;go_ret;exact⟨rfl,rfl⟩
 .have d:(x-y).sign=1:=kw U;have p:(C.format.order a b == K Ordering.lt)=aQ:=by rw[c];simp;omega
  have n:(C.format.order a b == K Ordering.gt)=aP:=by rw[f];simp[h]
  rw[d];clear c f;go_enter func183,ntmps183;go_wp2_with fail;refine(g.out _).mono ?_;rintro e w1 ⟨rfl,rfl⟩;go_wp2_with fail;refine(k.out _).mono ?_;rintro e q ⟨rfl,rfl⟩;go_wp2_with fail;go_ret;exact⟨rfl,rfl⟩
namespace N
def takes(r t:Int):Bool:=if r=101 then decide (t.tmod 2≠0) else if r=110 then decide (t≠0) else if r=43 then decide (0<t) else decide (t<0)
def rule(r:Int):Bool:=decide (r=101)||decide (r=110)||decide (r=43)||decide (r=45)
end N
theorem NO(r:Int)(w:G):M 66 #[I .u8 r] w λe w'=>e=aJ (aC<|N.rule r)/\w'=w:=by
 by_cases a:r=101
 .subst a;go_enter func66,ntmps66;go_wp2_with fail;go_ret;exact⟨rfl,rfl⟩
 .by_cases b:r=110
  .subst b;go_enter func66,ntmps66;go_wp2_with fail;go_ret;exact⟨rfl,rfl⟩
  .by_cases c:r=43
   .subst c;go_enter func66,ntmps66;go_wp2_with fail;go_ret;exact⟨rfl,rfl⟩
   .have d:N.rule r=(r == 45):=by
     unfold N.rule;simp only[a,b,c,decide_false,Ko];rfl
    rw[d];have:=ou.2 a;have:=ou.2 b;have:=ou.2 c;go_enter func66,ntmps66;go_wp2_with fail;go_ret;exact⟨rfl,rfl⟩
theorem aaX(r t:Int)(w:G):M 106 #[I .u8 r,I J t] w λe w'=>e=aJ (aC<|N.takes r t)/\w'=w:=by
 by_cases a:r=101
 .subst a;go_enter func106,ntmps106;go_wp2_with fail;refine ab (v:=aC<|t.tmod 2 != 0) (by simp[results,results106,go_sem]) rfl ⟨?_,rfl⟩;unfold N.takes;rw[y rfl];by_cases h:t.tmod 2=0<;>simp[h]
 .have:=ou.2 a;by_cases b:r=110
  .subst b;go_enter func106,ntmps106;go_wp2_with fail;refine ab (v:=aC<|t != 0) (by simp[results,results106,go_sem]) rfl ⟨?_,rfl⟩;unfold N.takes;rw[X ae,y rfl];by_cases h:t=0<;>simp[h]
  .have:=ou.2 b;by_cases c:r=43
   .subst c;go_enter func106,ntmps106;go_wp2_with fail;refine ab (v:=aC<|decide (0<t)) (by simp[results,results106,go_sem]) rfl ⟨?_,rfl⟩;unfold N.takes;rw[X ae,X ae,y rfl]
   .have:=ou.2 c;have d:N.takes r t=decide (t<0):=by
     unfold N.takes;rw[X a,X b,X c]
    rw[d];go_enter func106,ntmps106;go_wp2_with fail;refine ab (v:=aC<|decide (t<0)) (by simp[results,results106,go_sem]) rfl ⟨rfl,rfl⟩
theorem NQ(a b s:Nat)(w:G):M 162 #[u #[A C a b,aA C s]] w (ai (u #[A C (Op.negFloat C a) (Op.negFloat C b),aA C<|Op.negFloat C s]) w):=by
 have:∀w,(Op.unary .neg<|A C a b).run prog w=.ok (A C (Op.negFloat C a)<|Op.negFloat C b) w:=λ_=>rfl;have:∀w,(Op.unary .neg<|aA C s).run prog w=.ok (aA C<|Op.negFloat C s) w:=λ_=>rfl;generalize Op.negFloat C a=c at*;generalize Op.negFloat C b=B at*;generalize Op.negFloat C s=S at*
 go_enter func162,ntmps162;go_wp2_with (simp only[fW,mm];go_simp);refine ab (v:=u #[A C c B,aA C S]) (by simp[results,results162,go_sem]) rfl ⟨rfl,?_⟩;exact(aj _ _).alloc E _
namespace N
abbrev Ln:=Int×Int×Int
def vr(l:Ln):Ln:=(-l.1, -l.2.1, -l.2.2)
def down(l:Ln):Bool:=decide (l.1<0)||(decide (l.1=0)&&decide (l.2.1<0))
def gG(l:Ln):Ln:=if down l then vr l else l
end N
structure mr(a b s:Nat)(l:N.Ln):Prop where
 a:Fl a l.1
 b:Fl b l.2.1
 s:Fl s l.2.2
theorem mr.neg{l:N.Ln}(h:mr a b s l):mr (Op.negFloat C a) (Op.negFloat C b) (Op.negFloat C s) (N.vr l):=⟨h.a.neg,h.b.neg,h.s.neg⟩
theorem aaY{l:N.Ln}(h:mr a b s l):
  ∃y z F,mr y z F (N.gG l)/\∀w,M 198 #[u #[A C a b,aA C s]] w (ai (u #[A C y z,aA C F]) w):=by
 have n:=vf h.a jU;have q:=oL h.a jU;have r:=vf h.b jU;have t:=h.neg;have o:=hid<|λw=>NQ a b s w;unfold N.gG;cases d:N.down l
 .refine⟨a,b,s,h,λw=>?_⟩;unfold N.down at d;rw[<-n,<-q,<-r] at d;clear h t n q r o;generalize x:(C.format.order a 0 == K Ordering.lt)=R at d;generalize P:(C.format.order a 0 == K Ordering.eq)=i at d;generalize Q:(C.format.order b 0 == K Ordering.lt)=j at d;cases R<;>cases i<;>cases j<;>simp at d
  all_goals
   go_enter func198,ntmps198;go_wp2_with (simp only[fW,mm];go_simp);refine ab (v:=u #[A C a b,aA C s]) (by simp[results,results198,go_sem]) rfl ⟨rfl,?_⟩;exact(aj _ _).alloc E _
 .refine⟨_,_,_,t,λw=>?_⟩;unfold N.down at d;rw[<-n,<-q,<-r] at d;clear h t n q r;generalize Op.negFloat C a=c at*;generalize Op.negFloat C b=B at*;generalize Op.negFloat C s=S at*;generalize x:(C.format.order a 0 == K Ordering.lt)=R at d;generalize P:(C.format.order a 0 == K Ordering.eq)=i at d;generalize Q:(C.format.order b 0 == K Ordering.lt)=j at d;have g:ag w ((w.alloc<|.cells #[A C a b,aA C s] 122).alloc<|.cells #[A C 0 0,aA C 0] 122):=(aj _ _).alloc E _;have D:=aa (w.alloc<|.cells #[A C a b,aA C s] 122)<|.cells #[A C 0 0,aA C 0] 122;have I:(w.alloc<|.cells #[A C a b,aA C s] 122).heap.size=w.heap.size+1:=E;have:((w.alloc<|.cells #[A C a b,aA C s] 122).alloc<|.cells #[A C 0 0,aA C 0] 122).heap.size=w.heap.size+2:=E;rw[I] at D;cases R<;>cases i<;>cases j<;>simp at d
  all_goals
   go_enter func198,ntmps198;go_wp2_with fail;generalize(w.alloc<|.cells #[A C a b,aA C s] 122).alloc (.cells #[A C 0 0,aA C 0] 122)=W at*;refine(o.out _).mono ?_;rintro e w1 ⟨rfl,k⟩;have f:=(k.block (w.heap.size+1) U).trans D;have e0:=bz f;have G:=bw f;have:=bE f 0;have:=bE f 1;have m:=g.trans<|k.mono g.size;go_wp2_with (simp only[fW,mm];go_simp);refine ab (v:=u #[A C c B,aA C S]) (by simp[results,results198,go_sem,e0,G]) rfl ⟨rfl,?_⟩;exact(m.setCell (p:=⟨w.heap.size+1,0,Z⟩) (lX _) _).setCell (p:=⟨w.heap.size+1,1,Z⟩) (lX _) _
end
end Go.Proofs.YtkjhhooecopolaaGreatDoor
