import Derived.Test.YtkjhhooecopolaaGreatDoorFz10
set_option maxRecDepth 100000
set_option maxHeartbeats 4000000
namespace Go.Proofs.YtkjhhooecopolaaGreatDoor
open Go.Proofs.Tryz
open Value renaming int->I,complex->A,float->aA,agg->u,slice->D
open IntKind renaming i64->J
open FloatKind renaming f64->C
open Ending renaming returned->aJ
open Go renaming World->G,Value->Y,floatOfInt->aM
open Option renaming some->K,none->Z
open Bool renaming true->aP,false->aQ
section
open Go.RowKit
variable{w:G}{n cap k:Nat}
def mM(l:V EB):V Y:=l.flatMap λx=>x.cells.toList
def kG(w:G)(v:Y)(es:V Ed):Prop:=
 ∃a:V EB,a.length=es.length/\w.ownsRow 0 124 4 v es.length (mM a)/\∀(i:Nat) x e,a[i]?=K x->es[i]?=K e->jV x e
theorem MI:∀(l:V EB)(k:Nat)(e:EB),l[k]?=K e->∀j,j<4->(mM l)[k*4+j]?=e.cells[j]?
 |[],_,_,h,_,_=>by simp at h
 |q::r,0,e,h,j,b=>by
  simp at h;subst h;have a:mM (q::r)=q.cells.toList++mM r:=by simp[mM]
  rw[a,dQ (by simp[EB.cells];omega)];simp
 |q::r,k+1,e,h,j,b=>by
  have d:=MI r k e (by simpa using h) j b;have a:mM (q::r)=q.cells.toList++mM r:=by simp[mM]
  rw[a,jc (by simp[EB.cells];omega)];have c:(k+1)*4+j-q.cells.toList.length=k*4+j:=by simp[EB.cells];omega
  rw[c,d]
theorem BP{v:Y}{l:V Ed}(h:kG w v l):∃e cap,v=D e l.length cap:=by
 obtain⟨f,_,h,_⟩:=h;rcases h.2 with⟨a,d⟩|⟨b,cap,c,a,_⟩
 .exact⟨Z,0,by rw[a,d]⟩
 .exact⟨_,cap,a⟩
theorem BR{so:Option Addr}{l:V Ed}(h:kG w (D so n cap) l){e:Ed}(m:l[k]?=K e):
  ∃b x,so=K ⟨b,0,Z⟩/\b<w.heap.size/\jV x e/\w.cell? ⟨b,k*4,Z⟩=K (A C x.wa x.wb)/\w.cell? ⟨b,k*4+1,Z⟩=K (aA C x.sh)/\w.cell? ⟨b,k*4+2,Z⟩=K (A C x.fa x.fb)/\w.cell? ⟨b,k*4+3,Z⟩=K (A C x.ta x.tb):=by
 obtain⟨f,s,t,v⟩:=h;have r:k<f.length:=by rw[s];exact(bX.1 m).1
 obtain⟨x,p⟩:∃x,f[k]?=K x:=⟨_,be r⟩;have g:=MI f k x p;obtain⟨b,c,d,q,a⟩:=rf t<|g 0 U;injection d with d;exact⟨b,x,d,q,v k x e p m,a _ _<|g 0 U,a _ _<|g 1 U,a _ _<|g 2 U,a _ _<|g 3 U⟩
theorem YL(a b:Int):Int.gcd b (a.tmod b)=Int.gcd a b:=by
 unfold Int.gcd;rw[Int.natAbs_tmod];exact LX _ _
theorem xS(x y:Int)(w:G)(B: -1000000000000<=x/\x<=1000000000000)(P: -1000000000000<=y/\y<=1000000000000):
  M 65 #[I J x,I J y] w (ai (I J (Int.gcd x y:Int)) w):=by
 generalize s:Int.gcd x y=c;have n:=hid s;go_enter func65,ntmps65;go_wp2_with fail
 go_loopg [0,1] y.natAbs (λm q r wr=>∃a b:Int,q=I J a/\r=I J b/\m=b.natAbs/\Int.gcd a b=c/\(-1000000000000<=a/\a<=1000000000000)/\(-1000000000000<=b/\b<=1000000000000)/\H (ag w wr))
 case atStart=>exact⟨x,y,rfl,rfl,rfl,n.o,B,P,Below.refl _ _⟩
 case round=>
  obtain⟨a,b,rfl,rfl,rfl,k,S,t,g⟩:=hrel;by_cases l:b=0
  .subst l;have v:(c:Int)=max a (-a):=by
    rw[<-k,Int.gcd_zero_right];omega
   have p:=hid v;have:J.wrap (-a)= -a:=by rw[ah];omega
   go_wp2_with fail;go_ret;exact⟨by rw[p.o];rfl,g.o⟩
  .have f:=YL a b;have:(a.tmod b).natAbs<b.natAbs:=by rw[Int.natAbs_tmod];exact uq _ U
   have d:H (Int.gcd b (a.tmod b)=c/\(-1000000000000<=a.tmod b/\a.tmod b<=1000000000000)):=⟨f.trans k,U⟩;have:¬b=0:=l;generalize Q:a.tmod b=R at*
   go_wp2_with fail;go_region_held3 (λ_=>True) (trivial) (fail);go_wp2_with fail;go_roundg R.natAbs
   case measure=>omega
   case rel=>exact⟨b,R,rfl,rfl,rfl,d.o.1,t,d.o.2,g.o.drew⟩
theorem YM{a b:Nat}{x y:Int}(c:Int)(N:Fl a x)(O:Fl b y)(hx: -16000000<=x/\x<=16000000)(hy: -16000000<=y/\y<=16000000)(hD:0<c/\c<=300000)(d:Nat)(S:Int.gcd (Int.gcd x y:Nat) c=d)(w:G):
  M 37 #[A C a b,I J c] w λe w'=>e=aJ (u #[A C (aM C<|x.tdiv d) (aM C<|y.tdiv d),I J<|c.tdiv d])/\Below w.heap.size w w':=by
 have:0<d:=by rw[<-S];exact oI U
 have:Int.gcd x y<=16000000:=by
  by_cases s:x=0
  .rw[s,Int.gcd_zero_left];omega
  .have:=ajn (b:=y) s;omega
 have:d<=300000:=by
  have:=ajo (a:=(Int.gcd x y:Nat)) (b:=c) U;omega
 have F:=N.int U U;have L:=O.int U U;have i:∀w,(convert 120 3<|aA C a).run prog w=.ok (I J x) w:=λw=>abL w 120 3 C J a x (by rw[underlying120];rfl) underlying3 F;have j:∀w,(convert 120 3<|aA C b).run prog w=.ok (I J y) w:=λw=>abL w 120 3 C J b y (by rw[underlying120];rfl) underlying3 L;have Q:=hid<|λw1=>xS x y w1 U U;have R:H (∀w1,M 65 #[I J (Int.gcd x y:Nat),I J c] w1 λe w'=>e=aJ (I J (d:Int))/\Below w1.heap.size w1 w'):=λw1=>by rw[<-S];exact xS _ c w1 U U
 obtain⟨t,l⟩:=am<|x.tdiv (d:Int);obtain⟨P,m⟩:=am<|y.tdiv (d:Int);obtain⟨DQ,k⟩:=am<|c.tdiv (d:Int);rw[<-l,<-m,<-k];have X:H (∀w1,M 38 #[I J t,I J P] w1 λe w'=>e=aJ (A C (aM C t)<|aM C P)/\w'=w1):=λw1=>AK _ _ w1;have:J.wrap (x.tdiv (d:Int))=t:=by rw[l];exact afF _ _ ⟨U,U,U⟩
 have:J.wrap (y.tdiv (d:Int))=P:=by rw[m];exact afF _ _ ⟨U,U,U⟩
 have o:J.wrap (c.tdiv (d:Int))=DQ:=by rw[k];exact afF _ _ ⟨U,U,U⟩
 have:J.wrap (c/(d:Int))=DQ:=by rw[<-o,ER U]
 clear l m k;have:¬d=0:=U;have:(0:Int)<d:=U;generalize Int.gcd x y=V at*;clear F L N O S;have T:=aa w<|.cells #[A C 0 0,I J 0] 83;have p:Below w.heap.size w (w.alloc<|.cells #[A C 0 0,I J 0] 83):=(Below.refl _ _).alloc (aX _) _;have s:w.heap.size<(w.alloc<|.cells #[A C 0 0,I J 0] 83).heap.size:=E;go_enter func37,ntmps37;go_wp2_with (first |(simp only[i])|(simp only[j]));generalize w.alloc (.cells #[A C 0 0,I J 0] 83)=W at*;generalize hB:w.heap.size=B at*;refine(Q.o _).mono ?_;rintro e w1 ⟨rfl,g⟩;go_wp2_with fail;refine(R.o _).mono ?_;rintro e w2 ⟨rfl,n⟩;have:=g.size;have f:=(n.block _ (show B<w1.heap.size by omega)).trans<|(g.block _ s).trans T;have r:=(p.trans<|g.mono<|du s).trans<|n.mono U;have e0:=bz f;have Y:=bw f;have:=bE f 0;have:=bE f 1;clear T f g n p;go_wp2_with fail;go_region_held3 (λw'=>w'.frozen? ⟨B,0,Z⟩=aQ/\w'.frozen? ⟨B,1,Z⟩=aQ) (go_keep) (first
  |(go_at_call 38;refine(X.o _).mono ?_;rintro e w5 ⟨rfl,z⟩;subst z)
  |(simp only[fW];go_simp))
 go_wp2_with fail;refine ab (v:=u #[A C (aM C t) (aM C P),I J DQ]) (by simp[results,results37,go_sem,e0,Y]) rfl ⟨rfl,?_⟩;rw[hB];exact((r.setCell (aX _) _).setCell (aX _) _).drew
def Gy(w:G)(v:Y)(g:V (Int×Int)):Prop:=w.ownsRow 0 81 1 v g.length<|mL g
def yv(w:G)(v:Y)(rg:V (V (Int×Int))):Prop:=nJ 127 Gy w v rg
theorem aap{rb:Nat}{rv:Y}{rg:V (V (Int×Int))}(h:nF rb rv rg w):yv w rv rg:=by
 obtain⟨vs,a,b,c,_⟩:=h;exact⟨vs,a,iF b,λi u x d e=>iF<|c i u x d e⟩
theorem aaq{v:Y}{g:V (Int×Int)}(h:Gy w v g):∃e cap,v=D e g.length cap:=by
 rcases h.2 with⟨a,d⟩|⟨b,cap,c,a,_⟩
 .exact⟨Z,0,by rw[a,d]⟩
 .exact⟨_,cap,a⟩
theorem Ng{so:Option Addr}{g:V (Int×Int)}(e:Gy w (D so n cap) g){p:Int×Int}(l:g[k]?=K p):
  ∃b,so=K ⟨b,0,Z⟩/\b<w.heap.size/\w.cell? ⟨b,k,Z⟩=K (A C (aM C p.1)<|aM C p.2):=by
 have d:(mL g)[k]?=K (sX p):=by simp[mL,l]
 obtain⟨b,c,a,f,h⟩:=rf e d;injection a with a;exact⟨b,a,f,h _ _ d⟩
def tD(w:G)(c:Y)(a:V Ed)(wr:G):Prop:=
 (∃b:V EB,b.length=a.length/\wr.ownsRow w.heap.size 124 4 c a.length (mM b)/\∀(i:Nat) x e,b[i]?=K x->a[i]?=K e->jV x e)/\ag w wr
theorem aar(l:V EB)(e:EB):mM (l++[e])=mM l++e.cells.toList:=by simp[mM]
theorem aas:(Tryz.prog.info? 124).map (λi=>(i.zero,i.size,i.bytes))=K (K<|u #[A C 0 0,aA C 0,A C 0 0,A C 0 0],4,56):=z
theorem aat{xs:V EB}{acc:V Ed}{x:EB}{e:Ed}(a:xs.length=acc.length)(h:∀(i:Nat) x e,xs[i]?=K x->acc[i]?=K e->jV x e)(m:jV x e):
  ∀(i:Nat) y f,(xs++[x])[i]?=K y->(acc++[e])[i]?=K f->jV y f:=by
 intro i u y b c;by_cases l:i<xs.length
 .rw[dQ l] at b;rw[dQ U] at c;exact h i u y b c
 .have d:i=xs.length:=by
   have:=(bX.1 b).1;simp at this;omega
  subst d;have g:u=x:=by simpa using b.symm
  have k:y=e:=by rw[a] at c;simpa using c.symm
  subst g k;exact m
theorem aau(rg:V (V (Int×Int)))(v:Y)(w:G)(hR:yv w v rg)(hok:∀g∈rg,uL g/\g.length<=402)(hl:rg.length<=161604):
  M 36 #[v] w λe w'=>∃v,e=aJ v/\kG w' v (N.o rg)/\ag w w':=by
 obtain⟨so,cap,rfl⟩:=oH hR;have HR:=hid hR;have S:=hid hok;clear hR hok;have gh:H (tD w (D Z 0 0) [] w):=⟨⟨[],rfl,ak _ _ _ _,λi x e h=>by simp at h⟩,Below.refl _ _⟩;have R:H (∀i,(N.o<|rg.take i).length<=65000000):=λi=>by
  have h:=N.Br 402 (rg.take i)<|λg hg=>(S.o g<|kP hg).2;have h2:(rg.take i).length<=161604:=aq;omega
 go_enter func36,ntmps36;go_wp2_with fail
 go_loopg [3,11] rg.length (λm lv iv wr=>∃i:Nat,i+m=rg.length/\iv=I J i/\H (tD w lv (N.o<|rg.take i) wr))
 case atStart=>exact⟨0,U,rfl,gh⟩
 case round=>
  obtain⟨i,him,rfl,HE⟩:=hrel;have F7:=HE.o.2;clear gh;by_cases hlt:i<rg.length
  .obtain⟨g,hg⟩:∃g,rg[i]?=K g:=⟨_,be hlt⟩;obtain⟨b,u,rfl,hb,e0,u9⟩:=lF HR.o hg;obtain⟨gs,gc,rfl⟩:=aaq u9;have r0:=aR F7 e0 hb;have hgl:=(S.o g<|bB hg).2;have ahN:H (uL g):=(S.o g<|bB hg).1;have wC:=hid u9;have HT:=hid<|N.L3 hg;have XJ:=R.o i;have iH:(i:Int)<(rg.length:Int):=U;obtain⟨m1,jG⟩:=am gk;generalize N.o (rg.take i)=A1 at*;clear hg e0 u9 S HR R;go_wp2_with fail
   go_loopg [3,17] g.length (λm lv nv wr=>∃n:Nat,n+m=g.length/\nv=I J n/\H (tD w lv (A1++N.gZ g n) wr))
   case atStart=>exact⟨0,U,rfl,by simpa[N.L0] using HE⟩
   case round=>
    obtain⟨n,vb,rfl,d⟩:=hrel;have c:=d.o.2;clear HE r0;by_cases By:n<g.length
    .obtain⟨P,hP⟩:∃P,g[n]?=K P:=⟨_,be By⟩;obtain⟨b3,rfl,hb3,p0⟩:=Ng wC.o hP;have r0:=aR c p0 hb3;have Mh:(n:Int)<(g.length:Int):=U;obtain⟨a,Q,hQ,rm,hM⟩:∃(a:Nat)(Q:Int×Int),g[a]?=K Q/\N.oJ g n=K Q/\(((n:Int)+1)%(g.length:Int)=(a:Int)/\a<g.length/\(n+1)%g.length=a):=by
      by_cases B:n+1<g.length
      .exact⟨n+1,_,be B,by unfold N.oJ;rw[y B];exact be B,by rw[Int.emod_eq_of_lt U U];omega,B,VA B⟩
      .have BC:n+1=g.length:=U;exact⟨0,_,be (show 0<g.length by omega),by unfold N.oJ;rw[X B];exact be (show 0<g.length by omega),by rw[show((n:Int)+1)=(g.length:Int) by omega,Int.emod_self];rfl,U,by rw[BC,Nat.mod_self]⟩
     obtain⟨hM1,hM2,hM3⟩:=hM;obtain⟨b4,A,_,f0⟩:=Ng wC.o hQ;injection A with A;injection A with A;subst A;have s0:=aR c f0 hb3;have hMl:(a:Int)<(g.length:Int):=U;have Nh:¬(g.length=0):=U;have HP:=hid hP;have HQ:=hid rm;have j:=hid<|ahN.o P<|bB hP;have z:=hid<|ahN.o Q<|bB hQ;obtain⟨O,T⟩:=P;obtain⟨W,Q2⟩:=Q;clear p0 f0 hP hQ rm;simp only at r0 s0;have f:Fl (aM C O) O:=rj (by have:=j.o.1;unfold mf at this;omega);have l:Fl (aM C T) T:=rj (by have:=j.o.2;unfold mf at this;omega);have p:Fl (aM C W) W:=rj (by have:=z.o.1;unfold mf at this;omega);have q:Fl (aM C Q2) Q2:=rj (by have:=z.o.2;unfold mf at this;omega);have s:(!((C.format.order (aM C O) (aM C W) == K .eq)&&(C.format.order (aM C T) (aM C Q2) == K .eq)))= !(decide (O=W)&&decide (T=Q2)):=by
      rw[oL f p,oL l q]
     obtain⟨wa,wb,sh,l1,l2,l3,Ni⟩:=YF f l p q (by have:=j.o.1;unfold mf at this;omega) (by have:=j.o.2;unfold mf at this;omega) (by have:=z.o.1;unfold mf at this;omega) (by have:=z.o.2;unfold mf at this;omega);have HX:H (jV ⟨wa,wb,sh,aM C O,aM C T,aM C W,aM C Q2⟩ ((O,T),(W,Q2))):=⟨l1,l2,l3,f,l,p,q⟩;have HLT:=hid Ni;clear Ni l1 l2 l3 f l p q j z;generalize aM C O=f at*;generalize aM C T=l at*;generalize aM C W=p at*;generalize aM C Q2=q at*;by_cases Dj:(O,T)=(W,Q2)
     .injection Dj with F L;have hc:(!((C.format.order f p == K .eq)&&(C.format.order l q == K .eq)))=aQ:=by rw[s,F,L];simp
      have HN:H (tD w u3 (A1++N.gZ g (n+1)) wr):=by
       rw[N.L1 HP.o HQ.o<|by rw[F,L]];exact d.o
      clear s F L d;go_wp2_with fail;go_roundg (gk-1)
      case measure=>omega
      case rel=>exact⟨n+1,U,af,HN⟩
     .have hc:(!((C.format.order f p == K .eq)&&(C.format.order l q == K .eq)))=aP:=by
       rw[s];by_cases h1:O=W
       .by_cases h2:T=Q2
        .exact absurd (by rw[h1,h2]) Dj
        .simp[h2]
       .simp[h1]
      have Gd:=hid<|N.L2 HP.o HQ.o Dj;have hal:(A1++N.gZ g n).length<=65000402:=by
       have:=N.Bq g n;simp only[bG];omega
      obtain⟨A3,qd⟩:=am<|A1++N.gZ g n;have HA:=hid qd;rw[<-qd] at hal d;clear s Dj qd;go_wp2_with fail;refine(HLT.o _).mono ?_;rintro e w5 ⟨rfl,jS⟩;obtain⟨⟨xs,hx1,hx2,hx3⟩,_⟩:=d.o;have Nj:=hid hx3;have r:=c.trans<|jS.mono c.size;have aU:=bH hx2 λk hk=>jS.block k (bn hx2 k hk).2;have hs5:=r.size;clear hx2 hx3 d;go_wp2_with (at_builtin;refine ii rfl aas underlying72 (ed aU) (aa _ _) ?_;intro g' cap' w6 mj t Mn);have HN:H (tD w (D (K ⟨g',0,Z⟩) (A3.length+1) cap') (A1++N.gZ g (n+1)) w6):=by
       rw[Gd.o,<-ep,<-HA.o];refine⟨⟨xs++[⟨wa,wb,sh,f,l,p,q⟩],by simp[hx1],?_,aat hx1 Nj.o HX.o⟩,(r.alloc r.size _).grown t aq<|λk hk=>(bn aU k hk).1⟩;rw[aar,bG];exact mj
      clear mj t aU HX Nj HLT;go_roundg (gk-1)
      case measure=>omega
      case rel=>exact⟨n+1,U,af,HN⟩
    .have hn:n=g.length:=U;subst hn;have HN:H (tD w u3 (N.o<|rg.take<|i+1) wr):=by
      rw[HT.o,<-N.Bp];exact d.o
     clear d wC HT;go_wp2_with fail;go_roundg (m1-1)
     case measure=>omega
     case rel=>exact⟨i+1,U,af,HN⟩
  .have hk:i=rg.length:=U;subst hk;have HF:H (tD w u3 (N.o rg) wr):=by
    have:=HE.o;rw[dV] at this;exact this
   clear HE HR S R;go_wp2_with fail;go_ret;obtain⟨⟨xs,h1,h2,h3⟩,h4⟩:=HF.o;exact⟨_,rfl,⟨xs,h1,iF h2,h3⟩,h4⟩
namespace N
theorem Nk{x y d X Y D G:Int}(c:x=G*X)(e:y=G*Y)(b:d=G*D)(a:O):rel (x,y) d a=(G*(rel (X,Y) D a).1,G*(rel (X,Y) D a).2):=by
 unfold rel;rw[c,e,b];simp only[EX];constructor<;>grind
theorem sc{G z:Int}(h:0<G):(0<G*z↔0<z)/\(G*z<0↔z<0)/\(G*z=0↔z=0)/\(G*z<=0↔z<=0):=by
 rcases dG z 0 with a|a|a
 .have:=oz h a;omega
 .subst a;omega
 .have:=bD h a;omega
theorem aay(G:Int)(u v:O):L (G*u.1,G*u.2) (G*v.1,G*v.2)=(G*G)*L u v:=by unfold L;grind
theorem aaz(G:Int)(u v:O):i (G*u.1,G*u.2) (G*v.1,G*v.2)=(G*G)*i u v:=by unfold i;grind
theorem Nl{x y d X Y D G:Int}(b:0<G)(f:x=G*X)(g:y=G*Y)(c:d=G*D)(e:O×O):fo (x,y) d e=fo (X,Y) D e:=by
 unfold fo on;rw[Nk f g c,Nk f g c,aay,aaz];have a:=bD b b;congr 1
 .exact decide_eq_decide.2 (sc a).2.2.1
 .exact decide_eq_decide.2 (sc a).2.2.2
theorem aaA{f g:O->O->Int}(l:V (O×O))(h:∀a b,f a b=g a b):total f l=total g l:=by
 unfold total;congr 1;exact ly λe _=>h e.1 e.2
end N
theorem aaB{s:V UInt8}(h:(Pl.err s).1=0):mg (Pl.bO<|Pl.all s).2.2:=by
 cases a:(Pl.wd Pl.ew<|Pl.all s).1
 .exact(Pl.LH h a).2.1
 .obtain⟨d,e,b,_⟩:=Pl.LG h a;rw[e];exact⟨E,λg c=>by rw[cI.1 c];exact b⟩
theorem aaC{ps:V (V<|V (Int×Int))}(h:∀p∈ps,p.length<=402):ps.flatten.length<=ps.length*402:=by
 induction ps with
 |nil=>simp
 |cons p r b=>
  have:=b (λx a=>h x<|by simp[a]);have:=h p E;rw[um,bG,dc,Ak];omega
theorem Gz{s:V UInt8}(h:(Pl.err s).1=0):(∀g∈Pl.rings s,uL g/\g.length<=402)/\(Pl.rings s).length<=161604/\(∀e∈N.o (Pl.rings s),cM e)/\(N.o<|Pl.rings s).length<=65000000:=by
 have a:=aaB h;refine⟨λg d=>?_,?_,aav a,aaw a⟩
 .obtain⟨p,c,b⟩:=pG.1 d;exact(a.2 p c).2 g b
 .have:=aaC<|λp c=>(a.2 p c).1;have:=a.1;unfold Pl.rings;omega
theorem O7{w':G}{v:Y}{es:V Ed}(h:kG w v es)(e:ag w w'):kG w' v es:=by
 obtain⟨g,b,c,d⟩:=h;exact⟨g,b,tc c λk a f=>e.block k<|apJ f,d⟩
end
end Go.Proofs.YtkjhhooecopolaaGreatDoor
