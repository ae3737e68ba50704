import Derived.Test.YtkjhhooecopolaaGreatDoorFz01
import Derived.Test.YtkjhhooecopolaaGreatDoorFz18
set_option maxRecDepth 100000
set_option maxHeartbeats 4000000
namespace Go.Proofs.YtkjhhooecopolaaGreatDoor
open Go.Proofs.Tryz
open Value renaming int->I,complex->A,agg->u,bool->aC,slice->D,tuple->aG
open IntKind renaming i64->J
open FloatKind renaming f64->C
open Ending renaming returned->aJ
open Go renaming World->G,Value->Y
open Option renaming some->K,none->Z
open Bool renaming true->aP,false->aQ
section
open Go.RowKit
variable{w w' w1 w2 wr W5 w6:G}{XN XD YN YD x d DX DY:Int}{n b k base:Nat}{a0 a1 a2 a3 a4 a5 a6 a7 a8 a9 qS uz a12 v lv nP:Y}
theorem dp{X:Nat}{o:Obj}(a:ag w w')(h:w.heap[X]?=K o):w'.heap[X]?=K o:=(a.block X<|apJ h).trans h
theorem dS(W:G)(o:Obj):ag W (W.alloc o):=(Below.refl W.heap.size W).alloc (aX _) o
theorem cU(h:Below n w w1)(a:ag w1 w2)(b:n<=w.heap.size):Below n w w2:=h.trans<|a.mono<|el b h.size
theorem abn(f g:Int)(w:G):Sem.run prog (Instr.field 97 (u #[I J f,I J g]) 1) w=.ok (I J g) w:=by
 kernel_rfl
theorem abo(a b c d f g m:Int)(w:G)(q:H (∀w1,M 46 #[I J b,I J d] w1 λe w'=>e=aJ (u #[I J f,I J g])/\Below w1.heap.size w1 w'))(t:J.wrap (b*g)=m):
  M 278 #[u #[I J a,I J b,I J c,I J d]] w λe w'=>e=aJ (I J m)/\Below w.heap.size w w':=by
 have l:=aa w<|.cells #[I J a,I J b,I J c,I J d] 100;have n:Below w.heap.size w (w.alloc<|.cells #[I J a,I J b,I J c,I J d] 100):=(Below.refl _ _).alloc (aX _) _;go_enter func278,ntmps278;go_wp2_with fail;generalize w.alloc (.cells #[I J a,I J b,I J c,I J d] 100)=W at*;generalize r:w.heap.size=B at*;have s:=bw l;have z3:=bV l;have p:=apJ l;have:=abn f g;go_region_held3 (λw'=>w'.cell? ⟨B,1,Z⟩=K (I J b)/\w'.cell? ⟨B,3,Z⟩=K (I J d)) (go_keep) (first
   |(go_at_call 46;refine(q.o _).mono ?_;rintro e w1 ⟨rfl,k⟩;have:=aR k s p;have:=aR k z3 p))
 go_wp2_with fail;go_ret;exact⟨rfl,r.symm▸cU n.drew k U⟩
theorem abp(f m g n k p l q v a j o y z X Y S A C D P4:Int)(w:G)
  (H1:H (∀w1,M 278 #[u #[I J f,I J m,I J g,I J n]] w1 (ai (I J v) w1)))
  (H2:H (∀w1,M 278 #[u #[I J k,I J p,I J l,I J q]] w1 (ai (I J a) w1)))
  (H3:H (∀w1,M 46 #[I J X,I J S] w1 (ai (u #[I J A,I J C]) w1)))
  (H4:H (∀w1,M 46 #[I J Y,I J S] w1 (ai (u #[I J D,I J P4]) w1)))
  (z1:¬m=0)(z2:¬n=0)(z3:¬p=0)(z4:¬q=0)(k1:J.wrap (v.tdiv m)=j)(k2:J.wrap (a.tdiv p)=o)(k3:J.wrap (v.tdiv n)=y)(k4:J.wrap (a.tdiv q)=z)
  (m1:J.wrap (f*j)=f*j)(m2:J.wrap (k*o)=k*o)(m3:J.wrap (f*j+k*o)=X)(m4:J.wrap (g*y)=g*y)(m5:J.wrap (l*z)=l*z)(m6:J.wrap (g*y+l*z)=Y)(m7:J.wrap (v+a)=S):
  M 231 #[u #[I J f,I J m,I J g,I J n],u #[I J k,I J p,I J l,I J q]] w (ai (u #[I J A,I J C,I J D,I J P4]) w):=by
 obtain⟨W,P⟩:=am<|((w.alloc<|.cells #[I J f,I J m,I J g,I J n] 100).alloc<|.cells #[I J k,I J p,I J l,I J q] 100).alloc<|.cells #[I J 0,I J 0,I J 0,I J 0] 100;have t:W.heap[w.heap.size]?=K (.cells #[I J f,I J m,I J g,I J n] 100 (0,0)):=by
  rw[P];exact dp (dS _ _)<|dp (dS _ _)<|aa _ _
 have c:W.heap[w.heap.size+1]?=K (.cells #[I J k,I J p,I J l,I J q] 100 (0,0)):=by
  rw[P];refine dp (dS _ _) ?_;have:=aa (w.alloc<|.cells #[I J f,I J m,I J g,I J n] 100)<|.cells #[I J k,I J p,I J l,I J q] 100;simpa using this
 have x:W.heap[w.heap.size+2]?=K (.cells #[I J 0,I J 0,I J 0,I J 0] 100 (0,0)):=by
  rw[P];have:=aa ((w.alloc<|.cells #[I J f,I J m,I J g,I J n] 100).alloc<|.cells #[I J k,I J p,I J l,I J q] 100)<|.cells #[I J 0,I J 0,I J 0,I J 0] 100;simpa using this
 have d:Below w.heap.size w W:=by
  rw[P];exact cU (cU (dS _ _) (dS _ _)<|aX _) (dS _ _)<|aX _
 obtain⟨B,i⟩:=am w.heap.size;go_enter func231,ntmps231;go_wp2_with fail;rw[<-P,<-i];rw[<-i] at t c x d;have HB:=hid i;have s:B<=w.heap.size:=U;clear P i;refine(H1.o _).mono ?_;rintro e w1 ⟨rfl,r⟩;replace t:=dp r t;replace c:=dp r c;replace x:=dp r x;replace d:=cU d r s;clear r;obtain⟨V,j1,j2,j3⟩:=ajG c;go_wp2_with fail;clear V j1 j2 j3;refine(H2.o _).mono ?_;rintro e w2 ⟨rfl,r⟩;replace t:=dp r t;replace c:=dp r c;replace x:=dp r x;replace d:=cU d r s;obtain⟨i0,i1,i2,i3⟩:=ajG t;obtain⟨V,j1,j2,j3⟩:=ajG c;go_wp2_with fail;go_region_held3 (λw'=>apQ w' B (I J f) (I J m) (I J g) (I J n)/\apQ w' (B+1) (I J k) (I J p) (I J l) (I J q)) (go_keep) (fail);go_wp2_with fail;go_region_held3 (λw'=>apQ w' B (I J f) (I J m) (I J g) (I J n)/\apQ w' (B+1) (I J k) (I J p) (I J l) (I J q)) (go_keep) (fail);go_wp2_with fail;refine(H3.o _).mono ?_;rintro e w3 ⟨rfl,Q⟩;have F:=dp Q (show w2.drew.drew.heap[B+2]?=_ from x);go_wp2_with fail;refine(H4.o _).mono ?_;rintro e w4 ⟨rfl,R⟩;have b:=dp R F;have Yc:=dC b 0;have Ye:=dC b 1;have Yg:=dC b 2;have Yi:=dC b 3;obtain⟨L,N,O,T⟩:=ajG b;go_wp2_with fail;have hL:=cU (cU d.drew.drew Q s) R s;refine ab (v:=u #[I J A,I J C,I J D,I J P4]) (by simp[results,results231,go_sem,L,N,O,T]) rfl ⟨rfl,?_⟩;show Below _ _ _;rw[<-HB.o];exact(((hL.setCell aq _).setCell aq _).setCell aq _).setCell aq _
namespace N
theorem yC{a b:Int}(h:0<a*b)(c:0<a):0<b:=by
 apply gP;intro q;have:=An (dU c) (show b<=0 by omega);omega
theorem abq{n:Nd}(p:Can n):(T n).1.2*(bu (T n).1.2 (T n).2.2).2=n.2.2:=by
 obtain⟨x,y,d⟩:=n;have q:0<d:=p.pos;obtain⟨g,_,o,s,u⟩:=kE (n:=x) (d:=d) U;obtain⟨h,_,w,F,z⟩:=kE (n:=y) (d:=d) U;have A:=u.2 q;have f:=z.2 q;show(bu x d).2*(bu (bu x d).2 (bu y d).2).2=d;generalize bu x d=P at*;generalize bu y d=Q at*;have D:0<Q.2:=yC (show 0<h*Q.2 by omega) f;obtain⟨k,_,G,H,z3⟩:=kE (n:=P.2) (d:=Q.2) U;have l:=lG (n:=P.2) (d:=Q.2) U;generalize bu P.2 Q.2=R at*;have v:g*R.1=h*R.2:=by
  have:k*(g*R.1)=k*(h*R.2):=by grind
  exact nu U this
 have t:R.2∣g:=by
  have a:R.2∣g*R.1:=⟨h,by rw[v,dw]⟩;have b:=Km a (show R.2∣g*R.2 from⟨g,dw _ _⟩);rw[Kg,l.co,Nat.mul_one] at b;exact Int.dvd_natAbs.1 b
 obtain⟨m,c⟩:=t;have B:h=R.1*m:=by
  have:R.2*h=R.2*(R.1*m):=by grind
  exact nu (by have:=l.pos;omega) this
 have S:m∣x:=⟨R.2*P.1,by rw[o,c];grind⟩;have i:m∣y:=⟨R.1*Q.1,by rw[w,B];grind⟩;have j:m∣d:=⟨R.2*P.2,by rw[s,c];grind⟩;have r:=Km (Km S i) j;have e:=p.co;rw[e] at r;have C:0<m:=yC (show 0<R.2*m by omega) l.pos;have:m=1:=by
  have:=Kn ae r;simp at this;omega
 rw[this] at c;rw[s,c];grind
end N
theorem Ov(n:N.Nd)(w:G)(b:N.Can n)(a:iI n):M 278 #[u (qA<|N.T n)] w (ai (I J n.2.2) w):=by
 have:=a.d;have:=BF (n:=n.1) (d:=n.2.2) U (by have:=a.x;omega) U;have:=BF (n:=n.2.1) (d:=n.2.2) U (by have:=a.y;omega) U;have c:=N.abq b;refine abo _ _ _ _ _ _ _ w (λw1=>xH _ _ w1 ?_ ?_ ?_) ?_
 .show ¬(N.bu n.2.1 n.2.2).2=0;omega
 .show _<=(N.bu n.1 n.2.2).2/\(N.bu n.1 n.2.2).2<=_;omega
 .show _<=(N.bu n.2.1 n.2.2).2/\(N.bu n.2.1 n.2.2).2<=_;omega
 .rw[c,ah];omega
theorem abr(f t:N.Nd)(w:G)(R:N.Can f)(i:N.Can t)(a:iI f)(b:iI t):M 231 #[u (qA<|N.T f),u<|qA<|N.T t] w (ai (u<|qA<|N.T (f.1+t.1,f.2.1+t.2.1,f.2.2+t.2.2)) w):=by
 have c:∀(x d:Int),0<d->d<=20000->x.natAbs<=3000000->∃g:Int,¬(N.bu x d).2=0/\J.wrap (d.tdiv (N.bu x d).2)=g/\(N.bu x d).1*g=x:=λx d B Q W=>by
  obtain⟨g,V,E,F,H⟩:=N.kE (n:=x) (d:=d) U;have S:=N.lG (n:=x) (d:=d) U;have v:=H.2 B;generalize N.bu x d=P at*;have:=S.pos;refine⟨g,U,?_,by rw[dw];exact E.symm⟩;have:g<=d:=by
   have:=Int.mul_le_mul_of_nonneg_left (show 1<=P.2 by omega)<|dU v;omega
  rw[F,Int.mul_tdiv_cancel _ U,ah];omega
 obtain⟨h,L,j,p⟩:=c f.1 f.2.2 a.d.1 a.d.2 a.x;obtain⟨l,z3,y,r⟩:=c f.2.1 f.2.2 a.d.1 a.d.2 a.y;obtain⟨k,O,o,q⟩:=c t.1 t.2.2 b.d.1 b.d.2 b.x;obtain⟨m,z4,z,s⟩:=c t.2.1 t.2.2 b.d.1 b.d.2 b.y;have:=a.x;have:=a.y;have:=a.d;have:=b.x;have:=b.y;have:=b.d;refine abp _ _ _ _ _ _ _ _ f.2.2 t.2.2 h k l m (f.1+t.1) (f.2.1+t.2.1) (f.2.2+t.2.2) _ _ _ _ w (λw1=>Ov f w1 R a) (λw1=>Ov t w1 i b) (λw1=>xH _ _ w1 U U U) (λw1=>xH _ _ w1 U U U) L z3 O z4 j o y z ?_ ?_ ?_ ?_ ?_ ?_ ?_
 all_goals first
  |(show J.wrap ((N.bu f.1 f.2.2).1*h+(N.bu t.1 t.2.2).1*k)=_;rw[p,q,ah];omega)
  |(show J.wrap ((N.bu f.2.1 f.2.2).1*l+(N.bu t.2.1 t.2.2).1*m)=_;rw[r,s,ah];omega)
  |(show J.wrap ((N.bu f.1 f.2.2).1*h)=(N.bu f.1 f.2.2).1*h;rw[p,ah];omega)
  |(show J.wrap ((N.bu f.2.1 f.2.2).1*l)=(N.bu f.2.1 f.2.2).1*l;rw[r,ah];omega)
  |(show J.wrap ((N.bu t.1 t.2.2).1*k)=(N.bu t.1 t.2.2).1*k;rw[q,ah];omega)
  |(show J.wrap ((N.bu t.2.1 t.2.2).1*m)=(N.bu t.2.1 t.2.2).1*m;rw[s,ah];omega)
  |(rw[ah];omega)
namespace N
def bs(u v:O):Int:=if u.2<=0/\0<v.2/\0<L u v then 1 else if v.2<=0/\0<u.2/\L u v<0 then -1 else 0
def fs(n:O)(d:Int)(a b:O):Int:=bs (rel n d a)<|rel n d b
end N
theorem Ow(n:N.O)(d:Int)(a b:N.O): -1<=N.fs n d a b/\N.fs n d a b<=1:=by
 unfold N.fs N.bs
 repeat' split
 all_goals omega
theorem abt(u v C A B S b a:Int)(c: -u.sign=A)(d: -v.sign=B)(e:C.sign=S)(g:0<b↔0<a)(h:b<0↔a<0)(f:a=v-u):
  (if u<=0/\0<v/\0<C then(1:Int) else if v<=0/\0<u/\C<0 then -1 else 0)=(if b>0/\A≥0/\B<0/\S>0 then 1 else 0)+(if b<0/\B≥0/\A<0/\S<0 then -1 else 0):=by
 have:=uZ u;have:=uZ v;have:=uZ C
 repeat' split
 all_goals omega
theorem abu{y:Int}(h:oK XN XD YN YD x y d)(e:Ed)(f:0<d)(A B S c:Int)(m:(YN*1-e.1.2*YD).sign=A)(n:(YN*1-e.2.2*YD).sign=B)
  (p:((e.2.1-e.1.1)*(YN-e.1.2*YD)*XD-(e.2.2-e.1.2)*(XN-e.1.1*XD)*YD).sign=S)(g:e.2.2-e.1.2=c):
  N.fs (x,y) d e.1 e.2=(if c>0/\A≥0/\B<0/\S>0 then 1 else 0)+(if c<0/\B≥0/\A<0/\S<0 then -1 else 0):=by
 obtain⟨_,⟨u,i,t,v⟩,w,q,k,l⟩:=h;rw[N.FV e.1 e.2 t v k l i q] at p;rw[N.uS k l q] at m n;obtain⟨⟨j,r⟩,o,s⟩:=e;simp only[N.fs,N.bs,N.rel] at*;have P:d*s-d*r=d*c:=by rw[<-g,lx]
 have Q:0<c↔0<d*c:=⟨λh=>bD f h,λh=>N.yC h f⟩;have R:c<0↔d*c<0:=⟨λh=>oz f h,λh=>by
  have:=N.yC (a:=d) (b:= -c) (by rw[pF];omega) f;omega⟩
 exact abt _ _ _ _ _ _ _ _ m n p Q R (by rw[<-P];omega)
theorem Ox{y:Int}(h:oK XN XD YN YD x y d)(e:Ed)(a:N.fo (x,y) d e=aP):((e.2.1-e.1.1)*(YN-e.1.2*YD)*XD-(e.2.2-e.1.2)*(XN-e.1.1*XD)*YD).sign=0:=by
 have:=holds_plain h e.1 e.2;rw[show((e.1,e.2):Ed)=e from rfl,a] at this;simp only[jl,pE] at this;exact this.1.1
theorem abv(l:V Ed)(v:Y)(t g A i x y f:Int)(w:G)(hR:je w v l)(hl:l.length<=65000000)(he:∀e∈l,cM e)(hp:oK t g A i x y f)(hdd:0<f):
  M 81 #[v,u<|uW t g A i] w λe w'=>e=aJ (I J<|N.total (N.fu (x,y) f) l)/\Below w.heap.size w w':=by
 obtain⟨so,cap,rfl⟩:=uY hR;have HR:=hid hR;have HE:=hid he;have D:=hid hp;have HT:H (∀k:Nat, -(k:Int)<=N.total (N.fu (x,y) f) (l.take k)/\N.total (N.fu (x,y) f) (l.take k)<=(k:Int)):=λk=>by
  have:=tn (N.fu (x,y) f) (Me _ _)<|l.take k;have:(l.take k).length<=k:=aq;omega
 have rq:H (0<f):=hdd;simp only[uW];have hb0:=dS w<|.cells #[I J t,I J g,I J A,I J i] 100;have yD:=aa w<|.cells #[I J t,I J g,I J A,I J i] 100;have tw:H (Below w.heap.size w (w.alloc<|.cells #[I J t,I J g,I J A,I J i] 100)/\(w.alloc<|.cells #[I J t,I J g,I J A,I J i] 100).heap[w.heap.size]?=K (.cells #[I J t,I J g,I J A,I J i] 100 (0,0))):=⟨hb0,yD⟩;go_enter func81,ntmps81;go_wp2_with fail
 go_loopg [5,6] l.length (λn tv iv wr=>∃k:Nat,k+n=l.length/\iv=I J k/\tv=I J (N.total (N.fu (x,y) f)<|l.take k)/\H (Below w.heap.size w wr/\wr.heap[w.heap.size]?=K (.cells #[I J t,I J g,I J A,I J i] 100 (0,0))))
 case atStart=>exact⟨0,U,rfl,rfl,tw⟩
 case round=>
  obtain⟨k,hkn,rfl,rfl,HB⟩:=hrel;obtain⟨r,S⟩:=HB.o;have:=HT.o k;by_cases hlt:k<l.length
  .obtain⟨e,X⟩:∃e,l[k]?=K e:=⟨_,be hlt⟩;obtain⟨b,rfl,d,c0,c1,c2,c3⟩:=xI HR.o X;obtain⟨r0,r1,r2,r3⟩:=ajE r d c0 c1 c2 c3;have:=bz S;have:=bw S;have:=bQ S;have:=bV S;have:=apJ S;have:(k:Int)<(l.length:Int):=U;have hmem:=bB X;have rr:H (N.total (N.fu (x,y) f) (l.take<|k+1)=N.total (N.fu (x,y) f) (l.take k)+N.fu (x,y) f e.1 e.2):=Bx _ X;have s:H (cM e):=HE.o e hmem;generalize N.total (N.fu (x,y) f) (l.take k)=T at*;obtain⟨⟨q,R⟩,B,o⟩:=e;simp only at r0 r1 r2 r3;have hst:=XE D.o ((q,R),B,o) rq.o _ _ _ _ rfl rfl rfl rfl;have hhs:=Ox D.o ((q,R),B,o);have HH:=hid<|λw1=>Bt ((q,R),B,o) t g A i x y f w1 s.o D.o;have: -50000000<=q*g/\q*g<=50000000:=ee (a:=50) (b:=1000000) s.o.a ⟨by have:=D.o.bm.xd;omega,D.o.bm.xd.2⟩;have: -50000000<=B*g/\B*g<=50000000:=ee (a:=50) (b:=1000000) s.o.c ⟨by have:=D.o.bm.xd;omega,D.o.bm.xd.2⟩;have H1:H (∀w1,M 49 #[u #[I J t,I J g],u #[I J q,I J 1]] w1 λe w'=>e=aJ (I J (t*1-q*g).sign)/\Below w1.heap.size w1 w'):=λw1=>qa t g q 1 _ _ w1 rfl rfl (by have:=D.o.bm.xn;omega) U;have H2:H (∀w1,M 49 #[u #[I J t,I J g],u #[I J B,I J 1]] w1 λe w'=>e=aJ (I J (t*1-B*g).sign)/\Below w1.heap.size w1 w'):=λw1=>qa t g B 1 _ _ w1 rfl rfl (by have:=D.o.bm.xn;omega) U;have H3:=hid<|λw1=>Bn q R B o t g A i w1 s.o.a s.o.b s.o.c s.o.d D.o.bm;have H4:=hid<|λw1=>pZ q R B o w1 s.o.a s.o.c;simp only at hst hhs;generalize N.fo (x,y) f ((q,R),B,o)=FO at*;generalize N.fu (x,y) f (q,R) (B,o)=FU at*;generalize(t*1-q*g).sign=L at*;generalize(t*1-B*g).sign=O at*;generalize((B-q)*(A-R*i)*g-(o-R)*(t-q*g)*i).sign=SS at*;generalize hDX:B-q=DX at*;have W:(FO=aP/\H (N.total (N.fu (x,y) f) (l.take<|k+1)=T))\/(FO=aQ/\((DX=0/\H (N.total (N.fu (x,y) f) (l.take<|k+1)=T))\/(0<DX/\((L<0/\H (N.total (N.fu (x,y) f) (l.take<|k+1)=T))\/(0<=L/\0<=O/\H (N.total (N.fu (x,y) f) (l.take<|k+1)=T))\/(0<=L/\O<0/\¬SS<0/\H (N.total (N.fu (x,y) f) (l.take<|k+1)=T))\/(0<=L/\O<0/\SS<0/\H (N.total (N.fu (x,y) f) (l.take<|k+1)=T-1))))\/
     (DX<0/\((O<0/\H (N.total (N.fu (x,y) f) (l.take (k+1))=T))\/(0<=O/\0<=L/\H (N.total (N.fu (x,y) f) (l.take (k+1))=T))\/(0<=O/\L<0/\¬0<SS/\H (N.total (N.fu (x,y) f) (l.take (k+1))=T))\/(0<=O/\L<0/\0<SS/\H (N.total (N.fu (x,y) f) (l.take (k+1))=T+1)))))):=by
    unfold H Hid;rw[rr.o,hst];cases FO
    .refine F ⟨rfl,?_⟩
     repeat' split
     all_goals omega
    .rw[hhs rfl];refine j ⟨rfl,?_⟩
     repeat' split
     all_goals omega
   have HM:H (k+gk=l.length/\k<l.length):=⟨U,hlt⟩;have Q:Below w.heap.size w (wr.alloc<|.cells #[I J q,I J R,I J B,I J o] 151):=cU r (dS _ _)<|aX _;have m:=aa wr<|.cells #[I J q,I J R,I J B,I J o] 151;have p:=dp (dS wr<|.cells #[I J q,I J R,I J B,I J o] 151) S;go_wp2_with fail;generalize wr.alloc (.cells #[I J q,I J R,I J B,I J o] 151)=w0 at*;generalize wr.heap.size=c at*;refine(HH.o _).mono ?_;rintro e w1 ⟨rfl,d⟩;replace m:=dp d m;replace p:=dp d p;replace Q:=cU Q d<|aX _;have e0:=bz m;have q0:=bz p;have q1:=bw p;go_wp2_with fail;refine(H1.o _).mono ?_;rintro e w2 ⟨rfl,d⟩;replace m:=dp d m;replace p:=dp d p;replace Q:=cU Q d<|aX _;have e2:=bQ m;have q0:=bz p;have q1:=bw p;go_wp2_with fail;refine(H2.o _).mono ?_;rintro e w3 ⟨rfl,d⟩;replace m:=dp d m;replace p:=dp d p;replace Q:=cU Q d<|aX _;obtain⟨e0,e1,e2,e3⟩:=ajG m;have q0:=bz p;have q1:=bw p;have:=bQ p;have:=bV p;go_wp2_with fail;refine(H3.o _).mono ?_;rintro e w4 ⟨rfl,d⟩;replace m:=dp d m;replace p:=dp d p;replace Q:=cU Q d<|aX _;obtain⟨e0,e1,e2,e3⟩:=ajG m;rcases W with⟨rfl,z⟩|⟨rfl,W⟩
   .go_wp2_with fail;go_roundg (gk-1)
    case measure=>have:=HM.o;omega
    case rel=>exact⟨k+1,by have:=HM.o;omega,af,by rw[z.o],Q,p⟩
   .go_wp2_with fail;refine(H4.o _).mono ?_;rintro e w5 ⟨rfl,d⟩;replace m:=dp d m;replace p:=dp d p;replace Q:=cU Q d<|aX _;obtain⟨e0,e1,e2,e3⟩:=ajG m;rcases W with⟨hd,z⟩|⟨hd,⟨P,z⟩|⟨P,C,z⟩|⟨P,C,Z,z⟩|⟨P,C,Z,z⟩⟩|⟨hd,⟨P,z⟩|⟨P,C,z⟩|⟨P,C,Z,z⟩|⟨P,C,Z,z⟩⟩
    all_goals
     go_wp2_with fail;refine(H4.o _).mono ?_;rintro e w6 ⟨rfl,d⟩;replace p:=dp d p;replace Q:=cU Q d<|aX _;go_wp2_with fail;go_roundg (gk-1)
     case measure=>have:=HM.o;omega
     case rel=>exact⟨k+1,by have:=HM.o;omega,af,by rw[z.o],Q,p⟩
  .have hk:k=l.length:=U;subst hk;rw[dV];go_wp2_with fail;go_ret;exact⟨rfl,r⟩
theorem abx(l:V Ed)(v:Y)(A i t g x y f:Int)(w:G)(hR:je w v l)(hl:l.length<=65000000)(he:∀e∈l,cM e)(hp:oK A i t g x y f)(hdd:0<f):
  M 229 #[v,u<|uW A i t g] w λe w'=>e=aJ (I J<|N.total (N.fs (x,y) f) l)/\Below w.heap.size w w':=by
 obtain⟨so,cap,rfl⟩:=uY hR;have HR:=hid hR;have HE:=hid he;have D:=hid hp;have HT:H (∀k:Nat, -(k:Int)<=N.total (N.fs (x,y) f) (l.take k)/\N.total (N.fs (x,y) f) (l.take k)<=(k:Int)):=λk=>by
  have:=tn (N.fs (x,y) f) (Ow _ _)<|l.take k;have:(l.take k).length<=k:=aq;omega
 have rq:H (0<f):=hdd;simp only[uW];have hb0:=dS w<|.cells #[I J A,I J i,I J t,I J g] 100;have yD:=aa w<|.cells #[I J A,I J i,I J t,I J g] 100;have tw:H (Below w.heap.size w (w.alloc<|.cells #[I J A,I J i,I J t,I J g] 100)/\(w.alloc<|.cells #[I J A,I J i,I J t,I J g] 100).heap[w.heap.size]?=K (.cells #[I J A,I J i,I J t,I J g] 100 (0,0))):=⟨hb0,yD⟩;go_enter func229,ntmps229;go_wp2_with fail
 go_loopg [5,6] l.length (λn tv iv wr=>∃k:Nat,k+n=l.length/\iv=I J k/\tv=I J (N.total (N.fs (x,y) f)<|l.take k)/\H (Below w.heap.size w wr/\wr.heap[w.heap.size]?=K (.cells #[I J A,I J i,I J t,I J g] 100 (0,0))))
 case atStart=>exact⟨0,U,rfl,rfl,tw⟩
 case round=>
  obtain⟨k,hkn,rfl,rfl,HB⟩:=hrel;obtain⟨r,S⟩:=HB.o;have:=HT.o k;by_cases hlt:k<l.length
  .obtain⟨e,X⟩:∃e,l[k]?=K e:=⟨_,be hlt⟩;obtain⟨b,rfl,d,c0,c1,c2,c3⟩:=xI HR.o X;obtain⟨r0,r1,r2,r3⟩:=ajE r d c0 c1 c2 c3;have:=bz S;have:=bw S;have:=bQ S;have:=bV S;have:=apJ S;have:(k:Int)<(l.length:Int):=U;have hmem:=bB X;have rr:H (N.total (N.fs (x,y) f) (l.take<|k+1)=N.total (N.fs (x,y) f) (l.take k)+N.fs (x,y) f e.1 e.2):=Bx _ X;have s:H (cM e):=HE.o e hmem;generalize N.total (N.fs (x,y) f) (l.take k)=T at*;obtain⟨⟨R,q⟩,o,B⟩:=e;simp only at r0 r1 r2 r3;have hst:=abu D.o ((R,q),o,B) rq.o _ _ _ _ rfl rfl rfl rfl;have hhs:=Ox D.o ((R,q),o,B);have HH:=hid<|λw1=>Bt ((R,q),o,B) A i t g x y f w1 s.o D.o;have: -50000000<=q*g/\q*g<=50000000:=ee (a:=50) (b:=1000000) s.o.b ⟨by have:=D.o.bm.yd;omega,D.o.bm.yd.2⟩;have: -50000000<=B*g/\B*g<=50000000:=ee (a:=50) (b:=1000000) s.o.d ⟨by have:=D.o.bm.yd;omega,D.o.bm.yd.2⟩;have H1:H (∀w1,M 49 #[u #[I J t,I J g],u #[I J q,I J 1]] w1 λe w'=>e=aJ (I J (t*1-q*g).sign)/\Below w1.heap.size w1 w'):=λw1=>qa t g q 1 _ _ w1 rfl rfl (by have:=D.o.bm.yn;omega) U;have H2:H (∀w1,M 49 #[u #[I J t,I J g],u #[I J B,I J 1]] w1 λe w'=>e=aJ (I J (t*1-B*g).sign)/\Below w1.heap.size w1 w'):=λw1=>qa t g B 1 _ _ w1 rfl rfl (by have:=D.o.bm.yn;omega) U;have H3:=hid<|λw1=>Bn R q o B A i t g w1 s.o.a s.o.b s.o.c s.o.d D.o.bm;have H4:=hid<|λw1=>qZ R q o B w1 s.o.b s.o.d;simp only at hst hhs;generalize N.fo (x,y) f ((R,q),o,B)=FO at*;generalize N.fs (x,y) f (R,q) (o,B)=FU at*;generalize(t*1-q*g).sign=L at*;generalize(t*1-B*g).sign=O at*;generalize((o-R)*(t-q*g)*i-(B-q)*(A-R*i)*g).sign=SS at*;generalize hDX:B-q=DX at*;have W:(FO=aP/\H (N.total (N.fs (x,y) f) (l.take<|k+1)=T))\/(FO=aQ/\((DX=0/\H (N.total (N.fs (x,y) f) (l.take<|k+1)=T))\/(0<DX/\((L<0/\H (N.total (N.fs (x,y) f) (l.take<|k+1)=T))\/(0<=L/\0<=O/\H (N.total (N.fs (x,y) f) (l.take<|k+1)=T))\/(0<=L/\O<0/\¬0<SS/\H (N.total (N.fs (x,y) f) (l.take<|k+1)=T))\/(0<=L/\O<0/\0<SS/\H (N.total (N.fs (x,y) f) (l.take<|k+1)=T+1))))\/
     (DX<0/\((O<0/\H (N.total (N.fs (x,y) f) (l.take (k+1))=T))\/(0<=O/\0<=L/\H (N.total (N.fs (x,y) f) (l.take (k+1))=T))\/(0<=O/\L<0/\¬SS<0/\H (N.total (N.fs (x,y) f) (l.take (k+1))=T))\/(0<=O/\L<0/\SS<0/\H (N.total (N.fs (x,y) f) (l.take (k+1))=T-1)))))):=by
    unfold H Hid;rw[rr.o,hst];cases FO
    .refine F ⟨rfl,?_⟩
     repeat' split
     all_goals omega
    .rw[hhs rfl];refine j ⟨rfl,?_⟩
     repeat' split
     all_goals omega
   have HM:H (k+gk=l.length/\k<l.length):=⟨U,hlt⟩;have Q:Below w.heap.size w (wr.alloc<|.cells #[I J R,I J q,I J o,I J B] 151):=cU r (dS _ _)<|aX _;have m:=aa wr<|.cells #[I J R,I J q,I J o,I J B] 151;have p:=dp (dS wr<|.cells #[I J R,I J q,I J o,I J B] 151) S;go_wp2_with fail;generalize wr.alloc (.cells #[I J R,I J q,I J o,I J B] 151)=w0 at*;generalize wr.heap.size=c at*;refine(HH.o _).mono ?_;rintro e w1 ⟨rfl,d⟩;replace m:=dp d m;replace p:=dp d p;replace Q:=cU Q d<|aX _;have e1:=bw m;have q2:=bQ p;have q3:=bV p;go_wp2_with fail;refine(H1.o _).mono ?_;rintro e w2 ⟨rfl,d⟩;replace m:=dp d m;replace p:=dp d p;replace Q:=cU Q d<|aX _;have e3:=bV m;have q2:=bQ p;have q3:=bV p;go_wp2_with fail;refine(H2.o _).mono ?_;rintro e w3 ⟨rfl,d⟩;replace m:=dp d m;replace p:=dp d p;replace Q:=cU Q d<|aX _;obtain⟨e0,e1,e2,e3⟩:=ajG m;have:=bz p;have:=bw p;have q2:=bQ p;have q3:=bV p;go_wp2_with fail;refine(H3.o _).mono ?_;rintro e w4 ⟨rfl,d⟩;replace m:=dp d m;replace p:=dp d p;replace Q:=cU Q d<|aX _;obtain⟨e0,e1,e2,e3⟩:=ajG m;rcases W with⟨rfl,z⟩|⟨rfl,W⟩
   .go_wp2_with fail;go_roundg (gk-1)
    case measure=>have:=HM.o;omega
    case rel=>exact⟨k+1,by have:=HM.o;omega,af,by rw[z.o],Q,p⟩
   .go_wp2_with fail;refine(H4.o _).mono ?_;rintro e w5 ⟨rfl,d⟩;replace m:=dp d m;replace p:=dp d p;replace Q:=cU Q d<|aX _;obtain⟨e0,e1,e2,e3⟩:=ajG m;rcases W with⟨hd,z⟩|⟨hd,⟨P,z⟩|⟨P,C,z⟩|⟨P,C,Z,z⟩|⟨P,C,Z,z⟩⟩|⟨hd,⟨P,z⟩|⟨P,C,z⟩|⟨P,C,Z,z⟩|⟨P,C,Z,z⟩⟩
    all_goals
     go_wp2_with fail;refine(H4.o _).mono ?_;rintro e w6 ⟨rfl,d⟩;replace p:=dp d p;replace Q:=cU Q d<|aX _;go_wp2_with fail;go_roundg (gk-1)
     case measure=>have:=HM.o;omega
     case rel=>exact⟨k+1,by have:=HM.o;omega,af,by rw[z.o],Q,p⟩
  .have hk:k=l.length:=U;subst hk;rw[dV];go_wp2_with fail;go_ret;exact⟨rfl,r⟩
theorem Oy{l:V Y}{T:TypeId}(h:w.heap[b]?=K (.cells (a0::a1::a2::a3::a4::a5::a6::a7::a8::a9::qS::uz::a12::l).toArray T (0,0))):w.cell? ⟨b,12,Z⟩=K a12:=by simp[World.cell?,h]
theorem Oz{OA:Y}{l:V Y}{T:TypeId}(h:w.heap[b]?=K (.cells (a0::a1::a2::a3::a4::a5::a6::a7::a8::a9::qS::uz::a12::OA::l).toArray T (0,0))):w.cell? ⟨b,13,Z⟩=K OA:=by simp[World.cell?,h]
abbrev RS:=(N.Qt×N.Qt)×N.O×Ed
def rA(s:RS):Array Y:= #[I J s.1.1.1.1,I J s.1.1.1.2,I J s.1.1.2.1,I J s.1.1.2.2,I J s.1.2.1.1,I J s.1.2.1.2,I J s.1.2.2.1,I J s.1.2.2.2,I J s.2.1.1,I J s.2.1.2,I J s.2.2.1.1,I J s.2.2.1.2,I J s.2.2.2.1,I J s.2.2.2.2]
theorem aby(s:RS)(a:N.Qt)(w:G)(f:H (∀w1,M 231 #[u (qA s.1.1),u<|qA s.1.2] w1 (ai (u<|qA a) w1))):
  M 228 #[u (rA s)] w (ai (u<|qA a) w):=by
 obtain⟨⟨⟨⟨g,k⟩,l,m⟩,⟨n,p⟩,q,r⟩,⟨t,x⟩,⟨P,R⟩,Q,S⟩:=s;simp only[rA,qA] at f⊢;obtain⟨W,d⟩:=am<|(w.alloc<|.cells #[I J g,I J k,I J l,I J m,I J n,I J p,I J q,I J r,I J t,I J x,I J P,I J R,I J Q,I J S] 263).alloc<|.cells #[I J 0,I J 0,I J 0,I J 0] 100;have b:W.heap[w.heap.size+1]?=K (.cells #[I J 0,I J 0,I J 0,I J 0] 100 (0,0)):=by
  rw[d];have:=aa (w.alloc<|.cells #[I J g,I J k,I J l,I J m,I J n,I J p,I J q,I J r,I J t,I J x,I J P,I J R,I J Q,I J S] 263)<|.cells #[I J 0,I J 0,I J 0,I J 0] 100;simpa using this
 have c:ag w W:=by rw[d];exact cU (dS _ _) (dS _ _)<|aX _
 go_enter func228,ntmps228;go_wp2_with fail;rw[<-d];refine(f.o _).mono ?_;rintro e w1 ⟨rfl,B⟩;replace b:=dp B b;replace c:=cU c B<|aX _;have z:=dC b 0;have A:=dC b 1;have C:=dC b 2;have z3:=dC b 3;obtain⟨i,j,o,y⟩:=ajG b;go_wp2_with fail;refine ab (v:=u #[I J a.1.1,I J a.1.2,I J a.2.1,I J a.2.2]) (by simp[results,results228,go_sem,i,j,o,y]) rfl ⟨rfl,?_⟩;exact(((c.setCell E _).setCell E _).setCell E _).setCell E _
def nS(x y c a b:Int)(e:Ed):Int:=if N.fo (x,y) c e then(if 0<(e.2.1-e.1.1)*a+(e.2.2-e.1.2)*b then 1 else -1) else 0
def ix(x y c a b:Int)(l:V Ed):Int:=(l.map<|nS x y c a b).sum
theorem abz{y dd:Int}{l:V Ed}{e:Ed}(a:l[k]?=K e):ix x y dd DX DY (l.take<|k+1)=ix x y dd DX DY (l.take k)+nS x y dd DX DY e:=by
 unfold ix;rw[fg,a];simp
theorem OB(x y c a b:Int):∀l:V Ed, -(l.length:Int)<=ix x y c a b l/\ix x y c a b l<=l.length
 |[]=>by simp[ix]
 |e::l=>by
  have:=OB x y c a b l;have:ix x y c a b (e::l)=nS x y c a b e+ix x y c a b l:=by simp[ix]
  have: -1<=nS x y c a b e/\nS x y c a b e<=1:=by
   unfold nS
   repeat' split
   all_goals omega
  simp only[dc];omega
def vz(x y a b c:Int)(l:V Ed):Int×Int:=if b=0 then(N.total (N.fs (x,y) a) l+ix x y a b c l,N.total (N.fs (x,y) a) l) else(N.total (N.fu (x,y) a) l,N.total (N.fu (x,y) a) l-ix x y a b c l)
theorem GM:kR [151] je:=λw w' v x h c=>tc h λk a b=>c k a _ b E
structure rt(w:G)(MB:Nat)(a1 a2 a3 a4 b1 b2 b3 b4 DX DY x1 y1 x2 y2 M1 M2 M3 M4:Int)(wr:G):Prop where
 dg:ag w wr
 s:wr.heap[w.heap.size]?=K (.cells #[I J a1,I J a2,I J a3,I J a4,I J b1,I J b2,I J b3,I J b4,I J DX,I J DY,I J x1,I J y1,I J x2,I J y2] 263 (0,0))
 m:wr.heap[MB]?=K (.cells #[I J M1,I J M2,I J M3,I J M4] 100 (0,0))
theorem rt.next{MB:Nat}{a1 a2 a3 a4 b1 b2 b3 b4 x1 y1 x2 y2 M1 M2 M3 M4:Int}(h:rt w MB a1 a2 a3 a4 b1 b2 b3 b4 DX DY x1 y1 x2 y2 M1 M2 M3 M4 w1)(a:ag w1 w2):rt w MB a1 a2 a3 a4 b1 b2 b3 b4 DX DY x1 y1 x2 y2 M1 M2 M3 M4 w2:=⟨cU h.dg a<|aX _,dp a h.s,dp a h.m⟩
theorem abA(l:V Ed)(v:Y)(s:RS)(c:N.Qt)(x f g:Int)(w:G)(hR:je w v l)(hl:l.length<=65000000)(he:∀e∈l,cM e)(hp:oK c.1.1 c.1.2 c.2.1 c.2.2 x f g)(hdd:0<g)(hD: -100<=s.2.1.1/\s.2.1.1<=100/\ -100<=s.2.1.2/\s.2.1.2<=100)
  (HB:H (∀w1,M 231 #[u (qA s.1.1),u<|qA s.1.2] w1 λe w'=>e=aJ (u<|qA c)/\Below w1.heap.size w1 w')):
  M 186 #[v,u<|rA s] w λe w'=>e=aJ (aG #[I J (vz x f g s.2.1.1 s.2.1.2 l).1,I J (vz x f g s.2.1.1 s.2.1.2 l).2])/\Below w.heap.size w w':=by
 obtain⟨so,cap,rfl⟩:=uY hR;have HR:=hid hR;have HE:=hid he;have HP:=hid hp;have rq:H (0<g):=hdd;have HD:=hid hD;have HM:=hid<|λw1=>aby s c w1 HB;obtain⟨⟨⟨⟨a1,a2⟩,a3,a4⟩,⟨b1,b2⟩,b3,b4⟩,⟨m,p⟩,⟨x1,y1⟩,x2,y2⟩:=s;obtain⟨⟨O,M2⟩,M3,M4⟩:=c;simp only[rA,qA] at HM HP HD⊢;have hL:=dS w<|.cells #[I J a1,I J a2,I J a3,I J a4,I J b1,I J b2,I J b3,I J b4,I J m,I J p,I J x1,I J y1,I J x2,I J y2] 263;have hS:=aa w<|.cells #[I J a1,I J a2,I J a3,I J a4,I J b1,I J b2,I J b3,I J b4,I J m,I J p,I J x1,I J y1,I J x2,I J y2] 263;go_enter func186,ntmps186;go_wp2_with fail;generalize w.alloc (.cells #[I J a1,I J a2,I J a3,I J a4,I J b1,I J b2,I J b3,I J b4,I J m,I J p,I J x1,I J y1,I J x2,I J y2] 263)=W at*;refine(HM.o _).mono ?_;rintro e w1 ⟨rfl,r⟩;replace hS:=dp r hS;replace hL:=cU hL r<|aX _;replace hS:=dp (dS w1<|.cells #[I J O,I J M2,I J M3,I J M4] 100) hS;replace hL:=cU hL (dS w1<|.cells #[I J O,I J M2,I J M3,I J M4] 100)<|aX _;have hM:=aa w1<|.cells #[I J O,I J M2,I J M3,I J M4] 100;go_wp2_with fail;generalize w1.alloc (.cells #[I J O,I J M2,I J M3,I J M4] 100)=W1 at*;generalize w1.heap.size=MB at*;have tJ:H (rt w MB a1 a2 a3 a4 b1 b2 b3 b4 m p x1 y1 x2 y2 O M2 M3 M4 W1):=⟨hL,hS,hM⟩
 go_loopg [7,8] l.length (λn tv iv wr=>∃k:Nat,k+n=l.length/\iv=I J k/\tv=I J (ix x f g m p<|l.take k)/\H (rt w MB a1 a2 a3 a4 b1 b2 b3 b4 m p x1 y1 x2 y2 O M2 M3 M4 wr))
 case atStart=>exact⟨0,U,rfl,rfl,tJ⟩
 case round=>
  obtain⟨k,hkn,rfl,rfl,HI⟩:=hrel;have GN:=OB x f g m p<|l.take k;have:(l.take k).length<=k:=aq;by_cases hlt:k<l.length
  .obtain⟨e,ru⟩:∃e,l[k]?=K e:=⟨_,be hlt⟩;obtain⟨b,rfl,r,c0,c1,c2,c3⟩:=xI HR.o ru;obtain⟨t,hS,hM⟩:=HI.o;obtain⟨r0,r1,r2,r3⟩:=ajE t r c0 c1 c2 c3;obtain⟨p0,p1,p2,p3⟩:=ajG hM;have ry:=hid<|bg r t.size;have HMZ:=hid<|apJ hM;have:(k:Int)<(l.length:Int):=U;have rr:H (ix x f g m p (l.take<|k+1)=ix x f g m p (l.take k)+nS x f g m p e):=abz ru;have B:H (cM e):=HE.o e<|bB ru;have HMe:H (k+gk=l.length/\k<l.length):=⟨U,hlt⟩;obtain⟨⟨Q,R⟩,i,o⟩:=e;simp only at r0 r1 r2 r3;have HH:=hid<|λw1=>Bt ((Q,R),i,o) O M2 M3 M4 x f g w1 B.o HP.o;have H4:=hid<|λw1=>pZ Q R i o w1 B.o.a B.o.c;have H5:=hid<|λw1=>qZ Q R i o w1 B.o.b B.o.d;have jH:∀{x f:Int},small x->small f-> -100<=f-x/\f-x<=100:=λhx hy=>by unfold small at*;omega
   have u1:=ee (a:=100) (b:=100) (jH B.o.a B.o.c) (show -100<=m/\m<=100 by have:=HD.o;omega);have u2:=ee (a:=100) (b:=100) (jH B.o.b B.o.d) (show -100<=p/\p<=100 by have:=HD.o;omega);simp only at u1 u2;have hst:nS x f g m p ((Q,R),i,o)=if N.fo (x,f) g ((Q,R),i,o) then(if 0<(i-Q)*m+(o-R)*p then 1 else -1) else 0:=rfl;generalize nS x f g m p ((Q,R),i,o)=FU at*;generalize N.fo (x,f) g ((Q,R),i,o)=FO at*;generalize ix x f g m p (l.take k)=T at*;have:J.wrap ((i-Q)*m)=(i-Q)*m:=by rw[ah];omega
   have:J.wrap ((o-R)*p)=(o-R)*p:=by rw[ah];omega
   have:J.wrap ((i-Q)*m+(o-R)*p)=(i-Q)*m+(o-R)*p:=by rw[ah];omega
   have hcs:(FO=aQ/\H (ix x f g m p (l.take<|k+1)=T))\/(FO=aP/\((0<(i-Q)*m+(o-R)*p/\H (ix x f g m p (l.take<|k+1)=T+1))\/(¬0<(i-Q)*m+(o-R)*p/\H (ix x f g m p (l.take<|k+1)=T-1)))):=by
    unfold H Hid;rw[rr.o,hst];cases FO
    .refine j ⟨rfl,?_⟩;simp
    .refine F ⟨rfl,?_⟩;by_cases q:0<(i-Q)*m+(o-R)*p
     .exact j ⟨q,by rw[y rfl,y q]⟩
     .exact F ⟨q,by rw[y rfl,X q];rfl⟩
   go_wp2_with fail;go_region_held3 (λw'=>apS w' b (k*4) (I J Q) (I J R) (I J i) (I J o)/\apQ w' MB (I J O) (I J M2) (I J M3) (I J M4)) (go_keep) (first
    |(go_at_call 80;refine(HH.o _).mono ?_;rintro e w2 ⟨rfl,r⟩;obtain⟨f0,f1,f2,f3⟩:=ajE r ry.o r0 r1 r2 r3;have:=aR r p0 HMZ.o;have:=aR r p1 HMZ.o;have:=aR r p2 HMZ.o;have:=aR r p3 HMZ.o))
   have vB:=hid<|bg ry.o r.size;have HJ:H (rt w MB a1 a2 a3 a4 b1 b2 b3 b4 m p x1 y1 x2 y2 O M2 M3 M4 w2):=⟨cU t.drew r<|aX _,dp r hS,dp r hM⟩;rcases hcs with⟨rfl,HV⟩|⟨rfl,hcs⟩
   .clear f1 f2 f3;go_wp2_with fail;refine aN (S:=λw'=>w'.cell? ⟨b,k*4,Z⟩=K (I J Q)) z f0<|λhHeld=>?_
    iterate 2
     (
      refine gY (oi:=⟨_,_,_,_,_,_⟩) (v:=?_) rfl rfl (by rfl) hHeld ?_ ?_;rotate_left
      .intro w' az;go_simp
       try with_reducible rfl
      simp only[Act.put,dh,di,cQ])
    iterate 18
     (
      refine pL (oi:=⟨_,_,_,_,_,_⟩) rfl rfl hHeld ?_;simp only[Act.put,dh,di,cQ])
    refine gY (oi:=⟨_,_,_,_,_,_⟩) (v:=?_) rfl rfl (by rfl) hHeld ?_ ?_;rotate_left
    .intro w' az;go_simp
     try with_reducible rfl
    simp only[Act.put,dh,di,cQ];refine aO z ?_ _;replace HJ:H (rt w MB a1 a2 a3 a4 b1 b2 b3 b4 m p x1 y1 x2 y2 O M2 M3 M4 w2.drew):=⟨HJ.o.dg.drew,HJ.o.s,HJ.o.m⟩;go_wp2_with fail;go_roundg (gk-1)
    case measure=>have:=HMe.o;omega
    case rel=>exact⟨k+1,by have:=HMe.o;omega,af,by rw[HV.o],HJ⟩
   .have s8:=Ay HJ.o.s;have s9:=Fb HJ.o.s;have HSZ:=hid<|apJ HJ.o.s;go_wp2_with fail;go_region_held3 (λw'=>apS w' b (k*4) (I J Q) (I J R) (I J i) (I J o)/\w'.cell? ⟨w.heap.size,8,Z⟩=K (I J m)/\w'.cell? ⟨w.heap.size,9,Z⟩=K (I J p)) (go_keep) (first
     |(go_at_call 135;refine(H4.o _).mono ?_;rintro e w3 ⟨rfl,P⟩;obtain⟨g0,g1,g2,g3⟩:=ajE P vB.o f0 f1 f2 f3;have t8:=aR P s8 HSZ.o;have t9:=aR P s9 HSZ.o;have aV:H (b<w3.heap.size):=(bg vB.o P.size);have OD:H (w.heap.size<w3.heap.size):=(bg HSZ.o P.size))
     |(go_at_call 137;refine(H5.o _).mono ?_;rintro e w4 ⟨rfl,L⟩;have:=aR L g0 aV.o;have:=aR L g1 aV.o;have:=aR L g2 aV.o;have:=aR L g3 aV.o;have:=aR L t8 OD.o;have:=aR L t9 OD.o))
    have HJ4:=hid<|(rt.next (w1:=w2.drew) ⟨HJ.o.dg.drew,HJ.o.s,HJ.o.m⟩ P).next L;rcases hcs with⟨hq,HV⟩|⟨hq,HV⟩
    all_goals
     go_wp2_with fail;go_roundg (gk-1)
     case measure=>have:=HMe.o;omega
     case rel=>exact⟨k+1,by have:=HMe.o;omega,af,by rw[HV.o],HJ4⟩
  .have hk:k=l.length:=U;subst hk;rw[dV] at GN⊢;have s8:=Ay HI.o.s;have rx:=hid<|fk GM HR.o HI.o.dg;have:=tn (N.fs (x,f) g) (Ow _ _) l;have:=tn (N.fu (x,f) g) (Me _ _) l;have:=bz HI.o.m;have:=bw HI.o.m;have:=bQ HI.o.m;have:=bV HI.o.m;by_cases h0:m=0
   .have HO:H (∀w1,je w1 (D so l.length cap) l->M 229 #[D so l.length cap,u #[I J O,I J M2,I J M3,I J M4]] w1 λe w'=>e=aJ (I J<|N.total (N.fs (x,f) g) l)/\Below w1.heap.size w1 w'):=λw1 h1=>abx l _ O M2 M3 M4 x f g w1 h1 hl HE.o HP.o rq.o;have HZ:H (vz x f g m p l=(N.total (N.fs (x,f) g) l+ix x f g m p l,N.total (N.fs (x,f) g) l)):=y h0;generalize N.total (N.fs (x,f) g) l=T at*;generalize ix x f g m p l=d at*;have hw:J.wrap (T+d)=T+d:=by rw[ah];omega
    subst h0;go_wp2_with fail;refine(HO.o _ rx.o).mono ?_;rintro e w2 ⟨rfl,r⟩;go_wp2_with fail;refine ab (v:=aG #[I J (T+d),I J T]) (by simp[results,results186,go_sem]) rfl ⟨by rw[HZ.o],cU HI.o.dg r<|aX _⟩
   .have HO:H (∀w1,je w1 (D so l.length cap) l->M 81 #[D so l.length cap,u #[I J O,I J M2,I J M3,I J M4]] w1 λe w'=>e=aJ (I J<|N.total (N.fu (x,f) g) l)/\Below w1.heap.size w1 w'):=λw1 h1=>abv l _ O M2 M3 M4 x f g w1 h1 hl HE.o HP.o rq.o;have HZ:H (vz x f g m p l=(N.total (N.fu (x,f) g) l,N.total (N.fu (x,f) g) l-ix x f g m p l)):=X h0;generalize N.total (N.fu (x,f) g) l=T at*;generalize ix x f g m p l=d at*;have hw:J.wrap (T-d)=T-d:=by rw[ah];omega
    go_wp2_with fail;refine(HO.o _ rx.o).mono ?_;rintro e w2 ⟨rfl,r⟩;go_wp2_with fail;refine ab (v:=aG #[I J T,I J<|T-d]) (by simp[results,results186,go_sem]) rfl ⟨by rw[HZ.o],cU HI.o.dg r<|aX _⟩
theorem c14{X:Nat}{T:TypeId}{v0 v1 v2 v3 v4 v5 v6 v7 v8 v9 v10 v11 v12 v13:Y}(h:w.heap[X]?=K (.cells #[v0,v1,v2,v3,v4,v5,v6,v7,v8,v9,v10,v11,v12,v13] T (0,0))):w.cell? ⟨X,0,Z⟩=K v0/\w.cell? ⟨X,1,Z⟩=K v1/\w.cell? ⟨X,2,Z⟩=K v2/\w.cell? ⟨X,3,Z⟩=K v3/\w.cell? ⟨X,4,Z⟩=K v4/\w.cell? ⟨X,5,Z⟩=K v5/\w.cell? ⟨X,6,Z⟩=K v6/\w.cell? ⟨X,7,Z⟩=K v7/\w.cell? ⟨X,8,Z⟩=K v8/\w.cell? ⟨X,9,Z⟩=K v9/\w.cell? ⟨X,10,Z⟩=K v10/\w.cell? ⟨X,11,Z⟩=K v11/\w.cell? ⟨X,12,Z⟩=K v12/\w.cell? ⟨X,13,Z⟩=K v13:=⟨bz h,bw h,bQ h,bV h,nB h,nC h,qR h,Fa h,Ay h,Fb h,KG h,KH h,Oy h,Oz h⟩
theorem OE(a b c d:Int)(w:G)(n:Nat):(Op.equalIn (n+2) 97 (u #[I J a,I J b])<|u #[I J c,I J d]).run prog w=.ok (decide (a=c)&&decide (b=d)) w:=by
 rw[akg w (n+1) 97 _ _ z z];simp[go_sem];by_cases e:a=c<;>by_cases f:b=d<;>simp[e,f]
theorem q_in(p q:N.Qt)(w:G):(Op.equalIn 10000 100 (u<|qA p)<|u<|qA q).run prog w=.ok (decide (p=q)) w:=by
 obtain⟨⟨a,b⟩,c,d⟩:=p;obtain⟨⟨f,g⟩,k,l⟩:=q;have e:decide ((((a,b),c,d):N.Qt)=((f,g),k,l))=((decide (a=f)&&decide (b=g))&&(decide (c=k)&&decide (d=l))):=by
  simp[Prod.mk.injEq,Bool.and_assoc]
 rw[e,akg w 9999 100 _ _ z z];have m:=λw=>OE a b f g w 9997;have n:=λw=>OE c d k l w 9997;simp[go_sem,qA,m,n];by_cases r:a=f<;>by_cases s:b=g<;>by_cases t:c=k<;>by_cases v:d=l<;>simp[r,s,t,v]
def eA(l:V RS):V Y:=l.flatMap λs=>(rA s).toList
theorem vA(l:V RS)(e:RS):eA (l++[e])=eA l++(rA e).toList:=by simp[eA]
theorem GO:∀(l:V RS)(k:Nat)(e:RS),l[k]?=K e->∀j,j<14->(eA l)[k*14+j]?=(rA e)[j]?
 |[],_,_,h,_,_=>by simp at h
 |q::r,0,e,h,j,b=>by
  simp at h;subst h;have a:eA (q::r)=(rA q).toList++eA r:=by simp[eA]
  rw[a,dQ (by simp[rA];omega)];simp
 |q::r,k+1,e,h,j,b=>by
  have d:=GO r k e (by simpa using h) j b;have a:eA (q::r)=(rA q).toList++eA r:=by simp[eA]
  rw[a,jc (by simp[rA];omega)];have c:(k+1)*14+j-(rA q).toList.length=k*14+j:=by simp[rA];omega
  rw[c,d]
def jt(w:G)(X k:Nat)(s:RS):Prop:=w.cell? ⟨X,k*14,Z⟩=K (I J s.1.1.1.1)/\w.cell? ⟨X,k*14+1,Z⟩=K (I J s.1.1.1.2)/\w.cell? ⟨X,k*14+2,Z⟩=K (I J s.1.1.2.1)/\w.cell? ⟨X,k*14+3,Z⟩=K (I J s.1.1.2.2)/\w.cell? ⟨X,k*14+4,Z⟩=K (I J s.1.2.1.1)/\w.cell? ⟨X,k*14+5,Z⟩=K (I J s.1.2.1.2)/\w.cell? ⟨X,k*14+6,Z⟩=K (I J s.1.2.2.1)/\w.cell? ⟨X,k*14+7,Z⟩=K (I J s.1.2.2.2)/\w.cell? ⟨X,k*14+8,Z⟩=K (I J s.2.1.1)/\w.cell? ⟨X,k*14+9,Z⟩=K (I J s.2.1.2)/\w.cell? ⟨X,k*14+10,Z⟩=K (I J s.2.2.1.1)/\w.cell? ⟨X,k*14+11,Z⟩=K (I J s.2.2.1.2)/\w.cell? ⟨X,k*14+12,Z⟩=K (I J s.2.2.2.1)/\w.cell? ⟨X,k*14+13,Z⟩=K (I J s.2.2.2.2)
theorem jt.mv{X:Nat}{s:RS}(h:jt w X k s)(a:Below n w w')(b:X<n):jt w' X k s:=by
 obtain⟨g,l,m,p,q,r,t,v,x,B,c,d,e,f⟩:=h;exact⟨aR a g b,aR a l b,aR a m b,aR a p b,aR a q b,aR a r b,aR a t b,aR a v b,aR a x b,aR a B b,aR a c b,aR a d b,aR a e b,aR a f b⟩
theorem mN{τ:TypeId}{so:Option Addr}{cap:Nat}{l:V RS}(h:w.ownsRow base τ 14 (D so n cap) l.length (eA l))(m:0<l.length):∃X,so=K ⟨X,0,Z⟩/\X<w.heap.size/\∀k s,l[k]?=K s->jt w X k s:=by
 have e:=iF h;have d:=GO l 0 l[0] (be m);obtain⟨X,c,b,f,a⟩:=rf e<|d 0 U;injection b with b;refine⟨X,b,f,λk s p=>?_⟩;have g:=GO l k s p;exact⟨a _ _<|g 0 U,a _ _<|g 1 U,a _ _<|g 2 U,a _ _<|g 3 U,a _ _<|g 4 U,a _ _<|g 5 U,a _ _<|g 6 U,a _ _<|g 7 U,a _ _<|g 8 U,a _ _<|g 9 U,a _ _<|g 10 U,a _ _<|g 11 U,a _ _<|g 12 U,a _ _<|g 13 U⟩
theorem jX{τ:TypeId}{l:V RS}(h:w.ownsRow base τ 14 v l.length (eA l)):∃e cap,v=D e l.length cap:=by
 rcases h.2 with⟨a,d⟩|⟨b,cap,c,a,_⟩
 .exact⟨Z,0,by rw[a,d]⟩
 .exact⟨_,cap,a⟩
structure eZ(τ:TypeId)(w:G)(lv:Y)(acc:V RS)(wr:G):Prop where
 own:wr.ownsRow w.heap.size τ 14 lv acc.length (eA acc)
 dg:ag w wr
theorem eZ.next{τ:TypeId}{acc:V RS}(h:eZ τ w lv acc wr)(a:ag wr w'):eZ τ w lv acc w':=
 ⟨bH h.own λk b=>a.block k (bn h.own k b).2,h.dg.trans<|a.mono h.dg.size⟩
theorem eZ.drew{τ:TypeId}{acc:V RS}(h:eZ τ w lv acc wr):eZ τ w lv acc wr.drew:=⟨bH h.own λ_ _=>rfl,h.dg.drew⟩
theorem eZ.grown{τ:TypeId}{acc acc':V RS}{o:Obj}(h:eZ τ w lv acc W5)(b:(W5.alloc o).drew.grownBy w6 lv.ownBlock)
  (f:w6.ownsRow w.heap.size τ 14 nP acc'.length (eA acc')):eZ τ w nP acc' w6:=by
 obtain⟨d,a⟩:=h;have:=b.size;have:W5.heap.size+1<=w6.heap.size:=by
  have:(W5.alloc o).drew.heap.size=W5.heap.size+1:=by show(W5.alloc o).heap.size=_;simp
  omega
 refine⟨f,⟨b.os.trans a.os,b.tape.trans a.tape,b.output.trans a.output,?_,λk c=>?_⟩⟩
 .have:=a.size;omega
 .have:=a.size;exact(lD b k U<|jo d k c).trans<|a.block k c
theorem eZ.pR{τ:TypeId}{acc acc':V RS}{o:Obj}(h:eZ τ w lv acc W5)(b:(W5.alloc o).grownBy w6 lv.ownBlock)
  (f:w6.ownsRow w.heap.size τ 14 nP acc'.length (eA acc')):eZ τ w nP acc' w6:=by
 obtain⟨d,a⟩:=h;have:=b.size;have:W5.heap.size+1<=w6.heap.size:=by
  have:(W5.alloc o).heap.size=W5.heap.size+1:=E;omega
 refine⟨f,⟨b.os.trans a.os,b.tape.trans a.tape,b.output.trans a.output,?_,λk c=>?_⟩⟩
 .have:=a.size;omega
 .have:=a.size;exact(kC b k U<|jo d k c).trans<|a.block k c
theorem OF{α:Type}{ts:V Nat}{R:G->Y->α->Prop}(l:kR ts R){w4 w5:G}{o1:Obj}{row:Option Nat}{e:TypeId}(n:(w4.alloc o1).drew.grownBy w5 row)(d:∀k,row=K k->∃b,w4.heap[k]?=K (.cells b e (0,0)))(m:e∉ts){x:α}(h:R w4 v x):R w5 v x:=by
 refine l _ _ _ _ h λk b t f hts=>?_;exact lD n k (apJ f) λg=>by
  obtain⟨c,a⟩:=d k g;rw[f] at a;injection a with a;injection a with _ a;exact m (a▸hts)
theorem abD:(Tryz.prog.info? 263).map (λi=>(i.zero,i.size,i.bytes))=K (K<|u #[I J 0,I J 0,I J 0,I J 0,I J 0,I J 0,I J 0,I J 0,I J 0,I J 0,I J 0,I J 0,I J 0,I J 0],14,112):=z
theorem CE:(Tryz.prog.info? 265).map (λi=>(i.zero,i.size,i.bytes))=K (K<|u #[I J 0,I J 0,I J 0,I J 0,I J 0,I J 0,I J 0,I J 0,I J 0,I J 0,I J 0,I J 0,I J 0,I J 0],14,112):=z
def fE(s t:RS):Int:=N.L s.2.1 t.2.1
def ib(s:RS):Prop:= -100<=s.2.1.1/\s.2.1.1<=100/\ -100<=s.2.1.2/\s.2.1.2<=100
theorem TN{s t:RS}(k:ib s)(l:ib t):J.wrap (s.2.1.1*t.2.1.2)=s.2.1.1*t.2.1.2/\J.wrap (s.2.1.2*t.2.1.1)=s.2.1.2*t.2.1.1/\J.wrap (s.2.1.1*t.2.1.2-s.2.1.2*t.2.1.1)=fE s t:=by
 obtain⟨a,b,c,d⟩:=k;obtain⟨e,f,g,h⟩:=l;have:=ee (a:=100) (b:=100) ⟨a,b⟩ ⟨g,h⟩;have:=ee (a:=100) (b:=100) ⟨c,d⟩ ⟨e,f⟩;unfold fE N.L;simp only[ah];omega
theorem Jh(s t:RS)(w:G)(a:ib s)(b:ib t):M 188 #[u (rA s),u<|rA t] w (ai (I J<|fE s t) w):=by
 obtain⟨c,d,v3⟩:=TN a b;generalize fE s t=R at v3⊢;obtain⟨⟨⟨⟨f,g⟩,k,l⟩,⟨m,n⟩,p,q⟩,⟨j,o⟩,⟨A,H⟩,C,K⟩:=s;obtain⟨⟨⟨⟨r,v⟩,x,B⟩,⟨P,Q⟩,S,i⟩,⟨y,z⟩,⟨D,L⟩,F,N⟩:=t;simp only[rA] at c d v3⊢;go_enter func188,ntmps188;go_wp2_with fail;go_ret;exact⟨rfl,cU (dS _ _) (dS _ _)<|aX _⟩
def lQ(s a:RS):Int:=if 0<fE s a then 0 else if fE s a<0 then 2 else 1
theorem TP(s t:RS)(w:G)(a:ib s)(b:ib t):M 277 #[u (rA s),u<|rA t] w (ai (I J<|lQ s t) w):=by
 obtain⟨c,d,v3⟩:=TN a b;unfold lQ;generalize fE s t=R at v3⊢;obtain⟨⟨⟨⟨f,g⟩,k,l⟩,⟨m,n⟩,p,q⟩,⟨j,o⟩,⟨C,K⟩,D,L⟩:=s;obtain⟨⟨⟨⟨r,v⟩,x,B⟩,⟨P,Q⟩,S,i⟩,⟨z,A⟩,⟨F,N⟩,H,O⟩:=t;simp only[rA] at c d v3⊢;rcases dG R 0 with h|h|h
 .rw[X U,y h];have:¬0<R:=U;go_enter func277,ntmps277;go_wp2_with fail;go_ret;exact⟨rfl,cU (dS _ _) (dS _ _)<|aX _⟩
 .rw[X U,X U];have:¬0<R:=U;have:¬R<0:=U;go_enter func277,ntmps277;go_wp2_with fail;go_ret;exact⟨rfl,cU (dS _ _) (dS _ _)<|aX _⟩
 .rw[y h];go_enter func277,ntmps277;go_wp2_with fail;go_ret;exact⟨rfl,cU (dS _ _) (dS _ _)<|aX _⟩
def mE(s a b:RS):Bool:=if lQ s a=lQ s b then decide (fE a b<0) else decide (lQ s a<lQ s b)
theorem agZ(s a b:RS)(w:G)(hs:ib s)(ha:ib a)(d:ib b):M 230 #[u (rA s),u<|rA a,u<|rA b] w (ai (aC<|mE s a b) w):=by
 have H1:=hid<|λw1=>TP s a w1 hs ha;have H2:=hid<|λw1=>TP s b w1 hs d;have H3:=hid<|λw1=>Jh a b w1 ha d;have HS:H (mE s a b=if lQ s a=lQ s b then decide (fE a b<0) else decide (lQ s a<lQ s b)):=rfl;generalize mE s a b=R at*;generalize lQ s a=c at*;generalize lQ s b=Y at*;generalize fE a b=Z at*;obtain⟨⟨⟨⟨m,n⟩,p,q⟩,⟨r,t⟩,v,x⟩,⟨A,C⟩,⟨L,U⟩,N,V⟩:=s;obtain⟨⟨⟨⟨B,P⟩,Q,S⟩,⟨i,j⟩,o,z⟩,⟨D,F⟩,⟨O,y3⟩,T,y4⟩:=a;obtain⟨⟨⟨⟨e1,e2⟩,e3,e4⟩,⟨f1,f2⟩,f3,f4⟩,⟨gx,gy⟩,⟨x5,y5⟩,x6,y6⟩:=b;simp only[rA] at H1 H2 H3⊢;obtain⟨W,l⟩:=am<|((w.alloc<|.cells #[I J m,I J n,I J p,I J q,I J r,I J t,I J v,I J x,I J A,I J C,I J L,I J U,I J N,I J V] 265).alloc<|.cells #[I J B,I J P,I J Q,I J S,I J i,I J j,I J o,I J z,I J D,I J F,I J O,I J y3,I J T,I J y4] 265).alloc<|.cells #[I J e1,I J e2,I J e3,I J e4,I J f1,I J f2,I J f3,I J f4,I J gx,I J gy,I J x5,I J y5,I J x6,I J y6] 265;have hS:W.heap[w.heap.size]?=K (.cells #[I J m,I J n,I J p,I J q,I J r,I J t,I J v,I J x,I J A,I J C,I J L,I J U,I J N,I J V] 265 (0,0)):=by
  rw[l];exact dp (dS _ _)<|dp (dS _ _)<|aa _ _
 have k:W.heap[w.heap.size+1]?=K (.cells #[I J B,I J P,I J Q,I J S,I J i,I J j,I J o,I J z,I J D,I J F,I J O,I J y3,I J T,I J y4] 265 (0,0)):=by
  rw[l];refine dp (dS _ _) ?_;have:=aa (w.alloc<|.cells #[I J m,I J n,I J p,I J q,I J r,I J t,I J v,I J x,I J A,I J C,I J L,I J U,I J N,I J V] 265)<|.cells #[I J B,I J P,I J Q,I J S,I J i,I J j,I J o,I J z,I J D,I J F,I J O,I J y3,I J T,I J y4] 265;simpa using this
 have g:W.heap[w.heap.size+2]?=K (.cells #[I J e1,I J e2,I J e3,I J e4,I J f1,I J f2,I J f3,I J f4,I J gx,I J gy,I J x5,I J y5,I J x6,I J y6] 265 (0,0)):=by
  rw[l];have:=aa ((w.alloc<|.cells #[I J m,I J n,I J p,I J q,I J r,I J t,I J v,I J x,I J A,I J C,I J L,I J U,I J N,I J V] 265).alloc<|.cells #[I J B,I J P,I J Q,I J S,I J i,I J j,I J o,I J z,I J D,I J F,I J O,I J y3,I J T,I J y4] 265)<|.cells #[I J e1,I J e2,I J e3,I J e4,I J f1,I J f2,I J f3,I J f4,I J gx,I J gy,I J x5,I J y5,I J x6,I J y6] 265;simpa using this
 have f:ag w W:=by rw[l];exact cU (cU (dS _ _) (dS _ _)<|aX _) (dS _ _)<|aX _
 go_enter func230,ntmps230;go_wp2_with fail;rw[<-l];refine(H1.o _).mono ?_;rintro e w1 ⟨rfl,d⟩;replace hS:=dp d hS;replace k:=dp d k;replace g:=dp d g;replace f:=cU f d<|aX _;obtain⟨i0,i1,i2,i3,i4,i5,i6,i7,i8,i9,i10,i11,i12,i13⟩:=c14 hS;obtain⟨j0,j1,j2,j3,j4,j5,j6,j7,j8,j9,j10,j11,j12,j13⟩:=c14 g;go_wp2_with fail;refine(H2.o _).mono ?_;rintro e w2 ⟨rfl,d⟩;replace k:=dp d k;replace g:=dp d g;replace f:=cU f d<|aX _;obtain⟨i0,i1,i2,i3,i4,i5,i6,i7,i8,i9,i10,i11,i12,i13⟩:=c14 k;obtain⟨j0,j1,j2,j3,j4,j5,j6,j7,j8,j9,j10,j11,j12,j13⟩:=c14 g;by_cases h:c=Y
 .have hb1:(c != Y)=aQ:=by simp[h]
  have HV:H (R=decide (Z<0)):=by show _=_;rw[HS.o,y h]
  go_wp2_with fail;refine(H3.o _).mono ?_;rintro e w3 ⟨rfl,d⟩;replace f:=cU f d<|aX _;go_wp2_with fail;go_ret;exact⟨by rw[HV.o];rfl,f⟩
 .have hb1:(c != Y)=aP:=by simp[h]
  have HV:H (R=decide (c<Y)):=by show _=_;rw[HS.o,X h]
  go_wp2_with fail;go_ret;exact⟨by rw[HV.o];rfl,f⟩
def r0:RS:=((((0,0),(0,0)),((0,0),(0,0))),(0,0),((0,0),(0,0)))
def bp(l:V RS)(i:Nat):RS:=l.getD i r0
theorem gn{l:V RS}{i:Nat}{s:RS}(h:l[i]?=K s):bp l i=s:=by unfold bp;rw[fi,h];rfl
def lR(l:V RS)(s:RS)(i j:Nat):Int:=if mE s (bp l i) (bp l j) then -1 else 0
def ka(l:V RS)(s:RS)(k:Nat):V Nat:=(List.range k).filter λi=>decide ((bp l i).1.1=s.1.2)
def nxV(l:V RS)(s:RS):V Nat->Int
 |[]=> -1
 |m::t=>(cD (lR l s) t m:Nat)
def gK(l:V RS)(s:RS)(k:Nat):Int:=nxV l s<|ka l s k
theorem TQ(cf:Nat->Nat->Int):∀(t:V Nat)(m:Nat),cD cf t m∈m::t
 |[],m=>by simp[cD]
 |b::t,m=>by
  have:=TQ cf t (if cf b m<0 then b else m);show cD cf t _∈_;rcases bK.1 this with q|q
  .rw[q];split<;>simp
  .simp[q]
theorem ag1(l:V RS)(s:RS)(k:Nat):gK l s k= -1\/∃a,a<k/\gK l s k=(a:Int)/\(bp l a).1.1=s.1.2:=by
 unfold gK;cases h:ka l s k with
 |nil=>exact j rfl
 |cons m t=>
  refine F ⟨cD (lR l s) t m,?_,rfl,?_⟩<;>
  .have b:=TQ (lR l s) t m;rw[<-h] at b;obtain⟨c,d⟩:=et.1 b
   first |exact gV.1 c|exact ft d
theorem ag2(l:V RS)(s:RS)(i:Nat):gK l s (i+1)=if(bp l i).1.1=s.1.2 then(if gK l s i<0 then(i:Int) else if mE s (bp l i) (bp l (gK l s i).toNat) then(i:Int) else gK l s i) else gK l s i:=by
 have e:ka l s (i+1)=ka l s i++if(bp l i).1.1=s.1.2 then[i] else[]:=by
  unfold ka;rw[lZ,nr];congr 1;by_cases h:(bp l i).1.1=s.1.2<;>simp[h]
 unfold gK;rw[e];by_cases h:(bp l i).1.1=s.1.2
 .rw[y h,y h];cases ka l s i with
  |nil=>rfl
  |cons m t=>
   show((cD (lR l s) (t++[i]) m:Nat):Int)=if((cD (lR l s) t m:Nat):Int)<0 then(i:Int) else if mE s (bp l i) (bp l (((cD (lR l s) t m:Nat):Int)).toNat) then(i:Int) else((cD (lR l s) t m:Nat):Int);rw[zo];generalize cD (lR l s) t m=q;rw[show((if lR l s i q<0 then i else q:Nat):Int)=if mE s (bp l i) (bp l q)=aP then(i:Int) else(q:Int) by unfold lR;cases mE s (bp l i) (bp l q)<;>simp];have a:¬((q:Int)<0):=U;rw[qJ,X a]
 .rw[X h,X h,lY]
theorem TS(l:V RS)(s:RS)(v:Y)(w:G)(hR:w.ownsRow 0 265 14 v l.length (eA l))(hl:l.length<=100000000)(hw:∀t∈l,ib t)(hs:ib s):
  M 187 #[v,u<|rA s] w (ai (I J<|gK l s l.length) w):=by
 obtain⟨so,cap,rfl⟩:=jX hR;have HR:=hid hR;have HW:H ((∀t∈l,ib t)/\ib s):=⟨hw,hs⟩;clear hR hw hs;have hL:=dS w<|.cells (rA s) 265;have hS:=aa w<|.cells (rA s) 265;have Q:H (ag w (w.alloc<|.cells (rA s) 265)/\(w.alloc<|.cells (rA s) 265).heap[w.heap.size]?=K (.cells (rA s) 265 (0,0))):=⟨hL,hS⟩;clear hL hS;simp only[rA] at Q⊢;go_enter func187,ntmps187;go_wp2_with fail;generalize w.alloc (.cells #[I J s.1.1.1.1,I J s.1.1.1.2,I J s.1.1.2.1,I J s.1.1.2.2,I J s.1.2.1.1,I J s.1.2.1.2,I J s.1.2.2.1,I J s.1.2.2.2,I J s.2.1.1,I J s.2.1.2,I J s.2.2.1.1,I J s.2.2.1.2,I J s.2.2.2.1,I J s.2.2.2.2] 265)=W at*
 go_loopg [5,6] l.length (λm kv iv wr=>∃i:Nat,i+m=l.length/\iv=I J i/\kv=I J (gK l s i)/\H (ag w wr/\wr.heap[w.heap.size]?=K (.cells #[I J s.1.1.1.1,I J s.1.1.1.2,I J s.1.1.2.1,I J s.1.1.2.2,I J s.1.2.1.1,I J s.1.2.1.2,I J s.1.2.2.1,I J s.1.2.2.2,I J s.2.1.1,I J s.2.1.2,I J s.2.2.1.1,I J s.2.2.1.2,I J s.2.2.2.1,I J s.2.2.2.2] 265 (0,0))))
 case atStart=>exact⟨0,U,rfl,rfl,Q⟩
 case round=>
  obtain⟨i,z,rfl,rfl,p⟩:=hrel;by_cases q:i<l.length
  .obtain⟨d,yF,N,x⟩:=mN HR.o U;subst yF;obtain⟨a,O⟩:∃a,l[i]?=K a:=⟨_,be q⟩;have HA:=hid<|(x i a O).mv p.o.1 N;have f:=hid<|bg N p.o.1.size;obtain⟨x0,x1,x2,x3,_⟩:=HA.o;obtain⟨p0,p1,p2,p3,p4,p5,p6,p7,p8,p9,Eg,Eh,Ei,Ej⟩:=c14 p.o.2;have n:=hid<|apJ p.o.2;have:(i:Int)<(l.length:Int):=U;have B:H (gK l s (i+1)=if a.1.1=s.1.2 then(if gK l s i<0 then(i:Int) else if mE s a (bp l (gK l s i).toNat) then(i:Int) else gK l s i) else gK l s i):=by
    show _=_;rw[ag2,gn O]
   have HK:=hid<|ag1 l s i;have P:H (∀(k:Nat)(t:RS),l[k]?=K t->jt wr d k t):=λk t ht=>(x k t ht).mv p.o.1 N;have r:H (i+gk=l.length/\i<l.length):=⟨U,q⟩;have HWA:H (ib a):=HW.o.1 a<|bB O;have:∀w1,(Op.equalIn 10000 100 (u #[I J a.1.1.1.1,I J a.1.1.1.2,I J a.1.1.2.1,I J a.1.1.2.2])<|u #[I J s.1.2.1.1,I J s.1.2.1.2,I J s.1.2.2.1,I J s.1.2.2.2]).run prog w1=.ok (decide (a.1.1=s.1.2)) w1:=λw1=>q_in a.1.1 s.1.2 w1;clear O x N z q;generalize o:decide (a.1.1=s.1.2)=F at*;generalize gK l s i=b at*;cases F
   .have S:H (gK l s (i+1)=b):=by show _=_;rw[B.o,X<|Kr o]
    clear o B;go_wp2_with fail;go_region_held3 (λw'=>apS w' d (i*14) (I J a.1.1.1.1) (I J a.1.1.1.2) (I J a.1.1.2.1) (I J a.1.1.2.2)/\w'.cell? ⟨w.heap.size,4,Z⟩=K (I J s.1.2.1.1)/\w'.cell? ⟨w.heap.size,5,Z⟩=K (I J s.1.2.1.2)/\w'.cell? ⟨w.heap.size,6,Z⟩=K (I J s.1.2.2.1)/\w'.cell? ⟨w.heap.size,7,Z⟩=K (I J s.1.2.2.2)) (go_keep) (fail);go_wp2_with fail;go_roundg (gk-1)
    case measure=>have:=r.o;omega
    case rel=>exact⟨i+1,by have:=r.o;omega,af,by rw[S.o],p.o.1.drew,p.o.2⟩
   .have he:=ft o;rcases HK.o with L|⟨j,hj,L,_⟩
    .have S:H (gK l s (i+1)=(i:Int)):=by show _=_;rw[B.o,y he,y U]
     subst L;clear o B he HK;go_wp2_with fail;go_region_held3 (λw'=>apS w' d (i*14) (I J a.1.1.1.1) (I J a.1.1.1.2) (I J a.1.1.2.1) (I J a.1.1.2.2)/\w'.cell? ⟨w.heap.size,4,Z⟩=K (I J s.1.2.1.1)/\w'.cell? ⟨w.heap.size,5,Z⟩=K (I J s.1.2.1.2)/\w'.cell? ⟨w.heap.size,6,Z⟩=K (I J s.1.2.2.1)/\w'.cell? ⟨w.heap.size,7,Z⟩=K (I J s.1.2.2.2)) (go_keep) (fail);go_wp2_with fail;go_roundg (gk-1)
     case measure=>have:=r.o;omega
     case rel=>exact⟨i+1,by have:=r.o;omega,af,by rw[S.o],p.o.1.drew,p.o.2⟩
    .obtain⟨c,T⟩:∃c,l[j]?=K c:=⟨_,be (by have:=r.o;omega)⟩;have S:H (gK l s (i+1)=if mE s a c then(i:Int) else(j:Int)):=by show _=_;rw[B.o,y he,X U,L,qJ,gn T]
     have R:=hid<|λw1=>agZ s a c w1 HW.o.2 HWA.o<|HW.o.1 c<|bB T;have HC:=hid<|P.o j c T;subst L;simp only[rA] at R;have:(j:Int)<(l.length:Int):=by have:=r.o;omega
     have:¬(j:Int)<0:=U;clear o B he HK T hj P;go_wp2_with fail;go_region_held3 (λw'=>apS w' d (i*14) (I J a.1.1.1.1) (I J a.1.1.1.2) (I J a.1.1.2.1) (I J a.1.1.2.2)/\w'.cell? ⟨w.heap.size,4,Z⟩=K (I J s.1.2.1.1)/\w'.cell? ⟨w.heap.size,5,Z⟩=K (I J s.1.2.1.2)/\w'.cell? ⟨w.heap.size,6,Z⟩=K (I J s.1.2.2.1)/\w'.cell? ⟨w.heap.size,7,Z⟩=K (I J s.1.2.2.2)) (go_keep) (fail);go_wp2_with fail;clear x0 x1 x2 x3;obtain⟨x0,x1,x2,x3,x4,x5,x6,x7,x8,x9,qG,qH,lS,lT⟩:=HA.o;obtain⟨y0,y1,y2,y3,y4,y5,y6,y7,y8,y9,Ji,Jj,Jk,y13⟩:=HC.o;go_region_held3 (λw'=>apW w' w.heap.size (I J s.1.1.1.1) (I J s.1.1.1.2) (I J s.1.1.2.1) (I J s.1.1.2.2) (I J s.1.2.1.1) (I J s.1.2.1.2) (I J s.1.2.2.1) (I J s.1.2.2.2) (I J s.2.1.1) (I J s.2.1.2) (I J s.2.2.1.1) (I J s.2.2.1.2) (I J s.2.2.2.1) (I J s.2.2.2.2)/\apX w' d (i*14) (I J a.1.1.1.1) (I J a.1.1.1.2) (I J a.1.1.2.1) (I J a.1.1.2.2) (I J a.1.2.1.1) (I J a.1.2.1.2) (I J a.1.2.2.1) (I J a.1.2.2.2) (I J a.2.1.1) (I J a.2.1.2) (I J a.2.2.1.1) (I J a.2.2.1.2) (I J a.2.2.2.1) (I J a.2.2.2.2)/\apX w' d (j*14) (I J c.1.1.1.1) (I J c.1.1.1.2) (I J c.1.1.2.1) (I J c.1.1.2.2) (I J c.1.2.1.1) (I J c.1.2.1.2) (I J c.1.2.2.1) (I J c.1.2.2.2) (I J c.2.1.1) (I J c.2.1.2) (I J c.2.2.1.1) (I J c.2.2.1.2) (I J c.2.2.2.1) (I J c.2.2.2.2)) (go_keep) (first
      |(go_at_call 230;refine(R.o _).mono ?_;rintro e w2 ⟨rfl,g⟩;have:=aR g p0 n.o;have:=aR g p1 n.o;have:=aR g p2 n.o;have:=aR g p3 n.o;have:=aR g p4 n.o;have:=aR g p5 n.o;have:=aR g p6 n.o;have:=aR g p7 n.o;have:=aR g p8 n.o;have:=aR g p9 n.o;have:=aR g Eg n.o;have:=aR g Eh n.o;have:=aR g Ei n.o;have:=aR g Ej n.o;have:=aR g x0 f.o;have:=aR g x1 f.o;have:=aR g x2 f.o;have:=aR g x3 f.o;have:=aR g x4 f.o;have:=aR g x5 f.o;have:=aR g x6 f.o;have:=aR g x7 f.o;have:=aR g x8 f.o;have:=aR g x9 f.o;have:=aR g qG f.o;have:=aR g qH f.o;have:=aR g lS f.o;have:=aR g lT f.o;have:=aR g y0 f.o;have:=aR g y1 f.o;have:=aR g y2 f.o;have:=aR g y3 f.o;have:=aR g y4 f.o;have:=aR g y5 f.o;have:=aR g y6 f.o;have:=aR g y7 f.o;have:=aR g y8 f.o;have:=aR g y9 f.o;have:=aR g Ji f.o;have:=aR g Jj f.o;have:=aR g Jk f.o;have:=aR g y13 f.o))
     generalize mE s a c=F2 at*;cases F2
     all_goals
      go_wp2_with fail;go_roundg (gk-1)
      case measure=>have:=r.o;omega
      case rel=>exact⟨i+1,by have:=r.o;omega,af,by rw[S.o];rfl,cU p.o.1.drew.drew g<|aX _,dp g p.o.2⟩
  .have hk:i=l.length:=U;subst hk;clear z q;go_wp2_with fail;go_ret;exact⟨rfl,p.o.1⟩
end
end Go.Proofs.YtkjhhooecopolaaGreatDoor
