import Derived.Test.YtkjhhooecopolaaGreatDoorAz19
set_option maxRecDepth 100000
set_option maxHeartbeats 4000000
namespace Go.Proofs.YtkjhhooecopolaaGreatDoor
open Go.Proofs.Tryz
open Value renaming int->I,complex->A,float->aA,agg->u,bool->aC,slice->D,pointer->aF,tuple->aG
open IntKind renaming i64->J
open FloatKind renaming f64->C
open Ending renaming returned->aJ
open Go renaming World->G,Value->Y,floatOfInt->aM
open Option renaming some->K,none->Z
open Bool renaming true->aP,false->aQ
section
open Go.RowKit
variable{w w' wr:G}{bs S:V Nat}{Xs:V PB}{g b:Nat}{mk:Nat->Bool}{ow:Nat->Option Nat}
def cD(cf:Nat->Nat->Int):V Nat->Nat->Nat
 |[],m=>m
 |b::r,m=>cD cf r (if cf b m<0 then b else m)
theorem zo(cf:Nat->Nat->Int):∀(l:V Nat)(m b:Nat),cD cf (l++[b]) m=if cf b (cD cf l m)<0 then b else cD cf l m
 |[],m,b=>rfl
 |a::l,m,b=>by show cD cf (l++[b]) _=_;rw[zo cf l];rfl
theorem rP(cf:Nat->Nat->Int):∀(l:V Nat)(m:Nat),cD cf l m=m\/cD cf l m∈l
 |[],m=>j rfl
 |a::l,m=>by show cD cf l (if cf a m<0 then a else m)=m\/_∈a::l;rcases rP cf l (if cf a m<0 then a else m) with h|h;by_cases b:cf a m<0;rw[y b] at h;exact F (by show cD cf l _∈a::l;grind);grind;exact F (bW _ h)
theorem adT(cf:Nat->Nat->Int)(a:Nat)(r:V Nat)(g lo cap s:Nat)(w:G)(Y:r.length<=85000000)
  (S:H (∀(i:Nat) b,(a::r)[i]?=K b->w.cell? ⟨g,lo+i,Z⟩=K (aF<|K ⟨b,0,Z⟩)))
  (F:H (∀b∈a::r,∀c∈a::r,∀w',ag w w'->M 211 #[aF (K ⟨s,0,Z⟩),aF<|K ⟨b,0,Z⟩,aF<|K ⟨c,0,Z⟩] w' (ai (I J<|cf b c) w'))):
  M 171 #[D (K ⟨g,lo,Z⟩) (r.length+1) cap,.func (.func 211) #[aF (K ⟨s,0,Z⟩)] #[]] w (ai (aF<|K ⟨cD cf r a,0,Z⟩) w):=by have j:=S.o 0 a rfl;rw[pA] at j;have B:=apK j;go_enter func171,ntmps171;go_wp2_with fail;go_loopg [5,6] r.length (λm W T wr=>∃k:Nat,k+m=r.length/\T=I J (k+1:Nat)/\W=aF (K ⟨cD cf (r.take k) a,0,Z⟩)/\H (ag w wr));(case atStart=>exact⟨0,U,rfl,rfl,Below.refl _ _⟩);case round=>obtain⟨k,O,rfl,rfl,n⟩:=hrel;by_cases z:k<r.length;(.obtain⟨b,Q⟩:∃b,r[k]?=K b:=⟨_,be z⟩;have L:=(n.o.cell (p:=⟨g,lo+(k+1),Z⟩) B).trans (S.o (k+1) b<|by simpa using Q);have x:b∈a::r:=bW _<|bB Q;have P:cD cf (r.take k) a∈a::r:=(by rcases rP cf (r.take k) a with h|h;rw[h];simp;exact bW _ (kP h));have t:=hid<|F.o b x _ P wr n.o;have v:H (cD cf (r.take<|k+1) a=if cf b (cD cf (r.take k) a)<0 then b else cD cf (r.take k) a):=(by have A:r.take (k+1)=r.take k++[b]:=(by rw[fg,Q];rfl);show cD cf (r.take<|k+1) a=_;rw[A,zo]);have:((k:Int)+1)<((r.length:Int)+1):=U;have u:=bg B n.o.size;clear j Q x P;generalize cD cf (r.take k) a=d at*;go_wp2_with fail;refine t.o.mono ?_;rintro e w5 ⟨rfl,l⟩;have q:=hid<|n.o.trans<|l.mono n.o.size;have:=aR l L u;clear t l L;generalize cf b d=f at*;by_cases o:f<0;(.have R:H (cD cf (r.take<|k+1) a=b):=(by rw[v.o,y o];rfl);go_wp2_with fail;go_roundg (gk-1);(case measure=>omega);case rel=>exact⟨k+1,U,af,by rw[R.o],q⟩);.have R:H (cD cf (r.take<|k+1) a=d):=(by rw[v.o,X o];rfl);have:decide (f<0)=aQ:=jd o;go_wp2_with fail;go_roundg (gk-1);(case measure=>omega);case rel=>exact⟨k+1,U,af,by rw[R.o],q⟩);have N:k=r.length:=U;subst N;rw[dV];clear F S;go_wp2_with fail;go_ret;exact⟨rfl,n.o⟩
structure RB(w:G)(g:Nat)(bs:V Nat)(Xs:V PB):Prop where
 len:bs.length=Xs.length
 row:∀(i:Nat) b,bs[i]?=K b->w.cell? ⟨g,i,Z⟩=K (aF<|K ⟨b,0,Z⟩)
 side:∀(i:Nat) b x,bs[i]?=K b->Xs[i]?=K x->il w b x
theorem RB.below(h:RB w g bs Xs)(c:ag w w'):RB w' g bs Xs:=
 ⟨h.len,λi b a=>(c.cell (p:=⟨g,i,Z⟩)<|apK<|h.row i b a).trans<|h.row i b a,λi b x a d=>(h.side i b x a d).below c⟩
theorem adU(bs:V Nat)(Xs:V PB)(n:N.Nd)(g cap:Nat)(w:G)(t B:Nat)(N3:Int)(c:Nat)(hR:RB w g bs Xs)(hl:bs.length<=85000000)(hcl:c<=bs.length)
  (hc:∀i x,Xs[i]?=K x->(i<c↔cC x.f n<0))
  (HC:H (∀b x w',il w' b x->x∈Xs->M 254 #[aF (K ⟨b,0,Z⟩),u #[A C t B,I J N3]] w' (ai (I J<|cC x.f n) w'))):
  M 253 #[D (K ⟨g,0,Z⟩) bs.length cap,u #[A C t B,I J N3],.func (.func 254) #[] #[]] w λe w'=>∃f,e=aJ (aG #[I J c,aC f])/\ag w w':=by
 have Q:=hid hR;have wl:=hid hc;go_enter func253,ntmps253;go_wp2_with fail;have gh:H (ag w (w.alloc<|.cells #[A C t B,I J N3] 83)/\(w.alloc<|.cells #[A C t B,I J N3] 83).heap[w.heap.size]?=K (.cells #[A C t B,I J N3] 83 (0,0))):=⟨aj _ _,aa _ _⟩;generalize w.alloc (.cells #[A C t B,I J N3] 83)=W0 at*;go_loopg [9,10] bs.length (λm iv jv wr=>∃i j:Nat,i<=c/\c<=j/\j<=bs.length/\j-i<=m/\iv=I J i/\jv=I J j/\H (ag w wr/\wr.heap[w.heap.size]?=K (.cells #[A C t B,I J N3] 83 (0,0))));case atStart=>exact⟨0,bs.length,U,hcl,aX _,U,rfl,rfl,gh⟩
 case round=>
  obtain⟨i,j,h1,h2,h3,h4,rfl,rfl,HB⟩:=hrel;obtain⟨l,hT⟩:=HB.o;have t0:=bz hT;have t1:=bw hT;have s:=apJ hT;by_cases hlt:i<j;.obtain⟨a,hH⟩:∃a,(i+j)/2=a:=⟨_,rfl⟩;have W:a<bs.length:=U;obtain⟨b,o⟩:∃b,bs[a]?=K b:=⟨_,be W⟩;obtain⟨x,L⟩:∃x,Xs[a]?=K x:=⟨_,be (by rw[<-Q.o.len];exact W)⟩;have Y:=(l.cell (p:=⟨g,a,Z⟩)<|apK<|Q.o.row a b o).trans<|Q.o.row a b o;have R:=hid<|λw' y=>HC.o b x w' ((Q.o.side a b x o L).below y)<|bB L;have T:=hid<|wl.o a x L;have:(i:Int)<(j:Int):=U;have:J.wrap ((i:Int)+(j:Int))=(i:Int)+(j:Int):=(by rw[ah];omega);have:IntKind.u64.wrap ((i:Int)+(j:Int))=(i:Int)+(j:Int):=(by simp[IntKind.wrap,IntKind.bits,IntKind.signed];omega);have:(a:Int)<(bs.length:Int):=U;have:((i:Int)+(j:Int))/2=(a:Int):=U;have:(0:Int)<=(a:Int):=U;have O:H (i<=a/\a<j):=(by show i<=a/\a<j;omega);have F:=apK Y;have q:=l.drew;generalize cC x.f n=d at*;go_wp2_with fail;go_region_held3 (λw'=>atb w' w.heap.size (A C t B) (I J N3)/\w'.cell? ⟨g,a,Z⟩=K (aF<|K ⟨b,0,Z⟩)) (go_keep) (first|(go_at_call 254;refine(R.o _ q).mono ?_;rintro e w5 ⟨rfl,k⟩;have e0:=aR k t0 s;have e1:=aR k t1 s;have e2:=(aR k Y F)));all_goals (have P:H (ag w w5/\w5.heap[w.heap.size]?=K (.cells #[A C t B,I J N3] 83 (0,0))):=⟨q.trans<|k.mono q.size,(k.block _ s).trans hT⟩;by_cases hV:d<0;(.have hVc:a<c:=T.o.2 hV;go_wp2_with fail;go_roundg (j-(a+1));(case measure=>have:=O.o;omega);case rel=>exact⟨a+1,j,U,h2,h3,aX _,af,rfl,P⟩);.have hVc:¬a<c:=λh=>hV<|T.o.1 h;have:decide (d<0)=aQ:=jd hV;go_wp2_with fail;go_roundg (a-i);(case measure=>have:=O.o;omega);case rel=>exact⟨i,a,h1,U,U,aX _,rfl,rfl,P⟩)
  .have hic:i=c:=U;subst hic;by_cases X:i<bs.length;.obtain⟨b,o⟩:∃b,bs[i]?=K b:=⟨_,be X⟩;obtain⟨x,L⟩:∃x,Xs[i]?=K x:=⟨_,be (by rw[<-Q.o.len];exact X)⟩;have Y:=(l.cell (p:=⟨g,i,Z⟩)<|apK<|Q.o.row i b o).trans<|Q.o.row i b o;have R:=hid<|λw' y=>HC.o b x w' ((Q.o.side i b x o L).below y)<|bB L;have hii:(i:Int)<(bs.length:Int):=U;have F:=apK Y;generalize cC x.f n=d at*;have q:=l.drew;go_wp2_with fail;go_region_held3 (λw'=>atb w' w.heap.size (A C t B) (I J N3)/\w'.cell? ⟨g,i,Z⟩=K (aF<|K ⟨b,0,Z⟩)) (go_keep) (first|(go_at_call 254;refine(R.o _ q).mono ?_;rintro e w5 ⟨rfl,k⟩;have e0:=aR k t0 s;have e1:=aR k t1 s;have e2:=(aR k Y F)));all_goals (have P:=hid<|q.trans<|k.mono q.size;go_wp2_with fail;refine ab (v:=aG #[I J i,aC<|d == 0]) (by simp[results,results253,go_sem]) rfl ⟨d == 0,rfl,P.o⟩)
   .have hii:decide ((i:Int)<(bs.length:Int))=aQ:=aq;go_wp2_with fail;refine aN (S:=(λ_=>True)) z trivial (λhHeld=>?_);iterate 5 (refine gY (oi:=⟨_,_,_,_,_,_⟩) (v:=?_) rfl rfl (by rfl) hHeld ?_ ?_;rotate_left;intro w' az;go_simp;(try with_reducible rfl);simp only[Act.put,dh,di,cQ])
    iterate 8
     (
      refine pL (oi:=⟨_,_,_,_,_,_⟩) rfl rfl hHeld ?_;simp only[Act.put,dh,di,cQ])
    (iterate 3 (refine gY (oi:=⟨_,_,_,_,_,_⟩) (v:=?_) rfl rfl (by rfl) hHeld ?_ ?_;rotate_left;intro w' az;go_simp;(try with_reducible rfl);simp only[Act.put,dh,di,cQ]));refine aO z ?_ _;go_wp2_with fail;refine ab (v:=aG #[I J i,aC aQ]) (by simp[results,results253,go_sem]) rfl ⟨aQ,rfl,l.drew⟩
theorem adV(bs:V Nat)(Xs:V PB)(n:N.Nd)(g cap:Nat)(w:G)(c d:Nat)(hR:RB w g bs Xs)(hl:bs.length<=85000000)(hbc:bs.length<=cap)(X:c<d)(hdl:d<=bs.length)
  (hc:∀i x,Xs[i]?=K x->(i<c↔cC x.f n<0))(hd:∀i x,Xs[i]?=K x->c<=i->(i<d↔x.f=n))(hv:∀x∈Xs,dR x)(hn:eM n.1 n.2.1 n.2.2)(Y:N.Can n):
  M 210 #[D (K ⟨g,0,Z⟩) bs.length cap,iQ n] w (ai (D (K ⟨g,c,Z⟩) (d-c)<|cap-c) w):=by have z:=λw'(P:ag w w')=>adU bs Xs n g cap w' (aM C n.1) (aM C n.2.1) n.2.2 c (hR.below P) hl U hc<|λb x w'' O r=>adO x n (hv x r) hn Y b w'' O;have u:=hid hR;have HD:=hid hd;have F:=hid<|λx r w=>yB x.f n (hv x r).f.bm hn w;unfold iQ;have y:=hid z;generalize aM C n.1=t at*;generalize aM C n.2.1=v at*;generalize Hc:n.2.2=N3 at*;have l:ag w (w.alloc<|.cells #[A C t v,I J N3] 83):=aj _ _;have W:=aa w<|.cells #[A C t v,I J N3] 83;have hz:w.heap.size<(w.alloc<|.cells #[A C t v,I J N3] 83).heap.size:=E;go_enter func210,ntmps210;go_wp2_with fail;generalize w.alloc (.cells #[A C t v,I J N3] 83)=W0 at*;refine(y.o _ l).mono ?_;rintro e w1 ⟨f,rfl,Q⟩;have L:H (ag w w1/\w1.heap[w.heap.size]?=K (.cells #[A C t v,I J N3] 83 (0,0))):=⟨l.trans<|Q.mono l.size,(Q.block _ hz).trans W⟩;go_wp2_with fail;go_loopg [7] (d-c) (λm iv wr=>∃k:Nat,c<=k/\k<=d/\d-k<=m/\iv=I J k/\H (ag w wr/\wr.heap[w.heap.size]?=K (.cells #[A C t v,I J N3] 83 (0,0))));(case atStart=>exact⟨c,aX _,du X,aX _,rfl,L⟩);case round=>obtain⟨k,O,h2,h3,rfl,HB⟩:=hrel;obtain⟨a,T⟩:=HB.o;have:=bz T;have:=bw T;by_cases R:k<bs.length;(.obtain⟨b,P⟩:∃b,bs[k]?=K b:=⟨_,be R⟩;obtain⟨x,r⟩:∃x,Xs[k]?=K x:=⟨_,be (by rw[<-u.o.len];exact R)⟩;have:=(a.cell (p:=⟨g,k,Z⟩)<|apK<|u.o.row k b P).trans<|u.o.row k b P;have o:=(u.o.side k b x P r).below a;have:=o.c2;have:=o.c3;have j:=F.o x<|bB r;have B:=hid<|HD.o k x r O;have hii:(k:Int)<(bs.length:Int):=U;generalize aM C x.f.1=X1 at*;generalize aM C x.f.2.1=X2 at*;generalize hX3:x.f.2.2=X3 at*;by_cases S:k<d;(.have s:decide (x.f=n)=aP:=ff<|B.o.1 S;rw[s] at j;go_wp2_with fail;go_quiet (fail);go_wp2_with fail;go_roundg (d-(k+1));(case measure=>omega);case rel=>exact⟨k+1,U,U,aX _,af,mb a _,T⟩);have s:decide (x.f=n)=aQ:=jd λh=>S<|B.o.2 h;have q:k=d:=U;rw[s] at j;subst q;go_wp2_with fail;go_quiet (fail);go_wp2_with fail;go_ret;exact⟨rfl,mb a _⟩);have hii:decide ((k:Int)<(bs.length:Int))=aQ:=aq;have q:k=d:=U;subst q;go_wp2_with fail;go_quiet (fail);go_wp2_with fail;go_ret;exact⟨rfl,mb a _⟩
def pb0:PB:=⟨0,0,0,(0,0,0),(0,0,0)⟩
def xi(Xs:V PB)(i:Nat):PB:=Xs.getD i pb0
def bx(bs:V Nat)(i:Nat):Nat:=bs.getD i 0
theorem qt{i:Nat}{x:PB}(h:Xs[i]?=K x):xi Xs i=x:=by unfold xi;grind
theorem qu{i:Nat}(h:i<Xs.length):Xs[i]?=K (xi Xs i):=by rw[be h,qt<|be h]
theorem zp{i:Nat}(h:bs[i]?=K b):bx bs i=b:=by unfold bx;grind
theorem rQ{i:Nat}(h:i<bs.length):bs[i]?=K (bx bs i):=by rw[be h,zp<|be h]
theorem mZ{i:Nat}(h:i<bs.length):bx bs i∈bs:=bB<|rQ h
theorem gm{i:Nat}(h:i<Xs.length):xi Xs i∈Xs:=bB<|qu h
theorem kK(a:bs.Nodup){i:Nat}(h:i<bs.length):bs.idxOf (bx bs i)=i:=by have e:bx bs i=bs[i]:=zp<|be h;grind
structure BD(Xs:V PB):Prop where
 v:∀x∈Xs,dR x
 ld:∀x∈Xs,∃l,LD x l
 kF:Xs.Pairwise λa b=>¬cC b.f a.f<0
 len:Xs.length<=85000000
theorem Ig{α:Type}(p:α->Bool):∀(l:V α),l.Pairwise (λa b=>p b=aP->p a=aP)->∀(i:Nat) x,l[i]?=K x->(i<(l.filter p).length↔p x=aP)
 |[],_,i,x,h=>by grind
 |a::l,e,0,x,h=>by have f:a=x:=(by grind);subst f;by_cases d:p a=aP;simp[d];simp_all
 |a::l,e,i+1,x,h=>by have f:l[i]?=K x:=(by grind);have n:=Ig p l (fF.1 e).2 i x f;by_cases d:p a=aP;grind;have c:¬p x=aP:=λc=>d<|(fF.1 e).1 x (bB f) c;grind
def io(Xs:V PB)(n:N.Nd):Nat:=(Xs.filter λx=>decide (cC x.f n<0)).length
def kr(Xs:V PB)(n:N.Nd):Nat:=(Xs.filter λx=>decide (cC x.f n<=0)).length
theorem wn{a b:N.Nd}:cC a b<0↔N.lt (N.T a) (N.T b):=by unfold cC N.lt;exact Aq
theorem adX{a b c:N.Nd}(e:N.Can a)(f:N.Can b)(k:N.Can c)(h:¬cC b a<0)(d:cC b c<0):cC a c<0:=by by_cases g:a=b;grind;exact N.lt_trans (N.dH e) (N.dH f) (N.dH k) (N.vt e f h g) d
theorem Ih(a b:N.Nd):cC b a= -cC a b:=N.uV _ _
theorem Dt(c:BD Xs){n:N.Nd}(k:N.Can n)(i:Nat)(x:PB)(h:Xs[i]?=K x):i<io Xs n↔cC x.f n<0:=by have l:Xs.Pairwise λa b=>decide (cC b.f n<0)=aP->decide (cC a.f n<0)=aP:=(by refine kQ (λ{a b} f g d=>?_) c.kF;simp only[pE];exact λe=>adX (c.v a f).cf (c.v b g).cf k d e);have:=Ig _ Xs l i x h;simpa[io] using this
theorem Q0(c:BD Xs){n:N.Nd}(m:N.Can n)(i:Nat)(x:PB)(h:Xs[i]?=K x):i<kr Xs n↔cC x.f n<=0:=by have p:Xs.Pairwise λa b=>decide (cC b.f n<=0)=aP->decide (cC a.f n<=0)=aP:=(by refine kQ (λ{a b} f g d=>?_) c.kF;simp only[pE];intro q;apply wT.1;intro r;have e:cC n a.f<0:=(by rw[Ih a.f n];omega);have l:cC n b.f<0:=(by by_cases k:a.f=b.f;grind;exact N.lt_trans (N.dH m) (N.dH (c.v a f).cf) (N.dH (c.v b g).cf) e (N.vt (c.v a f).cf (c.v b g).cf d k));rw[Ih b.f n] at l;omega);have:=Ig _ Xs p i x h;simpa[kr] using this
theorem rR(a:N.Nd):cC a a=0:=N.tm _
theorem Du(b:BD Xs){n:N.Nd}(c:N.Can n)(i:Nat)(x:PB)(h:Xs[i]?=K x)(e:io Xs n<=i):i<kr Xs n↔x.f=n:=by have:=Dt b c i x h;rw[Q0 b c i x h];constructor;intro d;exact N.qg (b.v x<|bB h).cf c (by show cC x.f n=0;omega);intro d;rw[d,rR];omega
theorem Ii(Xs:V PB)(n:N.Nd):kr Xs n<=Xs.length:=pB _ _
theorem Ij(d:BD Xs){n:N.Nd}(f:N.Can n)(h:∃x∈Xs,x.f=n):io Xs n<kr Xs n:=by
 obtain⟨x,l,g⟩:=h;obtain⟨i,k,a⟩:=ig.1 l;have e:Xs[i]?=K x:=by grind
 have b:=Dt d f i x e;have c:=Q0 d f i x e;rw[g,rR] at b c;omega
def dF(Xs:V PB)(i:Nat):Nat:=
 cD (λj k=>oe (xi Xs i) (xi Xs j)<|xi Xs k) (List.range' (io Xs (xi Xs i).t+1)<|kr Xs (xi Xs i).t-io Xs (xi Xs i).t-1) (io Xs (xi Xs i).t)
theorem zq{cf cg:Nat->Nat->Int}{f:Nat->Nat}:∀(l:V Nat)(m:Nat),(∀j∈m::l,∀k∈m::l,cf (f j) (f k)=cg j k)->cD cf (l.map f) (f m)=f (cD cg l m)
 |[],m,_=>rfl
 |b::l,m,h=>by show cD cf (l.map f) (if cf (f b) (f m)<0 then f b else f m)=f (cD cg l (if cg b m<0 then b else m));rw[h b E m E];by_cases a:cg b m<0;rw[y a,y a];exact zq l b λj c k d=>h j (bW _ c) k<|bW _ d;rw[X a,X a];refine zq l m λj c k d=>h j ?_ k ?_;grind;grind
theorem Q3{i:Nat}(h:io Xs (xi Xs i).t<kr Xs (xi Xs i).t):io Xs (xi Xs i).t<=dF Xs i/\dF Xs i<kr Xs (xi Xs i).t:=by unfold dF;rcases rP (λj k=>oe (xi Xs i) (xi Xs j)<|xi Xs k) (List.range' (io Xs (xi Xs i).t+1)<|kr Xs (xi Xs i).t-io Xs (xi Xs i).t-1) (io Xs (xi Xs i).t) with e|e;omega;grind
theorem adY(s R g c d n cap:Nat)(k l:Nat)(m:Int)(w:G)(r:w.cell? ⟨s,4,Z⟩=K (A C k l))(a5:w.cell? ⟨s,5,Z⟩=K (I J m))
  (p:H (M 210 #[D (K ⟨g,0,Z⟩) n cap,u #[A C k l,I J m]] w (ai (D (K ⟨g,c,Z⟩) (d-c)<|cap-c) w)))
  (q:H (∀w',ag w w'->M 171 #[D (K ⟨g,c,Z⟩) (d-c) (cap-c),.func (.func 211) #[aF (K ⟨s,0,Z⟩)] #[]] w' (ai (aF<|K ⟨R,0,Z⟩) w'))):
  M 165 #[D (K ⟨g,0,Z⟩) n cap,aF<|K ⟨s,0,Z⟩] w (ai (aF<|K ⟨R,0,Z⟩) w):=by go_enter func165,ntmps165;go_wp2_with fail;refine p.o.mono ?_;rintro e w1 ⟨rfl,a⟩;go_wp2_with fail;refine(q.o w1 a).mono ?_;rintro e t ⟨rfl,b⟩;go_wp2_with fail;go_ret;exact⟨rfl,a.trans<|b.mono a.size⟩
theorem RB.at(h:RB w g bs Xs){i:Nat}(a:i<Xs.length):il w (bx bs i) (xi Xs i):=
 h.side i _ _ (rQ (by rw[h.len];exact a)) (qu a)
theorem RB.cellAt(h:RB w g bs Xs){i:Nat}(a:i<Xs.length):w.cell? ⟨g,i,Z⟩=K (aF<|K ⟨bx bs i,0,Z⟩):=
 h.row i _ (rQ (by rw[h.len];exact a))
theorem adZ(bs:V Nat)(Xs:V PB)(m:BD Xs)(p:bs.Nodup)(g cap i:Nat)(H:i<Xs.length)(w:G)(P:RB w g bs Xs)(C:bs.length<=cap)(T:∃x∈Xs,x.f=(xi Xs i).t):
  M 165 #[D (K ⟨g,0,Z⟩) bs.length cap,aF<|K ⟨bx bs i,0,Z⟩] w (ai (aF<|K ⟨bx bs<|dF Xs i,0,Z⟩) w):=by
 have W:=gm H;have n:=(m.v _ W).ct;have N:=Ij m n T;have zA:=Ii Xs (xi Xs i).t;have F:bs.length<=85000000:=by rw[P.len];exact m.len
 have Y:=P.len;have hs:=P.at H;refine adY (bx bs i) (bx bs<|dF Xs i) g (io Xs (xi Xs i).t) (kr Xs (xi Xs i).t) bs.length cap _ _ _ w hs.c4 hs.c5 (adV bs Xs (xi Xs i).t g cap w _ _ P F C N U (Dt m n) (λj x S o=>Du m n j x S o) m.v (m.v _ W).t.bm n) ?_;refine λw' u=>?_;have Q:=P.below u;generalize hc:io Xs (xi Xs i).t=c at*;generalize hd:kr Xs (xi Xs i).t=d at*;have O:=adT (λb B=>oe (xi Xs i) (xi Xs<|bs.idxOf b)<|xi Xs<|bs.idxOf B) (bx bs c) ((List.range' (c+1)<|d-c-1).map<|bx bs) g c (cap-c) (bx bs i) w' aq
  (λk b q=>by
   have s:bx bs c::(List.range' (c+1)<|d-c-1).map (bx bs)=(List.range' c<|d-c).map (bx bs):=by
    have e:d-c=(d-c-1)+1:=U;rw[e,List.range'_succ];rfl
   rw[s] at q;have J:k<d-c:=by
    grind
   rw[aa9,List.getElem?_range' J] at q;have y:bx bs (c+k)=b:=by grind
   rw[<-y];exact Q.cellAt U)
  (λb z B A X hw=>by
   have f:∀b,b∈bx bs c::(List.range' (c+1)<|d-c-1).map (bx bs)->∃k,k<Xs.length/\b=bx bs k:=by
    grind
   obtain⟨k1,S,rfl⟩:=f b z;obtain⟨k2,o,rfl⟩:=f B A;have a:=Q.below hw;rw[kK p U,kK p U];obtain⟨l,hl⟩:=m.ld _ W;obtain⟨l1,L⟩:=m.ld _ (gm S);obtain⟨l2,hl2⟩:=m.ld _ (gm o);exact adS _ _ _ hl L hl2 _ _ _ X (a.at H) (a.at S) (a.at o))
 have v:((List.range' (c+1)<|d-c-1).map<|bx bs).length+1=d-c:=aq;have R:cD (λb B=>oe (xi Xs i) (xi Xs<|bs.idxOf b)<|xi Xs<|bs.idxOf B) ((List.range' (c+1)<|d-c-1).map<|bx bs) (bx bs c)=bx bs (dF Xs i):=(by unfold dF;rw[hc,hd];refine zq _ _ λj I k q=>?_;have f:∀j,j∈c::List.range' (c+1) (d-c-1)->j<bs.length:=(by grind);simp only[kK p (f j I),kK p<|f k q]);grind
structure Mo(S:V Nat)(w w':G):Prop where
 os:w'.os=w.os
 tape:w'.tape=w.tape
 output:w'.output=w.output
 size:w.heap.size<=w'.heap.size
 block:∀k,k<w.heap.size->k∉S->w'.heap[k]?=w.heap[k]?
theorem Mo.refl(S:V Nat)(w:G):Mo S w w:=⟨rfl,rfl,rfl,aX _,λ_ _ _=>rfl⟩
theorem Mo.trans{a b c:G}(h:Mo S a b)(k:Mo S b c):Mo S a c:=
 ⟨k.os.trans h.os,k.tape.trans h.tape,k.output.trans h.output,el h.size k.size,λi d e=>(k.block i (bg d h.size) e).trans<|h.block i d e⟩
theorem Mo.of(S:V Nat)(h:ag w w'):Mo S w w':=⟨h.os,h.tape,h.output,h.size,λk a _=>h.block k a⟩
theorem Mo.below{T:V Nat}{w1 w2:G}(h:Mo S w w1)(k:Mo T w1 w2)(d:∀i,i<w.heap.size->i∈T->i∈S):Mo S w w2:=
 ⟨k.os.trans h.os,k.tape.trans h.tape,k.output.trans h.output,el h.size k.size,λi a b=>(k.block i (bg a h.size) λc=>b<|d i a c).trans<|h.block i a b⟩
theorem Mo.cell(h:Mo S w w'){p:Addr}(b:p.block<w.heap.size)(a:p.block∉S):w'.cell? p=w.cell? p:=an (w:=w)<|h.block p.block b a
theorem Mo.grown{row:Option Nat}(a:w.grownBy w' row)(d:∀k,row=K k->k∈S):Mo S w w':=
 ⟨a.os,a.tape,a.output,a.size,λk b c=>a.block k b<|λe=>c<|d k e.symm⟩
theorem Mo.setCell(S:V Nat)(w:G){p:Addr}(b:p.block∈S)(u:Y):Mo S w (w.setCell p u):=
 ⟨rfl,rfl,rfl,by simp,λk _ a=>aaj _ _ _ _<|λe=>a (e▸b)⟩
theorem Mo.alloc(S:V Nat)(w:G)(o:Obj):Mo S w (w.alloc o):=Mo.of S<|(Below.refl _ _).alloc (aX _) o
theorem setCell_new{i:Nat}{cur:Array Y}{t:TypeId}{fr:Nat×Nat}(a:w.heap[b]?=K (.cells cur t fr))(v:Y):(w.setCell ⟨b,i,Z⟩ v).heap[b]?=K (.cells (cur.setIfInBounds i v) t fr):=by rw[akd w b i cur t fr v a];unfold World.setRow;grind
structure SW(g:Nat)(bs:V Nat)(Xs:V PB)(mk:Nat->Bool)(ow:Nat->Option Nat)(w:G):Prop where
 len:bs.length=Xs.length
 nd:bs.Nodup
 ng:g∉bs
 row:∀i,i<bs.length->w.cell? ⟨g,i,Z⟩=K (aF<|K ⟨bx bs i,0,Z⟩)
 side:∀i,i<bs.length->w.heap[bx bs i]?=K (.cells (rK (xi Xs i) (mk i)<|(ow i).map λo=>⟨o,0,Z⟩) 177 (0,0))
theorem SW.rb(h:SW g bs Xs mk ow w):RB w g bs Xs:=by refine⟨h.len,λi b a=>?_,λi b x a c=>?_⟩;have:=h.row i (bX.1 a).1;rw[zp a] at this;omega;have:=h.side i (bX.1 a).1;rw[zp a,qt c] at this;exact il.of this
theorem Iq(a:bs.Nodup){i j:Nat}(b:i<bs.length)(c:j<bs.length)(h:bx bs i=bx bs j):i=j:=by rw[<-kK a b,<-kK a c,h]
theorem SW.lt(h:SW g bs Xs mk ow w)(c:b∈bs):b<w.heap.size:=by obtain⟨i,a,rfl⟩:=ig.1 c;have:=h.side i a;rw[zp<|be a] at this;grind
theorem SW.keep(h:SW g bs Xs mk ow w)(c:Mo S w w')(e:g∉S)(d:∀b∈bs,b∉S):SW g bs Xs mk ow w':=
 ⟨h.len,h.nd,h.ng,λi a=>(c.cell (apK<|h.row i a) e).trans<|h.row i a,λi a=>(c.block _ (h.lt<|mZ a)<|d _<|mZ a).trans<|h.side i a⟩
theorem SW.below(h:SW g bs Xs mk ow w)(a:ag w w'):SW g bs Xs mk ow w':=
 h.keep (Mo.of [] a) E E
theorem SW.congr{mk':Nat->Bool}{Rq:Nat->Option Nat}(h:SW g bs Xs mk ow w)(b:∀i,i<bs.length->mk' i=mk i)(c:∀i,i<bs.length->Rq i=ow i):SW g bs Xs mk' Rq w:=
 ⟨h.len,h.nd,h.ng,h.row,λi a=>by rw[b i a,c i a];exact h.side i a⟩
theorem SW.mark(h:SW g bs Xs mk ow w){i:Nat}(c:i<bs.length):SW g bs Xs (λj=>mk j||j == i) ow (w.setCell ⟨bx bs i,6,Z⟩<|aC aP):=by refine⟨h.len,h.nd,h.ng,λj a=>?_,λj a=>?_⟩;exact(an (w:=w)<|aaj _ _ _ _<|λe=>h.ng (by have b:g=bx bs i:=e;rw[b];exact mZ c)).trans (h.row j a);by_cases e:j=i;subst e;rw[setCell_new<|h.side j a];simp;rfl;rw[aaj _ _ _ _<|λb=>e<|Iq h.nd a c b,h.side j a];grind
theorem SW.own(h:SW g bs Xs mk ow w){i:Nat}(c:i<bs.length)(o:Nat):SW g bs Xs mk (λj=>if j=i then K o else ow j) (w.setCell ⟨bx bs i,7,Z⟩<|aF<|K ⟨o,0,Z⟩):=by refine⟨h.len,h.nd,h.ng,λj a=>?_,λj a=>?_⟩;exact(an (w:=w)<|aaj _ _ _ _<|λe=>h.ng (by have b:g=bx bs i:=e;rw[b];exact mZ c)).trans (h.row j a);by_cases e:j=i;subst e;rw[setCell_new<|h.side j a];simp;rfl;rw[aaj _ _ _ _<|λb=>e<|Iq h.nd a c b,h.side j a,X e]
def fp(nx:Nat->Nat)(mk:Nat->Bool):Nat->V Nat->Nat->V Nat
 |0,a,_=>a
 |m+1,a,i=>if mk i||a.contains i then a else fp nx mk m (a++[i]) (nx i)
theorem Ir{p q:Nat->Bool}:∀(l:V Nat),(∀x∈l,q x=aP->p x=aP)->(∃x∈l,p x=aP/\q x=aQ)->l.countP q<l.countP p
 |[],_,h=>by grind
 |a::l,d,n=>by obtain⟨x,c,k,m⟩:=n;have:=ajq λb g=>d b<|bW _ g;rcases bK.1 c with e|c;grind;have:=Ir l (λb g=>d b<|bW _ g) ⟨x,c,k,m⟩;grind
def iB(n:Nat)(mk:Nat->Bool)(A:V Nat):Nat:=(List.range n).countP λj=> !(mk j||A.contains j)
theorem DE{n:Nat}{A:V Nat}{i:Nat}(b:i<n)(h:(mk i||A.contains i)=aQ):iB n mk (A++[i])<iB n mk A:=by refine Ir _ (λx _ a=>?_) ⟨i,gV.2 b,by grind,E⟩;grind
theorem qw(n:Nat)(mk:Nat->Bool)(A:V Nat):iB n mk A<=n:=by have:=List.countP_le_length (p:=λj=> !(mk j||A.contains j)) (l:=List.range n);rw[Kz] at this;exact this
structure WS(w:G)(g:Nat)(bs:V Nat)(Xs:V PB)(mk:Nat->Bool)(ow:Nat->Option Nat)(lv:Y)(A:V Nat)(wr:G):Prop where
 own:wr.ownsRow w.heap.size 175 1 lv A.length (bU<|A.map<|bx bs)
 sw:SW g bs Xs (λj=>mk j||A.contains j) ow wr
 mo:Mo bs w wr
theorem WS.step{lv:Y}{A:V Nat}(h:WS w g bs Xs mk ow lv A wr)(d:∀b∈bs,b<w.heap.size)(s:g<w.heap.size){i:Nat}(p:i<bs.length)(o:Obj){g' cap:Nat}{w8:G}
  (l:((wr.setCell ⟨bx bs i,6,Z⟩<|aC aP).alloc o).grownBy w8 lv.ownBlock)
  (n:w8.ownsRow w.heap.size 175 1 (D (K ⟨g',0,Z⟩) (A.length+1) cap) (A.length+1) (bU (A.map<|bx bs)++[aF (K ⟨bx bs i,0,Z⟩)])):
  WS w g bs Xs mk ow (D (K ⟨g',0,Z⟩) (A.length+1) cap) (A++[i]) w8:=by have c:=λk a=>(bn h.own k a).1;have v:Mo bs wr (wr.setCell ⟨bx bs i,6,Z⟩<|aC aP):=Mo.setCell _ _ (mZ p) _;have x:=Mo.alloc [] (wr.setCell ⟨bx bs i,6,Z⟩<|aC aP) o;have q:Mo (lv.ownBlock.toList) _ w8:=Mo.grown l (λk a=>by grind);have f:∀k,k∈lv.ownBlock.toList->w.heap.size<=k:=λk a=>c k (by grind);refine⟨?_,?_,?_⟩;rw[abb,bG];have e:bU (A.map (bx bs)++[i].map (bx bs))=bU (A.map<|bx bs)++[aF (K ⟨bx bs i,0,Z⟩)]:=(by simp[bU]);grind;have t:=((h.sw.mark p).keep x E E).keep q (λa=>by grind) (λb r a=>by grind);grind;exact(h.mo.trans v).below ((Mo.alloc lv.ownBlock.toList _ o).trans q) λk a m=>by grind
theorem WS.below{lv:Y}{A:V Nat}(h:WS w g bs Xs mk ow lv A wr)(a:ag wr w'):WS w g bs Xs mk ow lv A w':=
 ⟨bH h.own λk b=>a.block k (bn h.own k b).2,h.sw.below a,h.mo.trans<|Mo.of _ a⟩
theorem aep(bs:V Nat)(Xs:V PB)(hB:BD Xs)(g cap i:Nat)(mk:Nat->Bool)(ow:Nat->Option Nat)(w:G)(s:SW g bs Xs mk ow w)(hgw:g<w.heap.size)(hi:i<bs.length)(hbc:bs.length<=cap)
  (HN:H (∀i,i<Xs.length->∃x∈Xs,x.f=(xi Xs i).t)):
  M 110 #[D (K ⟨g,0,Z⟩) bs.length cap,aF<|K ⟨bx bs i,0,Z⟩] w λe w'=>∃lv,e=aJ lv/\WS w g bs Xs mk ow lv (fp (dF Xs) mk bs.length [] i) w':=by
 have HL:=hid s.len;have B:H (∀b∈bs,b<w.heap.size):=λb hb=>s.lt hb;have hbl:bs.length<=85000000:=(by rw[s.len];exact hB.len);have R:H (∀j,j<bs.length->∀w',RB w' g bs Xs->dF Xs j<bs.length/\M 165 #[D (K ⟨g,0,Z⟩) bs.length cap,aF<|K ⟨bx bs j,0,Z⟩] w' (ai (aF<|K ⟨bx bs<|dF Xs j,0,Z⟩) w')):=λj p w' hR=>(by have q:j<Xs.length:=(by rw[<-hR.len];exact p);have Y:=HN.o j q;refine⟨?_,adZ bs Xs hB s.nd g cap j q w' hR hbc Y⟩;have:=(Q3<|Ij hB (hB.v _<|gm q).ct Y).2;have h2:=Ii Xs (xi Xs j).t;rw[hR.len];omega);have P:H (WS w g bs Xs mk ow (D Z 0 0) [] w/\fp (dF Xs) mk bs.length [] i=fp (dF Xs) mk bs.length [] i/\iB bs.length mk []<=bs.length):=⟨⟨ak _ _ _ _,s.congr E E,Mo.refl _ _⟩,rfl,qw _ _ _⟩;generalize z:fp (dF Xs) mk bs.length [] i=L at*;have HLd:=hid z;clear z s HN;go_enter func110,ntmps110;go_wp2_with fail;go_loopg [5,6] bs.length (λm lv sv wr=>∃a j,j<bs.length/\a.length+m=bs.length/\sv=aF (K ⟨bx bs j,0,Z⟩)/\H (WS w g bs Xs mk ow lv a wr/\fp (dF Xs) mk m a j=L/\iB bs.length mk a<=m));case atStart=>exact⟨[],i,hi,E,rfl,by have:=P.o;rw[HLd.o];exact⟨this.1,rfl,this.2.2⟩⟩
 obtain⟨a,j,p,hAm,rfl,HE⟩:=hrel;clear P;obtain⟨f,n,O⟩:=HE.o;have hs:=f.sw.side j p;have s6:=qR hs;have f6:=bE hs 6;have c:=hid f;by_cases v:(mk j||a.contains j)=aP;.rw[v] at s6;have HLA:H (a=L):=(by rw[<-n];cases gk with|zero=>rfl|succ m=>show a=if _ then a else _;rw[y v]);clear hs n O v HE f;go_wp2_with fail;go_ret;exact⟨_,rfl,by rw[<-HLA.o];exact c.o⟩
 .have r:(mk j||a.contains j)=aQ:=(by simpa using v);rw[r] at s6;have hst:=DE p r;have S:H (fp (dF Xs) mk (gk-1) (a++[j]) (dF Xs j)=L/\iB bs.length mk (a++[j])<=gk-1):=(by refine⟨?_,U⟩;rw[<-n];cases gk with|zero=>omega|succ m=>show _=if _ then a else _;rw[X v];rfl);have FG:1<=gk:=U;have l:=c.o.own;have hwz:=c.o.mo.size;have hbj:=B.o _<|mZ p;have T:((wr.setCell ⟨bx bs j,6,Z⟩<|aC aP).alloc<|.cells #[aF (K ⟨bx bs j,0,Z⟩)] 175).heap[wr.heap.size]?=K (.cells #[aF (K ⟨bx bs j,0,Z⟩)] 175 (0,0)):=(by have:=aa (wr.setCell ⟨bx bs j,6,Z⟩<|aC aP)<|.cells #[aF (K ⟨bx bs j,0,Z⟩)] 175;simpa[World.setCell] using this);have hsz:(wr.setCell ⟨bx bs j,6,Z⟩<|aC aP).heap.size=wr.heap.size:=by simp[World.setCell]
  have rW:((wr.setCell ⟨bx bs j,6,Z⟩<|aC aP).alloc<|.cells #[aF (K ⟨bx bs j,0,Z⟩)] 175).ownsRow w.heap.size 175 1 u5 a.length (bU<|a.map<|bx bs):=
   bH l λk hk=>by
    have h1:=(bn l k hk).1;have h2:=(bn l k hk).2;exact(ad _ _ _ (by rw[hsz];exact h2)).trans<|aaj _ _ _ _ (by show k≠bx bs j;omega)
  clear hs n O v r HE f hst l;go_wp2_with (at_builtin;refine ii rfl rL underlying132 rW T (hbase:=(by simp[World.setCell];omega)) ?_;intro g' cap' w8 fX N jW);have d:=c.o.step B.o hgw p _ N fX;obtain⟨hnj,W⟩:=R.o j p w8 d.sw.rb;have o:=hid d;have Q:=hid W;clear N fX T rW d W c R s6;go_wp2_with fail;refine Q.o.mono ?_;rintro e w9 ⟨rfl,F⟩;have HW9:=hid<|o.o.below F;clear o Q F;go_wp2_with fail;go_roundg (gk-1);(case measure=>omega);case rel=>exact⟨a++[j],dF Xs j,hnj,by rw[bG];simp;omega,rfl,HW9.o,S.o.1,S.o.2⟩
theorem aer(x y:PB)(g:dR x)(k:dR y)(b c:Nat)(w:G)(d:il w b x)(f:il w c y):
  M 167 #[aF (K ⟨b,0,Z⟩),aF<|K ⟨c,0,Z⟩] w (ai (aC<|decide (x.t=y.f)) w):=by have:=λw=>yB x.t y.f g.t.bm k.f.bm w;have:=d.c4;have:=d.c5;have:=f.c2;have:=f.c3;have a:=Below.refl w.heap.size w;generalize aM C x.t.1=l at*;generalize aM C x.t.2.1=m at*;generalize aM C y.f.1=p at*;generalize aM C y.f.2.1=q at*;generalize decide (x.t=y.f)=B at*;generalize x.t.2.2=n at*;generalize y.f.2.2=r at*;go_enter func167,ntmps167;go_wp2_with fail;go_quiet (fail);go_wp2_with fail;go_ret;exact⟨rfl,mb a _⟩
def fq(P:Nat->Bool):V Nat->Nat->Int
 |[],_=> -1
 |b::r,k=>if P b then(k:Int) else fq P r (k+1)
def gD(P:Nat->Bool)(l:V Nat):Int:=fq P l 0
theorem qx{α:Type}{l:V α}{k:Nat}{b:α}(h:l[k]?=K b):l.drop k=b::l.drop (k+1):=by obtain⟨a,e⟩:=bX.1 h;rw[lU a,e]
theorem aes(P:Nat->Bool)(bl:V Nat)(g lo cap s:Nat)(w:G)(A:bl.length<=85000000)
  (S:H (∀(i:Nat) b,bl[i]?=K b->w.cell? ⟨g,lo+i,Z⟩=K (aF<|K ⟨b,0,Z⟩)))
  (Q:H (∀b∈bl,∀w',ag w w'->M 167 #[aF (K ⟨s,0,Z⟩),aF<|K ⟨b,0,Z⟩] w' (ai (aC<|P b) w'))):
  M 166 #[D (K ⟨g,lo,Z⟩) bl.length cap,.func (.func 167) #[aF (K ⟨s,0,Z⟩)] #[]] w (ai (I J<|gD P bl) w):=by go_enter func166,ntmps166;have R:H (fq P (bl.drop 0) 0=gD P bl):=rfl;go_wp2_with fail;go_loopg [8] bl.length (λm y wr=>∃k:Nat,k+m=bl.length/\y=I J k/\H (ag w wr/\fq P (bl.drop k) k=gD P bl));(case atStart=>exact⟨0,U,rfl,Below.refl _ _,R.o⟩);case round=>obtain⟨k,u,rfl,a⟩:=hrel;by_cases t:k<bl.length;(.obtain⟨b,n⟩:∃b,bl[k]?=K b:=⟨_,be t⟩;have x:=S.o k b n;have q:=apK x;have z:=aR a.o.1 x q;have l:=hid<|Q.o b (bB n) wr a.o.1;have f:H ((if P b then(k:Int) else fq P (bl.drop<|k+1) (k+1))=gD P bl):=(by have:=a.o.2;rw[qx n] at this;exact this);have o:(k:Int)<(bl.length:Int):=U;go_wp2_with fail;refine l.o.mono ?_;rintro e C ⟨rfl,p⟩;have c:=hid<|a.o.1.trans<|p.mono a.o.1.size;generalize P b=B at*;cases B;(.have d:=hid f.o;go_wp2_with fail;go_roundg (gk-1);(case measure=>omega);case rel=>exact⟨k+1,U,af,c.o,d.o⟩);have d:=hid f.o;go_wp2_with fail;go_ret;exact⟨by rw[<-d.o];rfl,c.o⟩);have j:k=bl.length:=U;subst j;have d:H ((-1:Int)=gD P bl):=(by have:=a.o.2;rw[KA] at this;exact this);go_wp2_with fail;go_ret;exact⟨by rw[<-d.o];rfl,a.o.1⟩
theorem aet(x y:PB){l m:N.Ln}(b:LD x l)(c:LD y m)(w:G):
  M 179 #[u #[A C x.wa x.wb,aA C x.sh],u #[A C y.wa y.wb,aA C y.sh]] w (ai (aC<|decide (fn x y=0)) w):=by obtain⟨t,k,p⟩:=zn b c;have s:=hid p;have q:=oL k jU;have n:decide (fn x y=0)=(C.format.order t 0 == K .eq):=(by rw[q,<-zm b c];exact decide_eq_decide.2 pC);rw[n];clear p q n k b c;generalize x.wa=v at*;generalize x.wb=B at*;generalize x.sh=sh at*;generalize y.wa=f at*;generalize y.wb=g at*;generalize y.sh=d at*;have a:ag w ((w.alloc<|.cells #[A C v B,aA C sh] 122).alloc<|.cells #[A C f g,aA C d] 122):=(aj _ _).alloc E _;go_enter func179,ntmps179;go_wp2_with fail;refine(s.o _).mono ?_;rintro e w1 ⟨rfl,rfl⟩;go_wp2_with fail;go_ret;exact⟨rfl,a⟩
theorem aeu(cf:Nat->Nat->Int)(a:Nat)(r:V Nat)(g lo cap:Nat)(w:G)(W:r.length<=85000000)
  (z:H (∀(i:Nat) b,(a::r)[i]?=K b->w.cell? ⟨g,lo+i,Z⟩=K (aF<|K ⟨b,0,Z⟩)))
  (C:H (∀b∈a::r,∀c∈a::r,∀w',ag w w'->M 109 #[aF (K ⟨b,0,Z⟩),aF<|K ⟨c,0,Z⟩] w' (ai (I J<|cf b c) w'))):
  M 213 #[D (K ⟨g,lo,Z⟩) (r.length+1) cap,.func (.func 109) #[] #[]] w (ai (aF<|K ⟨cD cf r a,0,Z⟩) w):=by have A:=z.o 0 a rfl;rw[pA] at A;have t:=apK A;go_enter func213,ntmps213;go_wp2_with fail;go_loopg [5,6] r.length (λm T O wr=>∃k:Nat,k+m=r.length/\O=I J (k+1:Nat)/\T=aF (K ⟨cD cf (r.take k) a,0,Z⟩)/\H (ag w wr));(case atStart=>exact⟨0,U,rfl,rfl,Below.refl _ _⟩);case round=>obtain⟨k,N,rfl,rfl,l⟩:=hrel;by_cases S:k<r.length;(.obtain⟨b,P⟩:∃b,r[k]?=K b:=⟨_,be S⟩;have F:=(l.o.cell (p:=⟨g,lo+(k+1),Z⟩) t).trans (z.o (k+1) b<|by simpa using P);have Q:b∈a::r:=bW _<|bB P;have j:cD cf (r.take k) a∈a::r:=(by rcases rP cf (r.take k) a with h|h;rw[h];simp;exact bW _ (kP h));have v:=hid<|C.o b Q _ j wr l.o;have q:H (cD cf (r.take<|k+1) a=if cf b (cD cf (r.take k) a)<0 then b else cD cf (r.take k) a):=(by have o:r.take (k+1)=r.take k++[b]:=(by rw[fg,P];rfl);show cD cf (r.take<|k+1) a=_;rw[o,zo]);have:((k:Int)+1)<((r.length:Int)+1):=U;have R:=bg t l.o.size;generalize cD cf (r.take k) a=d at*;go_wp2_with fail;refine v.o.mono ?_;rintro e Y ⟨rfl,s⟩;have n:=hid<|l.o.trans<|s.mono l.o.size;have:=aR s F R;generalize cf b d=f at*;by_cases B:f<0;(.have x:H (cD cf (r.take<|k+1) a=b):=(by rw[q.o,y B];rfl);go_wp2_with fail;go_roundg (gk-1);(case measure=>omega);case rel=>exact⟨k+1,U,af,by rw[x.o],n⟩);.have x:H (cD cf (r.take<|k+1) a=d):=(by rw[q.o,X B];rfl);have:decide (f<0)=aQ:=jd B;go_wp2_with fail;go_roundg (gk-1);(case measure=>omega);case rel=>exact⟨k+1,U,af,by rw[x.o],n⟩);have L:k=r.length:=U;subst L;rw[dV];go_wp2_with fail;go_ret;exact⟨rfl,l.o⟩
theorem aev:(Tryz.prog.info? 177).map (λi=>i.size)=K 8:=z
theorem aew{a:Nat}(d:∃c,w.heap[a]?=K (.cells c 177 (0,0)))(f:∃c,w.heap[b]?=K (.cells c 177 (0,0))):
  (binOp .eql 175 (aF<|K ⟨a,0,Z⟩)<|aF<|K ⟨b,0,Z⟩).run prog w=.ok (aC<|b == a) w:=by obtain⟨j,g,k⟩:=oC.1 aev;by_cases h:a=b;subst h;rw[run_eql_ptr_same w _ underlying175 g];simp;obtain⟨l,d⟩:=d;obtain⟨m,f⟩:=f;rw[run_eql_ptr_other w underlying175 g (by omega) (λe=>h<|bd Addr.block e) d f];grind
theorem aex(v:Nat)(bl:V Nat)(g lo cap:Nat)(w:G)(C:bl.length<=85000000)
  (Q:H (∀(i:Nat) b,bl[i]?=K b->w.cell? ⟨g,lo+i,Z⟩=K (aF<|K ⟨b,0,Z⟩)))
  (t:H (∀b,b=v\/b∈bl->∃c,w.heap[b]?=K (.cells c 177 (0,0)))):
  M 212 #[D (K ⟨g,lo,Z⟩) bl.length cap,aF<|K ⟨v,0,Z⟩] w (ai (I J<|gD (λb=>b == v) bl) w):=by go_enter func212,ntmps212;have P:H (fq (λb=>b == v) (bl.drop 0) 0=gD (λb=>b == v) bl):=rfl;go_wp2_with fail;go_loopg [8] bl.length (λm z wr=>∃k:Nat,k+m=bl.length/\z=I J k/\H (ag w wr/\fq (λb=>b == v) (bl.drop k) k=gD (λb=>b == v) bl));(case atStart=>exact⟨0,U,rfl,Below.refl _ _,P.o⟩);case round=>obtain⟨k,y,rfl,a⟩:=hrel;by_cases s:k<bl.length;(.obtain⟨b,q⟩:∃b,bl[k]?=K b:=⟨_,be s⟩;have x:=Q.o k b q;have r:=apK x;have A:=aR a.o.1 x r;have f:H ((if b == v then(k:Int) else fq (λb=>b == v) (bl.drop<|k+1) (k+1))=gD (λb=>b == v) bl):=(by have:=a.o.2;rw[qx q] at this;exact this);have u:(k:Int)<(bl.length:Int):=U;have p:(binOp .eql 175 (aF<|K ⟨v,0,Z⟩)<|aF<|K ⟨b,0,Z⟩).run prog wr=.ok (aC<|b == v) wr:=(by obtain⟨S,n⟩:=t.o v<|j rfl;obtain⟨R,l⟩:=t.o b<|F<|bB q;exact aew ⟨S,(a.o.1.block v<|apJ n).trans n⟩ ⟨R,(a.o.1.block b<|apJ l).trans l⟩);generalize(b == v)=B at*;cases B;(.have d:=hid f.o;go_wp2_with (simp only[p]);go_roundg (gk-1);(case measure=>omega);case rel=>exact⟨k+1,U,af,a.o.1,d.o⟩);have d:=hid f.o;go_wp2_with (simp only[p]);go_ret;exact⟨by rw[<-d.o];rfl,a.o.1⟩);have o:k=bl.length:=U;subst o;have d:H ((-1:Int)=gD (λb=>b == v) bl):=(by have:=a.o.2;rw[KA] at this;exact this);go_wp2_with fail;go_ret;exact⟨by rw[<-d.o];rfl,a.o.1⟩
theorem aey(n:Nat)(l:0<n)(m:n<=85000000)(w:G):
  M 257 #[D Z 0 0,I J n] w λe w'=>∃cap,e=aJ (D (K ⟨w.heap.size,0,Z⟩) 0 cap)/\w'.ownsRow w.heap.size 175 1 (D (K ⟨w.heap.size,0,Z⟩) 0 cap) 0 []/\ag w w':=by obtain⟨k,c,f,p,a⟩:=aH rL;have d:∀g,(Builtin.append_ #[185,3] g #[D Z 0 0,I J n]).run prog w=.ok (D (K ⟨w.heap.size,0,Z⟩) n<|grownCap w n 0 175) (w.drew.alloc<|.cells (#[]++Builtin.zeroCells (aF Z).cells n++Builtin.zeroCells (aF Z).cells (grownCap w n 0 175-n)) 175):=λg=>(by have h:=Lib.run_append_grow_zeros w 185 3 g 175 k (aF Z) J J underlying185 underlying3 c f Z 0 0 [] (run_firstCells_none w.drew k.size 0 0 0) n l U U U (by rw[a];omega) (by rw[a,ir];exact growslice_fits U U);simpa using h);go_enter func257,ntmps257;go_wp2_with (at_builtin;refine Lib.wpList_append_run _ rfl _ _ _ _ rfl _ _ rfl rfl _ _ (d _) ?_);go_ret;have:n<=grownCap w n 0 175:=grownCap_ge w _ _ _;have b:=grownCap_le_maxLen w n 0 175 ar;refine⟨_,rfl,⟨rfl,F ⟨w.heap.size,grownCap w n 0 175,_,rfl,aX _,aa _ _,iq _,b,?_,?_⟩⟩,(aj _ _).drew⟩;simp[size_zeroCells];omega;simp
abbrev It:=Nat×Nat×V Nat
def iC(a:V It):V Nat:=a.flatMap (·.2.2)
def zy(g:Nat)(it:It):Y:=D (K ⟨g,it.1,Z⟩) it.2.2.length it.2.1
theorem aez(f:V It)(g sb sc:Nat)(w:G)(hN:0<(iC f).length)(hN':(iC f).length<=85000000)(hl:f.length<=100)
  (HS:H (∀(k:Nat) it,f[k]?=K it->w.cell? ⟨sb,k,Z⟩=K (zy g it)))
  (HV:H (∀it∈f,∀(i:Nat) b,it.2.2[i]?=K b->w.cell? ⟨g,it.1+i,Z⟩=K (aF<|K ⟨b,0,Z⟩))):
  M 214 #[D (K ⟨sb,0,Z⟩) f.length sc] w λe w'=>∃T,e=aJ T/\w'.ownsRow w.heap.size 175 1 T (iC f).length (bU<|iC f)/\ag w w':=by obtain⟨i0,F,hz0,hz1,hz2⟩:=aH rL;have HG:=hid aey;have HT:H (∀(k:Nat)(it:It),f[k]?=K it->iC (f.take<|k+1)=iC (f.take k)++it.2.2):=λk it h=>(by have htk:f.take (k+1)=f.take k++[it]:=(by rw[fg,h];rfl);show(f.take<|k+1).flatMap (·.2.2)=(f.take k).flatMap (·.2.2)++it.2.2;rw[htk,Kx,nn,VK,lY]);have Q:H (∀k,(iC<|f.take k).length<=(iC f).length):=λk=>(by show((f.take k).flatMap (·.2.2)).length<=(f.flatMap (·.2.2)).length;(conv=>rhs;rw[<-oy k f,Kx,bG]);omega);go_enter func214,ntmps214;go_wp2_with fail;go_loopg [3,11] f.length (λm sv iv wr=>∃k:Nat,k+m=f.length/\iv=I J k/\sv=I J (iC<|f.take k).length/\w=wr);(case atStart=>exact⟨0,U,rfl,rfl,rfl⟩);case round=>obtain⟨k,hkn,rfl,rfl,rfl⟩:=hrel;by_cases B:k<f.length;(.obtain⟨it,l⟩:∃it,f[k]?=K it:=⟨_,be B⟩;have v:=HS.o k it l;have x:=HT.o k it l;have n:=Q.o<|k+1;rw[x,bG] at n;obtain⟨o,c,bl⟩:=it;unfold zy at v;simp only at v x n;have iH:(k:Int)<(f.length:Int):=U;have F9:H ((iC<|f.take<|k+1).length=(iC<|f.take k).length+bl.length):=(by show _=_;rw[x,bG]);generalize(iC<|f.take k).length=a at*;have:wrap64 ((a:Int)+(bl.length:Int))=((a+bl.length:Nat):Int):=(by unfold wrap64;omega);have:¬(((a+bl.length:Nat):Int)<0):=U;go_wp2_with fail;go_roundg (gk-1);(case measure=>omega);case rel=>exact⟨k+1,U,af,by rw[F9.o];simp,rfl⟩);.have L:k=f.length:=U;subst L;rw[dV];generalize hNN:(iC f).length=N at*;have R:=hid hNN;go_wp2_with fail;refine(HG.o N hN hN' _).mono ?_;rintro e w1 ⟨cap,rfl,pW,hb1⟩;have X:H (w1.ownsRow w.heap.size 175 1 (D (K ⟨w.heap.size,0,Z⟩) 0 cap) (iC<|f.take 0).length (bU<|iC<|f.take 0)/\ag w w1):=⟨pW,hb1⟩;go_wp2_with fail;go_loopg [6,27] f.length (λm T iv wr=>∃k:Nat,k+m=f.length/\iv=I J k/\H (wr.ownsRow w.heap.size 175 1 T (iC<|f.take k).length (bU<|iC<|f.take k)/\ag w wr));(case atStart=>exact⟨0,U,rfl,X.o⟩);case round=>obtain⟨k,hkn,rfl,HO⟩:=hrel;by_cases B:k<f.length;(.obtain⟨it,l⟩:∃it,f[k]?=K it:=⟨_,be B⟩;have v:=HS.o k it l;have x:=HT.o k it l;have n:=Q.o<|k+1;rw[x,bG] at n;have hV:=HV.o it<|bB l;obtain⟨o,c,bl⟩:=it;unfold zy at v;simp only at v x n hV;have:=aR HO.o.2 v<|apK v;have iH:(k:Int)<(f.length:Int):=U;obtain⟨s,r⟩:=HO.o;have z:=r.size;have S:=hid x;have HVV:=hid<|λi b hb=>(r.cell (p:=⟨g,o+i,Z⟩)<|apK<|hV i b hb).trans<|hV i b hb;generalize iC (f.take k)=a at*;cases bl with|nil=>have t:H (wr.ownsRow w.heap.size 175 1 u6 (iC<|f.take<|k+1).length (bU<|iC<|f.take<|k+1)/\ag w wr):=(by show _/\_;rw[S.o,lY];exact⟨s,r⟩);go_wp2_with (at_builtin;refine Pr rfl (.tmp 31) (.tmp 32) 185 rfl w.heap.size 175 i0 1 underlying185 F u6 a.length (bU a) rfl s (K ⟨g,o,Z⟩) c rfl ?_);go_roundg (gk-1);(case measure=>omega);case rel=>exact⟨k+1,U,af,t.o⟩|cons P q=>rw[dc] at n;have hnw:∀(j:Nat)(d:Y),(bU (P::q))[j]?=K d->wr.cell? (Addr.add ⟨g,o,Z⟩ j)=K d:=λj d hj=>(by unfold bU at hj;rw[aa9] at hj;obtain⟨b',h1,h2⟩:=oC.1 hj;rw[<-h2];have e:Addr.add ⟨g,o,Z⟩ j=⟨g,o+j,Z⟩:=(by simp[Addr.add]);rw[e];exact HVV.o j b' h1);have O:∀d∈bU (P::q),d.oneCell'=aP:=(by unfold bU;simp[Value.oneCell']);have hpl:(bU (P::q)).length=(q.length+1)*1:=(by simp[bU]);have HNW:=hid hnw;have HON:=hid O;have HPL:=hid hpl;go_wp2_with (at_builtin;go_loud (refine ahm _ rfl (.tmp 31) (.tmp 32) 185 rfl w.heap.size 175 i0 _ 1 8 underlying185 F hz0 hz1 hz2 rfl ae u6 a.length (bU a) rfl s ⟨g,o,Z⟩ (q.length+1) c (bU (P::q)) rfl HPL.o HNW.o HON.o U ar U z wr.heap.size rfl ?_);intro g' y w8 fX mO nV jW);have t:H (w8.ownsRow w.heap.size 175 1 (D (K ⟨g',0,Z⟩) (a.length+(q.length+1)) y) (iC<|f.take<|k+1).length (bU<|iC<|f.take<|k+1)/\ag w w8):=(by show _/\_;rw[S.o,bG];refine⟨?_,r.grown mO z<|λk L=>(bn s k L).1⟩;have e:bU (a++P::q)=bU a++bU (P::q):=(by simp[bU]);rw[e];exact fX);go_wp2_with fail;go_roundg (gk-1);(case measure=>omega);case rel=>exact⟨k+1,U,af,t.o⟩);have L:k=f.length:=U;subst L;have HF:=HO.o;rw[dV,R.o] at HF;have W:=hid HF;go_wp2_with fail;go_ret;exact⟨u6,rfl,by rw[R.o];exact W.o⟩
def tI(Xs:V PB):Nat->V Nat->V Nat
 |_,[]=>[]
 |b,s::r=>(if fn (xi Xs s) (xi Xs b)=0 then[] else[s])++tI Xs s r
theorem Rr(Xs:V PB):∀(l:V Nat)(b s:Nat),tI Xs b (l++[s])=tI Xs b l++(if fn (xi Xs s) (xi Xs<|l.getLastD b)=0 then[] else[s])
 |[],b,s=>by simp[tI]
 |a::l,b,s=>by show _++tI Xs a (l++[s])=(_++tI Xs a l)++_;rw[Rr Xs l a s,aaU];grind
theorem ww(Xs:V PB):∀(l:V Nat)(b:Nat),∀s∈tI Xs b l,s∈l
 |[],_,s,h=>by simp[tI] at h
 |a::l,b,s,h=>by rcases dm.1 h with h|h;grind;exact bW _ (ww Xs l a s h)
theorem Is(Xs:V PB):∀(l:V Nat)(b:Nat),(tI Xs b l).length<=l.length
 |[],_=>by simp[tI]
 |a::l,b=>by have:=Is Xs l a;show(_++tI Xs a l).length<=_;grind
def d8(Xs:V PB)(A:V Nat):V Nat:=tI Xs (A.getLastD 0) A
def jA(Xs:V PB)(T:V Nat):Nat:=cD (λi j=>cC (xi Xs i).f (xi Xs j).f) T.tail<|T.headD 0
def oZ(Xs:V PB)(T:V Nat):Nat:=(gD (λj=>j == jA Xs T) T).toNat
def eH(Xs:V PB)(A:V Nat):V Nat:=(d8 Xs A).drop (oZ Xs<|d8 Xs A)++(d8 Xs A).take (oZ Xs<|d8 Xs A)
theorem DF{P Q:Nat->Bool}{f:Nat->Nat}:∀(l:V Nat)(k:Nat),(∀x∈l,P (f x)=Q x)->fq P (l.map f) k=fq Q l k
 |[],_,_=>rfl
 |a::l,k,h=>by show(if P (f a) then(k:Int) else fq P (l.map f) (k+1))=if Q a then(k:Int) else fq Q l (k+1);rw[h a E,DF l (k+1) λx b=>h x<|bW _ b]
theorem Ru{P:Nat->Bool}:∀(l:V Nat)(k:Nat),(∃x∈l,P x=aP)->(k:Int)<=fq P l k/\fq P l k<(k:Int)+l.length
 |[],_,h=>by grind
 |a::l,k,h=>by show(k:Int)<=(if P a then(k:Int) else fq P l (k+1))/\(if P a then(k:Int) else fq P l (k+1))<(k:Int)+(a::l).length;by_cases b:P a=aP;grind;rw[X b,dc];obtain⟨x,c,d⟩:=h;have:=Ru l (k+1) ⟨x,(bK.1 c).resolve_left<|λe=>b (e▸d),d⟩;omega
theorem li{base:Nat}{e:TypeId}{v:Y}{n:Nat}{bl:V Nat}(h:w.ownsRow base e 1 v n (bU bl))(f:bl≠[]):
  ∃a d,v=D (K ⟨a,0,Z⟩) n d/\base<=a/\a<w.heap.size/\n<=d/\d<=maxLen/\n=bl.length/\∀(i b:Nat),bl[i]?=K b->w.cell? ⟨a,0+i,Z⟩=K (aF<|K ⟨b,0,Z⟩):=by obtain⟨k,q⟩:=h;have x:(bU bl).length=bl.length:=(by simp[bU]);rcases q with⟨_,p⟩|⟨g,cap,m,Q,s,l,r,B,R,P⟩;grind;refine⟨g,cap,Q,s,apJ l,r,B,U,λi b t=>?_⟩;have c:(bU bl)[i]?=K (aF<|K ⟨b,0,Z⟩):=(by unfold bU;grind);rw[<-P,jb] at c;split at c;rw[ir];unfold World.cell?;grind;cases c
theorem aeB(bs:V Nat)(Xs:V PB)(hB:BD Xs)(g:Nat)(mk:Nat->Bool)(ow:Nat->Option Nat)(w:G)(hW:SW g bs Xs mk ow w)(c:V Nat)(Be:0<c.length)(hAl:c.length<=85000000)(hA:∀a∈c,a<bs.length)(g0 lo cap:Nat)
  (HV:H (∀(i:Nat) a,c[i]?=K a->w.cell? ⟨g0,lo+i,Z⟩=K (aF<|K ⟨bx bs a,0,Z⟩)))(hT:d8 Xs c≠[])(T:V Nat)(bM R:Nat)(Iu:d8 Xs c=T)(zA:R<T.length)(wz:T.length<=85000000)(wC:H (eH Xs c=T.drop R++T.take R))
  (HM:H (∀t q wr,wr.ownsRow w.heap.size 175 1 (D (K ⟨t,0,Z⟩) T.length q) T.length (bU<|T.map<|bx bs)->ag w wr->M 213 #[D (K ⟨t,0,Z⟩) T.length q,.func (.func 109) #[] #[]] wr (ai (aF<|K ⟨bM,0,Z⟩) wr)))
  (HX:H (∀t q wr,wr.ownsRow w.heap.size 175 1 (D (K ⟨t,0,Z⟩) T.length q) T.length (bU<|T.map<|bx bs)->ag w wr->M 212 #[D (K ⟨t,0,Z⟩) T.length q,aF<|K ⟨bM,0,Z⟩] wr (ai (I J R) wr))):
  M 168 #[D (K ⟨g0,lo,Z⟩) c.length cap] w λe w'=>∃Y,e=aJ Y/\w'.ownsRow w.heap.size 175 1 Y (eH Xs c).length (bU<|(eH Xs c).map<|bx bs)/\ag w w':=by
 have hlen:=hW.len;have Iv:H (∀a∈c,il w (bx bs a)<|xi Xs a):=λa ha=>hW.rb.at (by rw[<-hlen];exact hA a ha);have HLD:H (∀a∈c,∃l,LD (xi Xs a) l):=λa ha=>hB.ld _<|gm (by rw[<-hlen];exact hA a ha);obtain⟨z,hz⟩:∃z,c[c.length-1]?=K z:=⟨_,be U⟩;have hzl:c.getLastD 0=z:=(by rw[jF,lA,hz];rfl);have c0:=HV.o _ z hz;have hzA:z∈c:=bB hz;have hw1:J.wrap ((c.length:Int)-1)=((c.length-1:Nat):Int):=(by rw[ah];omega);have gh:H (w.ownsRow w.heap.size 175 1 (D Z 0 0) (tI Xs z<|c.take 0).length (bU<|(tI Xs z<|c.take 0).map<|bx bs)/\ag w w):=⟨ak _ _ _ _,Below.refl _ _⟩;go_enter func168,ntmps168;go_wp2_with fail;go_loopg [3,4,16] c.length (λm Y pv iv wr=>∃k:Nat,k+m=c.length/\iv=I J k/\pv=aF (K ⟨bx bs<|(c.take k).getLastD z,0,Z⟩)/\H (wr.ownsRow w.heap.size 175 1 Y (tI Xs z<|c.take k).length (bU<|(tI Xs z<|c.take k).map<|bx bs)/\ag w wr));case atStart=>exact⟨0,U,rfl,rfl,gh.o⟩
 case round=>
  obtain⟨k,hkn,rfl,rfl,HO⟩:=hrel;clear gh;by_cases hlt:k<c.length;.obtain⟨s,hs⟩:∃s,c[k]?=K s:=⟨_,be hlt⟩;obtain⟨Q,r⟩:=HO.o;have Rv:s∈c:=bB hs;have Rw:(c.take k).getLastD z∈c:=(by rw[jF];cases hh:(c.take k).getLast? with|none=>exact hzA|some d=>exact kP<|oD hh);have c1:=(r.cell (p:=⟨g0,lo+k,Z⟩)<|apK<|HV.o k s hs).trans<|HV.o k s hs;have hS:=(Iv.o s Rv).below r;have hP:=(Iv.o _ Rw).below r;have s0:=hS.c0;have s1:=hS.c1;have p0:=hP.c0;have p1:=hP.c1;obtain⟨l1,nH⟩:=HLD.o s Rv;obtain⟨l2,hl2⟩:=HLD.o _ Rw;have tL:=hid<|λw'=>aet _ _ nH hl2 w';have htk:c.take (k+1)=c.take k++[s]:=(by rw[fg,hs];rfl);have Rx:H ((c.take<|k+1).getLastD z=s):=(by show(c.take<|k+1).getLastD z=s;rw[htk];simp);have rr:H (tI Xs z (c.take<|k+1)=tI Xs z (c.take k)++(if decide (fn (xi Xs s) (xi Xs<|(c.take k).getLastD z)=0)=aP then[] else[s])):=(by show tI Xs z (c.take<|k+1)=_;rw[htk,Rr];simp only[pE]);have wz:=Is Xs (c.take k) z;rw[fU] at wz;have hbz:=r.size;have iH:(k:Int)<(c.length:Int):=U;have hsz:=apK s0;have DG:=apK p0;have Ry:ag wr wr.drew:=(Below.refl _ _).drew;have n:=hid Q;have f:=hid r;clear hS hP nH hl2 htk hs HO Q r c0 hz hw1;generalize O:bx bs s=bS at*;generalize bx bs ((c.take k).getLastD z)=bP at*;generalize decide (fn (xi Xs s) (xi Xs<|(c.take k).getLastD z)=0)=B at*;generalize(xi Xs s).wa=X1 at*;generalize(xi Xs s).wb=X2 at*;generalize(xi Xs s).sh=X3 at*;generalize(xi Xs<|(c.take k).getLastD z).wa=Y1 at*;generalize(xi Xs<|(c.take k).getLastD z).wb=Y2 at*;generalize(xi Xs<|(c.take k).getLastD z).sh=Y3 at*;generalize tI Xs z (c.take k)=T at*;go_wp2_with fail;go_region_held3 (λw'=>atb w' bS (A C X1 X2) (aA C X3)/\atb w' bP (A C Y1 Y2) (aA C Y3)) (go_keep) ((go_at_call 179;refine(tL.o _).mono ?_;rintro e w5 ⟨rfl,jS⟩;have j:ag wr w5:=Ry.trans jS;have e0:=aR j s0 hsz;have e1:=aR j s1 hsz;have e2:=aR j p0 DG;have e3:=(aR j p1 DG)));all_goals (have HB5:=hid<|f.o.trans<|j.mono hbz;have F:w5.ownsRow w.heap.size 175 1 u3 T.length (bU<|T.map<|bx bs):=bH n.o λk x=>j.block k (bn n.o k x).2;have aeD:=HB5.o.size;clear e0 e1 e2 e3 s0 s1 p0 p1 Ry j n f tL;cases B;(.have L:H (tI Xs z (c.take<|k+1)=T++[s]):=rr.o;have hnb:(w5.alloc<|.cells #[aF (K ⟨bS,0,Z⟩)] 175).heap[w5.heap.size]?=K (.cells #[aF (K ⟨bS,0,Z⟩)] 175 (0,0)):=aa _ _;have mj:(w5.alloc<|.cells #[aF (K ⟨bS,0,Z⟩)] 175).ownsRow w.heap.size 175 1 u3 T.length (bU<|T.map<|bx bs):=bH F λk x=>ad _ _ _ (bn F k x).2;have X:=F;clear rr F;go_wp2_with (at_builtin;refine ii rfl rL underlying185 mj hnb ?_;intro g' cap' w8 fX mO jW);have jI:H (w8.ownsRow w.heap.size 175 1 (D (K ⟨g',0,Z⟩) (T.length+1) cap') (tI Xs z<|c.take<|k+1).length (bU<|(tI Xs z<|c.take<|k+1).map<|bx bs)/\ag w w8):=(by show _/\_;rw[L.o,bG,abb];refine⟨?_,(HB5.o.alloc aeD _).grown mO aq<|λk x=>(bn X k x).1⟩;have e:bU (T.map (bx bs)++[s].map (bx bs))=bU (T.map<|bx bs)++[aF (K ⟨bS,0,Z⟩)]:=(by simp[bU,O]);rw[e];exact fX);have HBB:=hid O;clear fX mO hnb mj X L O;go_wp2_with fail;go_roundg (gk-1);(case measure=>omega);case rel=>exact⟨k+1,U,af,by rw[Rx.o,HBB.o],jI.o⟩);.have L:H (tI Xs z (c.take<|k+1)=T):=(by have:=rr.o;rw[y rfl,lY] at this;exact this);have jI:H (w5.ownsRow w.heap.size 175 1 u3 (tI Xs z<|c.take<|k+1).length (bU<|(tI Xs z<|c.take<|k+1).map<|bx bs)/\ag w w5):=(by show _/\_;rw[L.o];exact⟨F,HB5.o⟩);have HBB:=hid O;clear rr F O L;go_wp2_with fail;go_roundg (gk-1);(case measure=>omega);case rel=>exact⟨k+1,U,af,by rw[Rx.o,HBB.o],jI.o⟩)
  .have x:k=c.length:=U;subst x;have Q:=HO.o.1;have f:=hid HO.o.2;rw[dV] at Q;have Rz:tI Xs z c=T:=(by rw[<-Iu];unfold d8;rw[hzl]);rw[Rz] at Q;obtain⟨t,q,rfl,hgT,tE,hcT,hcm,hd1,hd2⟩:=li Q (by rw[<-Iu];simpa using hT);clear hd1 hd2;have n:=hid Q;have al0:q<=9223372036854775807:=by unfold maxLen at hcm;omega
   have RA:=HM.o t q wr n.o f.o;have RC:=hid RA;clear HM RA Q HO Iv HLD HV hW hB Rz Iu hcm c0 hz hw1 hT hA hzA hzl;go_wp2_with fail;refine RC.o.mono ?_;rintro e w1 ⟨rfl,hb1⟩;have pW:=bH n.o λk x=>hb1.block k (bn n.o k x).2;have N:=f.o.trans<|hb1.mono f.o.size;have RE:=hid<|HX.o t q w1 pW N;have pY:=hid pW;have JH:=hid N;clear HX RC pW N n f hb1;go_wp2_with fail;refine RE.o.mono ?_;rintro e S ⟨rfl,r⟩;have n:=hid<|bH pY.o λk x=>r.block k (bn pY.o k x).2;have f:=hid<|JH.o.trans<|r.mono JH.o.size;clear RE pY JH r;have RF:H (∀w' sb,ag S w'->w'.cell? ⟨sb,0,Z⟩=K (D (K ⟨t,R,Z⟩) (T.length-R)<|q-R)->w'.cell? ⟨sb,1,Z⟩=K (D (K ⟨t,0,Z⟩) R q)->M 214 #[D (K ⟨sb,0,Z⟩) 2 2] w' λe v=>∃Y,e=aJ Y/\v.ownsRow w'.heap.size 175 1 Y (eH Xs c).length (bU<|(eH Xs c).map<|bx bs)/\ag w' v):=λw' sb hb c0 c1=>by
    obtain⟨RH,P,hv,_,Nh,_,_,_,hcell⟩:=li n.o (by intro h;have:=bd List.length h;simp at this;rw[this] at zA;simp at zA);have hgg:RH=t/\P=q:=(by injection hv with h1 _ h3;injection h1 with h1;injection h1 with h1;exact⟨h1.symm,h3.symm⟩);obtain⟨rfl,rfl⟩:=hgg;have W:iC [(R,P-R,(T.drop R).map<|bx bs),(0,P,(T.take R).map<|bx bs)]=(eH Xs c).map (bx bs):=(by rw[wC.o,abb];simp[iC]);have nH:((T.drop R).map<|bx bs).length=T.length-R:=E;have hl2:((T.take R).map<|bx bs).length=R:=aq;have hcl:((eH Xs c).map<|bx bs).length=T.length:=(by rw[wC.o,eK,bG];simp;omega)
    have x:=aez [(R,P-R,(T.drop R).map<|bx bs),(0,P,(T.take R).map<|bx bs)] RH sb 2 w' (by rw[W,hcl];omega) (by rw[W,hcl];exact wz) E
     (λk it x=>by
      rcases k with _|_|k
      .have e:it=(R,P-R,(T.drop R).map<|bx bs):=by simpa using x.symm
       rw[e];unfold zy;simp only[nH];exact c0
      .have e:it=(0,P,(T.take R).map<|bx bs):=by simpa using x.symm
       rw[e];unfold zy;simp only[hl2];exact c1
      .simp at x)
     (λit hit i b hi=>by
      have hgl:=Nh;rcases bK.1 hit with e|hit
      .rw[e] at hi⊢;simp only at hi⊢;have h2:=hcell (R+i) b (by rw[<-hi,List.map_drop,xe]);rw[ir] at h2;exact(aR hb h2 hgl)
      .have e:it=(0,P,(T.take R).map<|bx bs):=by simpa using hit
       rw[e] at hi⊢;simp only at hi⊢;have h2:=hcell i b (by
        rw[KB,jb] at hi;split at hi
        .exact hi
        .cases hi)
       exact(aR hb h2 hgl))
    rw[W,eK] at x;exact x
   have Iw:(0:Int)<=(R:Int):=U;have hRi:(R:Int)<=(T.length:Int):=U;have hRc:(R:Int)<=(q:Int):=U;have hcR:¬q=R:=U;have ry:H (∀o,ag S (S.alloc o).drew):=λo=>((Below.refl _ _).alloc (aX _) o).drew;have HBD:H (ag S S.drew):=(Below.refl _ _).drew;have Ix:ag S (S.alloc<|.cells #[D (K ⟨t,R,Z⟩) (T.length-R) (q-R),D (K ⟨t,0,Z⟩) R q] 185).drew:=(aj _ _).drew;have hcc:=RF.o _ S.heap.size Ix (apL (w:=(S.alloc<|.cells #[D (K ⟨t,R,Z⟩) (T.length-R) (q-R),D (K ⟨t,0,Z⟩) R q] 185).drew) (aa _ _) 0)<|apL (w:=(S.alloc<|.cells #[D (K ⟨t,R,Z⟩) (T.length-R) (q-R),D (K ⟨t,0,Z⟩) R q] 185).drew) (aa _ _) 1;have aeI:=f.o.size;have wl:H (M 214 #[D (K ⟨S.heap.size,0,Z⟩) 2 2] (S.alloc<|.cells #[D (K ⟨t,R,Z⟩) (T.length-R) (q-R),D (K ⟨t,0,Z⟩) R q] 185).drew λe v=>∃Y,e=aJ Y/\v.ownsRow w.heap.size 175 1 Y (eH Xs c).length (bU<|(eH Xs c).map<|bx bs)/\ag w v):=(by refine hcc.mono ?_;rintro e w9 ⟨lv9,rfl,BB,zC⟩;exact⟨lv9,rfl,mQ BB (by simp[World.drew];omega),f.o.trans<|(Ix.trans<|zC.mono<|by simp[World.drew]).mono aeI⟩);clear n wC RF hcc Ix ry HBD;go_wp2_with fail;go_region_held3 (λ_=>True) (go_keep) ((go_at_call 214;refine wl.o.mono ?_;rintro e w9 ⟨lv9,rfl,BB,zC⟩));all_goals (have HF:H (w9.ownsRow w.heap.size 175 1 lv9 (eH Xs c).length (bU<|(eH Xs c).map<|bx bs)/\ag w w9):=⟨BB,zC⟩;clear BB zC f wl;go_wp2_with fail;go_ret;exact⟨lv9,rfl,HF.o⟩)
end
end Go.Proofs.YtkjhhooecopolaaGreatDoor
