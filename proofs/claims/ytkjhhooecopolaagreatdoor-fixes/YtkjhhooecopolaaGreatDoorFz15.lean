import Derived.Test.YtkjhhooecopolaaGreatDoorFz14
set_option maxRecDepth 100000
set_option maxHeartbeats 4000000
namespace Go.Proofs.YtkjhhooecopolaaGreatDoor
open Go.Proofs.Tryz
open Value renaming int->I,complex->A,float->aA,agg->u,bool->aC,string->aD,slice->D,tuple->aG
open IntKind renaming i64->J
open FloatKind renaming f64->C
open Ending renaming returned->aJ
open Go renaming World->G,Value->Y,floatOfInt->aM
open Option renaming some->K,none->Z
open Bool renaming true->aP,false->aQ
section
open Go.RowKit
theorem NU(n:Int)(b: -9223372036854775808<=n)(c:n<=9223372036854775807)(w1:G)(a:Gl w1):
  M 146 #[I J n] w1 (ai (aD ⟨(Lib.itoa n).toArray⟩) w1):=by
 refine(Tryz.strconv_Itoa n b c w1 a.tab).mono ?_;rintro e w' ⟨rfl,k,os,rfl⟩;exact⟨rfl,Lib.below_grow _ _ (aX _) _ _⟩
theorem NV(x d:Int)(w:G)(P:Gl w)(hx: -16000000<=x/\x<=16000000)(W:0<d/\d<=300000):
  M 178 #[I J x,I J d] w (ai (aD ⟨(Pl.jr<|N.bu x d).toArray⟩) w):=by
 obtain⟨a,n⟩:∃a,Int.gcd x d=a:=⟨_,rfl⟩;have m:N.bu x d=(x.tdiv a,d.tdiv a):=by
  unfold N.bu;rw[X U];unfold qb nN;rw[n]
 have:0<a:=by rw[<-n];exact Vp _ U
 have c:(a:Int)∣d:=by rw[<-n];exact ul ..
 have f:=Kn W.1 c;have B:=N.Cp c;have bx:=oM x a;have L:=oM d a;rw[m];have z:H (∀w1,M 65 #[I J x,I J d] w1 (ai (I J (a:Int)) w1)):=λw1=>by rw[<-n];exact xS x d w1 U U
 have:J.wrap (x.tdiv (a:Int))=x.tdiv a:=by rw[ah];omega
 have t:J.wrap (d.tdiv (a:Int))=d.tdiv a:=by rw[ah];omega
 have o:J.wrap (d/(a:Int))=d.tdiv a:=by rw[<-t,ER U]
 have F:H (∀w1,Gl w1->M 146 #[I J (x.tdiv a)] w1 (ai (aD ⟨(Lib.itoa<|x.tdiv a).toArray⟩) w1)):=λw1 i=>NU _ U U w1 i;have Q:H (∀w1,Gl w1->M 146 #[I J (d.tdiv a)] w1 (ai (aD ⟨(Lib.itoa<|d.tdiv a).toArray⟩) w1)):=λw1 i=>NU _ U U w1 i;have O:=aaS (x.tdiv a) U U;have T:=aaS (d.tdiv a) U U;have:¬a=0:=U;have:(0:Int)<a:=U;by_cases l:d=a
 .have s:d.tdiv a=1:=by
   rw[<-l];exact Int.tdiv_self U
  have p:H (Pl.jr (x.tdiv a,d.tdiv a)=Lib.itoa (x.tdiv a)):=y s;rw[p.o];generalize Lib.itoa (x.tdiv a)=S at*;clear p O T t o Q s B bx L f c m n;subst l;go_enter func178,ntmps178;go_wp2_with fail;refine(z.o _).mono ?_;rintro e w1 ⟨rfl,b⟩;go_wp2_with fail;refine(F.o _<|P.below b P.sz).mono ?_;rintro e w2 ⟨rfl,j⟩;go_wp2_with fail;go_ret;exact⟨rfl,b.trans<|j.mono b.size⟩
 .have s:¬d.tdiv a=1:=by
   intro h;rw[h,Int.mul_one] at B;exact l B
  have p:H (Pl.jr (x.tdiv a,d.tdiv a)=Lib.itoa (x.tdiv a)++([47]++Lib.itoa (d.tdiv a))):=X s;rw[p.o];have v:(d/(a:Int))=d.tdiv a:=(ER U).symm;have R:H (∀w1,Gl w1->M 146 #[I J (d/(a:Int))] w1 (ai (aD ⟨(Lib.itoa<|d.tdiv a).toArray⟩) w1)):=by rw[v];exact Q
  generalize Lib.itoa (x.tdiv a)=S at*;generalize Lib.itoa (d.tdiv a)=V at*;have:¬9223372036854775807<S.length+1:=U;have:¬9223372036854775807<S.length+1+V.length:=U;clear p s B bx L f c m n v O T;go_enter func178,ntmps178;go_wp2_with fail;refine(z.o _).mono ?_;rintro e w1 ⟨rfl,b⟩;have g:Gl w1:=P.below b P.sz;go_wp2_with fail;go_region_held3 (λ_=>True) (trivial) (first
   |(go_at_call_of 146 (I J<|x.tdiv a);refine(F.o _ g.drew).mono ?_;rintro e w5 ⟨rfl,k⟩;have q:=g.drew.below k g.sz)
   |(go_at_call_of 146 (I J<|d.tdiv a);refine(Q.o _ q).mono ?_;rintro e w6 ⟨rfl,r⟩)
   |(go_at_call_of 146 (I J (d/(a:Int)));refine(R.o _ q).mono ?_;rintro e w6 ⟨rfl,r⟩))
  go_wp2_with fail;go_ret;refine⟨by simp[ByteArray.mk_append_mk],?_⟩;exact(b.drew.trans<|k.mono b.size).trans<|r.mono<|el b.size k.size
theorem Ct{x d:Int}(c: -16000000<=x/\x<=16000000)(b:0<d/\d<=300000):(Pl.jr<|N.bu x d).length<=50:=by
 have a:N.bu x d=(x.tdiv<|Int.gcd x d,d.tdiv<|Int.gcd x d):=by
  unfold N.bu;rw[X U];rfl
 have:=oM x<|Int.gcd x d;have:=oM d<|Int.gcd x d;rw[a];have:=aaS (x.tdiv<|Int.gcd x d) U U;have:=aaS (d.tdiv<|Int.gcd x d) U U;unfold Pl.jr;split
 .show(Lib.itoa<|x.tdiv<|Int.gcd x d).length<=50;omega
 .show(Lib.itoa (x.tdiv<|Int.gcd x d)++([47]++Lib.itoa (d.tdiv<|Int.gcd x d))).length<=50;simp;omega
theorem aa0(c d:Nat)(X a P:Int)(l m:V UInt8)(w:G)(x:Gl w)(o:l.length<=50)(y:m.length<=50)
  (Q:∀w,(convert 120 3<|aA C c).run prog w=.ok (I J X) w)
  (q:∀w,(convert 120 3<|aA C d).run prog w=.ok (I J a) w)
  (t:H (∀w1,Gl w1->M 178 #[I J X,I J P] w1 λe w'=>e=aJ (aD ⟨l.toArray⟩)/\Below w1.heap.size w1 w'))
  (s:H (∀w1,Gl w1->M 178 #[I J a,I J P] w1 λe w'=>e=aJ (aD ⟨m.toArray⟩)/\Below w1.heap.size w1 w')):
  M 122 #[u #[A C c d,I J P]] w λe w'=>e=aJ (aD ⟨(l++([32]++m)).toArray⟩)/\Below w.heap.size w w':=by
 have:¬9223372036854775807<l.length+1:=U;have:¬9223372036854775807<l.length+1+m.length:=U;have p:Below w.heap.size w (w.alloc<|.cells #[A C c d,I J P] 83):=(Below.refl _ _).alloc (aX _) _;have r:=aa w<|.cells #[A C c d,I J P] 83;have k:w.heap.size<(w.alloc<|.cells #[A C c d,I J P] 83).heap.size:=E;have f:Gl (w.alloc<|.cells #[A C c d,I J P] 83):=x.alloc _;go_enter func122,ntmps122;go_wp2_with fail;generalize w.alloc (.cells #[A C c d,I J P] 83)=W at*;generalize v:w.heap.size=B at*;have i:=bz r;have j:=bw r;go_region_held3 (λw'=>apR w' B (A C c d)<|I J P) (go_keep) (first
   |(go_at_call_of 178 (I J X);refine(t.o _ f.drew).mono ?_;rintro e z ⟨rfl,b⟩;have n:=f.drew.below b f.sz;have R:=aR b i k;have S:=(aR b j k))
   |(go_at_call_of 178 (I J a);refine(s.o _ n).mono ?_;rintro e F ⟨rfl,g⟩;have:=aR g R<|bg k b.size;have:=(aR g S<|bg k b.size))
   |(simp only)
   |(simp only[q]))
 all_goals
  go_wp2_with fail;go_ret;refine⟨by simp[ByteArray.mk_append_mk],?_⟩;rw[v];exact(p.drew.trans<|b.mono<|du k).trans<|g.mono<|el (du k) b.size
theorem aa1(n:N.Nd)(a:eM n.1 n.2.1 n.2.2)(w:G)(h:Gl w):
  M 122 #[iQ n] w (ai (aD ⟨(Pl.fC<|N.T n).toArray⟩) w):=by
 obtain⟨c,d⟩:=nU a;have:=a.x;have:=a.y;have f:=c.int U U;have g:=d.int U U;exact aa0 _ _ n.1 n.2.1 n.2.2 (Pl.jr<|N.bu n.1 n.2.2) (Pl.jr<|N.bu n.2.1 n.2.2) w h (Ct U a.d) (Ct U a.d)
  (λw=>abL w 120 3 C J _ _ (by rw[underlying120];rfl) underlying3 f)
  (λw=>abL w 120 3 C J _ _ (by rw[underlying120];rfl) underlying3 g)
  (λw1 b=>NV _ _ w1 b U a.d) (λw1 b=>NV _ _ w1 b U a.d)
def gH(n:N.Nd):V Y:=[A C (aM C n.1) (aM C n.2.1),I J n.2.2]
def ez(l:V N.Nd):V Y:=l.flatMap gH
def js(w:G)(v:Y)(l:V N.Nd):Prop:=w.ownsRow 0 83 2 v l.length<|ez l
theorem yz:∀(l:V N.Nd)(k:Nat)(e:N.Nd),l[k]?=K e->∀j,j<2->(ez l)[k*2+j]?=(gH e)[j]?
 |[],_,_,h,_,_=>by simp at h
 |q::r,0,e,h,j,b=>by
  simp at h;subst h;have a:ez (q::r)=gH q++ez r:=by simp[ez]
  rw[a,dQ (by simp[gH];omega)];simp
 |q::r,k+1,e,h,j,b=>by
  have d:=yz r k e (by simpa using h) j b;have a:ez (q::r)=gH q++ez r:=by simp[ez]
  rw[a,jc (by simp[gH];omega)];have c:(k+1)*2+j-(gH q).length=k*2+j:=by simp[gH];omega
  rw[c,d]
theorem GE(l:V N.Nd)(e:N.Nd):ez (l++[e])=ez l++gH e:=by simp[ez]
theorem Cu{w:G}{v:Y}{l:V N.Nd}(h:js w v l):∃e cap,v=D e l.length cap:=by
 rcases h.2 with⟨a,d⟩|⟨b,cap,c,a,_⟩
 .exact⟨Z,0,by rw[a,d]⟩
 .exact⟨_,cap,a⟩
theorem Cv{w:G}{so:Option Addr}{n cap:Nat}{l:V N.Nd}(h:js w (D so n cap) l){k:Nat}{e:N.Nd}(m:l[k]?=K e):
  ∃b,so=K ⟨b,0,Z⟩/\b<w.heap.size/\w.cell? ⟨b,k*2,Z⟩=K (A C (aM C e.1)<|aM C e.2.1)/\w.cell? ⟨b,k*2+1,Z⟩=K (I J e.2.2):=by
 have g:=yz l k e m;obtain⟨b,c,a,f,d⟩:=rf h<|g 0 U;injection a with a;exact⟨b,a,f,d _ _<|g 0 U,d _ _<|g 1 U⟩
theorem NW(f:N.Qt->V UInt8):∀l:V N.Qt,Lib.join (l.map f) [44,32]=Pl.df f l
 |[]=>rfl
 |[x]=>by simp[Lib.join_one,Pl.df]
 |x::y::r=>by
  have a:=NW f (y::r);simp only[Pl.df,<-a];simp[Lib.join,List.intercalate]
theorem GF:(Tryz.prog.info? 9).map (λi=>(i.zero,i.size,i.bytes))=K (K<|aD ⟨#[]⟩,1,16):=z
def lJ(l:V N.Nd):V ByteArray:=l.map λn=>⟨(Pl.fC<|N.T n).toArray⟩
theorem aa2(l:V N.Nd):(lJ l).map (·.data.toList)=(l.map N.T).map Pl.fC:=by simp[lJ]
def SI(w:G)(b:Y)(a:V ByteArray)(wr:G):Prop:=wr.ownsRow w.heap.size 9 1 b a.length (a.map aD)/\ag w wr
theorem GG{n:N.Nd}(h:eM n.1 n.2.1 n.2.2):(Pl.fC<|N.T n).length<=101:=by
 have:=h.x;have:=h.y;have:=Ct (x:=n.1) (d:=n.2.2) U h.d;have:=Ct (x:=n.2.1) (d:=n.2.2) U h.d;show(Pl.jr (N.bu n.1 n.2.2)++([32]++Pl.jr (N.bu n.2.1 n.2.2))).length<=101;simp;omega
end
namespace N
def met(e f:O×O)(q:Qt):Prop:=cH e f≠0/\q=eF e f/\hq (eF e f) e=aP/\hq (eF e f) f=aP
theorem aa3{e f:O×O}{q:Qt}(h:met e f q):met f e q:=by
 obtain⟨a,b,c,d⟩:=h;have g:cH f e≠0:=by rw[Nv];omega
 have m:=aaJ a;exact⟨g,by rw[m];exact b,by rw[m];exact d,by rw[m];exact c⟩
theorem aa4(e:O×O):cH e e=0:=by unfold cH;grind
theorem aa5(l:V (O×O))(e:O×O)(q:Qt):isNode (l++[e]) q↔isNode l q\/q=pt e.1\/q=pt e.2\/∃f∈l,met e f q:=by
 unfold isNode;constructor
 .rintro(⟨g,a,h⟩|⟨g,a,f,b,h⟩)
  .rcases dm.1 a with a|a
   .exact j (j ⟨g,a,h⟩)
   .rw[cI] at a;subst a;rcases h with h|h
    .exact F (j h)
    .exact F (F<|j h)
  .rcases dm.1 a with a|a
   .rcases dm.1 b with b|b
    .exact j (F ⟨g,a,f,b,h⟩)
    .rw[cI] at b;rw[b] at h;exact F<|F<|F ⟨g,a,aa3 h⟩
   .rw[cI] at a;rw[a] at h;rcases dm.1 b with b|b
    .exact F (F<|F ⟨f,b,h⟩)
    .rw[cI] at b;rw[b] at h;exact absurd (aa4 e) h.1
 .have c:∀{x},x∈l->x∈l++[e]:=λh=>pK _ h;have d:e∈l++[e]:=E;rintro((⟨g,a,h⟩|⟨g,a,f,b,h⟩)|h|h|⟨f,b,h⟩)
  .exact j ⟨g,c a,h⟩
  .exact F ⟨g,c a,f,c b,h⟩
  .exact j ⟨e,d,j h⟩
  .exact j ⟨e,d,F h⟩
  .exact F ⟨e,d,f,c b,h⟩
def dN:V Nd->V Nd
 |[]=>[]
 |[a]=>[a]
 |a::b::r=>if a=b then dN (b::r) else a::dN (b::r)
theorem tH:∀(l:V Nd)(x:Nd),x∈dN l↔x∈l
 |[],x=>by simp[dN]
 |[a],x=>by simp[dN]
 |a::b::r,x=>by
  have c:=tH (b::r) x;unfold dN;split
  .rename_i h;subst h;rw[c];simp
  .rw[bK,c];simp
def le(a b:Nd):Prop:=¬lt (T b) (T a)
theorem vt{a b:Nd}(e:Can a)(f:Can b)(h:le a b)(d:a≠b):lt (T a) (T b):=by
 unfold le lt at h;unfold lt;rw[uV] at h;rcases dG (pc (T a)<|T b) 0 with c|c|c
 .exact c
 .exact absurd (qg e f c) d
 .omega
theorem lt_le_trans{a b c:Nd}(k:Can a)(e:Can b)(f:Can c)(d:lt (T a) (T b))(g:le b c):lt (T a) (T c):=by
 by_cases h:b=c
 .subst h;exact d
 .exact lt_trans (dH k) (dH e) (dH f) d (vt e f g h)
theorem NX:∀(l:V Nd),(∀n∈l,Can n)->l.Pairwise le->(dN l).Pairwise (λa b=>lt (T a)<|T b)
 |[],_,_=>List.Pairwise.nil
 |[a],_,_=>by simp[dN]
 |a::b::r,e,q=>by
  have d:=(fF.1 q).2;have g:=(fF.1 q).1;have s:=NX (b::r) (λn h=>e n (by simp[List.mem_cons] at h⊢;exact F h)) d;unfold dN;split
  .exact s
  .rename_i f;refine fF.2 ⟨λx t=>?_,s⟩;have k:=(tH (b::r) x).1 t;have m:=e a E;have p:=e b E;have c:=vt m p (g b E) f;rcases bK.1 k with h|h
   .subst h;exact c
   .exact lt_le_trans m p (e x<|by simp[h]) c ((fF.1 d).1 x h)
theorem aa6(es:V (O×O))(S:V Nd)(b:∀n∈S,Can n)(g:S.Pairwise le)(f:∀q,(∃n∈S,T n=q)↔isNode es q):(dN S).map T=g8 es:=by
 obtain⟨c,d,e⟩:=vm es;refine F4 (λq k=>?_) c ?_ d<|λq=>?_
 .obtain⟨n,a,rfl⟩:=bA.1 k;exact dH<|b n<|(tH S n).1 a
 .exact ic.2 (NX S b g)
 .rw[e,<-f,bA];constructor
  .rintro⟨n,a,h⟩;exact⟨n,(tH S n).1 a,h⟩
  .rintro⟨n,a,h⟩;exact⟨n,(tH S n).2 a,h⟩
end N
section
open Go.RowKit
variable{w wr:G}{B a g cap n:Nat}
theorem Cw:(Tryz.prog.info? 83).map (λi=>(i.zero,i.size,i.bytes))=K (K<|u #[A C 0 0,I J 0],2,24):=z
theorem NY:∀l:V N.Nd,(N.dN l).length<=l.length
 |[]=>by simp[N.dN]
 |[a]=>by simp[N.dN]
 |a::b::r=>by
  have c:=NY (b::r);unfold N.dN;split
  .simp only[dc] at c⊢;omega
  .simp only[dc] at c⊢;omega
structure NL(w:G)(lv:Y)(L:V N.Nd)(wr:G):Prop where
 own:wr.ownsRow w.heap.size 83 2 lv L.length (ez L)
 below:ag w wr
 can:∀n∈L,N.Can n
 bm:∀n∈L,eM n.1 n.2.1 n.2.2
def NS(w:G)(a:Y)(l:V Ed)(k:Nat)(wr:G):Prop:=
 ∃L,NL w a L wr/\(∀q,(∃n∈L,N.T n=q)↔N.isNode l q)/\L.length<=k
structure qh(w:G)(B:Nat)(x:EB)(e:Ed)(es:V Ed)(i j:Nat)(lv:Y)(L:V N.Nd)(wr:G):Prop where
 nl:NL w lv L wr
 lt:B<wr.heap.size
 ne:lv.ownBlock≠K B
 c0:wr.cell? ⟨B,0,Z⟩=K (A C x.wa x.wb)
 c1:wr.cell? ⟨B,1,Z⟩=K (aA C x.sh)
 c2:wr.cell? ⟨B,2,Z⟩=K (A C x.fa x.fb)
 c3:wr.cell? ⟨B,3,Z⟩=K (A C x.ta x.tb)
 iff:∀q,(∃n∈L,N.T n=q)↔N.isNode (es.take i) q\/q=N.pt e.1\/q=N.pt e.2\/∃f∈es.take j,N.met e f q
 len:L.length<=i*404+2+j
theorem qh.keep{x:EB}{e:Ed}{es:V Ed}{i j:Nat}{lv:Y}{L:V N.Nd}{w':G}(h:qh w B x e es i j lv L wr)(a:ag wr w'):qh w B x e es i j lv L w':=
 ⟨⟨bH h.nl.own λk b=>a.block k (bn h.nl.own k b).2,h.nl.below.trans<|a.mono h.nl.below.size,h.nl.can,h.nl.bm⟩,bg h.lt a.size,h.ne,(aR a h.c0 h.lt),(aR a h.c1 h.lt),(aR a h.c2 h.lt),(aR a h.c3 h.lt),h.iff,h.len⟩
theorem NZ{es:V Ed}{f e:Ed}(d:es[a]?=K f)(q:N.Qt):(∃c∈es.take (a+1),N.met e c q)↔(∃c∈es.take a,N.met e c q)\/N.met e f q:=by
 have h:es.take (a+1)=es.take a++[f]:=by rw[fg,d];rfl
 rw[h];constructor
 .rintro⟨g,b,h⟩;rcases dm.1 b with b|b
  .exact j ⟨g,b,h⟩
  .rw[cI] at b;rw[b] at h;exact F h
 .rintro(⟨g,b,h⟩|h)
  .exact⟨g,by simp[b],h⟩
  .exact⟨f,E,h⟩
theorem qh.skip{x:EB}{e:Ed}{es:V Ed}{i j:Nat}{lv:Y}{L:V N.Nd}{f:Ed}(h:qh w B x e es i j lv L wr)(a:es[j]?=K f)(c:¬(N.cH e f≠0/\N.hq (N.eF e f) e=aP/\N.hq (N.eF e f) f=aP)):qh w B x e es i (j+1) lv L wr:=
 ⟨h.nl,h.lt,h.ne,h.c0,h.c1,h.c2,h.c3,λq=>by
  have b:¬N.met e f q:=λm=>c ⟨m.1,m.2.2⟩;rw[h.iff q,NZ a q];simp[b],by have:=h.len;omega⟩
theorem aa7(es:V Ed)(v:Y)(w:G)(hR:kG w v es)(hl:es.length<=402)(hs:∀e∈es,cM e)
  (HS:H (∀lv L wr,NL w lv L wr->L.length<=200000->M 124 #[lv,.func (.func 125) #[] #[]] wr λr w'=>r=aJ (aG #[])/\∃S,NL w lv S w'/\(∀n,n∈S↔n∈L)/\S.length=L.length/\S.Pairwise N.le))
  (HK:H (∀lv S wr,NL w lv S wr->S.length<=200000->M 126 #[lv] wr λr w'=>∃v',r=aJ v'/\js w' v' (N.dN S)/\Below w.heap.size w w')):
  M 72 #[v] w λe w'=>∃v' l,e=aJ v'/\js w' v' l/\Below w.heap.size w w'/\l.map N.T=N.g8 es/\(∀n∈l,eM n.1 n.2.1 n.2.2)/\l.length<=200000/\(∀n∈l,N.Can n):=by
 obtain⟨so,cap,rfl⟩:=BP hR;obtain⟨i0,hi,hz0,hz1,hz2⟩:=aH Cw;have HR:=hid hR;go_enter func72,ntmps72;go_wp2_with fail;have gh:H (NS w (D Z 0 0) [] 0 w):=⟨[],⟨ak _ _ _ _,Below.refl _ _,λn h=>by simp at h,λn h=>by simp at h⟩,λq=>by simp[N.isNode],E⟩
 go_loopg [3,12] es.length (λm lv iv wr=>∃i:Nat,i+m=es.length/\iv=I J i/\H (NS w lv (es.take i) (i*404) wr))
 case atStart=>exact⟨0,U,rfl,gh⟩
 case round=>
  obtain⟨i,him,rfl,HE⟩:=hrel;by_cases hlt:i<es.length
  .obtain⟨e,he⟩:∃e,es[i]?=K e:=⟨_,be hlt⟩;obtain⟨b,x,rfl,hb,hx,c0,c1,c2,c3⟩:=BR HR.o he;obtain⟨L,Cy,agz,qi⟩:=HE.o;have s:=Cy.below;obtain⟨r0,r1,r2,r3⟩:=ajE s hb c0 c1 c2 c3;have ms:=hs e<|bB he;obtain⟨n1,n1c,N0,n1i,N4⟩:=Cq 1 hx.fa hx.fb (by have:=ms.a;unfold small at this;omega) (by have:=ms.b;unfold small at this;omega) U;obtain⟨R,n2c,N5,n2i,N6⟩:=Cq 1 hx.ta hx.tb (by have:=ms.c;unfold small at this;omega) (by have:=ms.d;unfold small at this;omega) U;rw[N.Bs,N.Bs] at N0 N5;have HX:H (jV x e):=hx;have HEM:H (e∈es):=bB he;have HEI:=hid he;have HNL:=hid Cy;have N7:=hid agz;have HQ1:H (N.T n1=N.pt e.1/\N.Can n1/\eM n1.1 n1.2.1 n1.2.2):=⟨N0,n1c,n1i⟩;have HQ2:H (N.T R=N.pt e.2/\N.Can R/\eM R.1 R.2.1 R.2.2):=⟨N5,n2c,n2i⟩;have iH:(i:Int)<(es.length:Int):=U;obtain⟨wa,wb,sh,fa,fb,ta,tb⟩:=x;simp only at r0 r1 r2 r3 N4 N6;have GH:=hid N4;have xM:=hid N6;go_wp2_with (first |(simp only[fW];go_simp)|(simp only[mm];go_simp)|(simp only[fW,mm];go_simp));have hE:=aa wr<|.cells #[A C wa wb,aA C sh,A C fa fb,A C ta tb] 124;have hbW:=s.alloc s.size<|.cells #[A C wa wb,aA C sh,A C fa fb,A C ta tb] 124;have N8:(wr.alloc<|.cells #[A C wa wb,aA C sh,A C fa fb,A C ta tb] 124).ownsRow w.heap.size 83 2 u3 L.length (ez L):=bH HNL.o.own λk hk=>ad _ _ _ (bn HNL.o.own k hk).2;have hzq:wr.heap.size<(wr.alloc<|.cells #[A C wa wb,aA C sh,A C fa fb,A C ta tb] 124).heap.size:=E;have acn:=λk hk=>(bn HNL.o.own k hk).2;have N9:=s.size;generalize wr.alloc (.cells #[A C wa wb,aA C sh,A C fa fb,A C ta tb] 124)=W at*;generalize hBq:wr.heap.size=B at*;obtain⟨a0,a1,a2,a3⟩:=ajG hE;have vu:H (gH n1=[A C (aM C n1.1) (aM C n1.2.1),I J n1.2.2]):=rfl;have vv:H (gH R=[A C (aM C R.1) (aM C R.2.1),I J R.2.2]):=rfl;unfold iQ at GH xM;generalize aM C n1.1=A1 at*;generalize aM C n1.2.1=A2 at*;generalize aM C R.1=A4 at*;generalize aM C R.2.1=A5 at*;have aco:K B≠u3.ownBlock:=λh=>VC _<|acn B h.symm;refine aN (S:=(λw'=>w'.cell? ⟨B,0,Z⟩=K (A C wa wb)/\w'.cell? ⟨B,1,Z⟩=K (aA C sh)/\w'.cell? ⟨B,2,Z⟩=K (A C fa fb)/\w'.cell? ⟨B,3,Z⟩=K (A C ta tb))) z ⟨a0,a1,a2,a3⟩<|λhHeld=>?_;refine wpAnyH_take (i:=0) (oi:={dst:=K 17,op:=_,type:=_,pos:=_,after:=_,guard:=_}) (v:=?_) rfl z z z (λ_ _ _ h=>h) (j ⟨by rfl,?_⟩) hHeld ?_;rotate_left
   .intro w' p;obtain⟨s0,s1,s2,s3⟩:=p;go_simp
    try with_reducible rfl
   simp only[Act.put,dh,di,cQ];refine wpAnyH_take (i:=1) (oi:={dst:=K 18,op:=_,type:=_,pos:=_,after:=_,guard:=_}) (v:=?_) rfl z z z (λ_ _ _ h=>h) (j ⟨by rfl,?_⟩) hHeld ?_;rotate_left
   .intro w' p;obtain⟨s0,s1,s2,s3⟩:=p;go_simp
    try with_reducible rfl
   simp only[Act.put,dh,di,cQ];refine wpAnyH_take (i:=2) (oi:={dst:=K 19,op:=_,type:=_,pos:=_,after:=_,guard:=_}) (v:=?_) rfl z z z (λ_ _ _ h=>h) (j ⟨by rfl,?_⟩) hHeld ?_;rotate_left
   .intro w' p;obtain⟨s0,s1,s2,s3⟩:=p;go_simp
    try with_reducible rfl
   simp only[Act.put,dh,di,cQ];refine wpAnyH_take (i:=4) (oi:={dst:=K 21,op:=_,type:=_,pos:=_,after:=_,guard:=_}) (v:=?_) rfl z z z (λ_ _ _ h=>h) (j ⟨by rfl,?_⟩) hHeld ?_;rotate_left
   .intro w' p;obtain⟨s0,s1,s2,s3⟩:=p;go_simp
    try with_reducible rfl
   simp only[Act.put,dh,di,cQ];refine wpAnyH_take (i:=5) (oi:={dst:=K 22,op:=_,type:=_,pos:=_,after:=_,guard:=_}) (v:=?_) rfl z z z (λ_ _ _ h=>h) (j ⟨by rfl,?_⟩) hHeld ?_;rotate_left
   .intro w' p;obtain⟨s0,s1,s2,s3⟩:=p;go_simp
    try with_reducible rfl
   simp only[Act.put,dh,di,cQ];refine aI (rs:=[3]) z E ?_;refine aK rfl (λa hK=>?_) AllReadyH.nil;go_simp;refine(GH.o _).mono ?_;rintro e w6 ⟨rfl,Q⟩;obtain⟨b0,b1,b2,b3⟩:=ajE Q hzq a0 a1 a2 a3;have hz6:=bg hzq Q.size;have mj:=bH N8.drew λk hk=>Q.block k<|VB (acn k hk) hzq;go_wp2_with fail;refine hK.out _ _ ⟨b0,b1,b2,b3⟩<|λhHeld=>?_
   try simp only[Act.put,dh,di,cQ]
   refine aI (rs:=[6]) z E ?_;refine aK rfl (λa hK=>?_) AllReadyH.nil;go_simp;refine(xM.o _).mono ?_;rintro e w7 ⟨rfl,X⟩;obtain⟨c0,c1,c2,c3⟩:=ajE X hz6 b0 b1 b2 b3;have O:=bg hz6 X.size;have GI:=bH mj λk hk=>X.block k<|VB (acn k hk) hz6;go_wp2_with fail;refine hK.out _ _ ⟨c0,c1,c2,c3⟩<|λhHeld=>?_
   try simp only[Act.put,dh,di,cQ]
   refine aI (rs:=[7]) z E ?_;refine aK rfl (λa hK=>?_) AllReadyH.nil;go_simp;refine hK.out _ _ ⟨(gw _ _ O).trans c0,(gw _ _ O).trans c1,(gw _ _ O).trans c2,(gw _ _ O).trans c3⟩<|λhHeld=>?_
   try simp only[Act.put,dh,di,cQ]
   refine aI (rs:=[8]) z E ?_;refine aK rfl (λa hK=>?_) AllReadyH.nil;refine aba _ rfl (.tmp 17) (.tmp 24) 138 rfl w.heap.size 83 i0 _ 2 24 underlying138 hi hz0 hz1 hz2 rfl ae u3 L.length (ez L) rfl (ed GI) ⟨w7.heap.size,0,Z⟩ 2 2 [A C A1 A2,I J n1.2.2,A C A4 A5,I J R.2.2] rfl rfl (aai (cs:= #[A C A1 A2,I J n1.2.2,A C A4 A5,I J R.2.2]) (t:=83) (fr:=(0,0))<|aa w7 _) au ae ar U aq (w7.heap.size+1) E ?_;intro g' cap' w8 fX mO nV jW;have d0:=(mO.cell_far ⟨B,0,Z⟩ aq aco).trans<|(gw _ _ O).trans c0;have d1:=(mO.cell_far ⟨B,1,Z⟩ aq aco).trans<|(gw _ _ O).trans c1;have d2:=(mO.cell_far ⟨B,2,Z⟩ aq aco).trans<|(gw _ _ O).trans c2;have d3:=(mO.cell_far ⟨B,3,Z⟩ aq aco).trans<|(gw _ _ O).trans c3;go_simp;refine hK.out _ _ ⟨d0,d1,d2,d3⟩<|λhHeld=>?_
   try simp only[Act.put,dh,di,cQ]
   refine wpAnyH_take (i:=9) (oi:={dst:=K 3,op:=_,type:=_,pos:=_,after:=_,guard:=_}) (v:=?_) rfl z z z (λ_ _ _ h=>h) (j ⟨by rfl,?_⟩) hHeld ?_;rotate_left
   .intro w' p;obtain⟨s0,s1,s2,s3⟩:=p;go_simp
    try with_reducible rfl
   simp only[Act.put,dh,di,cQ];refine aO z ?_ _;have Oa:Below w.heap.size w w8:=by
    have q6:=hbW.drew.trans<|Q.mono<|el N9<|du hzq;have q7:=q6.trans<|X.mono<|el N9<|du hz6;exact(q7.alloc q7.size _).grown mO aq<|λk hk=>(bn GI k hk).1
   have Cz:H (NL w (D (K ⟨g',0,Z⟩) (L.length+2) cap') (L++[n1,R]) w8):=by
    have hrow:ez (L++[n1,R])=ez L++[A C A1 A2,I J n1.2.2,A C A4 A5,I J R.2.2]:=by
     have e1:ez (L++[n1,R])=ez L++(gH n1++gH R):=by simp[ez]
     rw[e1,vu.o,vv.o];rfl
    refine⟨?_,Oa,λn d=>?_,λn d=>?_⟩
    .rw[hrow,bG];exact fX
    .rcases dm.1 d with h|h
     .exact HNL.o.can n h
     .rcases bK.1 h with h|h
      .rw[h];exact HQ1.o.2.1
      .rw[cI.1 h];exact HQ2.o.2.1
    .rcases dm.1 d with h|h
     .exact HNL.o.bm n h
     .rcases bK.1 h with h|h
      .rw[h];exact HQ1.o.2.2
      .rw[cI.1 h];exact HQ2.o.2.2
   have tJ:H (qh w B ⟨wa,wb,sh,fa,fb,ta,tb⟩ e es i 0 (D (K ⟨g',0,Z⟩) (L.length+2) cap') (L++[n1,R]) w8):=by
    refine⟨Cz.o,?_,?_,d0,d1,d2,d3,λq=>?_,aq⟩
    .have h1:=mO.size;simp at h1;omega
    .show K g'≠K B;intro h;injection h with h;rcases nV with h8|h8
     .have:=acn g' h8;omega
     .omega
    .have h1:=N7.o q;simp only[VD,List.not_mem_nil,pH,exists_false,sF];rw[<-h1];constructor
     .rintro⟨n,d,h⟩;rcases dm.1 d with d|d
      .exact j ⟨n,d,h⟩
      .rcases bK.1 d with d|d
       .exact F (j<|by rw[<-h,d,HQ1.o.1])
       .exact F (F<|by rw[<-h,cI.1 d,HQ2.o.1])
     .rintro(⟨n,d,h⟩|h|h)
      .exact⟨n,by simp[d],h⟩
      .exact⟨n1,E,by rw[h,HQ1.o.1]⟩
      .exact⟨R,E,by rw[h,HQ2.o.1]⟩
   have hcap:¬cap<i:=by
    obtain⟨_,_,ho,_⟩:=HR.o;rcases ho.2 with⟨hv,_⟩|⟨_,_,_,hv,_,_,hc,_⟩
    .cases hv
    .injection hv with _ _ hv;omega
   have alz:i<=cap:=U;clear GH xM vu vv a0 a1 a2 a3 b0 b1 b2 b3 c0 c1 c2 c3 mj GI fX Q X N8 acn aco hz6 O mO nV jW hHeld;go_wp2_with fail;obtain⟨m1,jG⟩:=am gk
   go_loopg [3,30] i (λm lv nv wr=>∃c:Nat,c+m=i/\nv=I J c/\H (∃L',qh w B ⟨wa,wb,sh,fa,fb,ta,tb⟩ e es i c lv L' wr))
   case atStart=>exact⟨0,U,rfl,⟨_,tJ.o⟩⟩
   case round=>
    obtain⟨c,hjm,rfl,Ob⟩:=hrel;clear tJ Cz d0 d1 d2 d3 N7 HNL HQ1 HQ2 Oa;obtain⟨L',hI⟩:=Ob.o;by_cases By:c<i
    .obtain⟨f,hf⟩:∃f,es[c]?=K f:=⟨_,be U⟩;obtain⟨b4,y,hb4,_,hy,f0,f1,f2,f3⟩:=BR HR.o hf;injection hb4 with hb4;injection hb4 with hb4;subst hb4;have P:=hI.nl.below;obtain⟨s0,s1,s2,s3⟩:=ajE P hb f0 f1 f2 f3;have a0:=hI.c0;have a1:=hI.c1;have a2:=hI.c2;have a3:=hI.c3;obtain⟨vn,bt,nv,hM,⟨M1,M2,MP,hnv⟩,Oc,Od⟩:=aaW ⟨wa,wb,sh,fa,fb,ta,tb⟩ y e f HX.o hy (hs e (HEM.o))<|hs f<|bB hf;subst hnv;have HM:=hid hM;have CC:=hid Oc;have GJ:=hid Od;have HF:=hid hf;obtain⟨ya,yb,ys,yc,yd,ye,yf⟩:=y;simp only[EB.cells] at HM s0 s1 s2 s3 a0 a1 a2 a3;have Mh:(c:Int)<(i:Int):=U;have Oe:=hI.lt;clear hM Oc Od f0 f1 f2 f3 hy hf Ob;go_wp2_with (first |(simp only[fW];go_simp)|(simp only[mm];go_simp));have vx:Below wr.heap.size wr (wr.alloc<|.cells #[A C ya yb,aA C ys,A C yc yd,A C ye yf] 124):=(Below.refl _ _).alloc (aX _) _;refine(HM.o _).mono ?_;rintro e5 w5 ⟨rfl,jS⟩;have CD:=hI.keep<|vx.trans<|jS.mono vx.size;clear a0 a1 a2 a3 s0 s1 s2 s3 vx jS HM hI P Oe;cases bt
     .have Of:=CD.skip HF.o (λh=>by have:=CC.o.2 h;cases this);have HIA:=hid<|λo=>Of.keep<|(Below.refl w5.heap.size w5).alloc (aX _) o;clear GJ CC Of;go_wp2_with (simp only[fW];go_simp);go_roundg (gk-1)
      case measure=>omega
      case rel=>exact⟨c+1,U,af,⟨_,HIA.o _⟩⟩
     .obtain⟨hnv,Og,Oh,Oi⟩:=GJ.o rfl;have Oj:=CC.o.1 rfl;have hnc:gH vn=[A C M1 M2,I J MP]:=by
       unfold iQ at hnv;injection hnv with hnv;have:=bd Array.toList hnv;exact this.symm
      have HVN:H (gH vn=[A C M1 M2,I J MP]/\N.Can vn/\N.T vn=N.eF e f/\eM vn.1 vn.2.1 vn.2.2):=⟨hnc,Og,Oh,Oi⟩;have Ok:=hid Oj;have hI6:=CD.keep<|(Below.refl w5.heap.size w5).alloc (aX _)<|.cells #[A C M1 M2,I J MP] 83;have mj:=hI6.nl.own;have alB:=hI6.len;have hw6:=hI6.nl.below.size;clear GJ CC hnv Og Oh Oi Oj hnc CD;go_wp2_with (first
       |(at_builtin;refine nE rfl Cw underlying138 (ed mj) AE (w5.heap.size+2) (hbase:=(by simp at hw6⊢;omega)) ?_;intro g2 cap2 w9 BB hg9 abf alD)
       |(simp only[fW];go_simp))
      have HN9:H (qh w B ⟨wa,wb,sh,fa,fb,ta,tb⟩ e es i (c+1) (D (K ⟨g2,0,Z⟩) (L'.length+1) cap2) (L'++[vn]) w9):=by
       have g:=hI6.keep<|(Below.refl (w5.alloc<|.cells #[A C M1 M2,I J MP] 83).heap.size _).alloc (aX _)<|.cells #[A C M1 M2,I J MP] 83;have hne:K B≠u3.ownBlock:=λh=>g.ne h.symm;have hB7:=g.lt;refine⟨⟨?_,g.nl.below.grown hg9 g.nl.below.size<|λk hk=>(bn g.nl.own k hk).1,λn d=>?_,λn d=>?_⟩,?_,?_,(hg9.cell_far ⟨B,0,Z⟩ hB7 hne).trans g.c0,(hg9.cell_far ⟨B,1,Z⟩ hB7 hne).trans g.c1,(hg9.cell_far ⟨B,2,Z⟩ hB7 hne).trans g.c2,(hg9.cell_far ⟨B,3,Z⟩ hB7 hne).trans g.c3,λq=>?_,by rw[bG];show L'.length+1<=_;omega⟩
       .rw[GE,HVN.o.1,bG];exact BB
       .rcases dm.1 d with h|h
        .exact g.nl.can n h
        .rw[cI.1 h];exact HVN.o.2.1
       .rcases dm.1 d with h|h
        .exact g.nl.bm n h
        .rw[cI.1 h];exact HVN.o.2.2.2
       .exact bg hB7 hg9.size
       .show K g2≠K B;intro h;injection h with h;rcases abf with h9|h9
        .exact g.ne (by rw[h9,h])
        .have:=hI6.lt;simp at this;omega
       .have h1:=g.iff q;rw[NZ HF.o q];constructor
        .rintro⟨n,d,h⟩;rcases dm.1 d with d|d
         .rcases h1.1 ⟨n,d,h⟩ with h|h|h|h
          .exact j h
          .exact F (j h)
          .exact F (F<|j h)
          .exact F (F<|F<|j h)
         .rw[cI.1 d,HVN.o.2.2.1] at h;exact F<|F<|F<|F ⟨Ok.o.1,h.symm,Ok.o.2⟩
        .rintro(h|h|h|h|h)
         .obtain⟨n,d,h⟩:=h1.2<|j h;exact⟨n,by simp[d],h⟩
         .obtain⟨n,d,h⟩:=h1.2<|F<|j h;exact⟨n,by simp[d],h⟩
         .obtain⟨n,d,h⟩:=h1.2<|F<|F<|j h;exact⟨n,by simp[d],h⟩
         .obtain⟨n,d,h⟩:=h1.2<|F<|F<|F h;exact⟨n,by simp[d],h⟩
         .exact⟨vn,E,by rw[HVN.o.2.2.1,h.2.1]⟩
      go_roundg (gk-1)
      case measure=>omega
      case rel=>exact⟨c+1,U,af,⟨_,HN9.o⟩⟩
    .have hj:c=i:=U;subst hj;have jI:H (NS w u3 (es.take<|c+1) ((c+1)*404) wr):=by
      have htk:es.take (c+1)=es.take c++[e]:=by rw[fg,HEI.o];rfl
      refine⟨L',hI.nl,λq=>?_,by have:=hI.len;omega⟩;rw[htk,N.aa5,hI.iff q]
     go_wp2_with fail;go_roundg (m1-1)
     case measure=>omega
     case rel=>exact⟨c+1,U,af,jI⟩
  .have hk:i=es.length:=U;subst hk;have HF:H (NS w u3 es (es.length*404) wr):=by
    have:=HE.o;rw[dV] at this;exact this
   obtain⟨L,Cy,agz,qi⟩:=HF.o;have hL2:L.length<=200000:=U;go_wp2_with fail;refine(HS.o _ L _ Cy hL2).mono ?_;rintro e w5 ⟨rfl,S,hS,hmem,hlen,hpw⟩;go_wp2_with fail;refine(HK.o _ S _ hS U).mono ?_;rintro e w6 ⟨v',rfl,hR6,Q⟩;have GK:=hid hR6;have qj:H (S.length<=200000/\∀q,(∃n∈S,N.T n=q)↔N.isNode es q):=⟨U,λq=>by
    rw[<-agz q];constructor
    .rintro⟨n,d,h⟩;exact⟨n,(hmem n).1 d,h⟩
    .rintro⟨n,d,h⟩;exact⟨n,(hmem n).2 d,h⟩⟩
   have Bi:=hid hpw;have GL:=hid hS;go_wp2_with fail;go_ret;exact⟨v',N.dN S,rfl,GK.o,Q,N.aa6 es S GL.o.can Bi.o qj.o.2,λn d=>GL.o.bm n<|(N.tH S n).1 d,el (NY S) qj.o.1,λn d=>GL.o.can n<|(N.tH S n).1 d⟩
namespace N
theorem Ol:∀(l:V Nd)(c x:Nd),l.getLast?=K c->dN (l++[x])=if x=c then dN l else dN l++[x]
 |[],_,_,h=>by simp at h
 |[a],c,x,h=>by
  have e:a=c:=by simpa using h
  subst e;have g:dN [a,x]=if a=x then dN [x] else a::dN [x]:=by simp[dN]
  have f:∀z:Nd,dN [z]=[z]:=λz=>by rw[dN]
  show dN [a,x]=_;rw[g,f,f];by_cases d:x=a
  .subst d;rw[y rfl,y rfl]
  .rw[X<|λh=>d h.symm,X d];rfl
 |a::b::r,c,x,h=>by
  have n:=Ol (b::r) c x (by simpa using h);show dN (a::b::(r++[x]))=_;have g:dN (a::b::(r++[x]))=if a=b then dN (b::(r++[x])) else a::dN (b::(r++[x])):=by rw[dN]
  have f:dN (a::b::r)=if a=b then dN (b::r) else a::dN (b::r):=by rw[dN]
  have m:dN (b::(r++[x]))=if x=c then dN (b::r) else dN (b::r)++[x]:=n;rw[g,f,m];by_cases d:x=c
  .simp only[d,jk]
  .by_cases k:a=b<;>simp[d,k]
theorem Om(zs:V Nd):∀m,m<=zs.length->Lib.compactUpTo zs.toArray m=dN (zs.take m)
 |0,_=>by simp[Lib.compactUpTo,dN]
 |m+1,h=>by
  have b:m<zs.length:=h;rw[Lib.compactUpTo_succ,Om zs m U,lV b];have c:zs.toArray[m]! =zs[m]:=by rw[gN zs.toArray m<|by simpa using b];simp
  rcases wS m with e|e
  .subst e;rw[aka _ 0 U,c];simp[dN]
  .have f:m-1<zs.length:=U;have g:(zs.take m).getLast?=K zs[m-1]:=by
    rw[lA,fU,show min m zs.length-1=m-1 by omega,jb,y U,be f]
   have a:zs.toArray[m-1]! =zs[m-1]:=by rw[gN zs.toArray (m-1)<|by simpa using f];simp
   rw[Ol _ _ _ g];by_cases d:zs[m]=zs[m-1]
   .rw[akb e (by rw[c,a];exact d),y d];simp
   .rw[akc (by rw[c,a];exact d),X d,c];simp
theorem On(d:Array Nd):Lib.compactUpTo d d.size=dN d.toList:=by
 have h:=Om d.toList d.toList.length<|aX _;rw[dV] at h;simpa using h
end N
theorem yA(L:V N.Nd):(ez L).length=L.length*2:=by
 induction L with
 |nil=>rfl
 |cons n L a=>
  have e:ez (n::L)=gH n++ez L:=by simp[ez]
  rw[e,bG,a,dc];show 2+_=_;omega
structure RW(w:G)(g cap n:Nat)(d:Array N.Nd)(wr:G):Prop where
 size:d.size=n
 own:wr.ownsRow w.heap.size 83 2 (D (K ⟨g,0,Z⟩) n cap) n (ez d.toList)
 below:ag w wr
theorem Oo:∀(l:V N.Nd)(k:Nat),(ez l).take (k*2)=ez (l.take k)
 |[],k=>by simp[ez]
 |a::l,0=>by simp[ez]
 |a::l,k+1=>by
  have d:=Oo l k;have e:∀(b:N.Nd)(r:V N.Nd),ez (b::r)=A C (aM C b.1) (aM C b.2.1):: I J b.2.2::ez r:=λb r=>by simp[ez,gH]
  rw[EL,e,e,<-d];have c:(k+1)*2=k*2+1+1:=U;rw[c,EL,EL]
theorem RW.blk{d:Array N.Nd}(h:RW w g cap n d wr):∃a,w.heap.size<=g/\wr.heap[g]?=K (.cells a 83 (0,0))/\n<=cap/\cap<=maxLen/\a.size=cap*2/\a.toList.take (n*2)=ez d.toList:=by
 rcases h.own.2 with⟨b,_⟩|⟨q,c,a,b,e,f,k,l,m,p⟩
 .simp at b
 .simp only[D.injEq,K.injEq,Addr.mk.injEq] at b;obtain⟨⟨rfl,_⟩,_,rfl⟩:=b;exact⟨a,e,f,k,l,m,p⟩
theorem RW.cells{d:Array N.Nd}(h:RW w g cap n d wr)(i:Nat)(m:i<n):
  wr.cell? ⟨g,i*2,Z⟩=K (A C (aM C (d[i]!).1)<|aM C (d[i]!).2.1)/\wr.cell? ⟨g,i*2+1,Z⟩=K (I J (d[i]!).2.2)/\wr.frozen? ⟨g,i*2,Z⟩=aQ/\wr.frozen? ⟨g,i*2+1,Z⟩=aQ:=by
 obtain⟨l,_,a,_,_,p,b⟩:=h.blk;have c:i<d.size:=by rw[h.size];exact m
 have e:d.toList[i]?=K d[i]! :=by rw[iD,lB c,gN d i c]
 have f:=yz _ _ _ e 0 U;have k:=yz _ _ _ e 1 U;rw[<-b,jb,y U,iD] at f k;refine⟨?_,?_,bE a _,bE a _⟩
 .unfold World.cell?;rw[a];exact f
 .unfold World.cell?;rw[a];exact k
theorem Oq:∀(l:V N.Nd)(k:Nat)(x:N.Nd),k<l.length->ez (l.set k x)=((ez l).set (k*2)<|A C (aM C x.1)<|aM C x.2.1).set (k*2+1) (I J x.2.2)
 |[],_,_,h=>by simp at h
 |a::l,0,x,_=>by simp[ez,gH]
 |a::l,k+1,x,h=>by
  have d:=Oq l k x (by simpa using h);have e:∀(b:N.Nd)(r:V N.Nd),ez (b::r)=A C (aM C b.1) (aM C b.2.1):: I J b.2.2::ez r:=λb r=>by simp[ez,gH]
  rw[cQ,e,e,d];have c:(k+1)*2=k*2+1+1:=U;rw[c,cQ,cQ,cQ,cQ]
theorem RW.set{d:Array N.Nd}(h:RW w g cap n d wr)(k:Nat)(r:k<n)(x:N.Nd):
  RW w g cap n (d.setIfInBounds k x) ((wr.setCell ⟨g,k*2,Z⟩<|A C (aM C x.1)<|aM C x.2.1).setCell ⟨g,k*2+1,Z⟩<|I J x.2.2):=by
 obtain⟨a,f,p,l,e,s,m⟩:=h.blk;have b:(wr.setCell ⟨g,k*2,Z⟩<|A C (aM C x.1)<|aM C x.2.1).heap[g]?=K (.cells (a.setIfInBounds (k*2)<|A C (aM C x.1)<|aM C x.2.1) 83 (0,0)):=by
  rw[akd wr g (k*2) a 83 (0,0) _ p];exact afK _ _ _ _ _ _ p
 have c:((wr.setCell ⟨g,k*2,Z⟩<|A C (aM C x.1)<|aM C x.2.1).setCell ⟨g,k*2+1,Z⟩<|I J x.2.2).heap[g]?=K (.cells ((a.setIfInBounds (k*2)<|A C (aM C x.1)<|aM C x.2.1).setIfInBounds (k*2+1)<|I J x.2.2) 83 (0,0)):=by
  rw[akd _ g (k*2+1) _ 83 (0,0) _ b];exact afK _ _ _ _ _ _ b
 have q:k<d.toList.length:=by rw[ie,h.size];exact r
 refine⟨by rw[sH];exact h.size,⟨?_,F ⟨g,cap,_,rfl,f,c,l,e,?_,?_⟩⟩,(h.below.setCell f _).setCell f _⟩
 .rw[yA,ie,sH,h.size]
 .rw[sH,sH];exact s
 .rw[Ap,Ap,Ap,Oq _ _ _ q,<-m,Ka,Ka]
theorem RW.clear{d:Array N.Nd}(h:RW w g cap n d wr)(k:Nat)(L:k<n)(c:Nat):
  ∃w',(∀R,(Builtin.clear_ #[138] R #[D (K ⟨g,k*2,Z⟩) (n-k) c]).run prog wr=.ok (aG #[]) w')/\ag w w'/\js w' (D (K ⟨g,0,Z⟩) k cap) (d.toList.take k):=by
 obtain⟨b,z,Q,y,t,x,B⟩:=h.blk;have l:(Builtin.zeroCells (u #[A C 0 0,I J 0]).cells<|n-k).toList.length=(n-k)*2:=by
  rw[ie];unfold Builtin.zeroCells;rw[Array.size_map,Array.size_range];rfl
 have p:∀v∈(Builtin.zeroCells (u #[A C 0 0,I J 0]).cells<|n-k).toList,v.oneCell'=aP:=by
  intro v P;unfold Builtin.zeroCells at P;simp only[Array.toList_map,bA] at P;obtain⟨i,_,rfl⟩:=P;have e:(u #[A C 0 0,I J 0]).cells= #[A C 0 0,I J 0]:=rfl;rw[e];show(#[A C 0 0,I J 0][i%2]!).oneCell'=aP;have r:i%2=0\/i%2=1:=U;rcases r with r|r<;>rw[r]<;>rfl
 have f:=ake prog g (k*2) 83 _ 0 b wr Q (by rw[l,x];omega) p;simp only[pA] at f;rw[l] at f;generalize q:(Builtin.zeroCells (u #[A C 0 0,I J 0]).cells<|n-k).toList=a at*;have s:=afK wr g b (b.toList.take (k*2)++a++b.toList.drop (k*2+(n-k)*2)).toArray _ _ Q;refine⟨wr.setRow g (b.toList.take (k*2)++a++b.toList.drop (k*2+(n-k)*2)).toArray,λR=>?_,?_,?_,F ⟨g,cap,_,?_,iq _,s,?_,t,?_,?_⟩⟩
 .obtain⟨m,o⟩:∃m,n-k=m+1:=⟨n-k-1,U⟩;rw[o] at f q⊢;simp[Builtin.clear_,run_underlying underlying138,q,f]
 .refine h.below.trans ⟨rfl,rfl,rfl,E,λj H=>akf _ _ _ _ U⟩
 .rw[yA]
 .have e:(d.toList.take k).length=k:=by rw[fU,ie,h.size];omega
  rw[e]
 .rw[fU,ie,h.size];omega
 .simp only[VE,bG,fU,jQ,ie,l,x];omega
 .have e:(d.toList.take k).length=k:=by rw[fU,ie,h.size];omega
  rw[e];show((b.toList.take (k*2)++_++_).take<|k*2)=_;rw[ep,ajp (by rw[fU,ie,x];omega),ut,Nat.min_self];have S:b.toList.take (k*2)=(b.toList.take<|n*2).take (k*2):=by rw[ut,Kl U]
  rw[S,B];exact Oo _ _
theorem Ot{d:Array N.Nd}(h:∀j,j<d.size->Lib.keeps d j=aP):N.dN d.toList=d.toList:=by
 rw[<-N.On,Lib.compactUpTo_all _ _ h,Lib.range_map_get]
theorem RW.rd{d:Array N.Nd}(h:RW w g cap n d wr):js wr (D (K ⟨g,0,Z⟩) n cap) d.toList:=by
 obtain⟨a,m,k,c,b,l,f⟩:=h.blk;have e:d.toList.length=n:=by rw[ie,h.size]
 exact⟨by rw[yA],F ⟨g,cap,a,by rw[e],iq _,k,by rw[e];exact c,b,l,by rw[e];exact f⟩⟩
theorem Ou(x y:N.Nd)(j:eM x.1 x.2.1 x.2.2)(o:eM y.1 y.2.1 y.2.2)(w:G):
  (Op.equalIn 10000 83 (u #[A C (aM C x.1) (aM C x.2.1),I J x.2.2])<|u #[A C (aM C y.1) (aM C y.2.1),I J y.2.2]).run prog w=.ok (decide (x=y)) w:=by
 obtain⟨t,v⟩:=nU j;obtain⟨B,P⟩:=nU o;have m:=oL t B;have n:=oL v P;obtain⟨b,c,p⟩:=x;obtain⟨d,e,q⟩:=y;simp only at m n⊢;generalize aM C b=f at*;generalize aM C c=g at*;generalize aM C d=k at*;generalize aM C e=l at*;have a:decide ((b,c,p)=(d,e,q))=(decide (b=d)&&decide (c=e)&&decide (p=q)):=by
  simp[Prod.mk.injEq,Bool.and_assoc]
 have r:Op.floatEq C f k=decide (b=d):=m;have s:Op.floatEq C g l=decide (c=e):=n;rw[a];rw[akg w 9999 83 _ _ z z];have i:∀w,(Op.equalIn 9999 81 (A C f g)<|A C k l).run prog w=.ok (decide (b=d)&&decide (c=e)) w:=λw=>by
  show(Op.equalIn (9998+1) 81 (A C f g)<|A C k l).run prog w=_;rw[Op.equalIn,Sem.run_bind,afZ underlying81,Result.andThen_ok,<-r,<-s];rfl
 clear m n r s a;simp[go_sem,i];by_cases Q:b=d<;>by_cases R:c=e<;>by_cases S:p=q<;>simp[Q,R,S]
theorem yB(x y:N.Nd)(a:eM x.1 x.2.1 x.2.2)(b:eM y.1 y.2.1 y.2.2)(w:G):
  (binOp .eql 83 (u #[A C (aM C x.1) (aM C x.2.1),I J x.2.2])<|u #[A C (aM C y.1) (aM C y.2.1),I J y.2.2]).run prog w=.ok (aC<|decide (x=y)) w:=by
 rw[run_eql_struct,Ou x y a b w];rfl
theorem abi(x y:N.Nd)(a:eM x.1 x.2.1 x.2.2)(b:eM y.1 y.2.1 y.2.2)(w:G):
  (binOp .neq 83 (u #[A C (aM C x.1) (aM C x.2.1),I J x.2.2])<|u #[A C (aM C y.1) (aM C y.2.1),I J y.2.2]).run prog w=.ok (aC<|!decide (x=y)) w:=by
 rw[run_neq_struct,Ou x y a b w];rfl
structure iI(n:N.Nd):Prop where
 x:n.1.natAbs<=3000000
 y:n.2.1.natAbs<=3000000
 d:0<n.2.2/\n.2.2<=20000
theorem iI.bm{n:N.Nd}(h:iI n):eM n.1 n.2.1 n.2.2:=⟨by have:=h.x;omega,by have:=h.y;omega,by have:=h.d;omega⟩
theorem abj{b s c d t:Nat}{l m:N.Ln}(k:mr a b s l)(n:mr c d t m)(r:sm l.1)(v:sm l.2.1)(x:sm m.1)(B:sm m.2.1)(w:G):
  M 161 #[u #[A C a b,aA C s],u #[A C c d,aA C t]] w (ai (I J (l.1*m.1+l.2.1*m.2.1).sign) w):=by
 obtain⟨j,i,Q,_,S⟩:=Gi k.a k.b n.a n.b r v x B;have g:=λw=>tF Q jU w;have P:(l.1*m.1+l.2.1*m.2.1-0).sign=(l.1*m.1+l.2.1*m.2.1).sign:=by rw[uu]
 rw[P] at g;have q:=hid S;have p:=hid g;generalize(l.1*m.1+l.2.1*m.2.1).sign=R at*;have f:ag w ((w.alloc<|.cells #[A C a b,aA C s] 122).alloc<|.cells #[A C c d,aA C t] 122):=(aj _ _).alloc E _;go_enter func161,ntmps161;go_wp2_with fail;refine(q.o _).mono ?_;rintro e w1 ⟨rfl,rfl⟩;go_wp2_with fail;refine(p.o _).mono ?_;rintro e o ⟨rfl,rfl⟩;go_wp2_with fail;go_ret;exact⟨rfl,f⟩
structure PB where
 wa:Nat
 wb:Nat
 sh:Nat
 f:N.Nd
 t:N.Nd
def PB.cells(x:PB):V Y:=[A C x.wa x.wb,aA C x.sh,A C (aM C x.f.1)<|aM C x.f.2.1,I J x.f.2.2,A C (aM C x.t.1)<|aM C x.t.2.1,I J x.t.2.2]
theorem abk(x:PB)(B:iI x.f)(Q:iI x.t):
  ∃n:N.Nd,N.Can n/\N.T n=(N.bu (x.f.1+x.t.1)<|x.f.2.2+x.t.2.2,N.bu (x.f.2.1+x.t.2.1)<|x.f.2.2+x.t.2.2)/\eM n.1 n.2.1 n.2.2/\∀w,M 160 #[u x.cells.toArray] w (ai (iQ n) w):=by
 obtain⟨z,D⟩:=nU B.bm;obtain⟨F,G⟩:=nU Q.bm;have:=B.x;have:=B.y;have:=B.d;have:=Q.x;have:=Q.y;have:=Q.d;obtain⟨re,im,e,L,O⟩:=YC z D F G U U;obtain⟨n,X,hq,Y,V⟩:=Cq (x.f.2.2+x.t.2.2) L O U U U;refine⟨n,X,hq,Y,λw=>?_⟩;have S:=hid V;have R:=λt w=>ahx (P:=prog) w .add (j rfl) t C _ _ _ _ re im e;unfold iQ at S⊢;obtain⟨r,s,sh,⟨x1,x2,b⟩,y1,y2,c⟩:=x;simp only[PB.cells] at*;generalize aM C x1=d at*;generalize aM C x2=f at*;generalize aM C y1=g at*;generalize aM C y2=k at*;generalize aM C n.1=o at*;generalize aM C n.2.1=y at*;have:J.wrap (b+c)=b+c:=by rw[ah];omega
 have l:ag w ((w.alloc<|.cells #[A C r s,aA C sh,A C d f,I J b,A C g k,I J c] 171).alloc<|.cells #[A C 0 0,I J 0] 83):=(aj _ _).alloc E _;have i:=aa (w.alloc<|.cells #[A C r s,aA C sh,A C d f,I J b,A C g k,I J c] 171)<|.cells #[A C 0 0,I J 0] 83;have hz:(w.alloc<|.cells #[A C r s,aA C sh,A C d f,I J b,A C g k,I J c] 171).heap.size=w.heap.size+1:=E;have:((w.alloc<|.cells #[A C r s,aA C sh,A C d f,I J b,A C g k,I J c] 171).alloc<|.cells #[A C 0 0,I J 0] 83).heap.size=w.heap.size+2:=E;rw[hz] at i;go_enter func160,ntmps160;go_wp2_with (simp only[R]);generalize(w.alloc<|.cells #[A C r s,aA C sh,A C d f,I J b,A C g k,I J c] 171).alloc (.cells #[A C 0 0,I J 0] 83)=W at*;refine(S.o _).mono ?_;rintro e w1 ⟨rfl,m⟩;have a:=(m.block (w.heap.size+1) U).trans i;have e0:=bz a;have K:=bw a;have:=bE a 0;have:=bE a 1;have q:=l.trans<|m.mono l.size;go_wp2_with (simp only[fW];go_simp);refine ab (v:=u #[A C o y,I J n.2.2]) (by simp[results,results160,go_sem,e0,K]) rfl ⟨rfl,?_⟩;exact(q.setCell (p:=⟨w.heap.size+1,0,Z⟩) (lX _) _).setCell (p:=⟨w.heap.size+1,1,Z⟩) (lX _) _
def cC(x y:N.Nd):Int:=N.pc (N.T x)<|N.T y
def vy(x y:PB):Int:=if cC x.f y.f=0 then cC x.t y.t else cC x.f y.f
structure dR(x:PB):Prop where
 f:iI x.f
 t:iI x.t
 cf:N.Can x.f
 ct:N.Can x.t
theorem abl(j y T o z V k l n s v x Q S:Nat)(m t P i p q R:Int)(w:G)
  (HO:H (∀b cap w,w.cell? ⟨b,0,Z⟩=K (I J p)->w.cell? ⟨b,1,Z⟩=K (I J q)->M 182 #[D (K ⟨b,0,Z⟩) 2 cap] w λr w'=>r=aJ (I J R)/\w'=w))
  (HF:H (∀w,M 125 #[u #[A C k l,I J m],u #[A C v x,I J P]] w λe w'=>e=aJ (I J p)/\Below w.heap.size w w'/\w.drawn<=w'.drawn))
  (HT:H (∀w,M 125 #[u #[A C n s,I J t],u #[A C Q S,I J i]] w λe w'=>e=aJ (I J q)/\Below w.heap.size w w'/\w.drawn<=w'.drawn)):
  M 157 #[u #[A C j y,aA C T,A C k l,I J m,A C n s,I J t],u #[A C o z,aA C V,A C v x,I J P,A C Q S,I J i]] w λe w'=>e=aJ (I J R)/\Below w.heap.size w w'/\w.drawn<=w'.drawn:=by
 have hX:((w.alloc<|.cells #[A C j y,aA C T,A C k l,I J m,A C n s,I J t] 171).alloc<|.cells #[A C o z,aA C V,A C v x,I J P,A C Q S,I J i] 171).heap[w.heap.size]?=K (.cells #[A C j y,aA C T,A C k l,I J m,A C n s,I J t] 171 (0,0)):=by
  rw[ad _ _ _ E];exact aa _ _
 have hY:((w.alloc<|.cells #[A C j y,aA C T,A C k l,I J m,A C n s,I J t] 171).alloc<|.cells #[A C o z,aA C V,A C v x,I J P,A C Q S,I J i] 171).heap[w.heap.size+1]?=K (.cells #[A C o z,aA C V,A C v x,I J P,A C Q S,I J i] 171 (0,0)):=by
  have:=aa (w.alloc<|.cells #[A C j y,aA C T,A C k l,I J m,A C n s,I J t] 171)<|.cells #[A C o z,aA C V,A C v x,I J P,A C Q S,I J i] 171;simpa using this
 have hb0:Below w.heap.size w ((w.alloc<|.cells #[A C j y,aA C T,A C k l,I J m,A C n s,I J t] 171).alloc<|.cells #[A C o z,aA C V,A C v x,I J P,A C Q S,I J i] 171):=((Below.refl _ _).alloc (aX _) _).alloc E _;have haz:w.heap.size+2=((w.alloc<|.cells #[A C j y,aA C T,A C k l,I J m,A C n s,I J t] 171).alloc<|.cells #[A C o z,aA C V,A C v x,I J P,A C Q S,I J i] 171).heap.size:=E;have hd0:w.drawn<=((w.alloc<|.cells #[A C j y,aA C T,A C k l,I J m,A C n s,I J t] 171).alloc<|.cells #[A C o z,aA C V,A C v x,I J P,A C Q S,I J i] 171).drawn:=aX _;go_enter func157,ntmps157;go_wp2_with fail;generalize(w.alloc<|.cells #[A C j y,aA C T,A C k l,I J m,A C n s,I J t] 171).alloc (.cells #[A C o z,aA C V,A C v x,I J P,A C Q S,I J i] 171)=W at*;generalize hB:w.heap.size=B at*;have g:B<W.heap.size:=U;have N:B+1<W.heap.size:=U;have a0:=bQ hX;have j:=bV hX;have o:=nB hX;have a3:=nC hX;have a4:=bQ hY;have a5:=bV hY;have a6:=nB hY;have a7:=nC hY;go_region_held3 (λw'=>w'.cell? ⟨B,2,Z⟩=K (A C k l)/\w'.cell? ⟨B,3,Z⟩=K (I J m)/\w'.cell? ⟨B,4,Z⟩=K (A C n s)/\w'.cell? ⟨B,5,Z⟩=K (I J t)/\w'.cell? ⟨B+1,2,Z⟩=K (A C v x)/\w'.cell? ⟨B+1,3,Z⟩=K (I J P)/\w'.cell? ⟨B+1,4,Z⟩=K (A C Q S)/\w'.cell? ⟨B+1,5,Z⟩=K (I J i)) (go_keep) (first
   |(go_at_call_of 125 (u #[A C k l,I J m]);refine(HF.o _).mono ?_;rintro e w6 ⟨rfl,a,hd6⟩;have f:B<w6.heap.size:=bg g a.size;have F:B+1<w6.heap.size:=bg N a.size;obtain⟨b0,y,z,b3⟩:=ajE a g a0 j o a3;obtain⟨b4,b5,b6⟩:=ajD a N a4 a5 a6;have b7:=(aR a a7 N))
   |(go_at_call_of 125 (u #[A C n s,I J t]);refine(HT.o _).mono ?_;rintro e w7 ⟨rfl,c,hd7⟩;have L:B<w7.heap.size:=bg f c.size;have O:B+1<w7.heap.size:=bg F c.size;obtain⟨c0,c1,c2,c3⟩:=ajE c f b0 y z b3;obtain⟨c4,c5,c6⟩:=ajD c F b4 b5 b6;have c7:=(aR c b7 F))
   |(go_at_call 182;refine(HO.o _ _ _ (apL (aa _ _) 0) (apL (aa _ _) 1)).mono ?_;rintro e w8 ⟨rfl,X⟩;have d:Below w7.heap.size w7 w8:=(by(rw[X];exact(Below.refl _ _).alloc (aX _) _));have hd8:w7.drawn<=w8.drawn:=(by(subst X;exact aX _));clear X;obtain⟨d0,d1,d2,d3⟩:=ajE d L c0 c1 c2 c3;obtain⟨d4,d5,d6⟩:=ajD d O c4 c5 c6;have d7:=(aR d c7 O)))
 all_goals
  have F7:=((hb0.drew.trans<|a.mono<|du g).trans<|c.mono<|du f).trans<|d.mono<|du L;have HD:H (w.drawn<=w8.drawn):=by
   have h1:W.drawn<=W.drew.drawn:=lX _;exact el hd0<|el h1<|el hd6<|el hd7 hd8
  go_wp2_with fail;go_ret;exact⟨rfl,by rw[hB];exact F7,HD.o⟩
theorem abm(x y:PB)(a:dR x)(c:dR y)(w:G):
  M 157 #[u x.cells.toArray,u y.cells.toArray] w λr w'=>r=aJ (I J<|vy x y)/\ag w w'/\w.drawn<=w'.drawn:=
 abl _ _ _ _ _ _ _ _ _ _ _ _ _ _ _ _ _ _ _ _ _ w (λb cap w d e=>Cs _ _ b cap w d e) (λw=>yy x.f y.f a.f.bm c.f.bm a.cf c.cf w) (λw=>yy x.t y.t a.t.bm c.t.bm a.ct c.ct w)
theorem ab5(B Q S P R i d f t v k l n r:Nat)(g x m s:Int)(p q:Bool)(w:G)
  (a:∀w,(binOp .eql 83 (u #[A C d f,I J g])<|u #[A C k l,I J m]).run prog w=.ok (aC p) w)
  (b:∀w,(binOp .eql 83 (u #[A C t v,I J x])<|u #[A C n r,I J s]).run prog w=.ok (aC q) w):
  M 159 #[u #[A C B Q,aA C S,A C d f,I J g,A C t v,I J x],u #[A C P R,aA C i,A C k l,I J m,A C n r,I J s]] w (ai (aC (p&&q)) w):=by
 have c:ag w ((w.alloc<|.cells #[A C B Q,aA C S,A C d f,I J g,A C t v,I J x] 171).alloc<|.cells #[A C P R,aA C i,A C k l,I J m,A C n r,I J s] 171):=(aj _ _).alloc E _;cases p
 .go_enter func159,ntmps159;go_wp2_with (simp only[a,b]);go_ret;exact⟨rfl,c⟩
 .go_enter func159,ntmps159;go_wp2_with (simp only[a,b]);go_ret;exact⟨rfl,c⟩
theorem O6(x y:PB)(a:dR x)(b:dR y)(w:G):
  M 159 #[u x.cells.toArray,u y.cells.toArray] w (ai (aC<|decide (x.f=y.f)&&decide (x.t=y.t)) w):=
 ab5 _ _ _ _ _ _ _ _ _ _ _ _ _ _ _ _ _ _ _ _ w (λw=>yB x.f y.f a.f.bm b.f.bm w) (λw=>yB x.t y.t a.t.bm b.t.bm w)
def PB.rev(x:PB):PB:=⟨Op.negFloat C x.wa,Op.negFloat C x.wb,Op.negFloat C x.sh,x.t,x.f⟩
theorem ab6(a b s c R S k l n q:Nat)(m r:Int)(w:G)
  (o:H (∀w,M 162 #[u #[A C a b,aA C s]] w λe w'=>e=aJ (u #[A C c R,aA C S])/\Below w.heap.size w w')):
  M 107 #[u #[A C a b,aA C s,A C k l,I J m,A C n q,I J r]] w λe w'=>e=aJ (u #[A C c R,aA C S,A C n q,I J r,A C k l,I J m])/\Below w.heap.size w w':=by
 have x:((w.alloc<|.cells #[A C a b,aA C s,A C k l,I J m,A C n q,I J r] 171).alloc<|.cells #[A C 0 0,aA C 0,A C 0 0,I J 0,A C 0 0,I J 0] 171).heap[w.heap.size]?=K (.cells #[A C a b,aA C s,A C k l,I J m,A C n q,I J r] 171 (0,0)):=by
  rw[ad _ _ _ E];exact aa _ _
 have t:((w.alloc<|.cells #[A C a b,aA C s,A C k l,I J m,A C n q,I J r] 171).alloc<|.cells #[A C 0 0,aA C 0,A C 0 0,I J 0,A C 0 0,I J 0] 171).heap[w.heap.size+1]?=K (.cells #[A C 0 0,aA C 0,A C 0 0,I J 0,A C 0 0,I J 0] 171 (0,0)):=by
  have:=aa (w.alloc<|.cells #[A C a b,aA C s,A C k l,I J m,A C n q,I J r] 171)<|.cells #[A C 0 0,aA C 0,A C 0 0,I J 0,A C 0 0,I J 0] 171;simpa using this
 have i:Below w.heap.size w ((w.alloc<|.cells #[A C a b,aA C s,A C k l,I J m,A C n q,I J r] 171).alloc<|.cells #[A C 0 0,aA C 0,A C 0 0,I J 0,A C 0 0,I J 0] 171):=((Below.refl _ _).alloc (aX _) _).alloc E _;have haz:w.heap.size+2=((w.alloc<|.cells #[A C a b,aA C s,A C k l,I J m,A C n q,I J r] 171).alloc<|.cells #[A C 0 0,aA C 0,A C 0 0,I J 0,A C 0 0,I J 0] 171).heap.size:=E;go_enter func107,ntmps107;go_wp2_with fail;generalize(w.alloc<|.cells #[A C a b,aA C s,A C k l,I J m,A C n q,I J r] 171).alloc (.cells #[A C 0 0,aA C 0,A C 0 0,I J 0,A C 0 0,I J 0] 171)=W at*;generalize hB:w.heap.size=B at*;have g:B<W.heap.size:=U;have j:B+1<W.heap.size:=U;obtain⟨y,z,F,L⟩:=ajG x;have N:=nB x;have a5:=nC x;have z0:=bE t 0;have z1:=bE t 1;have z2:=bE t 2;have z3:=bE t 3;have z4:=bE t 4;have z5:=bE t 5;go_region_held3 (λw'=>apU w' B (A C a b) (aA C s) (A C k l) (I J m) (A C n q) (I J r)/\w'.frozen? ⟨B+1,0,Z⟩=aQ/\w'.frozen? ⟨B+1,1,Z⟩=aQ/\w'.frozen? ⟨B+1,2,Z⟩=aQ/\w'.frozen? ⟨B+1,3,Z⟩=aQ/\w'.frozen? ⟨B+1,4,Z⟩=aQ/\w'.frozen? ⟨B+1,5,Z⟩=aQ) (go_keep) (first
   |(go_at_call 162;refine(o.o _).mono ?_;rintro e P ⟨rfl,f⟩;obtain⟨b0,b1,b2,b3⟩:=ajE f g y z F L;have b4:=aR f N g;have b5:=aR f a5 g;have d:=(f.block (B+1) j).trans t;have y0:=bE d 0;have y1:=bE d 1;have y2:=bE d 2;have y3:=bE d 3;have y4:=bE d 4;have y5:=bE d 5;obtain⟨e0,O,T,V⟩:=ajG d;have X:=nB d;have Y:=nC d)
   |(simp only[fW,mm];go_simp))
 all_goals
  go_wp2_with fail;refine ab (v:=u #[A C c R,aA C S,A C n q,I J r,A C k l,I J m]) (by simp[results,results107,go_sem,e0,O,T,V,X,Y]) rfl ⟨rfl,?_⟩;have Q:=i.drew.trans<|f.mono<|du g;rw[hB];exact((((((Q.setCell (p:=⟨B+1,0,Z⟩) (lX _) _).setCell (p:=⟨B+1,1,Z⟩) (lX _) _).setCell (p:=⟨B+1,2,Z⟩) (lX _) _).setCell (p:=⟨B+1,3,Z⟩) (lX _) _).setCell (p:=⟨B+1,4,Z⟩) (lX _) _).setCell (p:=⟨B+1,5,Z⟩) (lX _) _)
theorem ab7(x:PB)(w:G):
  M 107 #[u x.cells.toArray] w (ai (u x.rev.cells.toArray) w):=
 ab6 _ _ _ _ _ _ _ _ _ _ _ _ w (λw=>NQ _ _ _ w)
end
end Go.Proofs.YtkjhhooecopolaaGreatDoor
