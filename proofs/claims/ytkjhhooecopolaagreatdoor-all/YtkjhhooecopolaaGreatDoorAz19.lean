import Derived.Test.YtkjhhooecopolaaGreatDoorAz18
set_option maxRecDepth 100000
set_option maxHeartbeats 4000000
namespace Go.Proofs.YtkjhhooecopolaaGreatDoor
open Go.Proofs.Tryz
open Value renaming int->I,complex->A,float->aA,agg->u,bool->aC,slice->D,pointer->aF,tuple->aG
open IntKind renaming i64->J
open FloatKind renaming f64->C
open Ending renaming returned->aJ
open Go renaming World->G,Value->Y,floatOfInt->aM
open Option renaming some->K,none->Z
open Bool renaming true->aP,false->aQ
section
open Go.RowKit
variable{w wr w':G}{d a b c:Int}{es:V Ed}{Xs Ps:V PB}{l m:N.Ln}{g cap n k:Nat}{x:PB}{lv:Y}
theorem PJ:∀(l:V PB)(k:Nat),(dO l).take (k*6)=dO (l.take k)
 |[],k=>by simp[dO]
 |a::l,0=>by simp[dO]
 |a::l,k+1=>by have d:=PJ l k;have e:∀(b:PB)(r:V PB),dO (b::r)=b.cells++dO r:=λb r=>(by simp[dO]);have c:(k+1)*6=a.cells.length+k*6:=(by show _=6+_;omega);rw[EL,e,e,<-d,c,Kw,ku<|VI _ _];simp
theorem jy.clear{d:Array PB}(h:jy w g cap n d wr)(k:Nat)(L:k<n)(c:Nat):
  ∃w',(∀R,(Builtin.clear_ #[168] R #[D (K ⟨g,k*6,Z⟩) (n-k) c]).run prog wr=.ok (aG #[]) w')/\ag w w'/\qo w' (D (K ⟨g,0,Z⟩) k cap) (d.toList.take k):=by have⟨b,z,Q,y,t,x,B⟩:=h.blk;have p:(Builtin.zeroCells (u #[A C 0 0,aA C 0,A C 0 0,I J 0,A C 0 0,I J 0]).cells<|n-k).toList.length=(n-k)*6:=(by rw[ie];unfold Builtin.zeroCells;rw[Array.size_map,Array.size_range];rfl);have q:∀v∈(Builtin.zeroCells (u #[A C 0 0,aA C 0,A C 0 0,I J 0,A C 0 0,I J 0]).cells<|n-k).toList,v.oneCell'=aP:=(by intro v P;unfold Builtin.zeroCells at P;simp at P;obtain⟨i,_,rfl⟩:=P;have e:(u #[A C 0 0,aA C 0,A C 0 0,I J 0,A C 0 0,I J 0]).cells= #[A C 0 0,aA C 0,A C 0 0,I J 0,A C 0 0,I J 0]:=rfl;show(#[A C 0 0,aA C 0,A C 0 0,I J 0,A C 0 0,I J 0][i%6]!).oneCell'=aP;have l:i%6=0\/i%6=1\/i%6=2\/i%6=3\/i%6=4\/i%6=5:=U;rcases l with l|l|l|l|l|l<;>rw[l]<;>rfl);have f:=ake prog g (k*6) 171 _ 0 b wr Q (by omega) q;simp only[pA] at f;rw[p] at f;generalize r:(Builtin.zeroCells (u #[A C 0 0,aA C 0,A C 0 0,I J 0,A C 0 0,I J 0]).cells<|n-k).toList=a at*;have s:=afK wr g b (b.toList.take (k*6)++a++b.toList.drop (k*6+(n-k)*6)).toArray _ _ Q;refine⟨wr.setRow g (b.toList.take (k*6)++a++b.toList.drop (k*6+(n-k)*6)).toArray,λR=>?_,?_,?_,F ⟨g,cap,_,?_,iq _,s,?_,t,?_,?_⟩⟩;obtain⟨m,o⟩:∃m,n-k=m+1:=⟨n-k-1,U⟩;rw[o] at f r⊢;simp[Builtin.clear_,run_underlying underlying168,r,f];refine h.below.trans ⟨rfl,rfl,rfl,E,λj H=>akf _ _ _ _ U⟩;rw[vS];have e:(d.toList.take k).length=k:=(by rw[fU,ie,h.size];omega);rw[e];grind;grind;have e:(d.toList.take k).length=k:=(by rw[fU,ie,h.size];omega);rw[e];show((b.toList.take (k*6)++_++_).take<|k*6)=_;rw[aaU,ajp (by grind),ut,Nat.min_self];have S:b.toList.take (k*6)=(b.toList.take<|n*6).take (k*6):=(by grind);rw[S,B];exact PJ _ _
theorem PK[Inhabited PB](d:Array PB)(j:Nat)(a:j<1):kept d j=aP:=by unfold kept;grind
theorem acS[Inhabited PB](w:G)(g cap n:Nat)(d:Array PB)(wr0:G)(h:jy w g cap n d wr0)(hd:∀i,i<n->dR (d[i]!))(hn:n<=85000000)(hc:n<=cap):
  M 158 #[D (K ⟨g,0,Z⟩) n cap,.func (.func 159) #[] #[]] wr0 λr w'=>∃v',r=aJ v'/\qo w' v' (fY d n)/\ag w w':=by have HR:=hid h;have HD:=hid hd;have hds:=h.size;by_cases h2:n<2;go_enter func158,ntmps158;go_wp2_with fail;go_ret;refine⟨_,rfl,?_,HR.o.below⟩;have e:fY d n=d.toList:=(by rw[C8 d n U<|λj hj=>PK d j U,<-hds,<-ie,dV]);rw[e];exact HR.o.rd;.go_enter func158,ntmps158;go_wp2_with fail;go_loopg [5] n (λgk s5 wr=>∃k:Nat,1<=k/\k<=n/\n-k<=gk/\s5=I J k/\H (jy w g cap n d wr/\∀j,j<k->kept d j=aP));(case atStart=>exact⟨1,aX _,U,U,rfl,HR.o,PK d⟩);case round=>obtain⟨k,hk1,hk,hg,rfl,R⟩:=hrel;obtain⟨m,hm⟩:∃m,k=m+1:=⟨k-1,U⟩;by_cases hlt:k<n;(.obtain⟨a0,a1,a2,a3,a4,a5,_⟩:=R.o.1.cells k hlt;obtain⟨b0,b1,b2,b3,b4,b5,_⟩:=R.o.1.cells m U;have:(k:Int)<(n:Int):=U;have:(m:Int)<(n:Int):=U;have:J.wrap ((k:Int)-1)=(m:Int):=(by rw[ah];omega);have:(0:Int)<=(m:Int):=U;have:m<n:=U;have:H (k=m+1):=hm;have s:g<wr.heap.size:=(by obtain⟨_,_,hb,_⟩:=R.o.1.blk;exact apJ hb);have hcall:=λw=>O6 d[k]! d[m]! (HD.o k hlt) (HD.o m U) w;have x:H (kept d k= !same d[k]! d[m]!):=(by have e0:decide (k=0)=aQ:=jd U;have e1:k-1=m:=U;show kept d k=_;unfold kept;rw[e0,e1,Ko]);have P:H (kept d k= !(decide (d[k]!.f=d[m]!.f)&&decide (d[k]!.t=d[m]!.t))):=x;generalize L:(decide (d[k]!.f=d[m]!.f)&&decide (d[k]!.t=d[m]!.t))=bq at hcall P;clear L x;simp only[PB.cells] at hcall;generalize d[k]!.wa=A1 at*;generalize d[k]!.wb=A2 at*;generalize d[k]!.sh=A3 at*;generalize aM C d[k]!.f.1=A4 at*;generalize aM C d[k]!.f.2.1=A5 at*;generalize d[k]!.f.2.2=A6 at*;generalize aM C d[k]!.t.1=A7 at*;generalize aM C d[k]!.t.2.1=A8 at*;generalize d[k]!.t.2.2=A9 at*;generalize d[m]!.wa=B1 at*;generalize d[m]!.wb=B2 at*;generalize d[m]!.sh=B3 at*;generalize aM C d[m]!.f.1=B4 at*;generalize aM C d[m]!.f.2.1=B5 at*;generalize d[m]!.f.2.2=B6 at*;generalize aM C d[m]!.t.1=B7 at*;generalize aM C d[m]!.t.2.1=B8 at*;generalize d[m]!.t.2.2=B9 at*;have y:=hid hcall;clear hcall hm;go_wp2_with fail;go_region_held3 (λw'=>ate w' g (k*6) (A C A1 A2) (aA C A3) (A C A4 A5) (I J A6) (A C A7 A8) (I J A9)/\ate w' g (m*6) (A C B1 B2) (aA C B3) (A C B4 B5) (I J B6) (A C B7 B8) (I J B9)) (go_keep) (first|(go_at_call 159;refine(y.o _).mono ?_;rintro r w5 ⟨rfl,q⟩;obtain⟨c0,c1,c2,c3⟩:=ajE q s a0 a1 a2 a3;obtain⟨c4,c5,e0,e1⟩:=ajE q s a4 a5 b0 b1;obtain⟨e2,e3,e4⟩:=ajD q s b2 b3 b4;have e5:=(aR q b5 s)));have hB5:=(Below.refl _ _).drew.trans q;have Q:H (jy w g cap n d w5/\∀j,j<k->kept d j=aP):=⟨R.o.1.keep hB5,R.o.2⟩;cases bq;(.have HK:H (kept d k=aP):=P.o;go_wp2_with fail;go_roundg (n-(k+1));(case measure=>omega);case rel=>refine⟨k+1,U,U,aX _,af,Q.o.1,λj hj=>?_⟩;by_cases e:j=k;subst e;exact HK.o;exact Q.o.2 j U);.have HK:=hid P.o;go_wp2_with fail;go_loopg [5,7] n (λgk s5 s7 wr2=>∃(v c:Nat)(N:Array PB),s5=I J v/\s7=I J c/\1<=c/\k+c<=n/\n-(k+c)<=gk/\H (jy w g cap n N wr2/\KI d (k+c) v N));(case atStart=>exact⟨k,1,d,rfl,rfl,aX _,U,U,Q.o.1,KI.start U Q.o.2 HK.o⟩);case round=>obtain⟨v,c,N,rfl,rfl,h1,hle,hg2,B⟩:=hrel;obtain⟨l,hm2⟩:∃l,c=l+1:=⟨c-1,U⟩;have:=B.o.2.lt;by_cases S:k+c<n;(.obtain⟨a0,a1,a2,a3,a4,a5,_⟩:=B.o.1.cells (k+c) S;obtain⟨b0,b1,b2,b3,b4,b5,_⟩:=B.o.1.cells (k+l) U;obtain⟨q0,q1,q2,q3,q4,q5,O⟩:=B.o.1.cells v U;rw[B.o.2.high (k+c) U,show(k+c)*6=k*6+c*6 by omega] at a0 a1 a2 a3 a4 a5;rw[B.o.2.high (k+l) U,show(k+l)*6=k*6+l*6 by omega] at b0 b1 b2 b3 b4 b5;have amf:c<n-k:=U;have:l<n-k:=U;have:(0:Int)<=(l:Int):=U;have:J.wrap ((c:Int)-1)=(l:Int):=(by rw[ah];omega);have ahX:(v:Int)<(n:Int):=U;have a:g<wr.heap.size:=(by obtain⟨_,_,hb,_⟩:=B.o.1.blk;exact apJ hb);have hcall:=λw=>O6 d[k+c]! d[k+l]! (HD.o (k+c) S) (HD.o (k+l) U) w;have x:H (kept d (k+c)= !(decide (d[k+c]!.f=d[k+l]!.f)&&decide (d[k+c]!.t=d[k+l]!.t))):=(by have e0:decide (k+c=0)=aQ:=jd U;have e1:k+c-1=k+l:=U;show kept d (k+c)=_;unfold kept;rw[e0,e1,Ko];rfl);have W:H (∀w',ag wr w'->jy w g cap n (N.setIfInBounds v d[k+c]!) (w'.setCells g (v*6) (d[k+c]!).cells)):=λw' hb=>(B.o.1.keep hb).set v U _;generalize L:(decide (d[k+c]!.f=d[k+l]!.f)&&decide (d[k+c]!.t=d[k+l]!.t))=bq at hcall x;clear L hm2;simp only[PB.cells] at hcall W;generalize d[k+c]!.wa=P1 at*;generalize d[k+c]!.wb=P2 at*;generalize d[k+c]!.sh=P3 at*;generalize aM C d[k+c]!.f.1=P4 at*;generalize aM C d[k+c]!.f.2.1=P5 at*;generalize d[k+c]!.f.2.2=P6 at*;generalize aM C d[k+c]!.t.1=P7 at*;generalize aM C d[k+c]!.t.2.1=P8 at*;generalize d[k+c]!.t.2.2=P9 at*;generalize d[k+l]!.wa=R1 at*;generalize d[k+l]!.wb=R2 at*;generalize d[k+l]!.sh=R3 at*;generalize aM C d[k+l]!.f.1=R4 at*;generalize aM C d[k+l]!.f.2.1=R5 at*;generalize d[k+l]!.f.2.2=R6 at*;generalize aM C d[k+l]!.t.1=R7 at*;generalize aM C d[k+l]!.t.2.1=R8 at*;generalize d[k+l]!.t.2.2=R9 at*;have y:=hid hcall;clear hcall;go_wp2_with fail;go_region_held3 (λw'=>ate w' g (k*6+c*6) (A C P1 P2) (aA C P3) (A C P4 P5) (I J P6) (A C P7 P8) (I J P9)/\ate w' g (k*6+l*6) (A C R1 R2) (aA C R3) (A C R4 R5) (I J R6) (A C R7 R8) (I J R9)) (go_keep) (first|(go_at_call 159;refine(y.o _).mono ?_;rintro r w6 ⟨rfl,b⟩;obtain⟨c0,c1,c2,c3⟩:=ajE b a a0 a1 a2 a3;obtain⟨c4,c5,e0,e1⟩:=ajE b a a4 a5 b0 b1;obtain⟨e2,e3,e4⟩:=ajD b a b2 b3 b4;have e5:=(aR b b5 a)));have hB6:=(Below.refl _ _).drew.trans b;have GK:=hid<|B.o.1.keep hB6;have T:=hid B.o.2;have X:=W.o w6 hB6;have Y:=hid X;have:=aR b q0 a;have:=aR b q1 a;have:=aR b q2 a;have:=aR b q3 a;have:=aR b q4 a;have:=aR b q5 a;have:=(b.frozen (p:=⟨g,v*6,Z⟩) a).trans<|O _;have:=(b.frozen (p:=⟨g,v*6+1,Z⟩) a).trans<|O _;have:=(b.frozen (p:=⟨g,v*6+2,Z⟩) a).trans<|O _;have:=(b.frozen (p:=⟨g,v*6+3,Z⟩) a).trans<|O _;have:=(b.frozen (p:=⟨g,v*6+4,Z⟩) a).trans<|O _;have:=(b.frozen (p:=⟨g,v*6+5,Z⟩) a).trans<|O _;cases bq;(.have z:=hid x.o;go_wp2_with (simp only[fW,mm];go_simp);go_roundg (n-(k+(c+1)));(case measure=>omega);case rel=>exact⟨v+1,c+1,N.setIfInBounds v d[k+c]!,af,af,U,U,aX _,Y.o,T.o.keep U z.o⟩);.have z:=hid x.o;go_wp2_with fail;go_roundg (n-(k+(c+1)));(case measure=>omega);case rel=>exact⟨v,c+1,N,rfl,af,U,U,aX _,GK.o,T.o.skip U z.o⟩);have hend:k+c=n:=U;obtain⟨w',hcl,F7,pS⟩:=B.o.1.clear v U<|cap-v;have F:H (qo w' (D (K ⟨g,0,Z⟩) v cap)<|fY d n):=(by have hI:=B.o.2.low;rw[hend] at hI;rw[<-hI];exact pS);have o:=hid F7;have amf:¬c<n-k:=U;have ahX:v<=n:=U;have:v<=cap:=U;go_wp2_with fail;go_ret;exact⟨_,rfl,F.o,o.o⟩);have hkn:k=n:=U;subst hkn;have e:fY d k=d.toList:=(by rw[C8 d k U R.o.2,<-hds,<-ie,dV]);have F:H (qo wr (D (K ⟨g,0,Z⟩) k cap)<|fY d k):=(by rw[e];exact R.o.1.rd);have o:=hid R.o.1.below;go_wp2_with fail;go_ret;exact⟨_,rfl,F.o,o.o⟩
theorem adW{y:PB}:same x y=aP↔x.f=y.f/\x.t=y.t:=by unfold same;simp
theorem PQ{x' y:PB}(e:dR x)(a:dR x')(b:dR y)(c:x.f=x'.f)(d:x.t=x'.t):iS x y↔iS x' y:=by rw[nZ e b,nZ a b,c,d]
structure KL [Inhabited PB](S:Array PB)(m:Nat):Prop where
 mem:∀p∈fY S m,∃j,j<m/\p=S[j]!
 all:∀j,j<m->∃p∈fY S m,p.f=S[j]!.f/\p.t=S[j]!.t
 kF:(fY S m).Pairwise iS
theorem PR [Inhabited PB](S:Array PB)(x:∀j,j<S.size->dR S[j]!)(v:∀i j,i<j->j<S.size->¬iS S[j]! S[i]!):∀m,m<=S.size->KL S m
 |0,_=>⟨λp h=>by simp[fY] at h,λj h=>U,by simp[fY]⟩
 |m+1,G=>by have d:=PR S x v m U;have b:=x m U;cases a:kept S m;have e:fY S (m+1)=fY S m:=(by rw[fY,a];simp);have w:same S[m]! S[m-1]! =aP/\0<m:=(by unfold kept at a;grind);refine⟨λp h=>?_,λj t=>?_,by rw[e];exact d.kF⟩;rw[e] at h;have⟨j,t,h⟩:=d.mem p h;grind;rw[e];by_cases f:j<m;exact d.all j f;have:j=m:=U;have⟨p,g,k,Q⟩:=d.all (j-1) U;have q:=adW.1 w.1;grind;have e:fY S (m+1)=fY S m++[S[m]!]:=(by rw[fY,a];simp);refine⟨λp h=>?_,λj t=>?_,?_⟩;rcases dm.1 h with h|h;have⟨j,t,h⟩:=d.mem p h;grind;grind;by_cases f:j<m;have⟨p,g,k⟩:=d.all j f;grind;grind;rw[e,sB];refine⟨d.kF,E,λp h y F=>?_⟩;rw[cI.1 F];obtain⟨j,t,rfl⟩:=d.mem p h;have s:=x j U;rcases Hg s b with l|⟨l,q⟩|l;exact l;exfalso;have c:=x (m-1) U;have r:same S[m]! S[m-1]! =aQ:=(by unfold kept at a;grind);rcases Hg c b with n|⟨n,o⟩|n;by_cases P:j=m-1;subst P;have:=(PQ c b b l q).1 n;exact PC _ this;apply v j (m-1) U U;rwa[nZ c s,l,q,<-nZ c b];have:=adW.2 ⟨n.symm,o.symm⟩;grind;grind;grind
structure mx(es:V Ed)(l:V N.Nd)(Ps:V PB):Prop where
 ap:AP es l Ps
 v:∀p∈Ps,dR p
 kF:Ps.Pairwise iS
theorem C9:∀{m:V N.Nd}{q:N.Nd×N.Nd},q∈N.apO m->q.1∈m/\q.2∈m
 |[],_,h=>by simp[N.apO] at h
 |[_],_,h=>by simp[N.apO] at h
 |a::b::r,q,h=>by rcases bK.1 h with h|h;grind;have c:=C9 h;grind
theorem AP.v{l:V N.Nd}{L:V PB}(h:AP es l L)(q:∀e∈es,cM e)(g:l.map N.T=N.g8 es)(b:∀n∈l,N.Can n):∀p∈L,dR p:=by intro p k;have⟨e,_,_,m⟩:=h.mem p k;have f:=C9 m;have c:=(et.1 f.1).1;have d:=(et.1 f.2).1;have a:∀n∈l,iI n:=λn a=>He q (b n a)<|((N.vm es).2.2 _).1 (by grind);exact⟨a _ c,a _ d,b _ c,b _ d⟩
theorem acU(es:V Ed)(v:Y)(w:G)(O:kG w v es)(hl:es.length<=402)(hs:∀e∈es,cM e):
  M 104 #[v] w λr w'=>∃x k,r=aJ x/\qo w' x k/\ag w w'/\k.length<=85000000/\∃l,l.map N.T=N.g8 es/\(∀n∈l,N.Can n)/\mx es l k:=by
 haveI:Inhabited PB:=⟨⟨0,0,0,(0,0,1),(0,0,1)⟩⟩;haveI:Inhabited VP:=⟨⟨⟨0,0,0,(0,0,1),(0,0,1)⟩,⟨ae,ae,ae⟩,⟨ae,ae,ae⟩,⟨ae,ae⟩,⟨ae,ae⟩⟩⟩
 refine(acH es v w O hl hs (λk x w'=>qo w' x k/\ag w w'/\k.length<=85000000/\∃l,l.map N.T=N.g8 es/\(∀n∈l,N.Can n)/\mx es l k) ?_).mono λr w' h=>h;intro l t d lv L wr F s z;have hv:=s.v hs t d;refine(acQ w lv L wr F hv z).mono ?_;rintro r w' ⟨rfl,S,o,hperm,hpw⟩;refine⟨rfl,?_⟩;have aem:S.length=L.length:=hperm.length_eq;have Q:∀p∈S,dR p:=λp b=>hv p<|hperm.mem_iff.1 b;have B:AP es l S:=⟨λp b=>s.mem p<|hperm.mem_iff.1 b,λe X q hq=>by
  obtain⟨p,b,h⟩:=s.all e X q hq;exact⟨p,hperm.mem_iff.2 b,h⟩⟩
 have c:∀j(a:j<S.length),S.toArray[j]! =S[j]:=λj a=>(by rw[gN S.toArray j<|by simpa using a];simp);have R:∀j,j<S.length->dR S.toArray[j]! :=λj a=>by rw[c j a];exact Q _<|eo a
 have y:=PR S.toArray (λj a=>R j<|by simpa using a) (λi j hij a=>by
  have P:j<S.length:=by simpa using a
  rw[c j P,c i U];exact(jm.1 hpw) i j U P hij) S.length E
 have f:mx es l (fY S.toArray S.length):=(by have hm:∀p∈fY S.toArray S.length,p∈S:=λp b=>(by obtain⟨j,a,rfl⟩:=y.mem p b;rw[c j a];exact eo a);refine⟨⟨λp b=>B.mem p<|hm p b,λe X q hq=>?_⟩,λp b=>Q p<|hm p b,y.kF⟩;obtain⟨p,b,h⟩:=B.all e X q hq;obtain⟨j,a,X0⟩:=ig.1 b;obtain⟨p',hp',h1,h2⟩:=y.all j a;rw[c j a,X0] at h1 h2;exact⟨p',hp',by rw[h1,h2];exact h⟩);have hlen:(fY S.toArray S.length).length<=S.length:=(by have:∀m,(fY S.toArray m).length<=m:=λm=>(by induction m with|zero=>simp[fY]|succ m ih=>rw[fY,bG];split;simp;omega;simp;omega);exact this _);rcases o.1.2 with⟨rfl,h0⟩|⟨g,cap,cur,rfl,hg,hblk,hnc,hcm,hcs,htk⟩;have W:S=[]:=gL.1 h0;subst W;have HB:H (ag w w'):=o.2;have HF:H (mx es l []):=f;have HM:H (l.map N.T=N.g8 es/\(∀n∈l,N.Can n)):=⟨t,d⟩;go_enter func158,ntmps158;go_wp2_with fail;go_ret;exact⟨_,[],rfl,ak _ _ _ _,HB.o,E,l,HM.o.1,HM.o.2,HF.o⟩;have O:jy w g cap S.length S.toArray w':=⟨E,o.1,o.2⟩;refine(acS w g cap S.length S.toArray w' O R U hnc).mono ?_;rintro r w2 ⟨x,rfl,pS,hb⟩;exact⟨x,_,rfl,pS,hb,U,l,t,d,f⟩
namespace N
def canon(x y d:Int):Nd:=let g:Int:=Int.gcd (Int.gcd x y:Nat) d;(x.tdiv g,y.tdiv g,d.tdiv g)
theorem Hi(x y:Int){d:Int}(l:0<d):Can (canon x y d)/\T (canon x y d)=(bu x d,bu y d):=by have⟨G,b⟩:∃G,Int.gcd (Int.gcd x y:Nat) d=G:=⟨_,rfl⟩;have:0<G:=(by rw[<-b];exact oI U);have a:(G:Int)∣(Int.gcd x y:Nat):=(by rw[<-b];exact wP _ _);have f:(G:Int)∣x:=wR a<|wP _ _;have g:(G:Int)∣y:=wR a<|ul _ _;have e:(G:Int)∣d:=(by rw[<-b];exact ul _ _);have c:=(sA e).symm;have k:0<d.tdiv G:=(by rcases dG (d.tdiv G) 0 with h|h|h;have:=oz (show(0:Int)<G by omega) h;omega;grind;exact h);unfold canon;rw[b];exact Co U (sA f).symm (sA g).symm c k (by omega)
end N
def dX(f t:N.Nd):N.Nd:=N.canon (f.1+t.1) (f.2.1+t.2.1)<|f.2.2+t.2.2
theorem acV{n:N.Nd}(a:iI x.f)(b:iI x.t)(h:Pn x n):n=dX x.f x.t:=by have:=a.d;have:=b.d;have⟨c,q⟩:=N.Hi (x.f.1+x.t.1) (x.f.2.1+x.t.2.1) (d:=x.f.2.2+x.t.2.2) U;exact N.oN h.1 c (by rw[h.2.1];exact q.symm)
def db(f t:N.Nd):N.Ln:=(t.1*f.2.2-f.1*t.2.2,t.2.1*f.2.2-f.2.1*t.2.2,0)
def rising(a b:Int):Prop:=0<a\/(a=0/\0<b)
theorem Hj(f:rising a b)(g:rising c d)(m:a*d=b*c):0<a*c+b*d:=by
 rcases f with f|⟨f,k⟩
 .rcases g with g|⟨g,l⟩
  .have e:a*(a*c+b*d)=(a*a+b*b)*c:=by
    grind
   have q:0<a*a+b*b:=(by have:=bD f f;have:0<=b*b:=(by rcases sx 0 b with h|h;exact gM h h;exact mI h h);omega);have p:=bD q g;rw[<-e] at p;exact(BL f).1.1 p
  exfalso;rw[g,sL] at m;have:=bD f l;omega
 rw[f,acp] at m;have n:c=0:=(by rcases dG c 0 with h|h|h;have:=oz k h;omega;exact h;have:=bD k h;omega);rcases g with g|⟨g,l⟩;omega;rw[f,n];have:=bD k l;omega
theorem Da{x y:Int}(n:a*d=b*c)(m:0<a*c+b*d)(l:0<c*c+d*d):(a*x+b*y).sign=(c*x+d*y).sign:=by have e:(c*c+d*d)*(a*x+b*y)=(a*c+b*d)*(c*x+d*y):=(by grind);have f:=Al (c*c+d*d)<|a*x+b*y;have g:=Al (a*c+b*d)<|c*x+d*y;grind
theorem PU{e:Ed}(g:e.1≠e.2):rising (N.gG<|N.ds e).1 (N.gG<|N.ds e).2.1:=by obtain⟨⟨a,b⟩,c,d⟩:=e;unfold N.gG N.down N.ds N.vr rising;grind
theorem n8{n:N.Nd}{e:Ed}(a:0<n.2.2)(h:N.fo (n.1,n.2.1) n.2.2 e=aP):lf n.1 n.2.1 n.2.2 e=0:=by unfold N.fo N.on at h;rw[jl,pE] at h;have:=Gk n.1 n.2.1 n.2.2 e;rw[h.1] at this;exact(BL a).2.2.1 this
theorem PW{f t:N.Nd}(b:N.Can f)(d:N.Can t)(a:N.lt (N.T f) (N.T t)):rising (db f t).1 (db f t).2.1:=by unfold N.lt at a;rw[N.Cn b d] at a;unfold rising db;grind
theorem PX{e:Ed}{f t:N.Nd}(a:lf f.1 f.2.1 f.2.2 e=0)(b:lf t.1 t.2.1 t.2.2 e=0):(N.ds e).1*(db f t).2.1=(N.ds e).2.1*(db f t).1:=by
 unfold lf at a b;unfold N.ds db;grind
theorem acW{e:Ed}{f t:N.Nd}(g:e.1≠e.2)(k:N.Can f)(l:N.Can t)(m:N.fo (f.1,f.2.1) f.2.2 e=aP)(n:N.fo (t.1,t.2.1) t.2.2 e=aP)(d:N.lt (N.T f) (N.T t))(x y:Int):
  ((N.gG<|N.ds e).1*x+(N.gG<|N.ds e).2.1*y).sign=((db f t).1*x+(db f t).2.1*y).sign:=by have q:=n8 k.pos m;have r:=n8 l.pos n;have p:=PU g;have b:=PW k l d;have h:=PX q r;have a:(N.gG<|N.ds e).1*(db f t).2.1=(N.gG<|N.ds e).2.1*(db f t).1:=(by unfold N.gG;split;show -(N.ds e).1*_= -(N.ds e).2.1*_;grind;exact h);have c:=Hj b b<|dw _ _;exact Da a (Hj p b a) c
def n9(es:V Ed)(f t:N.Nd):Int:=N.total (N.fr ((dX f t).1,(dX f t).2.1) (dX f t).2.2) es+N.total (N.fa (dX f t)<|db f t) es
def my(es:V Ed)(f t:N.Nd):Int:=N.total (N.fr ((dX f t).1,(dX f t).2.1) (dX f t).2.2) es
theorem acX(p:PB)(es:V Ed)(l:V N.Nd)(g:∀e∈es,e.1≠e.2)(d:dR p)(q:N.lt (N.T p.f) (N.T p.t))(o:∃e∈es,mr p.wa p.wb p.sh (N.gG<|N.ds e)/\(p.f,p.t)∈N.apO (N.held e l))(j:es.length<=402)(t:∀e∈es,cM e):
  ∀v w,kG w v es->M 105 #[u p.cells.toArray,v] w (ai (aG #[I J (n9 es p.f p.t),I J<|my es p.f p.t]) w):=by obtain⟨e,s,m,y⟩:=o;have c:=t e s;have x:sm (N.gG<|N.ds e).1:=(by have:=c.a;have:=c.c;unfold small at*;unfold N.gG N.vr N.ds sm;grind);have B:sm (N.gG<|N.ds e).2.1:=(by have:=c.b;have:=c.d;unfold small at*;unfold N.gG N.vr N.ds sm;grind);obtain⟨n,i,S⟩:=acs p _ es m x B d.f d.t j t;have en:=acV d.f d.t i;subst en;have f:=C9 y;have P:=(et.1 f.1).2;have Q:=(et.1 f.2).2;have k:∀a b,N.fa (dX p.f p.t) (N.gG<|N.ds e) a b=N.fa (dX p.f p.t) (db p.f p.t) a b:=λa b=>(by unfold N.fa;rw[acW (g e s) d.cf d.ct P Q q]);intro v w R;have h:=S v w R;rw[N.aaA es k] at h;exact h
def rK(x:PB)(wk:Bool)(ow:Option Addr):Array Y:=(x.cells++[aC wk,aF ow]).toArray
def bU(bs:V Nat):V Y:=bs.map λb=>aF<|K ⟨b,0,Z⟩
theorem adz{v:Y}{l:V PB}(h:qo w v l):∃e cap,v=D e l.length cap:=by rcases h.2 with⟨a,d⟩|⟨b,cap,c,a,_⟩;grind;grind
theorem adA{so:Option Addr}{l:V PB}(h:qo w (D so n cap) l)(f:l[k]?=K x):
  ∃b,so=K ⟨b,0,Z⟩/\b<w.heap.size/\w.cell? ⟨b,k*6,Z⟩=K (A C x.wa x.wb)/\w.cell? ⟨b,k*6+1,Z⟩=K (aA C x.sh)/\w.cell? ⟨b,k*6+2,Z⟩=K (A C (aM C x.f.1)<|aM C x.f.2.1)/\w.cell? ⟨b,k*6+3,Z⟩=K (I J x.f.2.2)/\w.cell? ⟨b,k*6+4,Z⟩=K (A C (aM C x.t.1)<|aM C x.t.2.1)/\w.cell? ⟨b,k*6+5,Z⟩=K (I J x.t.2.2):=by have g:=C7 l k x f;have⟨b,c,d,e,a⟩:=rf h<|g 0 U;injection d with d;exact⟨b,d,e,a _ _<|g 0 U,a _ _<|g 1 U,a _ _<|g 2 U,a _ _<|g 3 U,a _ _<|g 4 U,a _ _<|g 5 U⟩
structure BS(w:G)(lv:Y)(bs:V Nat)(Xs:V PB)(wr:G):Prop where
 own:wr.ownsRow w.heap.size 175 1 lv bs.length (bU bs)
 len:bs.length=Xs.length
 lies:∀(i:Nat) b x,bs[i]?=K b->Xs[i]?=K x->w.heap.size<=b/\wr.heap[b]?=K (.cells (rK x aQ Z) 177 (0,0))
 ne:∀b∈bs,lv.ownBlock≠K b
 nd:bs.Nodup
 below:ag w wr
theorem BS.keep{bs:V Nat}(h:BS w lv bs Xs wr)(d:ag wr w'):BS w lv bs Xs w':=
 ⟨bH h.own λk e=>d.block k (bn h.own k e).2,h.len,λi b x a c=>⟨(h.lies i b x a c).1,(d.block _<|apJ (h.lies i b x a c).2).trans (h.lies i b x a c).2⟩,h.ne,h.nd,h.below.trans<|d.mono h.below.size⟩
theorem BS.lt{bs:V Nat}(h:BS w lv bs Xs wr){b:Nat}(c:b∈bs):b<wr.heap.size:=by
 obtain⟨i,a,rfl⟩:=ig.1 c;have d:i<Xs.length:=by rw[<-h.len];exact a
 exact apJ (h.lies i _ _ (be a)<|be d).2
theorem BS.snoc{bs:V Nat}(h:BS w lv bs Xs wr)(x:PB)(o:Obj){w8:G}
  (l:((wr.alloc<|.cells (rK x aQ Z) 177).alloc o).grownBy w8 lv.ownBlock)
  (v:w8.ownsRow w.heap.size 175 1 (D (K ⟨g,0,Z⟩) (bs.length+1) cap) (bs.length+1) (bU bs++[aF (K ⟨wr.heap.size,0,Z⟩)]))
  (c:lv.ownBlock=K g\/g=wr.heap.size+2):BS w (D (K ⟨g,0,Z⟩) (bs.length+1) cap) (bs++[wr.heap.size]) (Xs++[x]) w8:=by
 have z:((wr.alloc<|.cells (rK x aQ Z) 177).alloc o).heap.size=wr.heap.size+2:=E;have P:(wr.alloc<|.cells (rK x aQ Z) 177).heap.size=wr.heap.size+1:=E;have f:∀k,lv.ownBlock=K k->k<wr.heap.size:=λk s=>(bn h.own k s).2;have n:∀b,b<wr.heap.size->lv.ownBlock≠K b->w8.heap[b]?=wr.heap[b]?:=λb d t=>
  (l.block b U<|λe=>t e.symm).trans ((ad _ _ _ U).trans<|ad _ _ _ d)
 refine⟨?_,by rw[bG,bG,h.len];rfl,λi b y m p=>?_,λb d=>?_,?_,?_⟩;have e:bU (bs++[wr.heap.size])=bU bs++[aF (K ⟨wr.heap.size,0,Z⟩)]:=(by simp[bU]);grind;by_cases B:i<bs.length;rw[dQ B] at m;rw[dQ (by rw[<-h.len];exact B)] at p;obtain⟨A,Q⟩:=h.lies i b y m p;exact⟨A,(n b (apJ Q)<|h.ne b<|bB m).trans Q⟩;have r:i=bs.length:=(by grind);subst r;have R:b=wr.heap.size:=(by grind);have S:y=x:=(by rw[h.len] at p;grind);subst R S;refine⟨h.below.size,(l.block _ U<|λe=>VC _<|f _ e.symm).trans<|(ad _ _ _ U).trans<|aa _ _⟩;intro u;have q:g=b:=(by simpa[Value.ownBlock] using u);subst q;rcases dm.1 d with d|d;rcases c with c|c;exact h.ne g d c;have:=h.lt d;omega;grind;rw[wY];refine⟨h.nd,E,λa j b d=>?_⟩;rw[cI.1 d];have:=h.lt j;omega;exact((h.below.alloc h.below.size _).alloc (by have:=h.below.size;omega) _).grown l (by have:=h.below.size;omega) (λk s=>(bn h.own k s).1)
theorem QK:∀{m:V N.Nd},m.Pairwise (λa b=>N.lt (N.T a)<|N.T b)->∀{q:N.Nd×N.Nd},q∈N.apO m->N.lt (N.T q.1) (N.T q.2)
 |[],_,_,h=>by simp[N.apO] at h
 |[_],_,_,h=>by simp[N.apO] at h
 |a::b::r,c,q,h=>by rcases bK.1 h with h|h;simp_all;exact QK (fF.1 c).2 h
theorem adB{l:V N.Nd}(d:l.map N.T=N.g8 es)(e:Ed):(N.held e l).Pairwise (λa b=>N.lt (N.T a)<|N.T b):=by
 have c:N.iG (l.map N.T):=by rw[d];exact(N.vm es).2.1
 exact VJ _<|ic.1 c
theorem Dq{l:V N.Nd}(h:mx es l Ps)(c:l.map N.T=N.g8 es)(p:PB)(d:p∈Ps):N.lt (N.T p.f) (N.T p.t):=by have⟨e,a⟩:=h.ap.mem p d;have f:=a.2.2;have b:=adB c e;generalize N.held e l=H at*;have k:=QK b f;exact k
def ga(r:Int)(es:V Ed)(p:PB):V PB:=
 if N.takes r (n9 es p.f p.t)=aP/\N.takes r (my es p.f p.t)=aQ then[p]
 else if N.takes r (my es p.f p.t)=aP/\N.takes r (n9 es p.f p.t)=aQ then[p.rev] else[]
theorem rL:(Tryz.prog.info? 175).map (λi=>(i.zero,i.size,i.bytes))=K (K<|aF Z,1,8):=z
theorem adC(es:V Ed)(r:Int)(v:Y)(w:G)(hR:kG w v es)(hl:es.length<=402)(hs:∀e∈es,cM e)(hne:∀e∈es,e.1≠e.2)
  (Q:Y->G->Prop)
  (HS:H (∀d l,l.map N.T=N.g8 es->(∀n∈l,N.Can n)->mx es l d->∀w1 lv bs wr,ag w w1->BS w1 lv bs (d.flatMap<|ga r es) wr->bs.length<=85000000->M 108 #[lv,.func (.func 109) #[] #[]] wr λe w'=>e=aJ (aG #[])/\Q lv w')):
  M 68 #[v,I .u8 r] w λe w'=>∃lv,e=aJ lv/\Q lv w':=by
 obtain⟨so,cap,rfl⟩:=BP hR;have HP:=hid<|acU es _ w hR hl hs;have HR:=hid hR;have HTI:=hid<|λt w=>aaX r t w;go_enter func68,ntmps68;go_wp2_with fail;refine HP.o.mono ?_;rintro r' w1 ⟨pv,d,rfl,vd,hb1,hPl,l,qp,QL,O⟩;obtain⟨ps,pc,rfl⟩:=adz vd;have xJ:=hid vd;have QM:=hid<|O7 HR.o hb1;have H7:=hid<|λp hp=>acX p es l hne (O.v p hp) (Dq O qp p hp) (O.ap.mem p hp) hl hs;have QN:=HS.o d l qp QL O w1;have z:=hid<|λlv bs wr h1 h2=>QN lv bs wr hb1 h1 h2;clear QN HS O QL qp vd HP HR hR hs hne;have gh:H (∃bs,BS w1 (D Z 0 0) bs ((d.take 0).flatMap<|ga r es) w1/\bs.length<=0):=⟨[],⟨ak _ _ _ _,E,λi b x h=>by simp at h,λb h=>by simp at h,E,Below.refl _ _⟩,E⟩;go_wp2_with fail
 go_loopg [5,15] d.length (λm lv iv wr=>∃k:Nat,k+m=d.length/\iv=I J k/\H (∃bs,BS w1 lv bs ((d.take k).flatMap<|ga r es) wr/\bs.length<=k))
 case atStart=>exact⟨0,U,rfl,gh⟩
 case round=>
  obtain⟨k,hkn,rfl,HE⟩:=hrel;clear gh;obtain⟨bs,H8,hbl⟩:=HE.o;have HBS:=hid H8;clear HE;by_cases hlt:k<d.length
  .obtain⟨p,hpk⟩:∃p,d[k]?=K p:=⟨_,be hlt⟩;obtain⟨b,rfl,hb,c0,c1,c2,c3,c4,c5⟩:=adA xJ.o hpk;have a:=H8.below;obtain⟨r0,r1,r2,r3⟩:=ajE a hb c0 c1 c2 c3;have r4:=aR a c4 hb;have r5:=aR a c5 hb;have hbr:=bg hb a.size;have iH:(k:Int)<(d.length:Int):=U;have H9:=H7.o p<|bB hpk;have P:=hid<|λw=>ab7 p w;have HFM:H ((d.take<|k+1).flatMap (ga r es)=(d.take k).flatMap (ga r es)++ga r es p):=by
    have htk:d.take (k+1)=d.take k++[p]:=by rw[fg,hpk];rfl
    show(d.take<|k+1).flatMap (ga r es)=_;rw[htk,Kx,nn,VK,lY]
   have HSF:H (ga r es p=if N.takes r (n9 es p.f p.t)=aP/\N.takes r (my es p.f p.t)=aQ then[p] else if N.takes r (my es p.f p.t)=aP/\N.takes r (n9 es p.f p.t)=aQ then[p.rev] else[]):=rfl;have Ia:=HTI.o<|n9 es p.f p.t;have C4:=HTI.o<|my es p.f p.t;clear c0 c1 c2 c3 c4 c5 hpk H8;generalize n9 es p.f p.t=TL at*;generalize my es p.f p.t=TR at*;have wl:H (p.cells=[A C p.wa p.wb,aA C p.sh,A C (aM C p.f.1)<|aM C p.f.2.1,I J p.f.2.2,A C (aM C p.t.1)<|aM C p.t.2.1,I J p.t.2.2]):=rfl;have wm:H (p.rev.cells=[A C (Op.negFloat C p.wa) (Op.negFloat C p.wb),aA C<|Op.negFloat C p.sh,A C (aM C p.t.1)<|aM C p.t.2.1,I J p.t.2.2,A C (aM C p.f.1)<|aM C p.f.2.1,I J p.f.2.2]):=rfl;have hRV:=P.o;rw[wl.o] at H9 hRV;rw[wm.o] at hRV;clear P;generalize Op.negFloat C p.wa=N1 at*;generalize Op.negFloat C p.wb=N2 at*;generalize Op.negFloat C p.sh=N3 at*;generalize p.wa=A1 at*;generalize p.wb=A2 at*;generalize p.sh=A3 at*;generalize aM C p.f.1=R at*;generalize aM C p.f.2.1=S at*;generalize p.f.2.2=j at*;generalize aM C p.t.1=o at*;generalize aM C p.t.2.1=u at*;generalize p.t.2.2=y at*;have QO:=hid H9;have P:=hid hRV;have Ib:H (rK p aQ Z= #[A C A1 A2,aA C A3,A C R S,I J j,A C o u,I J y,aC aQ,aF Z]):=by
    show(p.cells++[aC aQ,aF Z]).toArray=_;rw[wl.o];rfl
   have HSR:H (rK p.rev aQ Z= #[A C N1 N2,aA C N3,A C o u,I J y,A C R S,I J j,aC aQ,aF Z]):=by
    show(p.rev.cells++[aC aQ,aF Z]).toArray=_;rw[wm.o];rfl
   have HL:=hid Ia;have QP:=hid C4;have hb0:ag wr (wr.alloc<|.cells #[A C A1 A2,aA C A3,A C R S,I J j,A C o u,I J y] 171):=aj _ _;have CY:=aa wr<|.cells #[A C A1 A2,aA C A3,A C R S,I J j,A C o u,I J y] 171;have hz0':wr.heap.size<(wr.alloc<|.cells #[A C A1 A2,aA C A3,A C R S,I J j,A C o u,I J y] 171).heap.size:=E;have QQ:H (kG (wr.alloc<|.cells #[A C A1 A2,aA C A3,A C R S,I J j,A C o u,I J y] 171) (D so es.length cap) es):=O7 QM.o<|a.alloc a.size _;clear H9 hRV Ia C4 wl wm HTI H7;generalize N.takes r TL=bL at*;generalize N.takes r TR=bR at*
   go_wp2_with (simp only[fW,mm];go_simp);generalize wr.alloc (.cells #[A C A1 A2,aA C A3,A C R S,I J j,A C o u,I J y] 171)=W0 at*;refine(QO.o _ _ QQ.o).mono ?_;rintro r' w2 ⟨rfl,hb2⟩;have f:=(hb2.block _ hz0').trans CY;have hB2:=hb0.trans<|hb2.mono<|du hz0';have c:=hid<|HBS.o.keep hB2;obtain⟨e0,e1,e2,e3⟩:=ajG f;have e4:=nB f;have e5:=nC f;have adG:=apJ f;clear r0 r1 r2 r3 r4 r5 QO QQ HBS CY hb0 hb2;go_wp2_with fail;refine(HL.o _).mono ?_;rintro r' w3 ⟨rfl,rfl⟩;go_wp2_with fail;refine(QP.o _).mono ?_;rintro r' w3 ⟨rfl,rfl⟩;clear HL QP;cases bL<;>cases bR
   .have s:H (∃bs,BS w1 u5 bs ((d.take<|k+1).flatMap<|ga r es) w3/\bs.length<=k+1):=by
     have e1:ga r es p=[]:=by rw[HSF.o];simp
     rw[HFM.o,e1,lY];exact⟨bs,c.o,U⟩
    clear c;go_wp2_with fail;go_roundg (gk-1)
    case measure=>omega
    case rel=>exact⟨k+1,U,af,s⟩
   .go_wp2_with fail;refine(P.o _).mono ?_;rintro r' w4 ⟨rfl,hb4⟩;have q:=hid<|c.o.keep hb4;have X:=q.o.own;have hbz:=q.o.below.size;have W:((w4.alloc<|.cells #[A C N1 N2,aA C N3,A C o u,I J y,A C R S,I J j,aC aQ,aF Z] 177).alloc<|.cells #[aF (K ⟨w4.heap.size,0,Z⟩)] 175).heap[w4.heap.size+1]?=K (.cells #[aF (K ⟨w4.heap.size,0,Z⟩)] 175 (0,0)):=by
     have:=aa (w4.alloc<|.cells #[A C N1 N2,aA C N3,A C o u,I J y,A C R S,I J j,aC aQ,aF Z] 177)<|.cells #[aF (K ⟨w4.heap.size,0,Z⟩)] 175;simpa using this
    clear e0 e1 e2 e3 e4 e5 f hb4 c P;go_wp2_with (at_builtin;refine nE rfl rL underlying133 (aao<|aao X) W (w4.heap.size+2) (hbase:=(by have:=hbz;simp;omega)) ?_;intro g' L w8 fX B g jW);have s:H (∃F,BS w1 (D (K ⟨g',0,Z⟩) (bs.length+1) L) F ((d.take<|k+1).flatMap<|ga r es) w8/\F.length<=k+1):=by
     have e1:ga r es p=[p.rev]:=by rw[HSF.o];simp
     rw[<-HSR.o] at B;rw[HFM.o,e1];exact⟨bs++[w4.heap.size],q.o.snoc p.rev _ B fX g,by rw[bG];simp;omega⟩
    clear B fX g W X q;go_wp2_with fail;go_roundg (gk-1)
    case measure=>omega
    case rel=>exact⟨k+1,U,af,s⟩
   .have X:=c.o.own;have q:=c;have hbz:=c.o.below.size;have W:((w3.alloc<|.cells #[A C A1 A2,aA C A3,A C R S,I J j,A C o u,I J y,aC aQ,aF Z] 177).alloc<|.cells #[aF (K ⟨w3.heap.size,0,Z⟩)] 175).heap[w3.heap.size+1]?=K (.cells #[aF (K ⟨w3.heap.size,0,Z⟩)] 175 (0,0)):=by
     have:=aa (w3.alloc<|.cells #[A C A1 A2,aA C A3,A C R S,I J j,A C o u,I J y,aC aQ,aF Z] 177)<|.cells #[aF (K ⟨w3.heap.size,0,Z⟩)] 175;simpa using this
    clear c P;go_wp2_with (at_builtin;refine nE rfl rL underlying133 (aao<|aao X) W (w3.heap.size+2) (hbase:=(by have:=hbz;simp;omega)) ?_;intro g' L w8 fX B g jW);have s:H (∃F,BS w1 (D (K ⟨g',0,Z⟩) (bs.length+1) L) F ((d.take<|k+1).flatMap<|ga r es) w8/\F.length<=k+1):=by
     have e1:ga r es p=[p]:=by rw[HSF.o];simp
     rw[<-Ib.o] at B;rw[HFM.o,e1];exact⟨bs++[w3.heap.size],q.o.snoc p _ B fX g,by rw[bG];simp;omega⟩
    clear B fX g W X q;go_wp2_with fail;go_roundg (gk-1)
    case measure=>omega
    case rel=>exact⟨k+1,U,af,s⟩
   .have s:H (∃bs,BS w1 u5 bs ((d.take<|k+1).flatMap<|ga r es) w3/\bs.length<=k+1):=by
     have e1:ga r es p=[]:=by rw[HSF.o];simp
     rw[HFM.o,e1,lY];exact⟨bs,c.o,U⟩
    clear c;go_wp2_with fail;go_roundg (gk-1)
    case measure=>omega
    case rel=>exact⟨k+1,U,af,s⟩
  .have hk:k=d.length:=U;subst hk;have h1:=HBS.o;rw[dV] at h1;have HC:=z.o _ bs _ h1 U;have QR:=hid HC;clear HC h1 HBS z H7 xJ QM HTI;go_wp2_with fail;refine QR.o.mono ?_;rintro e w5 ⟨rfl,hQ⟩;have HQ:H (Q u5 w5):=hQ;clear hQ QR;go_wp2_with fail;go_ret;exact⟨_,rfl,HQ.o⟩
structure il(w:G)(b:Nat)(x:PB):Prop where
 c0:w.cell? ⟨b,0,Z⟩=K (A C x.wa x.wb)
 c1:w.cell? ⟨b,1,Z⟩=K (aA C x.sh)
 c2:w.cell? ⟨b,2,Z⟩=K (A C (aM C x.f.1)<|aM C x.f.2.1)
 c3:w.cell? ⟨b,3,Z⟩=K (I J x.f.2.2)
 c4:w.cell? ⟨b,4,Z⟩=K (A C (aM C x.t.1)<|aM C x.t.2.1)
 c5:w.cell? ⟨b,5,Z⟩=K (I J x.t.2.2)
theorem il.of{b:Nat}{wk:Bool}{ow:Option Addr}(h:w.heap[b]?=K (.cells (rK x wk ow) 177 (0,0))):il w b x:=
 ⟨apL h 0,apL h 1,apL h 2,apL h 3,apL h 4,apL h 5⟩
theorem Ic(x y:PB)(n:dR x)(p:dR y)(b c:Nat)(w:G)(l:il w b x)(m:il w c y):
  M 109 #[aF (K ⟨b,0,Z⟩),aF<|K ⟨c,0,Z⟩] w λr w'=>r=aJ (I J<|cC x.f y.f)/\ag w w'/\w.drawn<=w'.drawn:=by have v:H (∀w,M 125 #[u #[A C (aM C x.f.1) (aM C x.f.2.1),I J x.f.2.2],u #[A C (aM C y.f.1) (aM C y.f.2.1),I J y.f.2.2]] w λr w'=>r=aJ (I J<|cC x.f y.f)/\ag w w'/\w.drawn<=w'.drawn):=λw=>yy x.f y.f n.f.bm p.f.bm n.cf p.cf w;have q:=l.c2;have z:=l.c3;have s:=m.c2;have E:=m.c3;clear l m n p;generalize aM C x.f.1=P at*;generalize aM C x.f.2.1=Q at*;generalize aM C y.f.1=i at*;generalize aM C y.f.2.1=j at*;generalize cC x.f y.f=R at*;generalize x.f.2.2=S at*;generalize y.f.2.2=o at*;go_enter func109,ntmps109;go_wp2_with fail;have g:b<w.heap.size:=apK q;have k:c<w.heap.size:=apK s;go_region_held3 (λw'=>w'.cell? ⟨b,2,Z⟩=K (A C P Q)/\w'.cell? ⟨b,3,Z⟩=K (I J S)/\w'.cell? ⟨c,2,Z⟩=K (A C i j)/\w'.cell? ⟨c,3,Z⟩=K (I J o)) (go_keep) (first|(go_at_call 125;refine(v.o _).mono ?_;rintro e t ⟨rfl,a,f⟩;have:=aR a q g;have:=aR a z g;have:=aR a s k;have:=(aR a E k)));all_goals (have d:ag w t:=(Below.refl _ _).drew.trans a;have B:H (w.drawn<=t.drawn):=el (lX _) f;clear a f;go_wp2_with fail;go_ret;exact⟨rfl,d,B.o⟩)
def oW(Xs:V PB)(i j:Fin Xs.length):Int:=cC Xs[i].f Xs[j].f
def lL(Xs:V PB)(h:0<Xs.length):Array (Fin Xs.length):=
 haveI:Inhabited (Fin Xs.length):=⟨⟨0,h⟩⟩
 Sort.pdq (ltOf<|oW Xs) (Array.ofFn id) 0 Xs.length (Lib.bitLen Xs.length) aP aP
def rM(Xs:V PB):V PB:=if h:0<Xs.length then(lL Xs h).toList.map (λi=>Xs[i]) else[]
theorem Dr{i j:Fin Xs.length}:ltOf (oW Xs) i j=aP↔N.lt (N.T Xs[i].f) (N.T Xs[j].f):=by exact iE
theorem zj{i j:Fin Xs.length}:ltOf (oW Xs) i j=aQ↔¬N.lt (N.T Xs[i].f) (N.T Xs[j].f):=by rw[<-Dr];simp
theorem QS(d:∀x∈Xs,dR x):Sort.SWO (ltOf<|oW Xs):=by
 have a:∀i:Fin Xs.length,N.Can Xs[i].f:=λi=>(d _<|eo i.2).cf;exact{
  irrefl:=λx=>zj.2<|N.lt_irrefl _
  trans:=λx y z b c=>Dr.2<|N.lt_trans (N.dH<|a x) (N.dH<|a y) (N.dH<|a z) (Dr.1 b)<|Dr.1 c
  ntrans:=λx y z b c=>zj.2 λh=>zj.1 b (N.lt_le_trans (a x) (a z) (a y) h (zj.1 c))}
def rN(bs:V Nat)(n:Nat)(h:bs.length=n)(i:Fin n):Y:=aF<|K ⟨bs[i]'(by rw[h];exact i.2),0,Z⟩
theorem QT{α:Type}[Inhabited α](enc:α->Y)(a:Array α)(n:Nat)(os:Array Obj){cur:Array Y}{t:TypeId}{fr:Nat×Nat}(b:wr.heap[g]?=K (.cells cur t fr)):
  (sortWorld enc wr g 0 n a os).heap[g]?=K (.cells (Sort.putCells enc 0 a cur) t fr):=by have c:=apJ b;show((wr.heap.modify g<|Sort.onCells<|Sort.putCells enc 0 a)++os)[g]?=_;rw[As (by grind),uh,y rfl,b];rfl
theorem zk{α:Type}[Inhabited α](enc:α->Y)(b:Array α)(n:Nat)(os:Array Obj)(c:k<wr.heap.size)(a:g≠k):
  (sortWorld enc wr g 0 n b os).heap[k]?=wr.heap[k]?:=by show((wr.heap.modify g<|Sort.onCells<|Sort.putCells enc 0 b)++os)[k]?=_;grind
theorem Id{α:Type}[Inhabited α](enc:α->Y)(a:Array α)(n:Nat)(os:Array Obj)(wr:G)(g:Nat):wr.heap.size<=(sortWorld enc wr g 0 n a os).heap.size:=by show _<=((wr.heap.modify g<|Sort.onCells<|Sort.putCells enc 0 a)++os).size;simp
theorem QU{α:Type}[Inhabited α](enc:α->Y)(d:Array α)(c:Array Y)(h:d.size<=c.size):(Sort.putCells enc 0 d c).toList.take d.size=d.toList.map enc:=by apply sJ;intro t;rw[jb];by_cases a:t<d.size;have b:t<c.size:=U;rw[y a,iD,aa9,iD];unfold Sort.putCells;grind;grind
theorem adH{w1:G}{bs:V Nat}(h:BS w1 (D (K ⟨g,0,Z⟩) bs.length cap) bs Xs wr)(k:∀x∈Xs,dR x)[Inhabited (Fin Xs.length)]:
  CmpLays1 prog 109 #[] (rN bs Xs.length h.len) (oW Xs) g 0 Xs.length wr:=by intro m os d q x y;have b:∀i:Fin Xs.length,il (sortWorld (rN bs Xs.length h.len) wr g 0 m d os) (bs[i]'(by rw[h.len];omega)) Xs[i]:=λi=>(by have a:i.1<bs.length:=(by rw[h.len];omega);have f:=(h.lies i.1 _ _ (be a)<|be i.2).2;have c:=h.ne (bs[i]'a)<|eo a;refine il.of (wk:=aQ) (ow:=Z)<|(zk _ d m os (apJ f)<|λe=>c<|bd K e).trans f);exact(Ic Xs[x] Xs[y] (k _<|eo x.2) (k _<|eo y.2) _ _ _ (b x) (b y)).mono λ_ _⟨l,n,p⟩=>⟨l,C5 n p⟩
theorem Ds{α:Type}(a:Array α)(h:a.size=n):a.extract 0 n=a:=by grind
theorem QV(Xs:V PB)(p:∀x∈Xs,dR x)(h:0<Xs.length):(lL Xs h).size=Xs.length/\(lL Xs h).toList.Perm (Array.ofFn (id:Fin Xs.length->Fin Xs.length)).toList/\
  ∀i a(k:i<(lL Xs h).size)(l:a<(lL Xs h).size),i<a->¬N.lt (N.T Xs[(lL Xs h)[a]].f) (N.T Xs[(lL Xs h)[i]].f):=by letI:Inhabited (Fin Xs.length):=⟨⟨0,h⟩⟩;have d:(Array.ofFn (id:Fin Xs.length->Fin Xs.length)).size=Xs.length:=Ky;have b:=Sort.pdq_sorts (ltOf<|oW Xs) (QS p) (Array.ofFn id) 0 Xs.length (Lib.bitLen Xs.length) aP aP (iq _) (by omega)<|j rfl;have e:lL Xs h=Sort.pdq (ltOf<|oW Xs) (Array.ofFn id) 0 Xs.length (Lib.bitLen Xs.length) aP aP:=rfl;rw[<-e] at b;obtain⟨⟨q,_,n⟩,r⟩:=b;have g:(lL Xs h).size=Xs.length:=(by rw[q,d]);rw[Ds _ g,Ds _ d] at n;refine⟨g,n,λi a k l c=>?_⟩;have m:=r i a (iq _) c U;rw[gN (lL Xs h) i k,gN (lL Xs h) a l] at m;exact zj.1 m
theorem QW(Xs:V PB)(e:∀x∈Xs,dR x):(rM Xs).Perm Xs/\(rM Xs).Pairwise (λx y=>¬N.lt (N.T y.f) (N.T x.f)):=by unfold rM;by_cases h:0<Xs.length;rw[dif_pos h];obtain⟨n,f,g⟩:=QV Xs e h;refine⟨?_,?_⟩;have k:=f.map (λi:Fin Xs.length=>Xs[i]);simp_all;rw[ic,jm];grind;simp_all
theorem adI(g cap n:Nat)(wr:G)(Q:G->Prop)(l:n<=85000000)
  (a:H (M 163 #[D (K ⟨g,0,Z⟩) n cap,I J (0:Nat),I J n,I J (Lib.bitLen n:Nat),.func (.func 109) #[] #[]] wr λe w'=>e=aJ (aG #[])/\Q w')):
  M 108 #[D (K ⟨g,0,Z⟩) n cap,.func (.func 109) #[] #[]] wr λe w'=>e=aJ (aG #[])/\Q w':=by have c:H (M 164 #[I .u64 (n:Int)] wr λe w'=>e=aJ (I J (Lib.bitLen n:Nat))/\w'=wr):=(by have h:=Tryz.bits_Len (n:Int) wr U U;rwa[qJ] at h);have:IntKind.u64.wrap (n:Int)=n:=(by simp[IntKind.wrap,IntKind.bits,IntKind.signed];omega);generalize Lib.bitLen n=k at*;go_enter func108,ntmps108;go_wp2_with fail;refine c.o.mono ?_;rintro r w1 ⟨rfl,rfl⟩;go_wp2_with fail;refine a.o.mono ?_;rintro r f ⟨rfl,b⟩;have d:H (Q f):=b;clear b a;go_wp2_with fail;go_end0;exact⟨rfl,d.o⟩
theorem QX(p:Option Addr)(cap:Nat)(wr:G):
  M 108 #[D p 0 cap,.func (.func 109) #[] #[]] wr λe w'=>e=aJ (aG #[])/\w'=wr:=by have b:=hid<|Tryz.bits_Len 0 wr U U;have c:H (∀a:Int,M 163 #[D p 0 cap,I J 0,I J 0,I J a,.func (.func 109) #[] #[]] wr λe w'=>e=aJ (aG #[])/\w'=wr):=λa=>AnyF.pdqsortCmpFunc_none {Tryz.pdqSd with} p cap a _ wr;generalize Lib.bitLen 0=d at*;go_enter func108,ntmps108;go_wp2_with fail;refine b.o.mono ?_;rintro r f ⟨rfl,rfl⟩;go_wp2_with fail;refine(c.o _).mono ?_;rintro r g ⟨rfl,rfl⟩;go_wp2_with fail;go_end0;exact⟨rfl,rfl⟩
theorem adJ(w1:G)(lv:Y)(bs:V Nat)(Xs:V PB)(wr:G)(h:BS w1 lv bs Xs wr)(hv:∀x∈Xs,dR x)(hl:bs.length<=85000000):
  M 108 #[lv,.func (.func 109) #[] #[]] wr λe w'=>e=aJ (aG #[])/\∃f,BS w1 lv f (rM Xs) w'/\f.length=bs.length:=by obtain⟨hlen,t⟩:=h.own;rcases t with⟨rfl,h0⟩|⟨g,cap,T,rfl,hg,d,hnc,W,S,htk⟩;have s:bs=[]:=gL.1 h0;have q:Xs=[]:=gL.1 (by rw[<-h.len];exact h0);subst s;subst q;refine(QX Z 0 wr).mono ?_;rintro r w' ⟨rfl,rfl⟩;exact⟨rfl,[],h,rfl⟩;by_cases P:0<Xs.length;letI:Inhabited (Fin Xs.length):=⟨⟨0,P⟩⟩;have hgl:=apJ d;have L:(Array.ofFn (id:Fin Xs.length->Fin Xs.length)).size=Xs.length:=Ky;have w:(Array.ofFn (id:Fin Xs.length->Fin Xs.length)).toList.map (rN bs Xs.length h.len)=bU bs:=(by apply nA;grind;intro i p Q;simp[bU,rN]);have hH:Sort.Holds (rN bs Xs.length h.len) wr g 0 (Array.ofFn id):=(by intro a B;have hj':a<bs.length:=(by grind);have N:(T.toList.take<|bs.length*1)[a]?=((Array.ofFn (id:Fin Xs.length->Fin Xs.length)).toList.map<|rN bs Xs.length h.len)[a]?:=(by grind);rw[jb,y U,iD,aa9,iD,lB B] at N;refine⟨?_,bE d _⟩;rw[ir];unfold World.cell?;grind);have eg:=enters_of func109 z rfl;have R:=adH h hv;have n:=Any.pdqsortCmpFunc_all Tryz.pdqSd (rN bs Xs.length h.len) (oW Xs) 109 #[] (QS hv) g 0 cap (Array.ofFn id) wr eg (by grind) ⟨λ_=>rfl,hH,hgl⟩ (Xs.length+1) 0 Xs.length (Lib.bitLen Xs.length) (Array.ofFn id) wr U rfl (SW.start hH) (iq _) (by omega) (by grind) (Nat.lt_of_le_of_lt (Lib.bitLen_le Xs.length 62 U (by grind)) U) (j rfl);rw[L] at n;rw[h.len];refine adI g cap Xs.length wr (λw'=>∃f,BS w1 (D (K ⟨g,0,Z⟩) Xs.length cap) f (rM Xs) w'/\f.length=Xs.length) (by grind)<|n.mono ?_;rintro r w' ⟨rfl,m,os,rfl⟩;refine⟨rfl,?_⟩;have e:Sort.pdq (ltOf<|oW Xs) (Array.ofFn id) 0 Xs.length (Lib.bitLen Xs.length) aP aP=lL Xs P:=rfl;rw[e];have v:=QV Xs hv P;have o:=v.1;have p3:=v.2.1;clear v n e;have eX:rM Xs=(lL Xs P).toList.map (λi=>Xs[i]):=(by unfold rM;grind);rw[eX];clear eX;obtain⟨l,X⟩:=am<|lL Xs P;rw[<-X] at o p3⊢;have c:∀i:Fin Xs.length,i.1<bs.length:=λi=>(by grind);have H:(l.toList.map (λi:Fin Xs.length=>bs[i.1]'(c i))).Perm bs:=(by have k:=p3.map (λi:Fin Xs.length=>bs[i.1]'(c i));have e3:(Array.ofFn (id:Fin Xs.length->Fin Xs.length)).toList.map (λi:Fin Xs.length=>bs[i.1]'(c i))=bs:=(by apply nA;grind;simp);grind);refine⟨l.toList.map (λi:Fin Xs.length=>bs[i.1]'(c i)),⟨⟨by simp[bU],F ⟨g,cap,_,by simp[o],hg,QT _ l m os d,by grind,W,?_,?_⟩⟩,E,λi b x p Q=>?_,λb O=>?_,?_,?_⟩,by simp[o]⟩;unfold Sort.putCells;grind;have N:(l.toList.map (λi:Fin Xs.length=>bs[i.1]'(c i))).length*1=l.size:=E;rw[N,QU _ _ _ (by grind)];simp[bU,rN];rw[aa9] at p Q;(cases B:l.toList[i]? with|none=>grind|some a=>rw[B] at p Q;have O:bs[a.1]'(c a)=b:=(by grind);have hx:Xs[a]=x:=(by grind);obtain⟨k1,k2⟩:=h.lies a.1 b x (by grind) (by grind);have hne:=h.ne b (by grind);exact⟨k1,(zk _ l m os (apJ k2)<|λe=>hne<|bd K e).trans k2⟩);have:=h.ne b<|H.mem_iff.1 O;grind;exact H.nodup_iff.2 h.nd;exact h.below.trans ⟨rfl,rfl,rfl,Id _ l m os wr g,λk hk=>zk _ l m os (bg hk h.below.size) U⟩;have q:Xs=[]:=gL.1 U;have s:bs=[]:=gL.1 (by rw[h.len];omega);subst s;subst q;refine(QX (K ⟨g,0,Z⟩) cap wr).mono ?_;rintro r w' ⟨rfl,rfl⟩;exact⟨rfl,[],h,rfl⟩
theorem dR.rev(h:dR x):dR x.rev:=⟨h.t,h.f,h.ct,h.cf⟩
theorem Ie{r:Int}{p:PB}(h:dR p)(a:x∈ga r es p):dR x:=by unfold ga at a;split at a;grind;split at a;rw[cI.1 a];exact h.rev;grind
def lg(r:Int)(es:V Ed)(a:V PB):V PB:=rM<|a.flatMap<|ga r es
theorem adK(es:V Ed)(r:Int)(v:Y)(w:G)(t:kG w v es)(P:es.length<=402)(R:∀e∈es,cM e)(m:∀e∈es,e.1≠e.2):
  M 68 #[v,I .u8 r] w λe w'=>∃b,e=aJ b/\∃a l w1 bs,l.map N.T=N.g8 es/\(∀n∈l,N.Can n)/\mx es l a/\ag w w1/\BS w1 b bs (lg r es a) w'/\bs.length<=85000000:=by apply adC es r v w t P R m (λb w'=>∃a l w1 bs,l.map N.T=N.g8 es/\(∀n∈l,N.Can n)/\mx es l a/\ag w w1/\BS w1 b bs (lg r es a) w'/\bs.length<=85000000);intro a l k d c w1 b bs wr B g h;have S:∀x∈a.flatMap (ga r es),dR x:=λx i=>(by have⟨p,Q,q⟩:=lw.1 i;exact Ie (c.v p Q) q);refine(adJ w1 b bs _ wr g S h).mono ?_;rintro e w' ⟨rfl,f,s,j⟩;exact⟨rfl,a,l,w1,f,k,d,c,B,s,U⟩
structure LD(x:PB)(l:N.Ln):Prop where
 fl:mr x.wa x.wb x.sh l
 b1:l.1.natAbs<=100
 b2:l.2.1.natAbs<=100
 b3:l.2.2.natAbs<=10000
 par:l.1*(db x.f x.t).2.1=l.2.1*(db x.f x.t).1
 pos:0<l.1*(db x.f x.t).1+l.2.1*(db x.f x.t).2.1
 If:l.1*x.f.2.1-l.2.1*x.f.1=l.2.2*x.f.2.2
 adL:l.1*x.t.2.1-l.2.1*x.t.1=l.2.2*x.t.2.2
theorem LD.jH(h:LD x l):sm l.1/\sm l.2.1/\sm l.2.2:=by have:=h.b1;have:=h.b2;have:=h.b3;unfold sm;omega
theorem adM(f t:N.Nd):db t f=(-(db f t).1, -(db f t).2.1,0):=by unfold db;grind
theorem LD.rev(h:LD x l):LD x.rev (N.vr l):=by have e:db x.rev.f x.rev.t=(-(db x.f x.t).1, -(db x.f x.t).2.1,0):=adM _ _;refine⟨h.fl.neg,?_,?_,?_,?_,?_,?_,?_⟩;show(-l.1).natAbs<=100;rw[ur];exact h.b1;show(-l.2.1).natAbs<=100;rw[ur];exact h.b2;show(-l.2.2).natAbs<=10000;rw[ur];exact h.b3;rw[e];show -l.1* -(db x.f x.t).2.1= -l.2.1* -(db x.f x.t).1;rw[pD,pD];exact h.par;rw[e];show 0< -l.1* -(db x.f x.t).1+ -l.2.1* -(db x.f x.t).2.1;rw[pD,pD];exact h.pos;show -l.1*x.t.2.1- -l.2.1*x.t.1= -l.2.2*x.t.2.2;have:=h.adL;grind;show -l.1*x.f.2.1- -l.2.1*x.f.1= -l.2.2*x.f.2.2;have:=h.If;grind
theorem adN{l:V N.Nd}(r:∀e∈es,e.1≠e.2)(w:∀e∈es,cM e)(h:mx es l Ps)(j:l.map N.T=N.g8 es)(p:PB)(s:p∈Ps):∃k,LD p k:=by obtain⟨e,x,n,o⟩:=h.ap.mem p s;have m:=h.v p s;have B:=C9 o;have R:=(et.1 B.1).2;have S:=(et.1 B.2).2;have P:=n8 m.cf.pos R;have Q:=n8 m.ct.pos S;have q:=Dq h j p s;have t:=w e x;have u:=PU<|r e x;have i:=PW m.cf m.ct q;have v:=PX P Q;have g:(N.gG<|N.ds e).1*(db p.f p.t).2.1=(N.gG<|N.ds e).2.1*(db p.f p.t).1:=(by unfold N.gG;split;show -(N.ds e).1*_= -(N.ds e).2.1*_;grind;exact v);have f:(N.ds e).1.natAbs<=100/\(N.ds e).2.1.natAbs<=100/\(N.ds e).2.2.natAbs<=10000:=(by obtain⟨a,b,c,d⟩:=t;unfold small at a b c d;have: -5000<=(e.2.1-e.1.1)*e.1.2/\(e.2.1-e.1.1)*e.1.2<=5000:=ee (a:=100) (b:=50) U U;have: -5000<=(e.2.2-e.1.2)*e.1.1/\(e.2.2-e.1.2)*e.1.1<=5000:=ee (a:=100) (b:=50) U U;unfold N.ds;grind);have y:(N.ds e).1*p.f.2.1-(N.ds e).2.1*p.f.1=(N.ds e).2.2*p.f.2.2:=(by unfold lf at P;unfold N.ds;grind);have z:(N.ds e).1*p.t.2.1-(N.ds e).2.1*p.t.1=(N.ds e).2.2*p.t.2.2:=(by unfold lf at Q;unfold N.ds;grind);refine⟨N.gG<|N.ds e,n,?_,?_,?_,g,Hj u i g,?_,?_⟩;unfold N.gG;split;show(-(N.ds e).1).natAbs<=100;omega;omega;unfold N.gG;split;show(-(N.ds e).2.1).natAbs<=100;omega;omega;unfold N.gG;split;show(-(N.ds e).2.2).natAbs<=10000;omega;omega;unfold N.gG;split;show -(N.ds e).1*_- -(N.ds e).2.1*_= -(N.ds e).2.2*_;grind;exact y;unfold N.gG;split;show -(N.ds e).1*_- -(N.ds e).2.1*_= -(N.ds e).2.2*_;grind;exact z
def fn(x y:PB):Int:=((db x.f x.t).1*(db y.f y.t).2.1-(db x.f x.t).2.1*(db y.f y.t).1).sign
theorem alR(h:0<a*c+b*d):0<c*c+d*d:=by have:0<=c*c:=(by rcases sx 0 c with h|h;exact gM h h;exact mI h h);have:0<=d*d:=(by rcases sx 0 d with h|h;exact gM h h;exact mI h h);have f:c≠0\/d≠0:=(by grind);rcases f with f|f;have:0<c*c:=(by rcases dG c 0 with e|e|e;exact EY e e;omega;exact bD e e);omega;have:0<d*d:=(by rcases dG d 0 with e|e|e;exact EY e e;omega;exact bD e e);omega
theorem zm{y:PB}(a:LD x l)(b:LD y m):(l.1*m.2.1-l.2.1*m.1).sign=fn x y:=by
 have c:=Da (x:=m.2.1) (y:= -m.1) a.par a.pos<|alR a.pos;have d:=Da (x:=(db x.f x.t).2.1) (y:= -(db x.f x.t).1) b.par b.pos<|alR b.pos;unfold fn;grind
theorem adO(x:PB)(n:N.Nd)(v:dR x)(L:eM n.1 n.2.1 n.2.2)(F:N.Can n)(b:Nat)(w:G)(t:il w b x):
    M 254 #[aF (K ⟨b,0,Z⟩),iQ n] w λr w'=>r=aJ (I J<|cC x.f n)/\Below w.heap.size w w':=by
 have P:H (∀w,M 125 #[u #[A C (aM C x.f.1) (aM C x.f.2.1),I J x.f.2.2],u #[A C (aM C n.1) (aM C n.2.1),I J n.2.2]] w λr w'=>r=aJ (I J<|cC x.f n)/\Below w.heap.size w w'/\w.drawn<=w'.drawn):=λw=>yy x.f n v.f.bm L v.cf F w;have Q:=t.c2;have z:=t.c3;have s:b<w.heap.size:=apK Q;clear t v;unfold iQ;generalize aM C x.f.1=j at*;generalize aM C x.f.2.1=o at*;generalize aM C n.1=d at*;generalize aM C n.2.1=f at*;generalize cC x.f n=R at*;generalize x.f.2.2=y at*;generalize n.2.2=g at*;have O:=(gw w (.cells #[A C d f,I J g] 83) s (k:=2)).trans Q;have T:=(gw w (.cells #[A C d f,I J g] 83) s (k:=3)).trans z;have i:=aa w<|.cells #[A C d f,I J g] 83;have l:Below w.heap.size w (w.alloc<|.cells #[A C d f,I J g] 83):=(Below.refl _ _).alloc (aX _) _;have:w.heap.size+1=(w.alloc<|.cells #[A C d f,I J g] 83).heap.size:=E;go_enter func254,ntmps254;go_wp2_with fail;generalize w.alloc (.cells #[A C d f,I J g] 83)=W at*;generalize S:w.heap.size=B at*;have V:=bz i;have X:=bw i;have q:b<W.heap.size:=U;have m:B<W.heap.size:=U
 first
   | (refine(P.o _).mono ?_
      rintro e Y ⟨rfl,a,p⟩;have c:=l.trans (a.mono l.size);go_wp2_with fail;go_ret;exact⟨rfl,by rw[S];exact c⟩)
   | (go_region_held3 (λw'=>w'.cell? ⟨b,2,Z⟩=K (A C j o)/\w'.cell? ⟨b,3,Z⟩=K (I J y)/\atb w' B (A C d f) (I J g)) (go_keep) (first
       | (go_at_call 125;refine(P.o _).mono ?_;rintro e Y ⟨rfl,a,p⟩;have:=aR a O q;have:=aR a T q;have:=aR a V m;have:=(aR a X m)))
      all_goals
        have c:=l.drew.trans (a.mono (du m));clear a p;go_wp2_with fail;go_ret;exact⟨rfl,by rw[S];exact c⟩)
theorem adP(a d f g m:Nat)(R:Int)(b c:Nat)(w:G)(q:w.cell? ⟨b,0,Z⟩=K (A C a d))(s:w.cell? ⟨c,0,Z⟩=K (A C f g))
  (p:H (∀w,M 101 #[A C a d,A C f g] w λe w'=>e=aJ (aA C m)/\w'=w))
  (n:H (∀w,M 183 #[aA C m,aA C 0] w λr w'=>r=aJ (I J R)/\w'=w)):
  M 256 #[aF (K ⟨b,0,Z⟩),aF<|K ⟨c,0,Z⟩] w (ai (I J R) w):=by go_enter func256,ntmps256;go_wp2_with fail;have:=apK q;have:=apK s;go_region_held3 (λw'=>w'.cell? ⟨b,0,Z⟩=K (A C a d)/\w'.cell? ⟨c,0,Z⟩=K (A C f g)) (go_keep) (first|(go_at_call 101;refine(p.o _).mono ?_;rintro e t ⟨rfl,k⟩;subst k)|(go_at_call 183;refine(n.o _).mono ?_;rintro e v ⟨rfl,l⟩;subst l));all_goals (go_wp2_with fail;go_ret;exact⟨rfl,(Below.refl _ _).drew⟩)
theorem zn{y:PB}(a:LD x l)(b:LD y m):∃c,Fl c (l.1*m.2.1-l.2.1*m.1)/\∀w,M 101 #[A C x.wa x.wb,A C y.wa y.wb] w λe w'=>e=aJ (aA C c)/\w'=w:=
 xQ a.fl.a a.fl.b b.fl.a b.fl.b a.jH.1 a.jH.2.1 b.jH.1 b.jH.2.1
theorem QY(x y:PB)(d:LD x l)(e:LD y m)(b c:Nat)(w:G)(g:il w b x)(h:il w c y):
  M 256 #[aF (K ⟨b,0,Z⟩),aF<|K ⟨c,0,Z⟩] w (ai (I J<|fn x y) w):=by obtain⟨n,f,k⟩:=zn d e;have a:=λw=>tF f jU w;rw[uu,zm d e] at a;exact adP _ _ _ _ n _ b c w g.c0 h.c0 k a
theorem QZ(x:Int)(w:G):M 290 #[I J x] w λr w'=>r=aJ (aC aQ)/\w'=w:=by go_enter func290,ntmps290;go_wp2_with fail;go_ret;exact⟨E,rfl⟩
theorem adQ(x y:Int)(w:G):M 255 #[I J x,I J y] w λr w'=>r=aJ (I J (x-y).sign)/\w'=w:=by have b:=hid<|λw=>QZ x w;have c:=hid<|λw=>QZ y w;obtain⟨s,a⟩:∃s,(x-y).sign=s:=⟨_,rfl⟩;rw[a];rcases dG x y with h|h|h;have e:s= -1:=(by rw[<-a];exact qN U);subst e;clear a;go_enter func255,ntmps255;go_wp2_with fail;refine(b.o _).mono ?_;rintro e w1 ⟨rfl,rfl⟩;go_wp2_with fail;refine(c.o _).mono ?_;rintro e d ⟨rfl,rfl⟩;go_wp2_with fail;go_ret;exact⟨rfl,rfl⟩;have e:s=0:=(by rw[<-a,h,Kc];rfl);subst e;have f:decide (x<y)=aQ:=aq;have:decide (y<x)=aQ:=aq;clear a h;go_enter func255,ntmps255;go_wp2_with fail;refine(b.o _).mono ?_;rintro e w1 ⟨rfl,rfl⟩;go_wp2_with fail;refine(c.o _).mono ?_;rintro e d ⟨rfl,rfl⟩;go_wp2_with fail;go_ret;exact⟨rfl,rfl⟩;have e:s=1:=(by rw[<-a];exact kw U);subst e;have f:decide (x<y)=aQ:=aq;clear a;go_enter func255,ntmps255;go_wp2_with fail;refine(b.o _).mono ?_;rintro e w1 ⟨rfl,rfl⟩;go_wp2_with fail;refine(c.o _).mono ?_;rintro e d ⟨rfl,rfl⟩;go_wp2_with fail;go_ret;exact⟨rfl,rfl⟩
def oe(s a b:PB):Int:=if(fn s b-fn s a).sign=0 then fn a b else(fn s b-fn s a).sign
theorem adR(v x B Q y:Nat)(j o P Q' R:Int)(s b c:Nat)(w:G)(_:s<w.heap.size)(q:w.cell? ⟨b,0,Z⟩=K (A C v x))(t:w.cell? ⟨c,0,Z⟩=K (A C B Q))
  (T:H (∀w',ag w w'->M 256 #[aF (K ⟨s,0,Z⟩),aF<|K ⟨c,0,Z⟩] w' (ai (I J o) w')))
  (O:H (∀w',ag w w'->M 256 #[aF (K ⟨s,0,Z⟩),aF<|K ⟨b,0,Z⟩] w' (ai (I J j) w')))
  (F:H (∀w,M 255 #[I J o,I J j] w λr w'=>r=aJ (I J P)/\w'=w))
  (L:H (∀w,M 101 #[A C v x,A C B Q] w λe w'=>e=aJ (aA C y)/\w'=w))
  (E:H (∀w,M 183 #[aA C y,aA C 0] w λr w'=>r=aJ (I J Q')/\w'=w))
  (N:H (∀b cap w,w.cell? ⟨b,0,Z⟩=K (I J P)->w.cell? ⟨b,1,Z⟩=K (I J Q')->M 182 #[D (K ⟨b,0,Z⟩) 2 cap] w λr w'=>r=aJ (I J R)/\w'=w)):
  M 211 #[aF (K ⟨s,0,Z⟩),aF<|K ⟨b,0,Z⟩,aF<|K ⟨c,0,Z⟩] w (ai (I J R) w):=by go_enter func211,ntmps211;go_wp2_with fail;have k:=apK q;have l:=apK t;have n:ag w w.drew:=(Below.refl _ _).drew;go_region_held3 (λw'=>w'.cell? ⟨b,0,Z⟩=K (A C v x)/\w'.cell? ⟨c,0,Z⟩=K (A C B Q)) (go_keep) (first|(go_at_call_of 256 (aF<|K ⟨c,0,Z⟩);refine(T.o _ n).mono ?_;rintro e U ⟨rfl,S⟩;have a:ag w U:=n.trans S;have:=aR a q k;have:=(aR a t l))|(go_at_call_of 256 (aF<|K ⟨b,0,Z⟩);refine(O.o _ a).mono ?_;rintro e V ⟨rfl,i⟩;have f:ag w V:=a.trans<|i.mono a.size;have:=aR f q k;have:=(aR f t l))|(go_at_call 255;refine(F.o _).mono ?_;rintro e z ⟨rfl,d⟩;subst d)|(go_at_call 101;refine(L.o _).mono ?_;rintro e z ⟨rfl,d⟩;subst d)|(go_at_call 183;refine(E.o _).mono ?_;rintro e z ⟨rfl,d⟩;subst d)|(go_at_call 182;refine(N.o _ _ _ (apL (aa _ _) 0) (apL (aa _ _) 1)).mono ?_;rintro e W ⟨rfl,p⟩;have g:ag w W:=(by(rw[p];exact f.alloc f.size _));have:=aR g q k;have:=aR g t l;clear p));all_goals (go_wp2_with fail;go_ret;exact⟨rfl,g⟩)
theorem il.below{b:Nat}(h:il w b x)(a:ag w w'):il w' b x:=by have c:=apK h.c0;exact⟨(aR a h.c0 c),(aR a h.c1 c),(aR a h.c2 c),(aR a h.c3 c),(aR a h.c4 c),(aR a h.c5 c)⟩
theorem adS(x y z:PB){k:N.Ln}(p:LD x l)(f:LD y m)(g:LD z k)(s b c:Nat)(w:G)(a:il w s x)(e:il w b y)(h:il w c z):
  M 211 #[aF (K ⟨s,0,Z⟩),aF<|K ⟨b,0,Z⟩,aF<|K ⟨c,0,Z⟩] w (ai (I J<|oe x y z) w):=by obtain⟨v,q,t⟩:=zn f g;have n:=λw=>tF q jU w;rw[uu,zm f g] at n;exact adR _ _ _ _ v (fn x y) (fn x z) _ _ _ s b c w (apK a.c0) e.c0 h.c0 (λw' d=>QY x z p g s c w' (a.below d)<|h.below d) (λw' d=>QY x y p f s b w' (a.below d)<|e.below d) (λw=>adQ _ _ w) t n<|λb cap w a e=>Cs _ _ b cap w a e
end
end Go.Proofs.YtkjhhooecopolaaGreatDoor
