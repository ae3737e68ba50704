import Derived.Test.YtkjhhooecopolaaGreatDoorFz32
import Derived.Test.YtkjhhooecopolaaGreatDoorFz25
set_option maxRecDepth 100000
set_option maxHeartbeats 4000000
namespace Go.Proofs.YtkjhhooecopolaaGreatDoor
open Go.Proofs.Tryz
open Value renaming int->I,complex->A,agg->u,bool->aC,string->aD,slice->D
open IntKind renaming i64->J
open Ending renaming returned->aJ
open Go renaming World->G,Value->Y
open Option renaming some->K,none->Z
open Bool renaming true->aP,false->aQ
section
open Go.RowKit
def nT(a:N.Qt):V N.Qt->V UInt8
 |[]=>Pl.fC a++[41]
 |q::g=>Pl.fC q++([44,32]++nT a g)
def iT:Bool->V (V N.Qt)->V UInt8
 |_,[]=>[41]
 |f,g::a=>(if f then[] else[44,32])++([40]++(nT (g.headD ((0,1),(0,1))) g++iT aQ a))
def oT:Bool->V (V<|V N.Qt)->V UInt8
 |_,[]=>[41]
 |f,p::ps=>(if f then[] else[44,32])++([40]++(iT aP p++oT aQ ps))
def Tt(ps:V (V<|V N.Qt)):Prop:=∀p∈ps,∀g∈p,g≠[]/\∀q∈g,cS q
theorem Ja(S:ByteArray)(l:V UInt8):(S++(⟨l.toArray⟩:ByteArray)).data.toList=S.data.toList++l:=by
 rw[ByteArray.data_append,Array.toList_append]
theorem Jb(S:ByteArray):S.data.toList.length=S.size:=ie
theorem si(S:ByteArray)(l:V UInt8):(S++(⟨l.toArray⟩:ByteArray)).size=S.size+l.length:=by
 rw[<-Jb,Ja,bG,Jb]
theorem agD{S:ByteArray}{T:V UInt8}(h:S.data.toList=T):S=⟨T.toArray⟩:=by
 apply ByteArray.ext;rw[<-h]
structure ji(TT:V UInt8)(S:ByteArray)(R:V UInt8):Prop where
 eq:S.data.toList++R=TT
theorem ji.step{TT:V UInt8}{S:ByteArray}{l R:V UInt8}(h:ji TT S (l++R)):ji TT (S++⟨l.toArray⟩) R:=⟨by rw[Ja,ep];exact h.eq⟩
theorem ji.le{TT:V UInt8}{S:ByteArray}{R:V UInt8}(h:ji TT S R)(a:TT.length<=20000000402):S.size+R.length<=20000000402:=by
 have:=bd List.length h.eq;rw[bG,Jb] at this;omega
theorem agE(TT:V UInt8)(ps:V (V<|V N.Qt))(v:Y)(w:G)(hG:Gl w)(hR:zJ w v ps)(hne:ps≠[])(hok:Tt ps)(hTT:TT=r8++oT aP ps)(P:TT.length<=20000000402)(hl:ps.length<=20000000402)(hl2:∀p∈ps,p.length<=20000000402/\∀g∈p,g.length<=20000000402):
  M 45 #[v] w (ai (aD ⟨TT.toArray⟩) w):=by
 obtain⟨so,cap,rfl⟩:=oH hR;have HR:=hid hR;have qF:H (Tt ps/\∀p∈ps,p.length<=20000000402/\∀g∈p,g.length<=20000000402):=⟨hok,hl2⟩;have:((ps.length:Int) == 0)=aQ:=by
  have:=fT.2 hne;rw[ou];omega
 have H0:=hid hTT.symm;go_enter func45,ntmps45;go_wp2_with fail
 go_loopg [3,4] ps.length (λg sv iv wr=>∃(i:Nat)(S:ByteArray),i+g=ps.length/\iv=I J i/\sv=aD S/\S.size<=20000000402/\H (ji TT S<|oT (decide (i=0))<|ps.drop i)/\H (ag w wr/\Gl wr))
 case atStart=>exact⟨0,_,U,rfl,rfl,ae,⟨H0.o⟩,Below.refl _ _,hG⟩
 case round=>
  obtain⟨i,S,hin,rfl,rfl,hS,HT,m⟩:=hrel;by_cases hlt:i<ps.length
  .have hii:(i:Int)<(ps.length:Int):=U;obtain⟨p,hp⟩:∃p,ps[i]?=K p:=⟨_,be hlt⟩;obtain⟨b,d,rfl,hb,e0,u9⟩:=lF HR.o hp;obtain⟨us,uc,rfl⟩:=oH u9;have HRU:=hid u9;have hd:ps.drop i=p::ps.drop (i+1):=by rw[lU hlt,(bX.1 hp).2]
   have f:=HT.o;rw[hd] at f;have Tu:=aR m.o.1 e0 hb;obtain⟨S1,HS1,R⟩:∃S1:ByteArray,H (ji TT S1<|iT aP p++oT aQ (ps.drop<|i+1))/\S1=(if i=0 then S else S++⟨#[44,32]⟩)++⟨#[40]⟩:=by
    refine⟨_,?_,rfl⟩;by_cases s:i=0
    .subst s;rw[y rfl];exact ji.step (l:=[40])<|by simpa[oT] using f
    .rw[X s];exact ji.step (l:=[40])<|ji.step (l:=[44,32])<|by simpa[oT,s] using f
   have HIJ:H (i+gk=ps.length/\i<ps.length):=⟨hin,hlt⟩;have HPP:H ((∀g∈p,g≠[]/\∀q∈g,cS q)/\p.length<=20000000402/\∀g∈p,g.length<=20000000402):=⟨qF.o.1 p<|bB hp,qF.o.2 p<|bB hp⟩;have agI:=HS1.o.le P;have W:¬9223372036854775807<S.size+1:=U;have hs2:¬9223372036854775807<S.size+2:=U;have hs3:¬9223372036854775807<S.size+2+1:=U;obtain⟨m1,jG⟩:=am gk;have tK:H (m1=gk):=jG;have E0:=hid e0;rcases Decidable.em (i=0) with s|s
   all_goals first
    |(have r:decide (0<(i:Int))=aQ:=(by(simp;omega));have Q:decide (0<i)=aQ:=(by(simp;omega));rw[y s] at R;clear s;go_wp2_with fail;rw[<-R];clear R r Q)
    |(have r:decide (0<(i:Int))=aP:=(by(simp;omega));have Q:decide (0<i)=aP:=(by(simp;omega));rw[X s] at R;clear s;go_wp2_with fail;rw[<-R];clear R r Q)
   all_goals
    have agI:=HS1.o.le P
    go_loopg [3,5] p.length (λg sv iv wr=>∃(k:Nat)(S:ByteArray),k+g=p.length/\iv=I J k/\sv=aD S/\S.size<=20000000402/\H (ji TT S<|iT (decide (k=0)) (p.drop k)++oT aQ (ps.drop<|i+1))/\H (ag w wr/\Gl wr))
    case atStart=>exact⟨0,S1,U,rfl,rfl,U,HS1,m⟩
    case round=>
     obtain⟨k,S,hkn,rfl,rfl,hS,HT,m⟩:=hrel;have Tu:=aR m.o.1 E0.o hb;by_cases O:k<p.length
     .have hkk:(k:Int)<(p.length:Int):=U;obtain⟨g,hg⟩:∃g,p[k]?=K g:=⟨_,be O⟩;obtain⟨b2,u2,Jc,hb2,e2,hrg⟩:=lF HRU.o hg;subst Jc;obtain⟨gs,gc,rfl⟩:=nQ hrg;have wC:=hid hrg;have hr1:=aR m.o.1 e2 hb2;have E2:=hid e2;have hd:p.drop k=g::p.drop (k+1):=by rw[lU O,(bX.1 hg).2]
      have f:=HT.o;rw[hd] at f;obtain⟨S2,HS2,j⟩:∃S2:ByteArray,H (ji TT S2<|nT (g.headD ((0,1),(0,1))) g++(iT aQ (p.drop<|k+1)++oT aQ (ps.drop<|i+1)))/\S2=(if k=0 then S else S++⟨#[44,32]⟩)++⟨#[40]⟩:=by
       refine⟨_,?_,rfl⟩;by_cases s:k=0
       .subst s;rw[y rfl];exact ji.step (l:=[40])<|by simpa[iT] using f
       .rw[X s];exact ji.step (l:=[40])<|ji.step (l:=[44,32])<|by simpa[iT,s] using f
      obtain⟨agJ,hgq⟩:=HPP.o.1 g<|bB hg;have:=HPP.o.2.2 g<|bB hg;obtain⟨q0,r⟩:∃q0,g[0]?=K q0:=⟨_,be<|fT.2 agJ⟩;have hh0:g.headD ((0,1),(0,1))=q0:=by
       cases g with
       |nil=>simp at r
       |cons a g=>simpa using r
      rw[hh0] at HS2;have o:H ((∀q∈g,cS q)/\g[0]?=K q0):=⟨hgq,r⟩;have HKJ:H (k+gk=p.length/\k<p.length/\p.length<=20000000402):=⟨hkn,O,HPP.o.2.1⟩;have:=HPP.o.2.1;have:=HS2.o.le P;have W:¬9223372036854775807<S.size+1:=U;have hs2:¬9223372036854775807<S.size+2:=U;have hs3:¬9223372036854775807<S.size+2+1:=U;obtain⟨m2,hm2⟩:=am gk;have CF:H (m2=gk):=hm2;rcases Decidable.em (k=0) with s|s
      all_goals first
       |(have r:decide (0<(k:Int))=aQ:=(by(simp;omega));have Q:decide (0<k)=aQ:=(by(simp;omega));rw[y s] at j;clear s;go_wp2_with fail;rw[<-j];clear j r Q)
       |(have r:decide (0<(k:Int))=aP:=(by(simp;omega));have Q:decide (0<k)=aP:=(by(simp;omega));rw[X s] at j;clear s;go_wp2_with fail;rw[<-j];clear j r Q)
      all_goals
       have agM:=HS2.o.le P
       go_loopg [3,6] g.length (λz sv iv wr=>∃(n:Nat)(S:ByteArray),n+z=g.length/\iv=I J n/\sv=aD S/\S.size<=20000000402/\H (ji TT S<|nT q0 (g.drop n)++(iT aQ (p.drop<|k+1)++oT aQ (ps.drop<|i+1)))/\H (ag w wr/\Gl wr))
       case atStart=>exact⟨0,S2,U,rfl,rfl,U,HS2,m⟩
       case round=>
        obtain⟨n,S,hnn,rfl,rfl,hS,HT,m⟩:=hrel;have Tu:=aR m.o.1 E0.o hb;have hr1:=aR m.o.1 E2.o hb2;by_cases T:n<g.length
        .have hnk:(n:Int)<(g.length:Int):=U;obtain⟨q,hq⟩:∃q,g[n]?=K q:=⟨_,be T⟩;obtain⟨b3,hgs,t,a0,a1,a2,a3⟩:=tt wC.o hq;subst hgs;obtain⟨r0,r1,r2,r3⟩:=ajE m.o.1 t a0 a1 a2 a3;have JI:=hid<|λw1 g1=>Nf q w1 g1<|o.o.1 q<|bB hq;have hd:g.drop n=q::g.drop (n+1):=by rw[lU T,(bX.1 hq).2]
         have f:=HT.o;rw[hd] at f;have F:=hid (ji.step (l:=[44,32])<|ji.step<|by simpa[nT] using f);have x:=F.o.le P;rw[si _ [44,32],si] at x;have Tv:H (n+gk=g.length/\n<g.length):=⟨hnn,T⟩;generalize Pl.fC q=c at*;have B:H (S.size+c.length+2<=20000000402):=by simp at x;show _<=_;omega
         have W:¬9223372036854775807<S.size+c.length:=by have:=B.o;omega
         have hs2:¬9223372036854775807<S.size+c.length+2:=by have:=B.o;omega
         go_wp2_with fail;refine(JI.o _ m.o.2).mono ?_;rintro e w7 ⟨rfl,L⟩;have HB7:H (ag w w7/\Gl w7):=⟨m.o.1.trans<|L.mono m.o.1.size,I9 m.o.2 L⟩;go_wp2_with fail;go_roundg (gk-1)
         case measure=>have:=Tv.o;omega
         case rel=>
          refine⟨n+1,_,by have:=Tv.o;omega,af,rfl,?_,F,HB7⟩;rw[si _ [44,32],si];exact B.o
        .have hnk:decide ((n:Int)<(g.length:Int))=aQ:=aq;obtain⟨b3,hgs,t,a0,a1,a2,a3⟩:=tt wC.o o.o.2;subst hgs;rw[py] at a0 a1 a2 a3;rw[ir] at a1 a2 a3;obtain⟨r0,r1,r2,r3⟩:=ajE m.o.1 t a0 a1 a2 a3;have JI:=hid<|λw1 g1=>Nf q0 w1 g1<|o.o.1 q0<|bB o.o.2;have f:=HT.o;rw[qK U] at f;have F:=hid (ji.step (l:=[41])<|ji.step<|by simpa[nT] using f);have x:=F.o.le P;rw[si _ [41],si] at x;have:(0:Int)<(g.length:Int):=by have:=(bX.1 o.o.2).1;omega
         generalize Pl.fC q0=c at*;have B:H (S.size+c.length+1<=20000000402):=by simp at x;show _<=_;omega
         have W:¬9223372036854775807<S.size+c.length:=by have:=B.o;omega
         have hs2:¬9223372036854775807<S.size+c.length+1:=by have:=B.o;omega
         go_wp2_with fail;refine(JI.o _ m.o.2).mono ?_;rintro e w7 ⟨rfl,L⟩;have HB7:H (ag w w7/\Gl w7):=⟨m.o.1.trans<|L.mono m.o.1.size,I9 m.o.2 L⟩;go_wp2_with fail;go_roundg (m2-1)
         case measure=>have:=CF.o;have:=HKJ.o;omega
         case rel=>
          refine⟨k+1,_,by have:=CF.o;have:=HKJ.o;omega,af,rfl,?_,F,HB7⟩;rw[si _ [41],si];exact B.o
     .have hkk:decide ((k:Int)<(p.length:Int))=aQ:=aq;have f:=HT.o;rw[qK U] at f;have HTi:=hid<|ji.step (l:=[41]) f;have agM:=HTi.o.le P;have hsz:(S++(⟨#[41]⟩:ByteArray)).size<=20000000402:=U;have HSZ:=hid hsz;have W:¬9223372036854775807<S.size+1:=U;go_wp2_with fail;go_roundg (m1-1)
      case measure=>have:=tK.o;have:=HIJ.o;omega
      case rel=>exact⟨i+1,_,by have:=tK.o;have:=HIJ.o;omega,af,rfl,HSZ.o,HTi,m⟩
  .have hii:decide ((i:Int)<(ps.length:Int))=aQ:=aq;have f:=HT.o;rw[qK U] at f;obtain⟨F7,_⟩:=m.o;have W:¬9223372036854775807<S.size+1:=U;have HTi:=hid f;go_wp2_with fail;go_ret;refine⟨?_,F7⟩;rw[<-agD (S:=S++⟨#[41]⟩)<|(Ja S [41]).trans HTi.o.eq];rfl
end
section
structure okF(a:N.Fr):Prop where
 red:N.tj a
 n: -10000000<=a.1/\a.1<=10000000
 d:a.2<=1000000
namespace Pl
def Jd(q:N.Qt):Prop:=okF q.1/\okF q.2
def rX(g:V N.Qt):V UInt8:=40::(df fC g++[41])
def pX(a:V (V N.Qt)):V UInt8:=40::(df rX a++[41])
end Pl
end
section
open Go.RowKit
theorem ahd(g:V RS)(a:N.Qt)(v:Y)(w:G)(R:cN 265 w v g)(s:RS)(S:g[0]?=K s)(Q:H (∀w1,M 231 #[u (qA s.1.1),u<|qA s.1.2] w1 (ai (u<|qA a) w1))):
  M 190 #[v] w (ai (u<|qA a) w):=by
 obtain⟨F,cap,rfl⟩:=jX R;have i:=(bX.1 S).1;obtain⟨X,rfl,k,P⟩:=mN R i;obtain⟨m,n,p,q,r,t,x,B,_⟩:=P 0 s S;simp only[py,ir] at m n p q r t x B;simp only[qA] at Q⊢;have l:=aa w<|.cells #[I J 0,I J 0,I J 0,I J 0] 100;have d:=dS w<|.cells #[I J 0,I J 0,I J 0,I J 0] 100;go_enter func190,ntmps190;go_wp2_with fail;replace m:=aR d m k;replace n:=aR d n k;replace p:=aR d p k;replace q:=aR d q k;replace r:=aR d r k;replace t:=aR d t k;replace x:=aR d x k;replace B:=aR d B k;generalize w.alloc (.cells #[I J 0,I J 0,I J 0,I J 0] 100)=W at*;have b:=hid<|bg k d.size;have:=dC l 0;have:=dC l 1;have:=dC l 2;have:=dC l 3;have:¬(w.heap.size=X):=U;go_region_held3 (λw'=>w'.cell? ⟨X,0,Z⟩=K (I J s.1.1.1.1)/\w'.cell? ⟨X,1,Z⟩=K (I J s.1.1.1.2)/\w'.cell? ⟨X,2,Z⟩=K (I J s.1.1.2.1)/\w'.cell? ⟨X,3,Z⟩=K (I J s.1.1.2.2)/\w'.cell? ⟨X,4,Z⟩=K (I J s.1.2.1.1)/\w'.cell? ⟨X,5,Z⟩=K (I J s.1.2.1.2)/\w'.cell? ⟨X,6,Z⟩=K (I J s.1.2.2.1)/\w'.cell? ⟨X,7,Z⟩=K (I J s.1.2.2.2)/\w'.frozen? ⟨w.heap.size,0,Z⟩=aQ/\w'.frozen? ⟨w.heap.size,1,Z⟩=aQ/\w'.frozen? ⟨w.heap.size,2,Z⟩=aQ/\w'.frozen? ⟨w.heap.size,3,Z⟩=aQ) (first |go_keep|(go_split_ands;refine⟨?_,?_,?_,?_,?_,?_,?_,?_,?_,?_,?_,?_⟩<;>first |(simp[World.frozen?_setCell, *];done)|(simp[*];done))) (first
  |(go_at_call 231;refine(Q.o _).mono ?_;rintro e w1 ⟨rfl,f⟩;have:=aR f m b.o;have:=aR f n b.o;have:=aR f p b.o;have:=aR f q b.o;have:=aR f r b.o;have:=aR f t b.o;have:=aR f x b.o;have:=aR f B b.o;have c:=dp f l;have:w1.frozen? ⟨w.heap.size,0,Z⟩=aQ:=dC c 0;have:w1.frozen? ⟨w.heap.size,1,Z⟩=aQ:=dC c 1;have:w1.frozen? ⟨w.heap.size,2,Z⟩=aQ:=dC c 2;have:w1.frozen? ⟨w.heap.size,3,Z⟩=aQ:=dC c 3;obtain⟨j,o,y,z⟩:=ajG c))
 replace d:=cU d.drew f<|aX _;go_wp2_with fail;refine ab (v:=u #[I J a.1.1,I J a.1.2,I J a.2.1,I J a.2.2]) (by simp[results,results190,go_sem,j,o,y,z]) rfl ⟨rfl,?_⟩;exact(((d.setCell E _).setCell E _).setCell E _).setCell E _
abbrev sj:G->Y->V (V RS)->Prop:=nJ 221<|cN 265
def oj(g:V RS):Prop:=g.length<=100000000/\∀s∈g,(cS s.1.1/\cS s.1.2)/\cM s.2.2
def kN(L:V (V RS))(M:N.Qt):Nat:=(L.filter λg=>eE g M).length
theorem ahe{L:V (V RS)}{M:N.Qt}{i:Nat}{g:V RS}(h:L[i]?=K g):kN (L.take<|i+1) M=kN (L.take i) M+if eE g M then 1 else 0:=by
 unfold kN;rw[fg,h];simp only[Option.toList_some,nr,bG];cases a:eE g M<;>simp[a]
theorem T0(L:V (V RS))(M:N.Qt):kN L M<=L.length:=by unfold kN;exact pB _ _
theorem ahf(L:V (V RS))(g:V RS)(c:N.Qt)(v d:Y)(w:G)(X:sj w v L)(W:cN 265 w d g)(hl:L.length<=100000000)(y:∀g∈L,oj g)(hM:cS c)
  (HM:H (∀w1,cN 265 w1 d g->M 190 #[d] w1 (ai (u<|qA c) w1))):
  M 191 #[v,d] w (ai (I J<|kN L c) w):=by
 obtain⟨so,cap,rfl⟩:=oH X;obtain⟨uo,uc,rfl⟩:=jX W;have O:H (sj w (D so L.length cap) L/\cN 265 w (D uo g.length uc) g):=⟨X,W⟩;have z:H ((∀g∈L,oj g)/\cS c):=⟨y,hM⟩;go_enter func191,ntmps191;go_wp2_with fail
 go_loopg [5,6] L.length (λm nv iv wr=>∃i:Nat,i+m=L.length/\iv=I J i/\nv=I J (kN (L.take i) c)/\H (ag w wr))
 case atStart=>exact⟨0,U,rfl,rfl,Below.refl _ _⟩
 case round=>
  obtain⟨i,him,rfl,rfl,l⟩:=hrel;have:=T0 (L.take i) c;have:(L.take i).length<=L.length:=aq;by_cases B:i<L.length
  .obtain⟨h,o⟩:∃h,L[i]?=K h:=⟨_,be B⟩;obtain⟨b,hv,rfl,hb,e0,P⟩:=lF O.o.1 o;obtain⟨Q,x,rfl⟩:=jX P;have d0:=aR l.o e0 hb;have T:H (kN (L.take<|i+1) c=kN (L.take i) c+if eE h c then 1 else 0):=ahe o;have q:H (cN 265 wr (D Q h.length x) h/\cN 265 wr (D uo g.length uc) g):=⟨fk (gf _) P l.o,fk (gf _) O.o.2 l.o⟩;have p:H (oj h):=z.o.1 h<|bB o;have R:H (∀w1,cN 265 w1 (D Q h.length x) h->M 189 #[D Q h.length x,u<|qA c] w1 (ai (aC<|eE h c) w1)):=λw1 h1=>TW h c _ w1 h1 p.o.1 p.o.2 z.o.2;have:(i:Int)<(L.length:Int):=U;have f:H (i+gk=L.length/\i<L.length):=⟨U,B⟩;have s:=bg hb l.o.size;generalize kN (L.take i) c=a at*;generalize eE h c=F at*
   go_wp2_with fail;go_region_held3 (λw'=>w'.cell? ⟨b,i,Z⟩=K (D Q h.length x)) (go_keep) (first
    |(go_at_call 190;refine(HM.o _ (show cN 265 wr.drew _ _ from q.o.2)).mono ?_;rintro e w2 ⟨rfl,k⟩;have f0:=aR k d0 s;have S:H (cN 265 w2 (D Q h.length x) h):=(fk (gf _) (show cN 265 wr.drew _ _ from q.o.1) k);have t:b<w2.heap.size:=(bg s k.size))
    |(go_at_call 189;refine(R.o _ S.o).mono ?_;rintro e w3 ⟨rfl,r⟩;have:=aR r f0 t))
   have n:=hid<|cU (cU l.o.drew k<|aX _) r<|aX _;cases F
   .have j:H (kN (L.take<|i+1) c=a):=by show _=_;rw[T.o];rfl
    go_wp2_with fail;go_roundg (gk-1)
    case measure=>have:=f.o;omega
    case rel=>exact⟨i+1,by have:=f.o;omega,af,by rw[j.o],n⟩
   .have j:H (kN (L.take<|i+1) c=a+1):=by show _=_;rw[T.o];rfl
    go_wp2_with fail;go_roundg (gk-1)
    case measure=>have:=f.o;omega
    case rel=>exact⟨i+1,by have:=f.o;omega,af,by rw[j.o];go_num,n⟩
  .have y:i=L.length:=U;subst y;rw[dV];go_wp2_with fail;go_ret;exact⟨rfl,l.o⟩
end
namespace Gb
open N W
theorem ahg{n:Nat}{p q:Nat->Bool}(h:∀x,x<n->q x=aP->p x=aP){y:Nat}(d:y<n)(a:p y=aP)(b:q y=aQ):((List.range n).filter q).length<((List.range n).filter p).length:=by
 rw[<-ajz,<-ajz];exact YtkjhhooecopolaaGreatDoor.Ir _ (λx c=>h x<|gV.1 c) ⟨y,gV.2 d,a,b⟩
def sl(A:Nat->Bool)(d:Nat->Nat)(s:Int×Int)(i:Nat):Int×Int:=if A i=aP/\s.2<(d i:Int) then((i:Int),(d i:Int)) else s
theorem ahh{n:Nat}{A:Nat->Bool}{Q:Nat->Nat->Bool}{i0:Nat}(R:i0<n)(v:A i0=aP)(B:∀i,i<n->i≠i0->A i=Q i i0)(P:∀i,i<n->i≠i0->A i=aP->Q i0 i=aQ)
  (tr:∀m i,m<n->i<n->m≠i->i≠i0->m≠i0->Q m i=aP->Q i i0=aP->Q m i0=aP):
  ((List.range n).foldl (sl A λi=>((List.range n).filter λm=>decide (m≠i)&&Q m i).length) (-1, -1)).1=i0:=by
 obtain⟨d,q⟩:∃d:Nat->Nat,d=λi=>((List.range n).filter λm=>decide (m≠i)&&Q m i).length:=⟨_,rfl⟩;rw[<-q];have k:∀i,i<n->i≠i0->A i=aP->d i<d i0:=λi f g p=>by
  rw[q];have t:=(B i f g).symm.trans p;refine ahg (y:=i) (λm S w=>?_) f (by simp[g,t]) E;simp only[jl,iE] at w⊢;have r:m≠i0:=λe=>by rw[e,P i f g p] at w;simp at w
  exact⟨r,tr m i S f w.1 g r w.2 t⟩
 have l:∀j,j<=n->(i0<j->(List.range j).foldl (sl A d) (-1, -1)=((i0:Int),(d i0:Int)))/\(j<=i0->((List.range j).foldl (sl A d) (-1, -1)).2<(d i0:Int)):=by
  intro j;induction j with
  |zero=>intro _;exact⟨λh=>U,λ_=>by show(-1:Int)<_;omega⟩
  |succ j o=>
   intro z;obtain⟨a,b⟩:=o U;rw[lZ,nw];generalize(List.range j).foldl (sl A d) (-1, -1)=s at*;show(i0<j+1->sl A d s j=_)/\(j+1<=i0->(sl A d s j).2<_);unfold sl;refine⟨λh=>?_,λh=>?_⟩
   .by_cases e:j=i0
    .subst e;rw[y ⟨v,b<|aX _⟩]
    .rw[a U,X];rintro⟨x,c⟩;have:=k j U e x;simp only at c;omega
   .have:=b U;split
    .rename_i w;have:=k j U U w.1;simp only;omega
    .exact this
 rw[(l n<|aX _).1 R]
end Gb
section
open Go.RowKit
variable{k m:Nat}
def dL(L:V (V RS))(i:Nat):V RS:=L.getD i []
theorem sn{L:V (V RS)}{i:Nat}{g:V RS}(h:L[i]?=K g):dL L i=g:=by unfold dL;rw[fi,h];rfl
def gp(L:V (V RS))(i k:Nat):V (V RS):=((List.range k).filter λm=>decide (m≠i)).map<|dL L
theorem ahi(L:V (V RS))(i k:Nat):gp L i (k+1)=if k=i then gp L i k else gp L i k++[dL L k]:=by
 unfold gp;rw[lZ,nr,fy];by_cases h:k=i<;>simp[h]
theorem T1(L:V (V RS))(i k:Nat):(gp L i k).length<=k:=by
 unfold gp;rw[eK];exact el (pB _ _) E
theorem ahj{L:V (V RS)}{i:Nat}(b:k<=L.length){g:V RS}(h:g∈gp L i k):g∈L:=by
 obtain⟨m,a,rfl⟩:=bA.1 h;have:=gV.1 (et.1 a).1;have e:L[m]?=K L[m]:=be U;rw[sn e];exact eo _
def ol(mq:V RS->N.Qt)(L:V (V RS))(i:Nat):Nat:=kN (gp L i L.length)<|mq<|dL L i
def dT(mq:V RS->N.Qt)(L:V (V RS))(g:V RS)(k:Nat):Int×Int:=(List.range k).foldl (Gb.sl (λi=>eE (dL L i)<|mq g)<|ol mq L) (-1, -1)
theorem T2(mq:V RS->N.Qt)(L:V (V RS))(g:V RS)(k:Nat):dT mq L g (k+1)=if eE (dL L k) (mq g)=aP/\(dT mq L g k).2<(ol mq L k:Int) then((k:Int),(ol mq L k:Int)) else dT mq L g k:=by
 unfold dT;rw[lZ,nw];rfl
theorem ahk(mq:V RS->N.Qt)(L:V (V RS))(i:Nat):ol mq L i<=L.length:=el (T0 _ _)<|T1 _ _ _
theorem Jq:(Tryz.prog.info? 221).map (λi=>(i.zero,i.size,i.bytes))=K (K<|D Z 0 0,1,24):=z
theorem ahl(L:V (V RS))(g:V RS)(mq:V RS->N.Qt)(v c:Y)(w:G)(hR:sj w v L)(hG:cN 265 w c g)(hl:L.length<=100000000)(hk:∀h∈L,oj h)(hq:∀h∈g::L,cS<|mq h)
  (HM:H (∀h∈g::L,∀z w1,cN 265 w1 z h->M 190 #[z] w1 (ai (u<|qA<|mq h) w1))):
  M 143 #[v,c] w (ai (I J (dT mq L g L.length).1) w):=by
 obtain⟨so,cap,rfl⟩:=oH hR;obtain⟨uo,uc,rfl⟩:=jX hG;have HR:H (sj w (D so L.length cap) L/\cN 265 w (D uo g.length uc) g):=⟨hR,hG⟩;have HK:H ((∀h∈L,oj h)/\∀h∈g::L,cS<|mq h):=⟨hk,hq⟩;clear hR hG hk hq;go_enter func143,ntmps143;go_wp2_with fail
 go_loopg [5,6,7] L.length (λm kv sv iv wr=>∃i:Nat,i+m=L.length/\iv=I J i/\kv=I J (dT mq L g i).1/\sv=I J (dT mq L g i).2/\H (ag w wr))
 case atStart=>exact⟨0,U,rfl,rfl,rfl,Below.refl _ _⟩
 case round=>
  obtain⟨i,him,rfl,rfl,rfl,T⟩:=hrel;by_cases R:i<L.length
  .obtain⟨h,hh⟩:∃h,L[i]?=K h:=⟨_,be R⟩;obtain⟨b,hv,rfl,hb,e0,S⟩:=lF HR.o.1 hh;obtain⟨t,r,rfl⟩:=jX S;have d0:=aR T.o e0 hb;have P:=bB hh;have HT:H (dT mq L g (i+1)=if eE h (mq g)=aP/\(dT mq L g i).2<(ol mq L i:Int) then((i:Int),(ol mq L i:Int)) else dT mq L g i):=by show _=_;rw[T2,sn hh]
   have HDI:H (ol mq L i=kN (gp L i L.length) (mq h)):=by show _=_;unfold ol;rw[sn hh]
   have HRU:H (cN 265 wr (D t h.length r) h/\cN 265 wr (D uo g.length uc) g):=⟨fk (gf _) S T.o,fk (gf _) HR.o.2 T.o⟩;have W:H (cN 265 w (D t h.length r) h/\w.cell? ⟨b,i,Z⟩=K (D t h.length r)/\b<w.heap.size):=⟨S,e0,hb⟩;have qF:H (oj h):=HK.o.1 h P;have HAR:H (∀w1,cN 265 w1 (D t h.length r) h->M 189 #[D t h.length r,u<|qA<|mq g] w1 (ai (aC<|eE h<|mq g) w1)):=λw1 h1=>TW h (mq g) _ w1 h1 qF.o.1 qF.o.2<|HK.o.2 g E;have T3:H (∀w1,cN 265 w1 (D uo g.length uc) g->M 190 #[D uo g.length uc] w1 (ai (u<|qA<|mq g) w1)):=λw1 h1=>HM.o g E _ w1 h1;have ON:H (∀O z w1,sj w1 z O->cN 265 w1 (D t h.length r) h->O.length<=100000000->(∀x∈O,oj x)->M 191 #[z,D t h.length r] w1 (ai (I J<|kN O<|mq h) w1)):=λO z w1 h1 h2 h3 h4=>ahf O h (mq h) z _ w1 h1 h2 h3 h4 (HK.o.2 h<|by simp[P]) λw2 h5=>HM.o h (by simp[P]) _ w2 h5;have:(i:Int)<(L.length:Int):=U;obtain⟨m1,jG⟩:=am gk;have d:H (i+m1=L.length/\i<L.length/\m1=gk):=⟨U,R,jG⟩;have hbz:=bg hb T.o.size;generalize dT mq L g i=a at*;generalize ol mq L i=DI at*;generalize eE h (mq g)=F at*;clear hh e0 S hb him R P jG;go_wp2_with fail;go_region_held3 (λw'=>w'.cell? ⟨b,i,Z⟩=K (D t h.length r)) (go_keep) (first
    |(go_at_call 190;refine(T3.o _ (show cN 265 wr.drew _ _ from HRU.o.2)).mono ?_;rintro e w2 ⟨rfl,p⟩;have f0:=aR p d0 hbz;have T4:H (cN 265 w2 (D t h.length r) h):=(fk (gf _) (show cN 265 wr.drew _ _ from HRU.o.1) p);have o:b<w2.heap.size:=(bg hbz p.size))
    |(go_at_call 189;refine(HAR.o _ T4.o).mono ?_;rintro e w3 ⟨rfl,hb3⟩;have g0:=aR hb3 f0 o))
   have aV:=hid<|cU (cU T.o.drew p<|aX _) hb3<|aX _;clear T HRU HAR T3 p hb3 d0 f0 g0 T4 hbz o;cases F
   .have l:H (dT mq L g (i+1)=a):=by show _=_;rw[HT.o,X E]
    go_wp2_with fail;go_roundg (m1-1)
    case measure=>have:=d.o;omega
    case rel=>exact⟨i+1,by have:=d.o;omega,af,by rw[l.o],by rw[l.o],aV⟩
   .go_wp2_with fail
    go_loopg [9,10] L.length (λm ov nv wr=>∃n:Nat,n+m=L.length/\nv=I J n/\H (ag w wr/\gJ 221 (cN 265) w.heap.size ov (gp L i n) wr))
    case atStart=>exact⟨0,U,rfl,aV.o,[],by simp[gp],by simpa[gp] using ak _ _ _ _,λi c x hu=>by simp at hu⟩
    case round=>
     obtain⟨n,vb,rfl,f⟩:=hrel;have hol:=T1 L i n;by_cases Q:n<L.length
     .obtain⟨x,hx⟩:∃x,L[n]?=K x:=⟨_,be Q⟩;obtain⟨b',xv,wL,hb',e1,hrx⟩:=lF HR.o.1 hx;obtain⟨xs,xc,rfl⟩:=jX hrx;have hbb:b'=b:=by injection wL with q;injection q with q;exact q.symm
      subst hbb;have:=aR f.o.1 e1 hb';have:(n:Int)<(L.length:Int):=U;have B:H (n+gk=L.length/\n<L.length):=⟨U,Q⟩;have HO:H (gp L i (n+1)=if n=i then gp L i n else gp L i n++[x]):=by show _=_;rw[ahi,sn hx]
      have HRX:=hid<|fk (gf _) hrx f.o.1;have:(gp L i n).length<=100000000:=U;generalize gp L i n=O at*;clear hx hrx e1 hb' wL vb Q hol;by_cases s:n=i
      .have l:H (gp L i (n+1)=O):=by show _=_;rw[HO.o,y s]
       have hb1:((n:Int) != (i:Int))=aQ:=by simp[s]
       clear s HO;go_wp2_with fail;go_roundg (gk-1)
       case measure=>have:=B.o;omega
       case rel=>exact⟨n+1,by have:=B.o;omega,af,f.o.1,by rw[l.o];exact f.o.2⟩
      .have l:H (gp L i (n+1)=O++[x]):=by show _=_;rw[HO.o,X s]
       have hb1:((n:Int) != (i:Int))=aP:=aq;obtain⟨vs,hv1,j,hv3⟩:=f.o.2;have hws:=f.o.1.size;clear s HO;go_wp2_with (at_builtin;refine ii rfl Jq underlying219 (ed j) (aa _ _) ?_;intro g' cap' w5 ho hgrow xj);have jI:H (ag w w5/\gJ 221 (cN 265) w.heap.size (D (K ⟨g',0,Z⟩) (O.length+1) cap') (gp L i<|n+1) w5):=by
        refine⟨zK f.o.1 hws hgrow<|λk hk=>(bn j k hk).1,?_⟩;rw[l.o];exact gJ.snoc (gf _) ae hv1 j hv3 HRX.o hgrow ho
       clear ho hgrow j hv3 hv1 xj;go_wp2_with fail;go_roundg (gk-1)
       case measure=>have:=B.o;omega
       case rel=>exact⟨n+1,by have:=B.o;omega,af,jI⟩
     .have hn:n=L.length:=U;subst hn;have d0:=aR f.o.1 W.o.2.1 W.o.2.2;have HDC:H (∀z w1,sj w1 z (gp L i L.length)->cN 265 w1 (D t h.length r) h->M 191 #[z,D t h.length r] w1 (ai (I J (DI:Int)) w1)):=λz w1 h1 h2=>by
       rw[HDI.o];exact ON.o _ z w1 h1 h2 U λx hx=>HK.o.1 x<|ahj (aX _) hx
      have HRX:=hid<|fk (gf _) W.o.1 f.o.1;obtain⟨os,oc,rfl⟩:=oH f.o.2.rd;generalize gp L i L.length=O at*;clear vb Q ON HDI hol;go_wp2_with fail;refine(HDC.o _ _ f.o.2.rd HRX.o).mono ?_;rintro e w6 ⟨rfl,Ek⟩;have HB6:=hid<|cU f.o.1 Ek<|aX _;obtain⟨D1,D2⟩:=a;by_cases hd:D2<(DI:Int)
      .have l:H (dT mq L g (i+1)=((i:Int),(DI:Int))):=by show _=_;rw[HT.o];simp[hd]
       go_wp2_with fail;go_roundg (m1-1)
       case measure=>have:=d.o;omega
       case rel=>exact⟨i+1,by have:=d.o;omega,af,by rw[l.o],by rw[l.o],HB6⟩
      .have l:H (dT mq L g (i+1)=(D1,D2)):=by show _=_;rw[HT.o];simp[hd]
       go_wp2_with fail;go_roundg (m1-1)
       case measure=>have:=d.o;omega
       case rel=>exact⟨i+1,by have:=d.o;omega,af,by rw[l.o],by rw[l.o],HB6⟩
  .have hk:i=L.length:=U;subst hk;clear him R;go_wp2_with fail;go_ret;exact⟨rfl,T.o⟩
def om(n:Nat)(mk:Nat->Bool):Array Y:=((List.range n).map λj=>aC<|mk j).toArray
theorem ahn(n:Nat)(mk:Nat->Bool)(a:k<n):(om n mk)[k]?=K (aC<|mk k):=by
 unfold om;simp[a]
theorem aho(n:Nat)(mk:Nat->Bool)(b:k<n):(om n mk).setIfInBounds k (aC aP)=om n λj=>mk j||decide (j=k):=by
 unfold om;apply Array.ext';simp only[Ap];apply sJ;intro j;rw[qQ];by_cases h:k=j
 .subst h;simp[b]
 .rw[X h,fx,fx];by_cases a:j<n
  .simp[a,Ne.symm h]
  .simp[a]
structure LI(w:G)(UB n:Nat)(mk:Nat->Bool)(lo lr:Y)(O:V RS)(Rs:V (V RS))(rv:V Y)(wr:G):Prop where
 oo:wr.ownsRow w.heap.size 265 14 lo O.length (eA O)
 ro:wr.ownsRow w.heap.size 221 1 lr rv.length rv
 len:rv.length=Rs.length
 ring:∀(i:Nat) v r,rv[i]?=K v->Rs[i]?=K r->wr.ownsRow w.heap.size 265 14 v r.length (eA r)/\∀k,v.ownBlock=K k->lo.ownBlock≠K k
 used:wr.heap[UB]?=K (.cells (om n mk) 4 (0,0))
 ub:w.heap.size<=UB
 below:ag w wr
section
variable{w:G}{UB n:Nat}{mk:Nat->Bool}{lo lr:Y}{O:V RS}{Rs:V (V RS)}{rv:V Y}{wr:G}
theorem LI.keep{w':G}(h:LI w UB n mk lo lr O Rs rv wr)(a:ag wr w'):LI w UB n mk lo lr O Rs rv w':=
 ⟨bH h.oo λk b=>a.block k (bn h.oo k b).2,bH h.ro λk b=>a.block k (bn h.ro k b).2,h.len,λi v r c d=>⟨bH (h.ring i v r c d).1 λk b=>a.block k (bn (h.ring i v r c d).1 k b).2,(h.ring i v r c d).2⟩,dp a h.used,h.ub,h.below.trans<|a.mono h.below.size⟩
theorem lm{w:G}{base size:Nat}{e:TypeId}{v:Y}{m:Nat}{xs:V Y}(h:w.ownsRow base e size v m xs){U:Nat}{c:Array Y}{T:TypeId}{f:Nat×Nat}(d:w.heap[U]?=K (.cells c T f))(b:T≠e):v.ownBlock≠K U:=λq=>by
 obtain⟨g,z,a⟩:=Lj h U q;rw[d] at a;injection a with a;injection a with _ a;exact b a
theorem LI.set(h:LI w UB n mk lo lr O Rs rv wr){k:Nat}(f:k<n):LI w UB n (λj=>mk j||decide (j=k)) lo lr O Rs rv (wr.setCell ⟨UB,k,Z⟩<|aC aP):=by
 have a:∀j,j≠UB->(wr.setCell ⟨UB,k,Z⟩<|aC aP).heap[j]?=wr.heap[j]?:=λj b=>bY b _;refine⟨bH h.oo λj b=>a j λe=>lm h.oo h.used ae (e▸b),bH h.ro λj b=>a j λe=>lm h.ro h.used ae (e▸b),h.len,λi v r c d=>⟨bH (h.ring i v r c d).1 λj b=>a j λe=>lm (h.ring i v r c d).1 h.used ae (e▸b),(h.ring i v r c d).2⟩,?_,h.ub,h.below.setCell h.ub _⟩;rw[apM h.used,aho n mk f]
theorem LI.IA(h:LI w UB n mk lo lr O Rs rv wr)(s:RS)(o:Obj){g' cap':Nat}{w8:G}(d:(wr.alloc o).grownBy w8 lo.ownBlock)
  (g:w8.ownsRow w.heap.size 265 14 (D (K ⟨g',0,Z⟩) (O.length+1) cap') (O.length+1) (eA O++(rA s).toList))(c:lo.ownBlock=K g'\/g'=wr.heap.size+1):
  LI w UB n mk (D (K ⟨g',0,Z⟩) (O.length+1) cap') lr (O++[s]) Rs rv w8:=by
 have b:=λk a f=>kC d k a f;refine⟨?_,bH h.ro λk a=>b k (bn h.ro k a).2<|λe=>own_ne h.oo h.ro ae k a e.symm,h.len,λi v r q t=>?_,?_,h.ub,?_⟩
 .rw[vA,bG];exact g
 .obtain⟨l,m⟩:=h.ring i v r q t;refine⟨bH l λk a=>b k (bn l k a).2<|m k a,λk a e=>?_⟩;have p:g'=k:=by simpa[Value.ownBlock] using e
  subst p;rcases c with c|c
  .exact m _ a c
  .have:=(bn l _ a).2;omega
 .exact(b UB (apJ h.used)<|lm h.oo h.used ae).trans h.used
 .exact(h.below.alloc h.below.size _).grown d (by have:=h.below.size;simp;omega) (λk a=>(bn h.oo k a).1)
theorem LI.IB(h:LI w UB n mk lo lr O Rs rv wr){v:Y}{r:V RS}{B:Nat}(g:wr.ownsRow B 265 14 v r.length (eA r))(R:w.heap.size<=B)(m:∀k,lo.ownBlock=K k->k<B)(o:Obj){g' cap':Nat}{w8:G}(c:(wr.alloc o).grownBy w8 lr.ownBlock)
  (s:w8.ownsRow w.heap.size 221 1 (D (K ⟨g',0,Z⟩) (rv.length+1) cap') (rv.length+1) (rv++[v])):
  LI w UB n mk lo (D (K ⟨g',0,Z⟩) (rv.length+1) cap') O (Rs++[r]) (rv++[v]) w8:=by
 have b:=λk a p=>kC c k a p;refine⟨bH h.oo λk a=>b k (bn h.oo k a).2<|λe=>own_ne h.ro h.oo ae k a e.symm,?_,by rw[bG,bG,h.len];rfl,λi u q d f=>?_,?_,h.ub,?_⟩
 .rw[bG];exact s
 .by_cases x:i<rv.length
  .rw[dQ x] at d;rw[dQ (by rw[<-h.len];exact x)] at f;obtain⟨t,S⟩:=h.ring i u q d f;exact⟨bH t λk a=>b k (bn t k a).2<|λe=>own_ne h.ro t ae k a e.symm,S⟩
  .have l:i=rv.length:=by
    have:=(bX.1 d).1;simp at this;omega
   subst l;have P:u=v:=by simpa using d.symm
   have Q:q=r:=by rw[h.len] at f;simpa using f.symm
   subst P Q;refine⟨mQ (bH g λk a=>b k (bn g k a).2<|λe=>own_ne h.ro g ae k a e.symm) R,λk a e=>?_⟩;have:=m k e;have:=(bn g k a).1;omega
 .exact(b UB (apJ h.used)<|lm h.ro h.used ae).trans h.used
 .exact(h.below.alloc h.below.size _).grown c (by have:=h.below.size;simp;omega) (λk a=>(bn h.ro k a).1)
theorem ahp{w:G}{base:Nat}{e:TypeId}{g m cap:Nat}{L:V RS}(h:w.ownsRow base e 14 (D (K ⟨g,0,Z⟩) m cap) L.length (eA L)){k:Nat}(i:k<=L.length):w.ownsRow base e 14 (D (K ⟨g,0,Z⟩) k cap) (L.take k).length (eA<|L.take k):=by
 have e0:∀L:V RS,(eA L).length=L.length*14:=λL=>by
  induction L with
  |nil=>rfl
  |cons a L Q=>
   have:eA (a::L)=(rA a).toList++eA L:=by simp[eA]
   rw[this,bG,Q];simp[rA];omega
 have n:(eA L).take (k*14)=eA (L.take k):=by
  have:eA L=eA (L.take k)++eA (L.drop k):=by
   unfold eA;rw[<-Kx,oy]
  rw[this,List.take_left' (by rw[e0,fU];congr 1;omega)]
 have c:(L.take k).length=k:=by rw[fU];omega
 rw[c];obtain⟨R,r⟩:=h;rcases r with⟨q,_⟩|⟨p,l,b,P,t,s,S,v,x,B⟩
 .cases q
 .refine⟨by rw[e0,c],F ⟨p,l,b,?_,t,s,U,v,x,?_⟩⟩
  .injection P with d _ f;rw[d,f]
  .rw[<-n,<-B,ut];congr 1;omega
theorem LI.IC{g m cap:Nat}(h:LI w UB n mk (D (K ⟨g,0,Z⟩) m cap) lr O Rs rv wr){k:Nat}(a:k<=O.length):LI w UB n mk (D (K ⟨g,0,Z⟩) k cap) lr (O.take k) Rs rv wr:=
 ⟨ahp h.oo a,h.ro,h.len,h.ring,h.used,h.ub,h.below⟩
end
def kb(b:N.Qt):V RS->Nat->Int
 |[],_=> -1
 |s::r,k=>if s.1.1=b then(k:Int) else kb b r (k+1)
theorem ahq(b:N.Qt){O:V RS}{s:RS}(h:O[m]?=K s):kb b (O.drop m) m=if s.1.1=b then(m:Int) else kb b (O.drop<|m+1) (m+1):=by
 obtain⟨a,e⟩:=bX.1 h;rw[lU a,e];rfl
theorem T5(b:N.Qt):∀(O:V RS)(k:Nat),kb b O k= -1\/∃a:Nat,kb b O k=(a:Int)/\k<=a/\a<k+O.length
 |[],_=>j rfl
 |s::r,k=>by
  unfold kb;by_cases h:s.1.1=b
  .rw[y h];exact F ⟨k,rfl,aX _,E⟩
  .rw[X h];rcases T5 b r (k+1) with q|⟨a,c,d,e⟩
   .exact j q
   .exact F ⟨a,c,U,aq⟩
def jP(L:V RS)(s j:Nat):Bool:=decide ((bp L j).1.1=(bp L s).1.2)
def El(nx:Nat->Nat)(L:V RS)(a:(Nat->Bool)×V (V Nat))(i:Nat):(Nat->Bool)×V (V Nat):=
 if a.1 i then a else(λj=>a.1 j||(fp nx a.1 L.length [] i).contains j,a.2++(Gb.eD (jP L)<|fp nx a.1 L.length [] i).2)
def jj(nx:Nat->Nat)(L:V RS)(k:Nat):(Nat->Bool)×V (V Nat):=(List.range k).foldl (El nx L) (λ_=>aQ,[])
theorem Jr(nx:Nat->Nat)(L:V RS)(k:Nat):jj nx L (k+1)=El nx L (jj nx L k) k:=by
 unfold jj;rw[lZ,nw];rfl
theorem T6(L:V RS)(k:Nat):∀(l:V Nat)(j:Nat),kb (bp L k).1.2 (l.map<|bp L) j=fq (jP L k) l j
 |[],_=>rfl
 |a::l,j=>by
  show(if(bp L a).1.1=(bp L k).1.2 then(j:Int) else kb _ (l.map<|bp L) (j+1))=if jP L k a then(j:Int) else fq _ l (j+1);rw[T6 L k l<|j+1];unfold jP;by_cases h:(bp L a).1.1=(bp L k).1.2<;>simp[h]
theorem ahr{A:V Nat}:∀{B:V Nat},A.Nodup->(∀a∈A,a∈B)->A.length<=B.length:=by
 induction A with
 |nil=>intro B _ _;simp
 |cons a A g=>
  intro B h s;obtain⟨d,f⟩:=ux.1 h;have b:=s a E;have:=g (B:=B.erase a) f λx c=>(List.mem_erase_of_ne<|λe=>d (by rw[<-e];exact c)).2 (s x<|by simp[c]);rw[ajA b] at this;have:=ajB b;simp only[dc];omega
theorem ahs{n:Nat}{A:V Nat}(h:A.Nodup)(c:∀a∈A,a<n)(g:A.length=n)(f:k<n):A.contains k=aP:=by
 apply gP;intro q;have b:k∉A:=λm=>q<|mK.2 m;have:=ahr (A:=k::A) (B:=List.range n) (ux.2 ⟨b,h⟩) λa d=>by
  rcases bK.1 d with e|e
  .rw[e];exact gV.2 f
  .exact gV.2 (c a e)
 simp at this;omega
theorem T7(cf:Nat->Nat->Bool)(a:V Nat):(Gb.eD cf a).1.length<=a.length/\(Gb.eD cf a).2.length<=a.length:=by
 have c:∀(B:V Nat)(p:V Nat×V (V Nat)),(B.foldl (Gb.iZ cf) p).1.length<=p.1.length+B.length/\(B.foldl (Gb.iZ cf) p).2.length<=p.2.length+B.length:=by
  intro B;induction B with
  |nil=>intro p;simp
  |cons b B d=>
   intro p;have e:=d<|Gb.iZ cf p b;have f:(Gb.iZ cf p b).1.length<=p.1.length+1/\(Gb.iZ cf p b).2.length<=p.2.length+1:=by
    unfold Gb.iZ;split
    .simp only[fU,bG,E9];omega
    .simp
   simp only[ls,dc];omega
 have:=c a ([],[]);simp only[fw,ir] at this;exact this
theorem T8(nx:Nat->Nat)(mk:Nat->Bool):∀(m:Nat)(a:V Nat)(i:Nat),(fp nx mk m a i).length<=a.length+m
 |0,a,i=>by simp[fp]
 |m+1,a,i=>by
  unfold fp;split
  .omega
  .have:=T8 nx mk m (a++[i])<|nx i;simp only[bG,E9] at this;omega
theorem aht{w:G}{base size:Nat}{e:TypeId}{g cap:Nat}{xs:V Y}(h:w.ownsRow base e size (D (K ⟨g,0,Z⟩) m cap) k xs):k<=cap:=by
 rcases h.2 with⟨b,_⟩|⟨l,f,a,c,q,n,p,_⟩
 .cases b
 .injection c with _ _ d;omega
theorem T9(nx:Nat->Nat)(L:V RS):∀k,(jj nx L k).2.length<=k*L.length
 |0=>by simp[jj]
 |k+1=>by
  have:=T9 nx L k;rw[Jr];have:(k+1)*L.length=k*L.length+L.length:=Nat.succ_mul _ _;unfold El;split
  .omega
  .have:=(T7 (jP L)<|fp nx (jj nx L k).1 L.length [] k).2;have a:=T8 nx (jj nx L k).1 L.length [] k;simp only[bG,fw] at a⊢;omega
def fR(L:V RS)(D:V Nat):V RS:=D.map<|bp L
theorem bInfo:(Tryz.prog.info? 4).map (λi=>(i.zero,i.size,i.bytes))=K (K<|aC aQ,1,1):=z
theorem ahu(L:V RS)(nx:Nat->Nat)(v:Y)(w:G)(hR:cN 265 w v L)(hl:L.length<=2002000)(hsm:∀s∈L,ib s)(hnx:∀j,j<L.length->nx j<L.length/\gK L (bp L j) L.length=(nx j:Int)):
  M 140 #[v] w λe w'=>∃v',e=aJ v'/\gJ 221 (cN 265) w.heap.size v' ((jj nx L L.length).2.map<|fR L) w'/\ag w w':=by
 obtain⟨so,cap,rfl⟩:=jX hR;obtain⟨i0,hi,hz0,hz1,hz2⟩:=aH CE;have HR:=hid hR;have qj:=hid hsm;have jI:=hid hnx;have hmk:∀W:G,(Instr.makeSlice 266 (I J (L.length:Int))<|I J (L.length:Int)).run prog W=.ok (D (K ⟨W.heap.size,0,Z⟩) L.length L.length) (W.alloc<|.cells (om L.length λ_=>aQ) 4):=λW=>by
  have h:=run_make_row' (P:=prog) 266 4 (aC aQ) 1 underlying266 bInfo rfl J J L.length U U W;have e:madeCells #[aC aQ] L.length=om L.length λ_=>aQ:=by
   unfold om;apply Array.ext';rw[toList_madeCells_one];simp[List.map_const']
  rw[e] at h;exact h
 clear hR hsm hnx;go_enter func140,ntmps140;go_wp2_with fail;have tJ:H (LI w w.heap.size L.length (λ_=>aQ) (D Z 0 0) (D Z 0 0) [] [] [] (w.alloc<|.cells (om L.length λ_=>aQ) 4)):=⟨ak _ _ _ _,ak _ _ _ _,rfl,λi v r h=>by simp at h,aa _ _,aX _,dS _ _⟩;clear hmk;generalize w.alloc (.cells (om L.length λ_=>aQ) 4)=W at*
 go_loopg [3,5] L.length (λm ov iv wr=>∃(i:Nat)(rv:V Y),i+m=L.length/\iv=I J i/\H (LI w w.heap.size L.length (jj nx L i).1 (D Z 0 0) ov [] ((jj nx L i).2.map<|fR L) rv wr))
 case atStart=>exact⟨0,[],U,rfl,tJ⟩
 case round=>
  obtain⟨i,rv,him,rfl,HI⟩:=hrel;clear tJ;by_cases hlt:i<L.length
  .have iH:(i:Int)<(L.length:Int):=U;obtain⟨m1,jG⟩:=am gk;have tK:H (i+m1=L.length/\i<L.length/\m1=gk):=⟨U,hlt,jG⟩;have HST:=hid<|Jr nx L i;obtain⟨st,hst⟩:=am<|jj nx L i;have Em:(jj nx L i).2.length<=2002000*2002000:=el (T9 nx L i)<|uj U hl;rw[<-hst] at HI HST Em;obtain⟨p,R0⟩:=st;simp only at HI Em;obtain⟨Wk,zH⟩:=am<|fp nx p L.length [] i;have HWK:=hid zH.symm;have HLP:H (jj nx L (i+1)=if p i then(p,R0) else(λj=>p j||Wk.contains j,R0++(Gb.eD (jP L) Wk).2)):=by show _=_;rw[HST.o,zH];rfl
   clear him hlt jG hst HST zH;go_wp2_with fail
   go_loopg [3,6,7] L.length (λm ov lo kv wr=>∃(c:V Nat)(k:Nat)(rv:V Y),m+c.length=L.length/\kv=I J k/\k<L.length/\H (c.Nodup/\(∀a∈c,a<L.length/\p a=aQ)/\fp nx p m c k=Wk/\((c=[]->k=i)/\(c≠[]->p i=aQ))/\LI w w.heap.size L.length (λj=>p j||c.contains j) lo ov (fR L (Gb.eD (jP L) c).1) ((R0++(Gb.eD (jP L) c).2).map<|fR L) rv wr))
   case atStart=>
    refine⟨[],i,rv,E,rfl,tK.o.2.1,VU,E,HWK.o,⟨λ_=>rfl,λh=>absurd rfl h⟩,?_⟩;have h:=HI.o;simp only[List.contains_nil,xa];simpa[Gb.eD,fR] using h
   case round=>
    clear HI;obtain⟨c,k,S,hmA,rfl,hkl,HA⟩:=hrel;obtain⟨En,Eo,qd,zQ,Q⟩:=HA.o;have hkk:(k:Int)<(L.length:Int):=U;have cu:wr.cell? ⟨w.heap.size,k,Z⟩=K (aC<|p k||c.contains k):=by
     have:=apL Q.used k;rw[ahn L.length _ hkl] at this;simpa using this
    cases hu:(p k||c.contains k)
    .rw[hu] at cu;obtain⟨hu1,hu2⟩:=Bool.or_eq_false_iff.1 hu;obtain⟨m2,hm2⟩:=am gk;have xN:0<m2:=by
      rcases wS m2 with q|q
      .have:=ahs En (λa ha=>(Eo a ha).1) U hkl;rw[hu2] at this;cases this
      .exact q
     have N:H ((c++[k]).Nodup/\(∀a∈c++[k],a<L.length/\p a=aQ)/\fp nx p (m2-1) (c++[k]) (nx k)=Wk/\(c++[k]=[]->nx k=i)/\(c++[k]≠[]->p i=aQ)):=by
      refine⟨?_,λa ha=>?_,?_,λh=>by simp at h,λ_=>?_⟩
      .rw[wY];refine⟨En,E,λa ha b hb=>?_⟩;rw[cI.1 hb];intro e;rw[e] at ha;rw[mK.2 ha] at hu2;cases hu2
      .rcases dm.1 ha with q|q
       .exact Eo a q
       .rw[cI.1 q];exact⟨hkl,hu1⟩
      .obtain⟨m3,e⟩:∃m3,gk=m3+1:=⟨m2-1,U⟩;rw[e] at qd;rw[show m2-1=m3 by omega,<-qd];show _=(if(p k||c.contains k)=aP then c else fp nx p m3 (c++[k]) (nx k));rw[hu];rfl
      .cases c with
       |nil=>rw[<-zQ.1 rfl];exact hu1
       |cons a A'=>exact zQ.2 E
     have Ep:H (m2+c.length=L.length/\0<m2/\m2=gk/\(c++[k]).length=c.length+1):=⟨U,xN,hm2,E⟩;obtain⟨s,hs⟩:∃s,L[k]?=K s:=⟨_,be hkl⟩;have z:H (bp L k=s/\nx k<L.length/\gK L s L.length=(nx k:Int)/\ib s):=⟨gn hs,(jI.o k hkl).1,by have:=(jI.o k hkl).2;rw[gn hs] at this;exact this,qj.o s<|bB hs⟩;have Er:H (Gb.eD (jP L) (c++[k])=Gb.iZ (jP L) (Gb.eD (jP L) c) k):=Gb.DV _ _ _;have hLI:=Q.set hkl;have Ua:(λj=>(p j||c.contains j)||decide (j=k))=λj=>p j||(c++[k]).contains j:=by
      funext j;by_cases q1:j∈c<;>by_cases q2:j=k<;>cases p j<;>simp[q1,q2]
     rw[Ua] at hLI;obtain⟨g,yF,hX,hcs⟩:=mN HR.o U;subst yF;have HX:H (g<w.heap.size/\jt w g k s):=⟨hX,hcs k s hs⟩;obtain⟨x0,x1,x2,x3,x4,x5,x6,x7,x8,x9,qG,qH,lS,lT⟩:=HX.o.2.mv Q.below hX;have nX1:¬(g=w.heap.size):=U;have nX2:¬(w.heap.size=g):=U;have fz:=dC Q.used k;have hPL:=T7 (jP L) c;have hrl:=Q.len;rw[eK,bG] at hrl;have HAL:H (c.length<=L.length):=by show _<=_;omega
     generalize(c++[k])=A' at*;generalize Gb.eD (jP L) c=P at*;obtain⟨O,hO⟩:=am<|fR L P.1;have HO:=hid hO;have hOl:O.length<=2002000:=by rw[hO];unfold fR;rw[eK];omega
     have hrv:S.length<=2002000*2002000+2002000:=U;rw[<-hO] at hLI;have Ub:=hid hLI;have ho:=hLI.oo;have hsz:(wr.setCell ⟨w.heap.size,k,Z⟩<|aC aP).heap.size=wr.heap.size:=E;have hws:w.heap.size<=wr.heap.size:=by rw[<-hsz];exact hLI.below.size
     have hxz:g<wr.heap.size:=U;clear HA En Eo qd zQ Q hu hu1 hu2 xN Ua hs hcs hX hm2 hLI hPL hrl hO;go_wp2_with (at_builtin;refine ahm _ rfl (.tmp 34) (.tmp 39) 217 rfl w.heap.size 265 i0 _ 14 112 underlying217 hi hz0 hz1 hz2 rfl ae u6 O.length (eA O) rfl (ed ho) ⟨wr.heap.size,0,Z⟩ 1 1 [I J s.1.1.1.1,I J s.1.1.1.2,I J s.1.1.2.1,I J s.1.1.2.2,I J s.1.2.1.1,I J s.1.2.1.2,I J s.1.2.2.1,I J s.1.2.2.2,I J s.2.1.1,I J s.2.1.2,I J s.2.2.1.1,I J s.2.2.1.2,I J s.2.2.2.1,I J s.2.2.2.2] rfl rfl (aai (cs:= #[I J s.1.1.1.1,I J s.1.1.1.2,I J s.1.1.2.1,I J s.1.1.2.2,I J s.1.2.1.1,I J s.1.2.1.2,I J s.1.2.2.1,I J s.1.2.2.2,I J s.2.1.1,I J s.2.1.2,I J s.2.2.1.1,I J s.2.2.1.2,I J s.2.2.2.1,I J s.2.2.2.2]) (t:=265) (fr:=(0,0)) (by have:=aa (wr.setCell ⟨w.heap.size,k,Z⟩<|aC aP)<|.cells #[I J s.1.1.1.1,I J s.1.1.1.2,I J s.1.1.2.1,I J s.1.1.2.2,I J s.1.2.1.1,I J s.1.2.1.2,I J s.1.2.2.1,I J s.1.2.2.2,I J s.2.1.1,I J s.2.1.2,I J s.2.2.1.1,I J s.2.2.1.2,I J s.2.2.2.1,I J s.2.2.2.2] 265;rw[hsz] at this;exact this)) au ae ar U aq (wr.heap.size+1) E ?_;intro g' cap' w2 fX mO o jW);have F9:H (LI w w.heap.size L.length (λj=>p j||A'.contains j) (D (K ⟨g',0,Z⟩) (O.length+1) cap') u3 (O++[s]) ((R0++P.2).map<|fR L) S w2):=Ub.o.IA s _ mO fX (by rw[hsz];exact o);have pY:H (O++[s]=fR L (P.1++[k])):=by show _=_;rw[HO.o];unfold fR;rw[fy,<-z.o.1];rfl
     have vG:H (kb s.1.2 (O++[s]) 0=gD (jP L k) (P.1++[k])):=by show _=_;rw[pY.o];unfold fR;rw[<-z.o.1];exact T6 L k _ 0
     obtain⟨B,BN⟩:=am<|O++[s];have ahC:B.length=O.length+1:=by rw[BN];simp
     rw[<-BN] at F9 pY vG;have R:H (B.length=O.length+1/\O.length<=2002000):=⟨ahC,hOl⟩;have Uc:=hid<|HX.o.2.mv F9.o.below HX.o.1;clear BN fX mO o jW ho Ub x0 x1 x2 x3 x4 x5 x6 x7 x8 x9 qG qH lS lT nX1 nX2 fz cu hsz hws hxz
     go_loopg [8,9] (O.length+1) (λm fv nv wr=>m<=O.length+1/\nv=I J ((m:Int)-1)/\fv=I J (kb s.1.2 (B.drop m) m)/\H (ag w2 wr))
     case atStart=>exact⟨aX _,by congr 1;omega,by rw[qK U];rfl,Below.refl _ _⟩
     case round=>
      obtain⟨qp,rfl,rfl,HB⟩:=hrel;rcases wS gk with hg0|hg0
      .have zd:kb s.1.2 (B.drop gk) gk=kb s.1.2 B 0:=by rw[hg0];rfl
       have kT:((gk:Int)-1)= -1:=U;rw[zd,kT];have HL3:=hid<|F9.o.keep HB.o;have HFL:=T5 s.1.2 B 0;generalize kb s.1.2 B 0=FF at*;clear qp hg0 zd kT F9 HB Uc;rcases HFL with hF|⟨f,hF,_,hf2⟩
       .subst hF;have HST:H (Gb.eD (jP L) A'=(P.1++[k],P.2)):=by
         show _=_;rw[Er.o];unfold Gb.iZ;rw[<-vG.o];rfl
        clear vG Er;have zS:=hid<|fk (gf _) HR.o HL3.o.below;have HNC:H (∀w1,cN 265 w1 (D (K ⟨g,0,Z⟩) L.length cap) L->M 187 #[D (K ⟨g,0,Z⟩) L.length cap,u<|rA s] w1 (ai (I J (nx k:Int)) w1)):=λw1 h1=>by
         have:=TS L s _ w1 h1 U qj.o z.o.2.2.2;rw[z.o.2.2.1] at this;exact this
        simp only[rA] at HNC;obtain⟨x0,x1,x2,x3,x4,x5,x6,x7,x8,x9,qG,qH,lS,lT⟩:=HX.o.2.mv HL3.o.below HX.o.1;go_wp2_with fail;refine(HNC.o _ zS.o).mono ?_;rintro e w6 ⟨rfl,Ek⟩;have HL6:=HL3.o.keep Ek;clear x0 x1 x2 x3 x4 x5 x6 x7 x8 x9 qG qH lS lT zS HNC HL3 Ek;go_wp2_with fail;go_roundg (m2-1)
        case measure=>have:=Ep.o;omega
        case rel=>
         refine⟨A',nx k,S,by have:=Ep.o;omega,rfl,z.o.2.1,N.o.1,N.o.2.1,N.o.2.2.1,N.o.2.2.2,?_⟩;rw[HST.o];show LI _ _ _ _ _ _ (fR L<|P.1++[k]) ((R0++P.2).map<|fR L) _ _;rw[<-pY.o];exact HL6
       .subst hF;have HST:H (Gb.eD (jP L) A'=((P.1++[k]).take f,P.2++[(P.1++[k]).drop f])):=by
         show _=_;rw[Er.o];unfold Gb.iZ;rw[<-vG.o,y U,qJ]
        clear vG Er;have HF:H (f<=O.length):=by have:=R.o;show _<=_;omega
        have zd:(0:Int)<=(f:Int):=U;clear hf2;go_wp2_with fail;obtain⟨W3,hW3⟩:=am wr;have zT:H (LI w w.heap.size L.length (λj=>p j||A'.contains j) (D (K ⟨g',0,Z⟩) (O.length+1) cap') u3 B ((R0++P.2).map<|fR L) S W3):=by rw[hW3];exact HL3
        go_loopg [10,11] (O.length+1) (λm gv nv wr=>∃q:Nat,q+m=O.length+1+f/\f<=q/\q<=O.length+1/\nv=I J q/\H (eZ 265 W3 gv ((B.drop f).take<|q-f) wr))
        case atStart=>exact⟨f,U,aX _,by have:=HF.o;omega,rfl,by rw[Nat.sub_self,VD];exact ak _ _ _ _,by rw[hW3];exact Below.refl _ _⟩
        case round=>
         obtain⟨q,Js,Jt,Ud,rfl,HG⟩:=hrel;clear hW3 HL3;by_cases Ju:q<O.length+1
         .obtain⟨d,hd⟩:∃d,B[q]?=K d:=⟨_,be (by have:=R.o;omega)⟩;obtain⟨l,nW,hY,hys⟩:=mN zT.o.oo (by have:=R.o;omega);have Jv:g'=l:=by injection nW with e;injection e
          subst Jv;obtain⟨y0,y1,y2,y3,y4,y5,y6,y7,y8,y9,Ji,Jj,Jk,y13⟩:=(hys q d hd).mv HG.o.dg hY;have HV:H ((B.drop f).take (q+1-f)=(B.drop f).take (q-f)++[d]):=by
           show _=_;rw[show q+1-f=(q-f)+1 by omega,fg,xe,show f+(q-f)=q by omega,hd];rfl
          have hkq:(q:Int)<(((O.length+1:Nat)):Int):=U;have Ue:(q:Int)<(O.length:Int)+1:=U;have Es:H (q+gk=O.length+1+f/\f<=q/\q<O.length+1):=⟨Js,Jt,Ju⟩;have wz:((B.drop f).take<|q-f).length<=2002001:=by
           have:=R.o;simp only[fU,jQ];omega
          generalize(B.drop f).take (q-f)=T at*;have ho:=HG.o.own;have hws:=HG.o.dg.size;clear hys hY nW hd Js Jt Ud Ju;go_wp2_with (at_builtin;refine nE rfl CE underlying221 (ed ho) (aa _ _) (wr.heap.size+1) ?_;intro g2 cap2 w8 fX mO o jW);have Jw:H (eZ 265 W3 (D (K ⟨g2,0,Z⟩) (T.length+1) cap2) ((B.drop f).take<|q+1-f) w8):=by
           show eZ _ _ _ _ _;rw[HV.o];exact HG.o.pR mO (by rw[vA,bG];exact fX)
          clear mO fX ho o jW y0 y1 y2 y3 y4 y5 y6 y7 y8 y9 Ji Jj Jk y13;go_wp2_with fail;go_roundg (gk-1)
          case measure=>have:=Es.o;omega
          case rel=>exact⟨q+1,by have:=Es.o;omega,by have:=Es.o;omega,by have:=Es.o;omega,af,Jw⟩
         .have hqe:q=O.length+1:=U;subst hqe;have zU:H (eZ 265 W3 u10 (B.drop f) wr):=by
           have h:=HG.o;rw[ku (by have:=R.o;rw[jQ];omega)] at h;exact h
          have zV:=hid<|zT.o.keep zU.o.dg;obtain⟨DD,Jx⟩:=am<|B.drop f;have rq:=hid Jx;rw[<-Jx] at zU;clear Jx;obtain⟨gs,gc,rfl⟩:=jX zU.o.own;have hcap:=aht zV.o.oo;have hfc:(f:Int)<=(cap':Int):=by have:=HF.o;have:=R.o;omega
          have Ue:¬((O.length:Int)+1<(O.length:Int)+1):=U;have ho:=zV.o.ro;have hws:=zV.o.below.size;have hcut:f<=B.length:=by have:=HF.o;have:=R.o;omega
          have Uf:=λk hk=>(bn zT.o.oo k hk).2;clear Js Jt Ud Ju HG;go_wp2_with (at_builtin;refine nE rfl Jq underlying219 (ed ho) (aa _ _) (wr.heap.size+1) ?_;intro g2 cap2 w8 fX mO o jW;have Et:H (LI w w.heap.size L.length (λj=>p j||A'.contains j) (D (K ⟨g',0,Z⟩) f cap') (D (K ⟨g2,0,Z⟩) (S.length+1) cap2) (B.take f) ((R0++P.2).map (fR L)++[DD]) (S++[D gs DD.length gc]) w8):=((zV.o.IB zU.o.own zT.o.below.size Uf _ mO fX).IC hcut);obtain⟨x0,x1,x2,x3,x4,x5,x6,x7,x8,x9,qG,qH,lS,lT⟩:=HX.o.2.mv Et.o.below HX.o.1);clear fX mO o jW ho zV zU zT hws hcut Uf;have zS:H (cN 265 w8 (D (K ⟨g,0,Z⟩) L.length cap) L):=fk (gf _) HR.o Et.o.below;have HNC:H (∀w1,cN 265 w1 (D (K ⟨g,0,Z⟩) L.length cap) L->M 187 #[D (K ⟨g,0,Z⟩) L.length cap,u<|rA s] w1 (ai (I J (nx k:Int)) w1)):=λw1 h1=>by
           have:=TS L s _ w1 h1 U qj.o z.o.2.2.2;rw[z.o.2.2.1] at this;exact this
          simp only[rA] at HNC;refine(HNC.o _ zS.o).mono ?_;rintro e w9 ⟨rfl,zC⟩;have HL9:=Et.o.keep zC;clear x0 x1 x2 x3 x4 x5 x6 x7 x8 x9 qG qH lS lT zS HNC Et zC;go_wp2_with fail;go_roundg (m2-1)
          case measure=>have:=Ep.o;omega
          case rel=>
           refine⟨A',nx k,S++[D gs DD.length gc],by have:=Ep.o;omega,rfl,z.o.2.1,N.o.1,N.o.2.1,N.o.2.2.1,N.o.2.2.2,?_⟩;rw[HST.o];have e1:fR L ((P.1++[k]).take f)=B.take f:=by rw[pY.o];unfold fR;rw[KB]
           have e2:(R0++(P.2++[(P.1++[k]).drop f])).map (fR L)=(R0++P.2).map (fR L)++[DD]:=by
            rw[rq.o,pY.o,<-ep,fy];unfold fR;rw[List.map_singleton,List.map_drop]
           show LI _ _ _ _ _ _ (fR L<|(P.1++[k]).take f) ((R0++(P.2++[(P.1++[k]).drop f])).map<|fR L) _ _;rw[e1,e2];exact HL9
      .obtain⟨q,hq⟩:∃q,gk=q+1:=⟨gk-1,U⟩;have kT:((gk:Int)-1)=(q:Int):=U;obtain⟨d,hd⟩:∃d,B[q]?=K d:=⟨_,be (by have:=R.o;omega)⟩;have Eu:H (kb s.1.2 (B.drop q) q=if d.1.1=s.1.2 then(q:Int) else kb s.1.2 (B.drop gk) gk):=by show _=_;rw[ahq _ hd,hq]
       obtain⟨l,nW,hY,hys⟩:=mN F9.o.oo (by have:=R.o;omega);have Jv:g'=l:=by injection nW with e;injection e
       subst Jv;obtain⟨y0,y1,y2,y3,_⟩:=(hys q d hd).mv HB.o hY;obtain⟨_,_,_,_,x4,x5,x6,x7,_⟩:=Uc.o.mv HB.o<|bg HX.o.1 F9.o.below.size;have q1:∀w1,(Op.equalIn 10000 100 (u #[I J d.1.1.1.1,I J d.1.1.1.2,I J d.1.1.2.1,I J d.1.1.2.2])<|u #[I J s.1.2.1.1,I J s.1.2.1.2,I J s.1.2.2.1,I J s.1.2.2.2]).run prog w1=.ok (decide (d.1.1=s.1.2)) w1:=λw1=>q_in d.1.1 s.1.2 w1;have hkq:(q:Int)<(((O.length+1:Nat)):Int):=U;have Ue:(q:Int)<(O.length:Int)+1:=U;have wq:J.wrap ((q:Int)-1)=(q:Int)-1:=by rw[ah];have:=R.o;omega
       have HG:H (gk=q+1/\q<=O.length):=⟨hq,U⟩;generalize kb s.1.2 (B.drop gk) gk=FF at*;rw[kT];clear hys hY nW hd hq kT qp hg0;generalize hF:decide (d.1.1=s.1.2)=F at*;cases F
       .have HV:H (kb s.1.2 (B.drop q) q=FF):=by show _=_;rw[Eu.o,X<|Kr hF]
        clear hF Eu;go_wp2_with fail;go_region_held3 (λw'=>apS w' g' (q*14) (I J d.1.1.1.1) (I J d.1.1.1.2) (I J d.1.1.2.1) (I J d.1.1.2.2)/\w'.cell? ⟨g,k*14+4,Z⟩=K (I J s.1.2.1.1)/\w'.cell? ⟨g,k*14+5,Z⟩=K (I J s.1.2.1.2)/\w'.cell? ⟨g,k*14+6,Z⟩=K (I J s.1.2.2.1)/\w'.cell? ⟨g,k*14+7,Z⟩=K (I J s.1.2.2.2)) (go_keep) (fail);go_wp2_with fail;go_roundg q
        case measure=>have:=HG.o;omega
        case rel=>exact⟨by have:=HG.o;omega,rfl,by rw[HV.o],HB.o.drew⟩
       .have HV:H (kb s.1.2 (B.drop q) q=(q:Int)):=by show _=_;rw[Eu.o,y<|ft hF]
        clear hF Eu;go_wp2_with fail;go_region_held3 (λw'=>apS w' g' (q*14) (I J d.1.1.1.1) (I J d.1.1.1.2) (I J d.1.1.2.1) (I J d.1.1.2.2)/\w'.cell? ⟨g,k*14+4,Z⟩=K (I J s.1.2.1.1)/\w'.cell? ⟨g,k*14+5,Z⟩=K (I J s.1.2.1.2)/\w'.cell? ⟨g,k*14+6,Z⟩=K (I J s.1.2.2.1)/\w'.cell? ⟨g,k*14+7,Z⟩=K (I J s.1.2.2.2)) (go_keep) (fail);go_wp2_with fail;go_roundg q
        case measure=>have:=HG.o;omega
        case rel=>exact⟨by have:=HG.o;omega,rfl,by rw[HV.o],HB.o.drew⟩
    .rw[hu] at cu;have hW:Wk=c:=by
      rw[<-qd];cases hg:gk with
      |zero=>rfl
      |succ m=>show(if(p k||c.contains k)=aP then c else _)=c;rw[hu];rfl
     have HN:H (LI w w.heap.size L.length (jj nx L<|i+1).1 (D Z 0 0) u3 [] ((jj nx L<|i+1).2.map<|fR L) S wr):=by
      show LI _ _ _ _ _ _ _ _ _ _;have h0:LI w w.heap.size L.length (λj=>p j||c.contains j) (D Z 0 0) u3 [] ((R0++(Gb.eD (jP L) c).2).map<|fR L) S wr:=⟨ak _ _ _ _,Q.ro,Q.len,λi v r h1 h2=>⟨(Q.ring i v r h1 h2).1,λk hk e=>by cases e⟩,Q.used,Q.ub,Q.below⟩;rw[HLP.o,hW];cases hm:p i
      .exact h0
      .have hAn:c=[]:=by
        cases c with
        |nil=>rfl
        |cons a A'=>
         have:=zQ.2 E;rw[hm] at this;cases this
       subst hAn;simpa[Gb.eD] using h0
     clear HA En Eo qd zQ Q;go_wp2_with fail;go_roundg (m1-1)
     case measure=>have:=tK.o;omega
     case rel=>exact⟨i+1,S,by have:=tK.o;omega,af,HN⟩
  .have hk:i=L.length:=U;subst hk;clear him hlt;go_wp2_with fail;go_ret;exact⟨_,rfl,⟨rv,by rw[HI.o.len],by rw[<-HI.o.len];exact HI.o.ro,λj n x hu hx=>iF (HI.o.ring j n x hu hx).1⟩,HI.o.below⟩
end
end Go.Proofs.YtkjhhooecopolaaGreatDoor
