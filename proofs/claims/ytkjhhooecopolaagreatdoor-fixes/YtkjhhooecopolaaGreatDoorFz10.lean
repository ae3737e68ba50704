import Derived.Test.YtkjhhooecopolaaGreatDoorFz09
set_option maxRecDepth 100000
set_option maxHeartbeats 4000000
namespace Go.Proofs.YtkjhhooecopolaaGreatDoor
open Go.Proofs.Tryz
open Value renaming int->I,complex->A,agg->u,bool->aC,string->aD,slice->D
open IntKind renaming i64->J
open Ending renaming returned->aJ
open Go renaming World->G,Value->Y
open Option renaming some->K,none->Z
open Bool renaming true->aP,false->aQ
section
open Go.RowKit
variable{pv ev:Array Y}{w wr wr' w':G}{l out:V N.Qt}{ov xL:Y}
def ij(l:V N.Qt):V Y:=l.flatMap λp=>(qA p).toList
def dq(w:G)(v:Y)(l:V N.Qt):Prop:=w.ownsRow 0 100 4 v l.length<|ij l
theorem Mp:∀(l:V N.Qt)(k:Nat)(e:N.Qt),l[k]?=K e->∀j,j<4->(ij l)[k*4+j]?=(qA e)[j]?
 |[],_,_,h,_,_=>by simp at h
 |q::r,0,e,h,j,b=>by
  simp at h;subst h;have a:ij (q::r)=(qA q).toList++ij r:=by simp[ij]
  rw[a,dQ (by simp[qA];omega)];simp
 |q::r,k+1,e,h,j,b=>by
  have d:=Mp r k e (by simpa using h) j b;have a:ij (q::r)=(qA q).toList++ij r:=by simp[ij]
  rw[a,jc (by simp[qA];omega)];have c:(k+1)*4+j-(qA q).toList.length=k*4+j:=by simp[qA];omega
  rw[c,d]
theorem Bz(l:V N.Qt)(e:N.Qt):ij (l++[e])=ij l++(qA e).toList:=by simp[ij]
theorem nQ{v:Y}(h:dq w v l):∃e cap,v=D e l.length cap:=by
 rcases h.2 with⟨a,d⟩|⟨b,cap,c,a,_⟩
 .exact⟨Z,0,by rw[a,d]⟩
 .exact⟨_,cap,a⟩
theorem tt{so:Option Addr}{n cap:Nat}(h:dq w (D so n cap) l){k:Nat}{e:N.Qt}(m:l[k]?=K e):
  ∃b,so=K ⟨b,0,Z⟩/\b<w.heap.size/\w.cell? ⟨b,k*4,Z⟩=K (I J e.1.1)/\w.cell? ⟨b,k*4+1,Z⟩=K (I J e.1.2)/\w.cell? ⟨b,k*4+2,Z⟩=K (I J e.2.1)/\w.cell? ⟨b,k*4+3,Z⟩=K (I J e.2.2):=by
 have g:=Mp l k e m;obtain⟨b,c,d,f,a⟩:=rf h<|g 0 U;injection d with d;exact⟨b,d,f,a _ _<|g 0 U,a _ _<|g 1 U,a _ _<|g 2 U,a _ _<|g 3 U⟩
theorem kU:kR [100] dq:=λw w' v x h c=>tc h λk a b=>c k a _ b E
theorem vc:(Tryz.prog.info? 100).map (λi=>(i.zero,i.size,i.bytes))=K (K<|u #[I J 0,I J 0,I J 0,I J 0],4,32):=z
namespace N
theorem Mq{p:Qt}:∀{a:V Qt},(∀q∈a,pc q p<0)->ins p a=a++[p]
 |[],_=>rfl
 |q::a,h=>by
  have b:=h q E;unfold ins;rw[X U,y b,Mq<|λx c=>h x<|by simp[c]];rfl
theorem Mr{p q:Qt}{c:V Qt}(d:0<pc q p):∀{a:V Qt},(∀q∈a,pc q p<0)->ins p (a++q::c)=a++p::q::c
 |[],_=>by
  show ins p (q::c)=_;unfold ins;rw[X U,X U];rfl
 |r::a,h=>by
  have b:=h r E;show ins p (r::(a++q::c))=_;unfold ins;rw[X U,y b,Mr d<|λx e=>h x<|by simp[e]];rfl
theorem Ms{p q:Qt}{c:V Qt}(b:pc q p=0):∀{a:V Qt},(∀q∈a,pc q p<0)->ins p (a++q::c)=a++q::c
 |[],_=>by
  show ins p (q::c)=_;unfold ins;rw[y b];rfl
 |r::a,h=>by
  have d:=h r E;show ins p (r::(a++q::c))=_;unfold ins;rw[X U,y d,Ms b<|λx e=>h x<|by simp[e]];rfl
def Wi(p:Qt)(l:V Qt)(k:Nat)(done:Bool)(b:V Qt):Prop:=
 (done=aQ/\(∀q∈l.take k,pc q p<0)/\b=l.take k)\/(done=aP/\∃a q c,l.take k=a++q::c/\(∀q∈a,pc q p<0)/\0<pc q p/\b=a++p::q::c)
theorem Wi.fin{p:Qt}{l out:V Qt}{done:Bool}(h:Wi p l l.length done out):(done=aP/\out=ins p l)\/(done=aQ/\out++[p]=ins p l):=by
 unfold Wi at h;rw[dV] at h;rcases h with⟨b,d,rfl⟩|⟨b,a,q,c,rfl,d,e,rfl⟩
 .exact F ⟨b,(Mq d).symm⟩
 .exact j ⟨b,(Mr e d).symm⟩
theorem BA{l:V Qt}{k:Nat}{q:Qt}(h:l[k]?=K q):l.take (k+1)=l.take k++[q]:=by
 obtain⟨a,b⟩:=bX.1 h;rw[lV a,b]
theorem Wi.eq{p q:Qt}{l out:V Qt}{k:Nat}{done:Bool}(Q:∀q∈l,dD q)(P:dD p)(x:iG l)(h:Wi p l k done out)(n:l[k]?=K q)(g:pc q p=0):ins p l=l:=by
 have m:l=l.take k++q::l.drop (k+1):=by
  obtain⟨d,B⟩:=bX.1 n
  conv=>lhs;rw[<-oy k l,lU d,B]
 rcases h with⟨_,t,_⟩|⟨_,a,r,c,s,_,R,_⟩
 .rw[m];exact Ms g t
 .exfalso;have f:lt r q:=by
   have b:=x;rw[m,s] at b;unfold iG at b;rw[ep,lW] at b;have v:=(sB.1 b).2.1;exact(fF.1 v).1 q E
  have e:=L8 (Q q<|bB n) P g;subst e;unfold lt at f;omega
theorem Wi.low{p q:Qt}{l out:V Qt}{k:Nat}{done:Bool}(B:∀q∈l,dD q)(o:dD p)(Q:iG l)(h:Wi p l k done out)(f:l[k]?=K q)(s:pc q p<0):done=aQ/\Wi p l (k+1) aQ (out++[q]):=by
 rcases h with⟨t,v,rfl⟩|⟨t,a,r,c,d,v,u,_⟩
 .refine⟨t,j ⟨rfl,?_,(BA f).symm⟩⟩;rw[BA f];intro x e;rcases dm.1 e with e|e
  .exact v x e
  .rw[cI.1 e];exact s
 .exfalso;have S:l=l.take k++q::l.drop (k+1):=by
   obtain⟨g,R⟩:=bX.1 f
   conv=>lhs;rw[<-oy k l,lU g,R]
  have n:lt r q:=by
   have b:=Q;rw[S,d] at b;unfold iG at b;rw[ep,lW] at b;have P:=(sB.1 b).2.1;exact(fF.1 P).1 q E
  have m:dD r:=B r<|kP (i:=k) (by rw[d];simp);have:=lt_trans m (B q<|bB f) o n s;unfold lt at this;omega
theorem Wi.high{p q:Qt}{l out:V Qt}{k:Nat}{done:Bool}(h:Wi p l k done out)(e:l[k]?=K q)(f:0<pc q p):Wi p l (k+1) aP (if done then out++[q] else(out++[p])++[q]):=by
 rcases h with⟨rfl,d,rfl⟩|⟨rfl,a,r,c,b,d,g,rfl⟩
 .exact F ⟨rfl,l.take k,q,[],BA e,d,f,E⟩
 .exact F ⟨rfl,a,r,c++[q],by rw[BA e,b];simp,d,g,E⟩
theorem Wi.len{p:Qt}{l out:V Qt}{k:Nat}{done:Bool}(h:Wi p l k done out):out.length<=k+1:=by
 rcases h with⟨_,_,rfl⟩|⟨_,a,r,c,b,_,_,rfl⟩
 .simp;omega
 .have:=bd List.length b;simp at this⊢;omega
end N
def WI(w:G)(c:Array Y)(b:Y)(a:V N.Qt)(wr:G):Prop:=
 wr.ownsRow (w.heap.size+1) 100 4 b a.length (ij a)/\ag w wr/\w.heap.size<wr.heap.size/\wr.heap[w.heap.size]?=K (.cells c 100 (0,0))
theorem WI.below(h:WI w pv ov out wr)(a:ag wr wr'):WI w pv ov out wr':=by
 obtain⟨b,c,d,e⟩:=h;exact⟨bH b λk f=>a.block k (bn b k f).2,c.trans<|a.mono c.size,bg d a.size,(a.block _ d).trans e⟩
theorem WI.drew(h:WI w pv ov out wr):WI w pv ov out wr.drew:=
 ⟨bH h.1 λ_ _=>rfl,h.2.1.drew,h.2.2.1,h.2.2.2⟩
theorem WI.grown{W5 w6:G}{out':V N.Qt}{o:Obj}(h:WI w pv ov out W5)(b:(W5.alloc o).grownBy w6 ov.ownBlock)
  (l:w6.ownsRow (w.heap.size+1) 100 4 xL out'.length (ij out')):WI w pv xL out' w6:=by
 obtain⟨c,a,d,f⟩:=h;have:=b.size;have:W5.heap.size+1<=w6.heap.size:=by
  have:(W5.alloc o).heap.size=W5.heap.size+1:=E;omega
 refine⟨l,⟨b.os.trans a.os,b.tape.trans a.tape,b.output.trans a.output,?_,λk g=>?_⟩,U,?_⟩
 .have:=a.size;omega
 .have:=a.size;exact(kC b k U<|jo c k U).trans<|a.block k g
 .exact(kC b _ d<|jo c _ U).trans f
theorem XR(l:V N.Qt)(P:N.Qt)(t x B Q:Int)(hPe:P=((t,x),(B,Q)))(v:Y)(w:G)(hR:dq w v l)(hl:l.length<=100000000)(hin:∀q∈l,cS q)(hp:cS P)(hrl:∀q∈l,N.dD q)(vd:N.dD P)(ahG:N.iG l):
  M 83 #[v,u #[I J t,I J x,I J B,I J Q]] w λe w'=>∃v',e=aJ v'/\dq w' v' (N.ins P l)/\ag w w':=by
 obtain⟨so,cap,rfl⟩:=nQ hR;have HR:=hid hR;have xM:H (∀q∈l,∀w1,M 47 #[u #[I J q.1.1,I J q.1.2,I J q.2.1,I J q.2.2],u #[I J t,I J x,I J B,I J Q]] w1 (ai (I J<|N.pc q P) w1)):=λq hq w1=>by
  have:=Bu q P w1 (hin q hq) hp;rw[hPe] at this⊢;exact this
 have HA:H ((∀q∈l,N.dD q)/\N.dD P/\N.iG l):=⟨hrl,vd,ahG⟩;have zZ:H (ij [P]=[I J t,I J x,I J B,I J Q]):=by rw[hPe];rfl
 clear hR hin hp hrl vd ahG hPe;have gh:H (WI w #[I J t,I J x,I J B,I J Q] (D Z 0 0) [] (w.alloc<|.cells #[I J t,I J x,I J B,I J Q] 100)):=⟨ak _ _ _ _,aj _ _,E,aa _ _⟩;go_enter func83,ntmps83;go_wp2_with fail
 go_loopg [5,6,7] l.length (λm ov dv iv wr=>∃(k:Nat)(done:Bool)(a:V N.Qt),k+m=l.length/\iv=I J k/\dv=aC done/\H (N.Wi P l k done a/\WI w #[I J t,I J x,I J B,I J Q] ov a wr))
 case atStart=>exact⟨0,aQ,[],U,rfl,rfl,j ⟨rfl,E,E⟩,gh.o⟩
 case round=>
  obtain⟨k,done,a,tq,rfl,rfl,F⟩:=hrel;have f:=F.o.2.2.1;have y:=F.o.2.2.2.1;have R:=F.o.2.2.2.2;have hol:=F.o.1.len;obtain⟨q0,q1,q2,q3⟩:=ajG R;clear gh R;by_cases hlt:k<l.length
  .obtain⟨q,hq⟩:∃q,l[k]?=K q:=⟨_,be hlt⟩;obtain⟨b,rfl,hb,c0,c1,c2,c3⟩:=tt HR.o hq;obtain⟨r0,r1,r2,r3⟩:=ajE f hb c0 c1 c2 c3;have i:=bg hb f.size;have iH:(k:Int)<(l.length:Int):=U;have GH:=xM.o q<|bB hq;have HC3:=hid GH;have HQ:=hid hq;clear c0 c1 c2 c3 hq GH;obtain⟨S,hS⟩:∃S,N.pc q P=S:=⟨_,rfl⟩;have HS:=hid hS;rw[hS] at HC3;clear hS;obtain⟨⟨O,T⟩,W,X⟩:=q;simp only at r0 r1 r2 r3 HC3;go_wp2_with fail;go_region_held3 (λw'=>apS w' b (k*4) (I J O) (I J T) (I J W) (I J X)/\apQ w' w.heap.size (I J t) (I J x) (I J B) (I J Q)) (go_keep) (first |(go_at_call 47;refine(HC3.o _).mono ?_;rintro e' w7 ⟨rfl,p⟩;obtain⟨s0,s1,s2,s3⟩:=ajE p i r0 r1 r2 r3;obtain⟨t0,t1,t2⟩:=ajD p y q0 q1 q2;have t3:=(aR p q3 y)));have c:H (N.Wi P l k done a/\WI w #[I J t,I J x,I J B,I J Q] u5 a w7):=⟨F.o.1,F.o.2.drew.below p⟩;clear r0 r1 r2 r3 q0 q1 q2 q3 p F f i y;have s:b<w7.heap.size:=by
    have:=c.o.2.2.1.size;omega
   rcases dG S 0 with hs|hs|hs
   .obtain⟨hd,hW⟩:=c.o.1.low HA.o.1 HA.o.2.1 HA.o.2.2 HQ.o (by rw[HS.o];exact hs);subst hd;have HW:=hid hW;have d:=c.o.2.1;have Mt:=c.o.2.2.2.1;clear hW;go_wp2_with (at_builtin;refine ii rfl vc underlying92 (ed d) (aa _ _) ?_;intro g' n z r g o);have HN:H (N.Wi P l (k+1) aQ (a++[((O,T),(W,X))])/\WI w #[I J t,I J x,I J B,I J Q] (D (K ⟨g',0,Z⟩) (a.length+1) n) (a++[((O,T),(W,X))]) z):=⟨HW.o,c.o.2.grown g (by rw[Bz,bG];exact r)⟩;clear r g d c;go_roundg (gk-1)
    case measure=>omega
    case rel=>exact⟨k+1,aQ,_,U,af,rfl,HN⟩
   .subst hs;have HE:=hid<|c.o.1.eq HA.o.1 HA.o.2.1 HA.o.2.2 HQ.o HS.o;go_wp2_with fail;go_ret;refine⟨_,rfl,?_,c.o.2.2.1⟩;rw[HE.o];exact fk kU HR.o c.o.2.2.1
   .have hW:=c.o.1.high HQ.o (by rw[HS.o];exact hs);have d:=c.o.2.1;have Mt:=c.o.2.2.2.1;cases done
    .have HW:=hid hW;clear hW;go_wp2_with (first
      |(at_builtin;refine ii rfl vc underlying92 (ed d) (aa _ _) ?_;intro g' n z r g o;have y0:z.cell? ⟨b,k*4,Z⟩=K (I J O):=(g.cell_far ⟨b,k*4,Z⟩ aq<|lu<|jo d b U).trans<|(gw _ _ s).trans s0;have y1:z.cell? ⟨b,k*4+1,Z⟩=K (I J T):=(g.cell_far ⟨b,k*4+1,Z⟩ aq<|lu<|jo d b U).trans<|(gw _ _ s).trans s1;have y2:z.cell? ⟨b,k*4+2,Z⟩=K (I J W):=(g.cell_far ⟨b,k*4+2,Z⟩ aq<|lu<|jo d b U).trans<|(gw _ _ s).trans s2;have y3:z.cell? ⟨b,k*4+3,Z⟩=K (I J X):=(g.cell_far ⟨b,k*4+3,Z⟩ aq<|lu<|jo d b U).trans<|(gw _ _ s).trans s3;have L:H (WI w #[I J t,I J x,I J B,I J Q] (D (K ⟨g',0,Z⟩) (a.length+1) n) (a++[P]) z):=c.o.2.grown g (by rw[show ij (a++[P])=ij a++ij [P] by simp[ij],zZ.o,bG];exact r);have BB:z.ownsRow (w.heap.size+1) 100 4 (D (K ⟨g',0,Z⟩) (a.length+1) n) (a++[P]).length (ij<|a++[P]):=L.o.1;have XS:=L.o.2.2.1;have XT:(a++[P]).length=a.length+1:=E)
      |(at_builtin;refine ii rfl vc underlying92 (ed BB) (aa _ _) ?_;intro g2 cap2 w9 ahH ahI ajZ))
     have HN:H (N.Wi P l (k+1) aP (a++[P]++[((O,T),(W,X))])/\WI w #[I J t,I J x,I J B,I J Q] (D (K ⟨g2,0,Z⟩) (a.length+1+1) cap2) (a++[P]++[((O,T),(W,X))]) w9):=⟨HW.o,L.o.grown ahI (by
      have h:=ahH;rw[XT] at h;rw[Bz,show(a++[P]++[((O,T),(W,X))]).length=a.length+1+1 by simp];exact h)⟩
     clear ahH ahI BB L r g d c;go_roundg (gk-1)
     case measure=>omega
     case rel=>exact⟨k+1,aP,_,U,af,rfl,HN⟩
    .have HW:=hid hW;clear hW;go_wp2_with (at_builtin;refine ii rfl vc underlying92 (ed d) (aa _ _) ?_;intro g' n z r g o);have HN:H (N.Wi P l (k+1) aP (a++[((O,T),(W,X))])/\WI w #[I J t,I J x,I J B,I J Q] (D (K ⟨g',0,Z⟩) (a.length+1) n) (a++[((O,T),(W,X))]) z):=⟨HW.o,c.o.2.grown g (by rw[Bz,bG];exact r)⟩;clear r g d c;go_roundg (gk-1)
     case measure=>omega
     case rel=>exact⟨k+1,aP,_,U,af,rfl,HN⟩
  .have hk:k=l.length:=U;subst hk;have hf:=F.o.1.fin;have d:=F.o.2.1;cases done
   .have HF:H (a++[P]=N.ins P l):=by
     rcases hf with⟨h,_⟩|⟨_,h⟩
     .cases h
     .exact h
    clear hf;go_wp2_with (at_builtin;refine ii rfl vc underlying92 (ed d) (aa _ _) ?_;intro g' n z r g o);go_ret;refine⟨_,rfl,?_,(f.alloc f.size _).grown g aq (λk hk=>by have:=(bn d k hk).1;omega)⟩;rw[<-HF.o];have e:ij (a++[P])=ij a++ij [P]:=by simp[ij]
    unfold dq;rw[e,zZ.o,bG];exact iF r
   .have HF:H (a=N.ins P l):=by
     rcases hf with⟨_,h⟩|⟨h,_⟩
     .exact h
     .cases h
    clear hf;go_wp2_with fail;go_ret;refine⟨_,rfl,?_,f⟩;rw[<-HF.o];exact iF d
theorem XU(l:V N.Qt)(p:N.Qt)(v:Y)(w:G)(g:dq w v l)(h:l.length<=100000000)(b:∀q∈l,cS q)(k:cS p)(c:∀q∈l,N.dD q)(d:N.dD p)(a:N.iG l):
  M 83 #[v,u<|qA p] w λe w'=>∃f,e=aJ f/\dq w' f (N.ins p l)/\ag w w':=
 XR l p _ _ _ _ rfl v w g h b k c d a
namespace N
def cH(e f:O×O):Int:=(e.2.1-e.1.1)*(f.2.2-f.1.2)-(e.2.2-e.1.2)*(f.2.1-f.1.1)
def mT(e f:O×O):Int:=(f.1.1-e.1.1)*(f.2.2-f.1.2)-(f.1.2-e.1.2)*(f.2.1-f.1.1)
def mX(e f:O×O):Int:=e.1.1*cH e f+(e.2.1-e.1.1)*mT e f
def mY(e f:O×O):Int:=e.1.2*cH e f+(e.2.2-e.1.2)*mT e f
def eF(e f:O×O):Qt:=(bu (mX e f)<|cH e f,bu (mY e f)<|cH e f)
end N
theorem XV(a b c d Q R L N x P y z f T P1 P2 P3 P4:Int)(w:G)
  (H1:H (∀w1,M 135 #[u #[I J a,I J b,I J c,I J d]] w1 λe w'=>e=aJ (I J x)/\Below w1.heap.size w1 w'))
  (H2:H (∀w1,M 137 #[u #[I J a,I J b,I J c,I J d]] w1 λe w'=>e=aJ (I J P)/\Below w1.heap.size w1 w'))
  (H3:H (∀w1,M 135 #[u #[I J Q,I J R,I J L,I J N]] w1 λe w'=>e=aJ (I J y)/\Below w1.heap.size w1 w'))
  (H4:H (∀w1,M 137 #[u #[I J Q,I J R,I J L,I J N]] w1 λe w'=>e=aJ (I J z)/\Below w1.heap.size w1 w'))
  (H5:H (∀w1,M 46 #[I J (a*f+x*T),I J f] w1 λe w'=>e=aJ (u #[I J P1,I J P2])/\Below w1.heap.size w1 w'))
  (H6:H (∀w1,M 46 #[I J (b*f+P*T),I J f] w1 λe w'=>e=aJ (u #[I J P3,I J P4])/\Below w1.heap.size w1 w'))
  (v1:J.wrap (x*z)=x*z)(v2:J.wrap (P*y)=P*y)(v3:J.wrap (x*z-P*y)=f)
  (v4:J.wrap (Q-a)=Q-a)(v5:J.wrap (R-b)=R-b)(v6:J.wrap ((Q-a)*z)=(Q-a)*z)(v7:J.wrap ((R-b)*y)=(R-b)*y)
  (v8:J.wrap ((Q-a)*z-(R-b)*y)=T)(v9:J.wrap (a*f)=a*f)(v10:J.wrap (x*T)=x*T)(v11:J.wrap (a*f+x*T)=a*f+x*T)
  (v12:J.wrap (b*f)=b*f)(v13:J.wrap (P*T)=P*T)(v14:J.wrap (b*f+P*T)=b*f+P*T):
  M 138 #[u #[I J a,I J b,I J c,I J d],u #[I J Q,I J R,I J L,I J N]] w λe w'=>e=aJ (u #[I J P1,I J P2,I J P3,I J P4])/\Below w.heap.size w w':=by
 obtain⟨W,hW⟩:=am<|((w.alloc<|.cells #[I J a,I J b,I J c,I J d] 151).alloc<|.cells #[I J Q,I J R,I J L,I J N] 151).alloc<|.cells #[I J 0,I J 0,I J 0,I J 0] 100;have hE:W.heap[w.heap.size]?=K (.cells #[I J a,I J b,I J c,I J d] 151 (0,0)):=by
  rw[hW,ad _ _ _ aq,ad _ _ _ E];exact aa _ _
 have hF:W.heap[w.heap.size+1]?=K (.cells #[I J Q,I J R,I J L,I J N] 151 (0,0)):=by
  rw[hW,ad _ _ _ E];have:=aa (w.alloc<|.cells #[I J a,I J b,I J c,I J d] 151)<|.cells #[I J Q,I J R,I J L,I J N] 151;simpa using this
 have hP:W.heap[w.heap.size+2]?=K (.cells #[I J 0,I J 0,I J 0,I J 0] 100 (0,0)):=by
  rw[hW];have:=aa ((w.alloc<|.cells #[I J a,I J b,I J c,I J d] 151).alloc<|.cells #[I J Q,I J R,I J L,I J N] 151)<|.cells #[I J 0,I J 0,I J 0,I J 0] 100;simpa using this
 have hb0:Below w.heap.size w W:=by
  rw[hW];exact(((Below.refl _ _).alloc (aX _) _).alloc E _).alloc aq _
 have hsz:w.heap.size+3=W.heap.size:=by rw[hW];simp
 go_enter func138,ntmps138;go_wp2_with fail;rw[<-hW];clear hW;generalize hB:w.heap.size=B at*;have xV:B<W.heap.size:=U;have hzb:B+1<W.heap.size:=U;obtain⟨z0,z1,z2,z3⟩:=ajG hE;obtain⟨z4,z5,z6,z7⟩:=ajG hF;have Mu:B+2<W.heap.size:=U;have XW:=hP;clear hE hF hP;go_region_held3 (λw'=>apQ w' B (I J a) (I J b) (I J c) (I J d)/\apQ w' (B+1) (I J Q) (I J R) (I J L) (I J N)) (go_keep) (first
   |(go_at_call_of 135 (u #[I J a,I J b,I J c,I J d]);refine(H1.o _).mono ?_;rintro e w1 ⟨rfl,k⟩;have O:B<w1.heap.size:=bg xV k.size;have vh:B+1<w1.heap.size:=bg hzb k.size;obtain⟨f0,f1,f2,f3⟩:=ajE k xV z0 z1 z2 z3;obtain⟨f4,f5,f6,f7⟩:=ajE k hzb z4 z5 z6 z7;have hfc:B+2<w1.heap.size:=bg Mu k.size;have XX:=(k.block (B+2) Mu).trans XW)
   |(go_at_call_of 137 (u #[I J Q,I J R,I J L,I J N]);refine(H4.o _).mono ?_;rintro e w2 ⟨rfl,l⟩;have V:B<w2.heap.size:=bg O l.size;have hgb:B+1<w2.heap.size:=bg vh l.size;obtain⟨g0,g1,g2,g3⟩:=ajE l O f0 f1 f2 f3;obtain⟨g4,g5,g6,g7⟩:=ajE l vh f4 f5 f6 f7;have Mv:B+2<w2.heap.size:=bg hfc l.size;have xN:=(l.block (B+2) hfc).trans XX)
   |(go_at_call_of 137 (u #[I J a,I J b,I J c,I J d]);refine(H2.o _).mono ?_;rintro e w3 ⟨rfl,m⟩;have X:B<w3.heap.size:=bg V m.size;have vi:B+1<w3.heap.size:=bg hgb m.size;obtain⟨h0,h1,h2,h3⟩:=ajE m V g0 g1 g2 g3;obtain⟨h4,h5,h6,h7⟩:=ajE m hgb g4 g5 g6 g7;have Mw:B+2<w3.heap.size:=bg Mv m.size;have XY:=(m.block (B+2) Mv).trans xN)
   |(go_at_call_of 135 (u #[I J Q,I J R,I J L,I J N]);refine(H3.o _).mono ?_;rintro e w4 ⟨rfl,n⟩;have ty:B<w4.heap.size:=bg X n.size;have hib:B+1<w4.heap.size:=bg vi n.size;obtain⟨i0,i1,i2,i3⟩:=ajE n X h0 h1 h2 h3;obtain⟨i4,i5,i6,i7⟩:=ajE n vi h4 h5 h6 h7;have hic:B+2<w4.heap.size:=bg Mw n.size;have XZ:=(n.block (B+2) Mw).trans XY))
 have hL4:=((((hb0.drew.trans<|k.mono<|du xV).trans<|l.mono<|du O).trans<|m.mono<|du V).trans<|n.mono<|du X);go_wp2_with fail;go_region_held3 (λw'=>apQ w' B (I J a) (I J b) (I J c) (I J d)/\apQ w' (B+1) (I J Q) (I J R) (I J L) (I J N)) (go_keep) (first
   |(go_at_call_of 137 (u #[I J Q,I J R,I J L,I J N]);refine(H4.o _).mono ?_;rintro e w5 ⟨rfl,p⟩;have hja:B<w5.heap.size:=bg ty p.size;have hjb:B+1<w5.heap.size:=bg hib p.size;obtain⟨j0,j1,j2,j3⟩:=ajE p ty i0 i1 i2 i3;obtain⟨j4,j5,j6,j7⟩:=ajE p hib i4 i5 i6 i7;have Mx:B+2<w5.heap.size:=bg hic p.size;have X0:=(p.block (B+2) hic).trans XZ)
   |(go_at_call_of 135 (u #[I J Q,I J R,I J L,I J N]);refine(H3.o _).mono ?_;rintro e w6 ⟨rfl,q⟩;have hka:B<w6.heap.size:=bg hja q.size;have hkb:B+1<w6.heap.size:=bg hjb q.size;obtain⟨k0,k1,k2,k3⟩:=ajE q hja j0 j1 j2 j3;obtain⟨k4,k5,k6,k7⟩:=ajE q hjb j4 j5 j6 j7;have hkc:B+2<w6.heap.size:=bg Mx q.size;have rh:=(q.block (B+2) Mx).trans X0))
 have X4:=(hL4.drew.trans<|p.mono<|du ty).trans<|q.mono<|du hja;have BC:¬(B+1+1=B):=U;have y0:=dC rh 0;have y1:=dC rh 1;have y2:=dC rh 2;have y3:=dC rh 3;go_wp2_with fail;go_region_held3 (λw'=>w'.cell? ⟨B,0,Z⟩=K (I J a)/\w'.cell? ⟨B,1,Z⟩=K (I J b)/\w'.cell? ⟨B,2,Z⟩=K (I J c)/\w'.cell? ⟨B,3,Z⟩=K (I J d)/\w'.cell? ⟨B+1,0,Z⟩=K (I J Q)/\w'.cell? ⟨B+1,1,Z⟩=K (I J R)/\w'.cell? ⟨B+1,2,Z⟩=K (I J L)/\w'.cell? ⟨B+1,3,Z⟩=K (I J N)/\w'.frozen? ⟨B+2,0,Z⟩=aQ/\w'.frozen? ⟨B+2,1,Z⟩=aQ/\w'.frozen? ⟨B+2,2,Z⟩=aQ/\w'.frozen? ⟨B+2,3,Z⟩=aQ) (first |go_keep|(go_split_ands;refine⟨?_,?_,?_,?_,?_,?_,?_,?_,?_,?_,?_,?_⟩<;>first |(simp[World.frozen?_setCell, *];done)|(simp[*];done))) (first
   |(go_at_call_of 135 (u #[I J a,I J b,I J c,I J d]);refine(H1.o _).mono ?_;rintro e w7 ⟨rfl,r⟩;have hla:B<w7.heap.size:=bg hka r.size;have hlb:B+1<w7.heap.size:=bg hkb r.size;obtain⟨l0,l1,l2,l3⟩:=ajE r hka k0 k1 k2 k3;obtain⟨l4,l5,l6,l7⟩:=ajE r hkb k4 k5 k6 k7;have hlc:B+2<w7.heap.size:=bg hkc r.size;have S:=(r.block (B+2) hkc).trans rh;have lq0:=bz S;have lz0:=dC S 0;have lq1:=bw S;have lz1:=dC S 1;have lq2:=bQ S;have lz2:=dC S 2;have lq3:=bV S;have lz3:=dC S 3)
   |(go_at_call_of 46 (I J<|a*f+x*T);refine(H5.o _).mono ?_;rintro e w8 ⟨rfl,s⟩;have hma:B<w8.heap.size:=bg hla s.size;have hmb:B+1<w8.heap.size:=bg hlb s.size;obtain⟨m0,m1,m2,m3⟩:=ajE s hla l0 l1 l2 l3;obtain⟨m4,m5,m6,m7⟩:=ajE s hlb l4 l5 l6 l7;have My:B+2<w8.heap.size:=bg hlc s.size;have i:=(s.block (B+2) hlc).trans S;have mq0:=bz i;have X7:=dC i 0;have mq1:=bw i;have X8:=dC i 1;have mq2:=bQ i;have X9:=dC i 2;have mq3:=bV i;have Ya:=dC i 3)
   |(go_at_call_of 137 (u #[I J a,I J b,I J c,I J d]);refine(H2.o _).mono ?_;rintro e w9 ⟨rfl,t⟩;have hna:B<w9.heap.size:=bg hma t.size;have hnb:B+1<w9.heap.size:=bg hmb t.size;obtain⟨n0,n1,n2,n3⟩:=ajE t hma m0 m1 m2 m3;obtain⟨n4,n5,n6,n7⟩:=ajE t hmb m4 m5 m6 m7;have hnc:B+2<w9.heap.size:=bg My t.size;have j:=(t.block (B+2) My).trans i;have nq0:=bz j;have nz0:=dC j 0;have nq1:=bw j;have nz1:=dC j 1;have nq2:=bQ j;have nz2:=dC j 2;have nq3:=bV j;have nz3:=dC j 3)
   |(go_at_call_of 46 (I J (b*f+P*T));refine(H6.o _).mono ?_;rintro e F ⟨rfl,g⟩;have hoa:B<F.heap.size:=bg hna g.size;have hob:B+1<F.heap.size:=bg hnb g.size;obtain⟨o0,o1,o2,o3⟩:=ajE g hna n0 n1 n2 n3;obtain⟨o4,o5,o6,o7⟩:=ajE g hnb n4 n5 n6 n7;have Bh:B+2<F.heap.size:=bg hnc g.size;have o:=(g.block (B+2) hnc).trans j;have Yb:=bz o;have Yc:=dC o 0;have Yd:=bw o;have Ye:=dC o 1;have Yf:=bQ o;have Yg:=dC o 2;have Yh:=bV o;have Yi:=dC o 3))
 go_wp2_with fail;have Yj:=(((X4.drew.trans<|r.mono<|du hka).trans<|s.mono<|du hla).trans<|t.mono<|du hma).trans<|g.mono<|du hna;refine ab (v:=u #[I J P1,I J P2,I J P3,I J P4]) (by simp[results,results138,go_sem,Yb,Yd,Yf,Yh]) rfl ⟨rfl,?_⟩;rw[hB];exact(((Yj.setCell aq _).setCell aq _).setCell aq _).setCell aq _
theorem Yk(e f:Ed)(w:G)(i:cM e)(j:cM f)(v:N.cH e f≠0):
  M 138 #[u (jq e),u<|jq f] w (ai (u<|qA<|N.eF e f) w):=by
 obtain⟨g,k,n,p⟩:=i;obtain⟨l,m,q,s⟩:=j;have d:∀{x y:Int},small x->small y-> -100<=y-x/\y-x<=100:=λE F=>by unfold small at*;omega
 have P:=d g n;have Q:=d k p;have R:=d l q;have S:=d m s;have o:=d g l;have A:=d k m;have:=ee (a:=100) (b:=100) P S;have:=ee (a:=100) (b:=100) Q R;have:=ee (a:=100) (b:=100) o S;have:=ee (a:=100) (b:=100) A R;have:N.cH e f=(e.2.1-e.1.1)*(f.2.2-f.1.2)-(e.2.2-e.1.2)*(f.2.1-f.1.1):=rfl;have:N.mT e f=(f.1.1-e.1.1)*(f.2.2-f.1.2)-(f.1.2-e.1.2)*(f.2.1-f.1.1):=rfl;have t: -20000<=N.cH e f/\N.cH e f<=20000:=U;have B: -20000<=N.mT e f/\N.mT e f<=20000:=U;have:=ee (a:=50) (b:=20000) g t;have:=ee (a:=100) (b:=20000) P B;have:=ee (a:=50) (b:=20000) k t;have:=ee (a:=100) (b:=20000) Q B;have c:∀{z:Int}, -9223372036854775808<=z->z<=9223372036854775807->J.wrap z=z:=λC D=>by rw[ah];omega
 have h:=XV e.1.1 e.1.2 e.2.1 e.2.2 f.1.1 f.1.2 f.2.1 f.2.2 (e.2.1-e.1.1) (e.2.2-e.1.2) (f.2.1-f.1.1) (f.2.2-f.1.2) (N.cH e f) (N.mT e f) (N.eF e f).1.1 (N.eF e f).1.2 (N.eF e f).2.1 (N.eF e f).2.2 w
  (λw1=>pZ _ _ _ _ w1 g n) (λw1=>qZ _ _ _ _ w1 k p) (λw1=>pZ _ _ _ _ w1 l q) (λw1=>qZ _ _ _ _ w1 m s)
  (λw1=>xH _ _ w1 v U U) (λw1=>xH _ _ w1 v U U)
  (c U U) (c U U) (by rw[c U U];rfl) (c U U) (c U U) (c U U) (c U U) (by rw[c U U];rfl)
  (c U U) (c U U) (c U U) (c U U) (c U U) (c U U)
 exact h
namespace N
def hq(p:Qt)(e:O×O):Bool:=fo (p.1.1*p.2.2,p.2.1*p.1.2) (p.1.2*p.2.2) e
def pt(a:O):Qt:=((a.1,1),(a.2,1))
def dM(e:O×O)(a:V Qt)(f:O×O):V Qt:=
  if cH e f=0 then
    (let b:=if hq (pt f.1) e then ins (pt f.1) a else a
     if hq (pt f.2) e then ins (pt f.2) b else b)
  else if hq (eF e f) e&&hq (eF e f) f then ins (eF e f) a else a
def gz(l:V (O×O))(e:O×O):V Qt:=l.foldl (dM e)<|ins (pt e.2)<|ins (pt e.1) []
theorem iw(a:O):dD (pt a):=⟨⟨by show(0:Int)<1;decide,by show Int.gcd a.1 1=1;exact Kh ..⟩,⟨by show(0:Int)<1;decide,by show Int.gcd a.2 1=1;exact Kh ..⟩⟩
theorem BE{e f:O×O}(h:cH e f≠0):dD (eF e f):=⟨lG h,lG h⟩
theorem lI(p:Qt):∀l:V Qt,(ins p l).length<=l.length+1
 |[]=>by simp[ins]
 |q::l=>by
  have:=lI p l;unfold ins;split
  .simp
  .split<;>simp<;>omega
end N
structure Good(l:V N.Qt):Prop where
 bm:∀q∈l,cS q
 red:∀q∈l,N.dD q
 kF:N.iG l
theorem Good.ins{p:N.Qt}(h:Good l)(b:cS p)(a:N.dD p):Good (N.ins p l):=
 ⟨λq c=>by
  rcases(N.nO a h.red q).1 c with e|e
  .rw[e];exact b
  .exact h.bm q e,N.mh a h.red,N.qc a h.red h.kF⟩
theorem Yl:Good []:=⟨λq h=>by simp at h,λq h=>by simp at h,List.Pairwise.nil⟩
theorem tu{a:Int×Int}(b:small a.1)(c:small a.2):cS (N.pt a):=by
 unfold small at b c;exact⟨by show -10000000<=a.1/\a.1<=10000000;omega,by show(0:Int)<1/\(1:Int)<=1000000;omega,by show -10000000<=a.2/\a.2<=10000000;omega,by show(0:Int)<1/\(1:Int)<=1000000;omega⟩
theorem BF{n d:Int}(a:d≠0)(k: -10000000<=n/\n<=10000000)(f: -1000000<=d/\d<=1000000):(-10000000<=(N.bu n d).1/\(N.bu n d).1<=10000000)/\(0<(N.bu n d).2/\(N.bu n d).2<=1000000):=by
 obtain⟨g,h,c,e,_⟩:=N.kE (n:=n) a;have:=(N.lG (n:=n) a).pos;have b:1<=g.natAbs:=U;have:(N.bu n d).1.natAbs<=n.natAbs:=by
  conv=>rhs;rw[c]
  rw[kz];exact Kj _ b
 have:(N.bu n d).2.natAbs<=d.natAbs:=by
  conv=>rhs;rw[e]
  rw[kz];exact Kj _ b
 omega
theorem Gf{e f:Ed}(P:cM e)(Q:cM f):(-20000<=N.cH e f/\N.cH e f<=20000)/\(-3000000<=N.mX e f/\N.mX e f<=3000000)/\(-3000000<=N.mY e f/\N.mY e f<=3000000):=by
 obtain⟨d,g,s,t⟩:=P;obtain⟨k,l,v,B⟩:=Q;have c:∀{x y:Int},small x->small y-> -100<=y-x/\y-x<=100:=λi j=>by unfold small at*;omega
 have n:=c d s;have p:=c g t;have q:=c k v;have r:=c l B;have R:=c d k;have S:=c g l;have:=ee (a:=100) (b:=100) n r;have:=ee (a:=100) (b:=100) p q;have:=ee (a:=100) (b:=100) R r;have:=ee (a:=100) (b:=100) S q;have:N.cH e f=(e.2.1-e.1.1)*(f.2.2-f.1.2)-(e.2.2-e.1.2)*(f.2.1-f.1.1):=rfl;have:N.mT e f=(f.1.1-e.1.1)*(f.2.2-f.1.2)-(f.1.2-e.1.2)*(f.2.1-f.1.1):=rfl;have h: -20000<=N.cH e f/\N.cH e f<=20000:=U;have m: -20000<=N.mT e f/\N.mT e f<=20000:=U;have:=ee (a:=50) (b:=20000) d h;have:=ee (a:=100) (b:=20000) n m;have:=ee (a:=50) (b:=20000) g h;have:=ee (a:=100) (b:=20000) p m;refine⟨h,?_,?_⟩
 .unfold N.mX;omega
 .unfold N.mY;omega
theorem Ym{e f:Ed}(d:cM e)(g:cM f)(a:N.cH e f≠0):cS (N.eF e f):=by
 obtain⟨h,k,l⟩:=Gf d g;have b:=BF (n:=N.mX e f) a U U;have c:=BF (n:=N.mY e f) a U U;exact⟨b.1,b.2,c.1,c.2⟩
theorem Yn(p:N.Qt)(a:cS p):oK p.1.1 p.1.2 p.2.1 p.2.2 (p.1.1*p.2.2) (p.2.1*p.1.2) (p.1.2*p.2.2):=
 ⟨a,⟨p.2.2,a.yd.1,dw ..,dw ..⟩,⟨p.1.2,a.xd.1,dw ..,rfl⟩⟩
theorem BG(p:N.Qt)(e:Ed)(w:G)(b:cS p)(a:cM e):
  M 80 #[u (jq e),u<|qA p] w (ai (aC<|N.hq p e) w):=
 Bt e p.1.1 p.1.2 p.2.1 p.2.2 _ _ _ w a (Yn p b)
def CI(w:G)(b:Array Y)(c:Y)(a:V N.Qt)(wr:G):Prop:=
 dq wr c a/\Good a/\ag w wr/\w.heap.size<wr.heap.size/\wr.heap[w.heap.size]?=K (.cells b 151 (0,0))
theorem CI.below(h:CI w ev ov out wr)(a:ag wr wr'):CI w ev ov out wr':=by
 obtain⟨d,e,b,c,f⟩:=h;exact⟨fk kU d a,e,b.trans<|a.mono b.size,bg c a.size,(a.block _ c).trans f⟩
theorem CI.put{p:N.Qt}(h:CI w ev ov out wr)(a:ag wr wr')(k:dq wr' xL (N.ins p out))(g:cS p)(b:N.dD p):CI w ev xL (N.ins p out) wr':=by
 obtain⟨l,e,c,d,f⟩:=h;exact⟨k,e.ins g b,c.trans<|a.mono c.size,bg d a.size,(a.block _ d).trans f⟩
theorem vg(h:CI w ev ov out wr)(p:N.Qt)(d:cS p)(a:N.dD p)(g:out.length<=100000000):
  M 83 #[ov,u<|qA p] wr λe w'=>∃b,e=aJ b/\CI w ev b (N.ins p out) w'/\ag wr w':=by
 refine(XU out p ov wr h.1 g h.2.1.bm d h.2.1.red a h.2.1.kF).mono ?_;rintro e w' ⟨b,rfl,f,c⟩;exact⟨b,rfl,h.put c f d a,c⟩
theorem xT(e:Ed)(a:V N.Qt)(f:Ed):(N.dM e a f).length<=a.length+2:=by
 unfold N.dM;split
 .have b:=N.lI (N.pt f.1) a;have:=N.lI (N.pt f.2)<|N.ins (N.pt f.1) a;have:=N.lI (N.pt f.2) a;dsimp only;split<;>split<;>omega
 .have b:=N.lI (N.eF e f) a;split<;>omega
theorem YO(l:V Ed)(e:Ed)(v:Y)(w:G)(hR:je w v l)(hl:l.length<=1000)(hs:∀f∈l,cM f)(he:cM e):
  M 82 #[v,u<|jq e] w λr w'=>∃v',r=aJ v'/\dq w' v' (N.gz l e)/\Good (N.gz l e)/\Below w.heap.size w w':=by
 obtain⟨so,cap,rfl⟩:=uY hR;have HR:H (je w (D so l.length cap) l):=hR;have HS:H (∀f∈l,cM f):=hs;have HE:H (cM e):=he;have qe:H (∀w1,M 136 #[u #[I J e.1.1,I J e.1.2]] w1 λr w'=>r=aJ (u<|qA<|N.pt e.1)/\Below w1.heap.size w1 w'):=λw1=>Bv e.1.1 e.1.2 w1;have qf:H (∀w1,M 136 #[u #[I J e.2.1,I J e.2.2]] w1 λr w'=>r=aJ (u<|qA<|N.pt e.2)/\Below w1.heap.size w1 w'):=λw1=>Bv e.2.1 e.2.2 w1;have MJ:H (cS (N.pt e.1)/\cS (N.pt e.2)):=⟨tu he.a he.b,tu he.c he.d⟩;have gh:H (CI w (jq e) (D Z 0 0) [] (w.alloc<|.cells (jq e) 151)):=⟨iF<|ak _ 0 _ _,Yl,(Below.refl _ _).alloc (aX _) _,E,aa _ _⟩;simp only[jq] at gh⊢;go_enter func82,ntmps82;go_wp2_with fail;generalize w.alloc (.cells #[I J e.1.1,I J e.1.2,I J e.2.1,I J e.2.2] 151)=W at*;refine(qe.o _).mono ?_;rintro r w1 ⟨rfl,i⟩;have YP:H (CI w #[I J e.1.1,I J e.1.2,I J e.2.1,I J e.2.2] (D Z 0 0) [] w1):=gh.o.below i;go_wp2_with fail;refine(vg YP.o (N.pt e.1) MJ.o.1 (N.iw _) E).mono ?_;rintro r w2 ⟨v2,rfl,h2,_⟩;have YQ:H (CI w #[I J e.1.1,I J e.1.2,I J e.2.1,I J e.2.2] v2 (N.ins (N.pt e.1) []) w2):=h2;have xU:=h2.2.2.2.2;have c2:=bQ xU;have c3:=bV xU;go_wp2_with fail;refine(qf.o _).mono ?_;rintro r w3 ⟨rfl,j⟩;have YR:H (CI w #[I J e.1.1,I J e.1.2,I J e.2.1,I J e.2.2] v2 (N.ins (N.pt e.1) []) w3):=YQ.o.below j;go_wp2_with fail;refine(vg YR.o (N.pt e.2) MJ.o.2 (N.iw _) (by have:=N.lI (N.pt e.1) [];simp at this;omega)).mono ?_;rintro r w4 ⟨v4,rfl,h4,_⟩;have MK:H (CI w #[I J e.1.1,I J e.1.2,I J e.2.1,I J e.2.2] v4 (N.ins (N.pt e.2)<|N.ins (N.pt e.1) []) w4/\(N.ins (N.pt e.2)<|N.ins (N.pt e.1) []).length<=2):=⟨h4,by
  have h1:=N.lI (N.pt e.1) [];have h2:=N.lI (N.pt e.2) (N.ins (N.pt e.1) []);simp at h1;omega⟩
 have Gm:H (N.gz l e=l.foldl (N.dM e) (N.ins (N.pt e.2)<|N.ins (N.pt e.1) [])):=rfl;generalize N.ins (N.pt e.2) (N.ins (N.pt e.1) [])=o at*
 go_wp2_with fail
 go_loopg [5,6] l.length (λm ov iv wr=>∃k:Nat,k+m=l.length/\iv=I J k/\H (CI w #[I J e.1.1,I J e.1.2,I J e.2.1,I J e.2.2] ov ((l.take k).foldl (N.dM e) o) wr/\((l.take k).foldl (N.dM e) o).length<=2+2*k))
 case atStart=>exact⟨0,U,rfl,MK.o.1,MK.o.2⟩
 case round=>
  obtain⟨k,tq,rfl,HB⟩:=hrel;have F7:=HB.o.1.2.2.1;by_cases hlt:k<l.length
  .obtain⟨f,hf⟩:∃f,l[k]?=K f:=⟨_,be hlt⟩;obtain⟨b,rfl,hb,c0,c1,c2,c3⟩:=xI HR.o hf;obtain⟨r0,r1,r2,r3⟩:=ajE F7 hb c0 c1 c2 c3;have iH:(k:Int)<(l.length:Int):=U;have T:H (cM f):=HS.o f<|bB hf;have YS:(l.take<|k+1).foldl (N.dM e) o=N.dM e ((l.take k).foldl (N.dM e) o) f:=by
    obtain⟨h1,h2⟩:=bX.1 hf;rw[lV h1,h2,nw];rfl
   have HT:H ((l.take<|k+1).foldl (N.dM e) o=N.dM e ((l.take k).foldl (N.dM e) o) f):=YS;have hlen:=HB.o.2;generalize(l.take k).foldl (N.dM e) o=O at*;have H1:H (∀w1,M 135 #[u #[I J e.1.1,I J e.1.2,I J e.2.1,I J e.2.2]] w1 λr w'=>r=aJ (I J<|e.2.1-e.1.1)/\Below w1.heap.size w1 w'):=λw1=>pZ _ _ _ _ w1 HE.o.a HE.o.c;have H2:H (∀w1,M 137 #[u #[I J e.1.1,I J e.1.2,I J e.2.1,I J e.2.2]] w1 λr w'=>r=aJ (I J<|e.2.2-e.1.2)/\Below w1.heap.size w1 w'):=λw1=>qZ _ _ _ _ w1 HE.o.b HE.o.d;have H3:H (∀w1,M 135 #[u #[I J f.1.1,I J f.1.2,I J f.2.1,I J f.2.2]] w1 λr w'=>r=aJ (I J<|f.2.1-f.1.1)/\Below w1.heap.size w1 w'):=λw1=>pZ _ _ _ _ w1 T.o.a T.o.c;have H4:H (∀w1,M 137 #[u #[I J f.1.1,I J f.1.2,I J f.2.1,I J f.2.2]] w1 λr w'=>r=aJ (I J<|f.2.2-f.1.2)/\Below w1.heap.size w1 w'):=λw1=>qZ _ _ _ _ w1 T.o.b T.o.d;have jH:∀{x d:Int},small x->small d-> -100<=d-x/\d-x<=100:=λhx hy=>by unfold small at*;omega
   have x1:=jH HE.o.a HE.o.c;have x2:=jH HE.o.b HE.o.d;have x3:=jH T.o.a T.o.c;have x4:=jH T.o.b T.o.d;have m1: -10000<=(e.2.1-e.1.1)*(f.2.2-f.1.2)/\(e.2.1-e.1.1)*(f.2.2-f.1.2)<=10000:=ee (a:=100) (b:=100) x1 x4;have m2: -10000<=(e.2.2-e.1.2)*(f.2.1-f.1.1)/\(e.2.2-e.1.2)*(f.2.1-f.1.1)<=10000:=ee (a:=100) (b:=100) x2 x3;have v1:J.wrap ((e.2.1-e.1.1)*(f.2.2-f.1.2))=(e.2.1-e.1.1)*(f.2.2-f.1.2):=by rw[ah];omega
   have v2:J.wrap ((e.2.2-e.1.2)*(f.2.1-f.1.1))=(e.2.2-e.1.2)*(f.2.1-f.1.1):=by rw[ah];omega
   have tw:H (CI w #[I J e.1.1,I J e.1.2,I J e.2.1,I J e.2.2] u5 O (wr.alloc<|.cells #[I J f.1.1,I J f.1.2,I J f.2.1,I J f.2.2] 151)):=HB.o.1.below<|(Below.refl _ _).alloc (aX _) _;have tx:=aa wr<|.cells #[I J f.1.1,I J f.1.2,I J f.2.1,I J f.2.2] 151;have hzb:wr.heap.size<(wr.alloc<|.cells #[I J f.1.1,I J f.1.2,I J f.2.1,I J f.2.2] 151).heap.size:=E;go_wp2_with fail;generalize wr.alloc (.cells #[I J f.1.1,I J f.1.2,I J f.2.1,I J f.2.2] 151)=W0 at*;generalize wr.heap.size=c at*;have xV:=tw.o.2.2.2.1;have hEb:=tw.o.2.2.2.2;obtain⟨z0,z1,z2,z3⟩:=ajG hEb;obtain⟨z4,z5,z6,z7⟩:=ajG tx;go_region_held3 (λw'=>apQ w' w.heap.size (I J e.1.1) (I J e.1.2) (I J e.2.1) (I J e.2.2)/\apQ w' c (I J f.1.1) (I J f.1.2) (I J f.2.1) (I J f.2.2)) (go_keep) (first
     |(go_at_call_of 135 (u #[I J e.1.1,I J e.1.2,I J e.2.1,I J e.2.2]);refine(H1.o _).mono ?_;rintro r' w1' ⟨rfl,i⟩;have xW:w.heap.size<w1'.heap.size:=bg xV i.size;have vh:c<w1'.heap.size:=bg hzb i.size;obtain⟨f0,f1,f2,f3⟩:=ajE i xV z0 z1 z2 z3;obtain⟨f4,f5,f6,f7⟩:=ajE i hzb z4 z5 z6 z7;have YT:=(i.block c hzb).trans tx)
     |(go_at_call_of 137 (u #[I J f.1.1,I J f.1.2,I J f.2.1,I J f.2.2]);refine(H4.o _).mono ?_;rintro r' w2' ⟨rfl,z⟩;have xX:w.heap.size<w2'.heap.size:=bg xW z.size;have hgb:c<w2'.heap.size:=bg vh z.size;obtain⟨g0,g1,g2,g3⟩:=ajE z xW f0 f1 f2 f3;obtain⟨g4,g5,g6,g7⟩:=ajE z vh f4 f5 f6 f7;have hge:=(z.block c vh).trans YT)
     |(go_at_call_of 137 (u #[I J e.1.1,I J e.1.2,I J e.2.1,I J e.2.2]);refine(H2.o _).mono ?_;rintro r' ML ⟨rfl,j⟩;have xY:w.heap.size<ML.heap.size:=bg xX j.size;have vi:c<ML.heap.size:=bg hgb j.size;obtain⟨h0,h1,h2,h3⟩:=ajE j xX g0 g1 g2 g3;obtain⟨h4,h5,h6,h7⟩:=ajE j hgb g4 g5 g6 g7;have YU:=(j.block c hgb).trans hge)
     |(go_at_call_of 135 (u #[I J f.1.1,I J f.1.2,I J f.2.1,I J f.2.2]);refine(H3.o _).mono ?_;rintro r' BT ⟨rfl,F⟩;have ty:w.heap.size<BT.heap.size:=bg xY F.size;have hib:c<BT.heap.size:=bg vi F.size;obtain⟨i0,i1,i2,i3⟩:=ajE F xY h0 h1 h2 h3;obtain⟨i4,i5,i6,i7⟩:=ajE F vi h4 h5 h6 h7;have tz:=(F.block c vi).trans YU))
   have tA:H (CI w #[I J e.1.1,I J e.1.2,I J e.2.1,I J e.2.2] u5 O BT):=((((tw.o.below<|(Below.refl _ _).drew).below i).below z).below j).below F;by_cases hc:N.cH e f=0
   .have heq:(e.2.1-e.1.1)*(f.2.2-f.1.2)=(e.2.2-e.1.2)*(f.2.1-f.1.1):=by unfold N.cH at hc;omega
    have MM:H (∀w1,M 136 #[u #[I J f.1.1,I J f.1.2]] w1 λr w'=>r=aJ (u #[I J f.1.1,I J 1,I J f.1.2,I J 1])/\Below w1.heap.size w1 w'):=λw1=>Bv f.1.1 f.1.2 w1;have BW:H (∀w1,M 136 #[u #[I J f.2.1,I J f.2.2]] w1 λr w'=>r=aJ (u #[I J f.2.1,I J 1,I J f.2.2,I J 1])/\Below w1.heap.size w1 w'):=λw1=>Bv f.2.1 f.2.2 w1;have YV:H (∀w1,M 80 #[u #[I J e.1.1,I J e.1.2,I J e.2.1,I J e.2.2],u #[I J f.1.1,I J 1,I J f.1.2,I J 1]] w1 λr w'=>r=aJ (aC<|N.hq (N.pt f.1) e)/\Below w1.heap.size w1 w'):=λw1=>BG (N.pt f.1) e w1 (tu T.o.a T.o.b) HE.o;have tB:H (∀w1,M 80 #[u #[I J e.1.1,I J e.1.2,I J e.2.1,I J e.2.2],u #[I J f.2.1,I J 1,I J f.2.2,I J 1]] w1 λr w'=>r=aJ (aC<|N.hq (N.pt f.2) e)/\Below w1.heap.size w1 w'):=λw1=>BG (N.pt f.2) e w1 (tu T.o.c T.o.d) HE.o;have HST:H (N.dM e O f=(let o1:=if N.hq (N.pt f.1) e then N.ins (N.pt f.1) O else O
      if N.hq (N.pt f.2) e then N.ins (N.pt f.2) o1 else o1)):=by
     unfold N.dM H Hid;rw[y hc]
    go_wp2_with fail;go_region_held3 (λw'=>apQ w' w.heap.size (I J e.1.1) (I J e.1.2) (I J e.2.1) (I J e.2.2)/\apQ w' c (I J f.1.1) (I J f.1.2) (I J f.2.1) (I J f.2.2)) (go_keep) (first
      |(go_at_call 136;refine(MM.o _).mono ?_;rintro r' MN ⟨rfl,n⟩;have acb:w.heap.size<MN.heap.size:=bg ty n.size;have acd:c<MN.heap.size:=bg hib n.size;obtain⟨m10,m11,m12,m13⟩:=ajE n ty i0 i1 i2 i3;obtain⟨m14,m15,m16⟩:=ajD n hib i4 i5 i6;have m17:=(aR n i7 hib))
      |(go_at_call 80;refine(YV.o _).mono ?_;rintro r' Gn ⟨rfl,p⟩;have R:w.heap.size<Gn.heap.size:=bg acb p.size;have S:c<Gn.heap.size:=bg acd p.size;obtain⟨m20,m21,m22,m23⟩:=ajE p acb m10 m11 m12 m13;obtain⟨m24,MO,MS⟩:=ajD p acd m14 m15 m16;have MU:=(aR p m17 acd)))
    have MV:H (CI w #[I J e.1.1,I J e.1.2,I J e.2.1,I J e.2.2] u5 O Gn):=((tA.o.below<|(Below.refl _ _).drew).below n).below p;cases BX:N.hq (N.pt f.1) e
    .go_wp2_with fail;go_region_held3 (λw'=>apQ w' w.heap.size (I J e.1.1) (I J e.1.2) (I J e.2.1) (I J e.2.2)/\apQ w' c (I J f.1.1) (I J f.1.2) (I J f.2.1) (I J f.2.2)) (go_keep) (first
       |(go_at_call 136;refine(BW.o _).mono ?_;rintro r' MW ⟨rfl,q⟩;have ace:w.heap.size<MW.heap.size:=bg R q.size;have acf:c<MW.heap.size:=bg S q.size;obtain⟨YW,YX,m32,YY⟩:=ajE q R m20 m21 m22 m23;obtain⟨YZ,Za,Zb⟩:=ajD q S m24 MO MS;have Zc:=(aR q MU S))
       |(go_at_call 80;refine(tB.o _).mono ?_;rintro r' BY ⟨rfl,s⟩;have xZ:w.heap.size<BY.heap.size:=bg ace s.size;have yg:c<BY.heap.size:=bg acf s.size;obtain⟨Zd,Ze,Zf,Zg⟩:=ajE s ace YW YX m32 YY;obtain⟨Zh,Zi,Zj⟩:=ajD s acf YZ Za Zb;have Zk:=(aR s Zc acf)))
     have MX:H (CI w #[I J e.1.1,I J e.1.2,I J e.2.1,I J e.2.2] u5 O BY):=((MV.o.below<|(Below.refl _ _).drew).below q).below s;cases rm:N.hq (N.pt f.2) e
     .go_wp2_with fail;have HN:H ((l.take<|k+1).foldl (N.dM e) o=O):=by
       rw[HT.o,HST.o,BX,rm];rfl
      have L:H (CI w #[I J e.1.1,I J e.1.2,I J e.2.1,I J e.2.2] u5 ((l.take<|k+1).foldl (N.dM e) o) BY/\((l.take<|k+1).foldl (N.dM e) o).length<=2+2*(k+1)):=by
       refine⟨by rw[HN.o];exact MX.o,?_⟩;rw[HT.o];have:=xT e O f;omega
      go_roundg (gk-1)
      case measure=>omega
      case rel=>exact⟨k+1,U,af,L⟩
     .go_wp2_with fail;refine(BW.o _).mono ?_;rintro r' Gp ⟨rfl,aku⟩;have Zl:H (CI w #[I J e.1.1,I J e.1.2,I J e.2.1,I J e.2.2] u5 O Gp):=MX.o.below aku;go_wp2_with fail;refine(vg Zl.o (N.pt f.2) (tu T.o.c T.o.d) (N.iw _) U).mono ?_;rintro r' BZ ⟨MY,rfl,Zu,aoM⟩;have Zv:H (CI w #[I J e.1.1,I J e.1.2,I J e.2.1,I J e.2.2] MY (N.ins (N.pt f.2) O) BZ):=Zu;go_wp2_with fail;have HN:H ((l.take<|k+1).foldl (N.dM e) o=(N.ins (N.pt f.2) O)):=by
       rw[HT.o,HST.o,BX,rm];rfl
      have L:H (CI w #[I J e.1.1,I J e.1.2,I J e.2.1,I J e.2.2] MY ((l.take<|k+1).foldl (N.dM e) o) BZ/\((l.take<|k+1).foldl (N.dM e) o).length<=2+2*(k+1)):=by
       refine⟨by rw[HN.o];exact Zv.o,?_⟩;rw[HT.o];have:=xT e O f;omega
      go_roundg (gk-1)
      case measure=>omega
      case rel=>exact⟨k+1,U,af,L⟩
    .go_wp2_with fail;have akx:=N.lI (N.pt f.1) (O);refine(MM.o _).mono ?_;rintro r' Gq ⟨rfl,t⟩;have Zw:H (CI w #[I J e.1.1,I J e.1.2,I J e.2.1,I J e.2.2] u5 O Gq):=MV.o.below t;have yj:w.heap.size<Gq.heap.size:=bg R t.size;have yk:c<Gq.heap.size:=bg S t.size;obtain⟨Zx,Zy,Zz,ZA⟩:=ajE t R m20 m21 m22 m23;obtain⟨ZB,ZC,ZD,ZE⟩:=ajE t S m24 MO MS MU;go_wp2_with fail;refine(vg Zw.o (N.pt f.1) (tu T.o.a T.o.b) (N.iw _) U).mono ?_;rintro r' Gs ⟨B0,rfl,ZF,Q⟩;have yl:w.heap.size<Gs.heap.size:=bg yj Q.size;have ym:c<Gs.heap.size:=bg yk Q.size;obtain⟨ZG,ZH,ZI,ZJ⟩:=ajE Q yj Zx Zy Zz ZA;obtain⟨ZK,ZL,ZM,ZN⟩:=ajE Q yk ZB ZC ZD ZE;have ZO:H (CI w #[I J e.1.1,I J e.1.2,I J e.2.1,I J e.2.2] B0 (N.ins (N.pt f.1) O) Gs):=ZF;go_wp2_with fail;go_region_held3 (λw'=>apQ w' w.heap.size (I J e.1.1) (I J e.1.2) (I J e.2.1) (I J e.2.2)/\apQ w' c (I J f.1.1) (I J f.1.2) (I J f.2.1) (I J f.2.2)) (go_keep) (first
       |(go_at_call 136;refine(BW.o _).mono ?_;rintro r' MZ ⟨rfl,B⟩;have yo:w.heap.size<MZ.heap.size:=bg yl B.size;have yp:c<MZ.heap.size:=bg ym B.size;obtain⟨ZQ,ZR,ZS,ZT⟩:=ajE B yl ZG ZH ZI ZJ;obtain⟨ZU,ZV,ZW⟩:=ajD B ym ZK ZL ZM;have ZX:=(aR B ZN ym))
       |(go_at_call 80;refine(tB.o _).mono ?_;rintro r' Ca ⟨rfl,g⟩;have aoN:w.heap.size<Ca.heap.size:=bg yo g.size;have aoO:c<Ca.heap.size:=bg yp g.size;obtain⟨ZY,ZZ,Z0,Z2⟩:=ajE g yo ZQ ZR ZS ZT;obtain⟨Z3,Z4,Z5⟩:=ajD g yp ZU ZV ZW;have Z6:=(aR g ZX yp)))
     have M0:H (CI w #[I J e.1.1,I J e.1.2,I J e.2.1,I J e.2.2] B0 (N.ins (N.pt f.1) O) Ca):=((ZO.o.below<|(Below.refl _ _).drew).below B).below g;cases rm:N.hq (N.pt f.2) e
     .go_wp2_with fail;have HN:H ((l.take<|k+1).foldl (N.dM e) o=(N.ins (N.pt f.1) O)):=by
       rw[HT.o,HST.o,BX,rm];rfl
      have L:H (CI w #[I J e.1.1,I J e.1.2,I J e.2.1,I J e.2.2] B0 ((l.take<|k+1).foldl (N.dM e) o) Ca/\((l.take<|k+1).foldl (N.dM e) o).length<=2+2*(k+1)):=by
       refine⟨by rw[HN.o];exact M0.o,?_⟩;rw[HT.o];have:=xT e O f;omega
      go_roundg (gk-1)
      case measure=>omega
      case rel=>exact⟨k+1,U,af,L⟩
     .go_wp2_with fail;refine(BW.o _).mono ?_;rintro r' Gt ⟨rfl,akv⟩;have Z7:H (CI w #[I J e.1.1,I J e.1.2,I J e.2.1,I J e.2.2] B0 (N.ins (N.pt f.1) O) Gt):=M0.o.below akv;go_wp2_with fail;refine(vg Z7.o (N.pt f.2) (tu T.o.c T.o.d) (N.iw _) U).mono ?_;rintro r' Cb ⟨M5,rfl,aag,aoP⟩;have aah:H (CI w #[I J e.1.1,I J e.1.2,I J e.2.1,I J e.2.2] M5 (N.ins (N.pt f.2)<|N.ins (N.pt f.1) O) Cb):=aag;go_wp2_with fail;have HN:H ((l.take<|k+1).foldl (N.dM e) o=(N.ins (N.pt f.2)<|N.ins (N.pt f.1) O)):=by
       rw[HT.o,HST.o,BX,rm];rfl
      have L:H (CI w #[I J e.1.1,I J e.1.2,I J e.2.1,I J e.2.2] M5 ((l.take<|k+1).foldl (N.dM e) o) Cb/\((l.take<|k+1).foldl (N.dM e) o).length<=2+2*(k+1)):=by
       refine⟨by rw[HN.o];exact aah.o,?_⟩;rw[HT.o];have:=xT e O f;omega
      go_roundg (gk-1)
      case measure=>omega
      case rel=>exact⟨k+1,U,af,L⟩
   .have hne:¬((e.2.1-e.1.1)*(f.2.2-f.1.2)=(e.2.2-e.1.2)*(f.2.1-f.1.1)):=λh=>hc (by unfold N.cH;omega);obtain⟨P,hP⟩:∃P,N.eF e f=P:=⟨_,rfl⟩;have vj:H (cS P/\N.dD P):=hP▸⟨Ym HE.o T.o hc,N.BE hc⟩;have HM:H (∀w1,M 138 #[u #[I J e.1.1,I J e.1.2,I J e.2.1,I J e.2.2],u #[I J f.1.1,I J f.1.2,I J f.2.1,I J f.2.2]] w1 λr w'=>r=aJ (u #[I J P.1.1,I J P.1.2,I J P.2.1,I J P.2.2])/\Below w1.heap.size w1 w'):=λw1=>hP▸Yk e f w1 HE.o T.o hc;have HA:H (∀w1,M 80 #[u #[I J e.1.1,I J e.1.2,I J e.2.1,I J e.2.2],u #[I J P.1.1,I J P.1.2,I J P.2.1,I J P.2.2]] w1 λr w'=>r=aJ (aC<|N.hq P e)/\Below w1.heap.size w1 w'):=λw1=>BG P e w1 vj.o.1 HE.o;have HB':H (∀w1,M 80 #[u #[I J f.1.1,I J f.1.2,I J f.2.1,I J f.2.2],u #[I J P.1.1,I J P.1.2,I J P.2.1,I J P.2.2]] w1 λr w'=>r=aJ (aC<|N.hq P f)/\Below w1.heap.size w1 w'):=λw1=>BG P f w1 vj.o.1 T.o;have HST:H (N.dM e O f=if N.hq P e&&N.hq P f then N.ins P O else O):=by
     unfold N.dM H Hid;rw[X hc,hP]
    have HCa:H (CI w #[I J e.1.1,I J e.1.2,I J e.2.1,I J e.2.2] u5 O BT):=tA;have hEa:=tz;have M6:=hib;go_wp2_with fail;refine(HM.o _).mono ?_;rintro r' aL ⟨rfl,jS⟩;have Gu:H (CI w #[I J e.1.1,I J e.1.2,I J e.2.1,I J e.2.2] u5 O aL):=HCa.o.below jS;have Cc:=Gu.o.2.2.2.2;have hwb:w.heap.size<_:=Gu.o.2.2.2.1;have hEb:=(jS.block c M6).trans hEa;have aal:c<aL.heap.size:=bg M6 jS.size;obtain⟨akJ,akK,akL,akM⟩:=ajG Cc;have HCc:H (CI w #[I J e.1.1,I J e.1.2,I J e.2.1,I J e.2.2] u5 O (aL.alloc<|.cells #[I J P.1.1,I J P.1.2,I J P.2.1,I J P.2.2] 100)):=Gu.o.below<|(Below.refl _ _).alloc (aX _) _;have hEc:(aL.alloc<|.cells #[I J P.1.1,I J P.1.2,I J P.2.1,I J P.2.2] 100).heap[c]?=K (.cells #[I J f.1.1,I J f.1.2,I J f.2.1,I J f.2.2] 151 (0,0)):=by rw[ad _ _ _ aal];exact hEb
    have M7:c<(aL.alloc<|.cells #[I J P.1.1,I J P.1.2,I J P.2.1,I J P.2.2] 100).heap.size:=aq;have hPc:=aa aL<|.cells #[I J P.1.1,I J P.1.2,I J P.2.1,I J P.2.2] 100;have M8:aL.heap.size<(aL.alloc<|.cells #[I J P.1.1,I J P.1.2,I J P.2.1,I J P.2.2] 100).heap.size:=E;go_wp2_with fail;generalize aL.alloc (.cells #[I J P.1.1,I J P.1.2,I J P.2.1,I J P.2.2] 100)=w6' at*;generalize aL.heap.size=PB at*;refine(HA.o _).mono ?_;rintro r' Gv ⟨rfl,yq⟩;have Gw:H (CI w #[I J e.1.1,I J e.1.2,I J e.2.1,I J e.2.2] u5 O Gv):=HCc.o.below yq;have yr:=(yq.block c M7).trans hEc;have yt:=(yq.block PB M8).trans hPc;have Na:PB<Gv.heap.size:=bg M8 yq.size;obtain⟨akW,akX,akY,akZ⟩:=ajG yr;obtain⟨ak0,ak1,ak2,ak3⟩:=ajG yt;go_wp2_with fail;refine(HB'.o _).mono ?_;rintro r' Ce ⟨rfl,yu⟩;have Cf:H (CI w #[I J e.1.1,I J e.1.2,I J e.2.1,I J e.2.2] u5 O Ce):=Gw.o.below yu;have Cj:=(yu.block PB Na).trans yt;obtain⟨alf,alg,alh,ali⟩:=ajG Cj;cases hA:N.hq P e<;>cases hB:N.hq P f;rotate_left 3
    .have HN:H ((l.take<|k+1).foldl (N.dM e) o=N.ins P O):=by
      rw[HT.o,HST.o,hA,hB];rfl
     have hlx:=N.lI P O;go_wp2_with fail;refine(vg Cf.o P vj.o.1 vj.o.2 U).mono ?_;rintro r' w9 ⟨v9,rfl,h9,_⟩;have L:H (CI w #[I J e.1.1,I J e.1.2,I J e.2.1,I J e.2.2] v9 ((l.take<|k+1).foldl (N.dM e) o) w9/\((l.take<|k+1).foldl (N.dM e) o).length<=2+2*(k+1)):=by rw[HN.o];exact⟨h9,U⟩
     go_wp2_with fail;go_roundg (gk-1)
     case measure=>omega
     case rel=>exact⟨k+1,U,af,L⟩
    all_goals
     have HN:H ((l.take<|k+1).foldl (N.dM e) o=O):=by
      rw[HT.o,HST.o,hA,hB];rfl
     have L:H (CI w #[I J e.1.1,I J e.1.2,I J e.2.1,I J e.2.2] u5 ((l.take<|k+1).foldl (N.dM e) o) Ce/\((l.take<|k+1).foldl (N.dM e) o).length<=2+2*(k+1)):=by rw[HN.o];exact⟨Cf.o,U⟩
     go_wp2_with fail;go_roundg (gk-1)
     case measure=>omega
     case rel=>exact⟨k+1,U,af,L⟩
  .have hk:k=l.length:=U;subst hk;have Gx:H (CI w #[I J e.1.1,I J e.1.2,I J e.2.1,I J e.2.2] u5 (N.gz l e) wr):=by
    have:=HB.o.1;rw[dV,<-Gm.o] at this;exact this
   go_wp2_with fail;go_ret;exact⟨_,rfl,Gx.o.1,Gx.o.2.1,Gx.o.2.2.1⟩
namespace Pl
def jr(a:N.Fr):V UInt8:=if a.2=1 then Lib.itoa a.1 else Lib.itoa a.1++([47]++Lib.itoa a.2)
def fC(q:N.Qt):V UInt8:=jr q.1++([32]++jr q.2)
end Pl
theorem Nb{a:N.Fr}(c: -10000000<=a.1/\a.1<=10000000)(b:0<a.2/\a.2<=1000000):(Pl.jr a).length<=50:=by
 have:=aaS a.1 U U;have:=aaS a.2 U U;unfold Pl.jr;split
 .omega
 .simp;omega
theorem Nc(n d:Int)(w:G)(S:Gl w)(L: -10000000<=n/\n<=10000000)(F:0<d/\d<=1000000):
  M 127 #[u #[I J n,I J d]] w λe w'=>e=aJ (aD ⟨(Pl.jr (n,d)).toArray⟩)/\Below w.heap.size w w':=by
 have s:=hid<|λw1 p=>Lu n w1 p U U;have v:=hid<|λw1 p=>Lu d w1 p U U;have P:=aaS n U U;have Q:=aaS d U U;have c:Below w.heap.size w (w.alloc<|.cells #[I J n,I J d] 97):=(Below.refl _ _).alloc (aX _) _;have t:=aa w<|.cells #[I J n,I J d] 97;have k:w.heap.size<(w.alloc<|.cells #[I J n,I J d] 97).heap.size:=E;have b:Gl (w.alloc<|.cells #[I J n,I J d] 97):=S.alloc _;by_cases g:d=1
 .have l:H (Pl.jr (n,d)=Lib.itoa n):=y g;rw[l.o];subst g;generalize Lib.itoa n=m at*;clear l P Q;go_enter func127,ntmps127;go_wp2_with fail;refine(s.o _ b).mono ?_;rintro e w1 ⟨rfl,r⟩;go_wp2_with fail;go_ret;exact⟨rfl,c.trans<|r.mono c.size⟩
 .have l:H (Pl.jr (n,d)=Lib.itoa n++([47]++Lib.itoa d)):=X g;rw[l.o];generalize Lib.itoa n=m at*;generalize Lib.itoa d=x at*;have:¬9223372036854775807<m.length+1:=U;have:¬9223372036854775807<m.length+1+x.length:=U;clear l;go_enter func127,ntmps127;go_wp2_with fail;generalize w.alloc (.cells #[I J n,I J d] 97)=W at*;generalize R:w.heap.size=B at*;have o:=bz t;have z:=bw t;go_region_held3 (λw'=>apR w' B (I J n)<|I J d) (go_keep) (first
   |(go_at_call_of 88 (I J n);refine(s.o _ b.drew).mono ?_;rintro e N ⟨rfl,a⟩;have q:=b.drew.below a b.sz;have i:=aR a o k;have j:=(aR a z k))
   |(go_at_call_of 88 (I J d);refine(v.o _ q).mono ?_;rintro e O ⟨rfl,f⟩;have:=aR f i (bg k a.size);have:=(aR f j (bg k a.size))))
  go_wp2_with fail;go_ret;refine⟨by simp[ByteArray.mk_append_mk],?_⟩;rw[R];exact(c.drew.trans<|a.mono<|du k).trans<|f.mono<|el (du k) a.size
theorem Nf(q:N.Qt)(w:G)(S:Gl w)(l:cS q):
  M 74 #[u (qA q)] w λe w'=>e=aJ (aD ⟨(Pl.fC q).toArray⟩)/\Below w.heap.size w w':=by
 obtain⟨⟨a,b⟩,c,d⟩:=q;have P:=hid<|λw1 p=>Nc a b w1 p l.xn l.xd;have x:=hid<|λw1 p=>Nc c d w1 p l.yn l.yd;have:=Nb (a:=(a,b)) l.xn l.xd;have:=Nb (a:=(c,d)) l.yn l.yd;have t:H (Pl.fC ((a,b),(c,d))=Pl.jr (a,b)++([32]++Pl.jr (c,d))):=rfl;rw[t.o];generalize Pl.jr (a,b)=v at*;generalize Pl.jr (c,d)=Q at*;simp only[qA];have:¬9223372036854775807<v.length+1:=U;have:¬9223372036854775807<v.length+1+Q.length:=U;have s:Below w.heap.size w (w.alloc<|.cells #[I J a,I J b,I J c,I J d] 100):=(Below.refl _ _).alloc (aX _) _;have n:=aa w<|.cells #[I J a,I J b,I J c,I J d] 100;have k:w.heap.size<(w.alloc<|.cells #[I J a,I J b,I J c,I J d] 100).heap.size:=E;have m:Gl (w.alloc<|.cells #[I J a,I J b,I J c,I J d] 100):=S.alloc _;clear t l;go_enter func74,ntmps74;go_wp2_with fail;generalize w.alloc (.cells #[I J a,I J b,I J c,I J d] 100)=W at*;generalize R:w.heap.size=B at*;obtain⟨z,F,L,O⟩:=ajG n;go_region_held3 (λw'=>apQ w' B (I J a) (I J b) (I J c)<|I J d) (go_keep) (first
   |(go_at_call_of 127 (u #[I J a,I J b]);refine(P.o _ m.drew).mono ?_;rintro e T ⟨rfl,f⟩;have r:=m.drew.below f m.sz;obtain⟨i,j,o⟩:=ajD f k z F L;have y:=(aR f O k))
   |(go_at_call_of 127 (u #[I J c,I J d]);refine(x.o _ r).mono ?_;rintro e V ⟨rfl,g⟩;have:=aR g i (bg k f.size);have:=aR g j (bg k f.size);have:=aR g o (bg k f.size);have:=(aR g y (bg k f.size))))
 go_wp2_with fail;go_ret;refine⟨by simp[ByteArray.mk_append_mk],?_⟩;rw[R];exact(s.drew.trans<|f.mono<|du k).trans<|g.mono<|el (du k) f.size
namespace Pl
def rings(s:V UInt8):V (V (Int×Int)):=(bO<|all s).2.2.flatten
end Pl
theorem aav{ps:V (V<|V (Int×Int))}(c:mg ps):∀e∈N.o ps.flatten,cM e:=λe h=>by
 obtain⟨g,k,d,f⟩:=N.Xx h;obtain⟨p,l,b⟩:=pG.1 k;have a:=((c.2 p l).2 g b).1;exact⟨(a _ d).1,(a _ d).2,(a _ f).1,(a _ f).2⟩
theorem aaw{ps:V (V<|V (Int×Int))}(a:mg ps):(N.o ps.flatten).length<=65000000:=by
 have:=N.ti 402 402 ps<|λp b=>⟨(a.2 p b).1,λg c=>((a.2 p b).2 g c).2⟩;have:=a.1;omega
theorem aax{s:ByteArray}{W:ByteArray}{so:Option Addr}{pn pc:Nat}(h:(Pl.err s.data.toList).1=0)
  (f:((Pl.err s.data.toList).1=0->((∃a,(Pl.bO<|Pl.all s.data.toList).2.2=[a]/\W=⟨Pl.ew.toArray⟩/\kD w' (D so pn pc) [a]/\uM a/\Pl.xx s.data.toList=Pl.ew++([32]++Pl.jR a))\/
    (W=⟨Pl.fA.toArray⟩/\kD w' (D so pn pc) (Pl.bO (Pl.all s.data.toList)).2.2/\mg (Pl.bO (Pl.all s.data.toList)).2.2/\Pl.xx s.data.toList=Pl.xt (Pl.bO (Pl.all s.data.toList)).2.2)))):
  kD w' (D so pn pc) (Pl.bO<|Pl.all s.data.toList).2.2/\mg (Pl.bO<|Pl.all s.data.toList).2.2:=by
 rcases f h with⟨a,e,_,b,c,_⟩|⟨_,b,c,_⟩
 .rw[e];exact⟨b,E,λg d=>by rw[cI.1 d];exact c⟩
 .exact⟨b,c⟩
def P4(W:G)(X:Nat)(a b c d:Int):Prop:=W.heap[X]?=K (.cells #[I J a,I J b,I J c,I J d] 100 (0,0))
def Bw(w W:G):Prop:=ag w W
theorem P4.mv{X:Nat}{a b c d:Int}(h:P4 w X a b c d)(e:Bw w w'):P4 w' X a b c d:=(e.block X<|apJ h).trans h
def fh:V N.Qt->V N.Qt->Int
 |p::a,q::b=>if N.pc p q=0 then fh a b else N.pc p q
 |a,b=>(a.length:Int)-(b.length:Int)
theorem OG(a b:V N.Qt)(v f:Y)(w:G)(hR:dq w v a)(hS:dq w f b)(ha:∀q∈a,cS q)(hb:∀q∈b,cS q)(hla:a.length<=20000000402)(hlb:b.length<=20000000402):
  M 51 #[v,f] w (ai (I J<|fh a b) w):=by
 obtain⟨so,cap,rfl⟩:=nQ hR;obtain⟨to,cbp,rfl⟩:=nQ hS;have HR:=hid hR;have HS:=hid hS;have HQ:H ((∀q∈a,cS q)/\∀q∈b,cS q):=⟨ha,hb⟩;clear hR hS ha hb;go_enter func51,ntmps51;go_wp2_with fail
 go_loopg [5] a.length (λg iv wr=>∃i:Nat,i+g=a.length/\i<=b.length/\iv=I J i/\H (ag w wr/\fh a b=fh (a.drop i) (b.drop i)))
 case atStart=>exact⟨0,U,U,rfl,Below.refl _ _,rfl⟩
 case round=>
  obtain⟨i,hg,hib,rfl,l⟩:=hrel;by_cases Q:i<a.length/\i<b.length
  .obtain⟨h1,h2⟩:=Q;obtain⟨p,j⟩:∃p,a[i]?=K p:=⟨_,be h1⟩;obtain⟨q,y⟩:∃q,b[i]?=K q:=⟨_,be h2⟩;obtain⟨c,rfl,R,F,L,O,T⟩:=tt HR.o j;obtain⟨d,rfl,S,W,y1,y2,y3⟩:=tt HS.o y;have HE:H (fh a b=if N.pc p q=0 then fh (a.drop<|i+1) (b.drop<|i+1) else N.pc p q):=by
    show _=_;rw[l.o.2,lU h1,lU h2,(bX.1 j).2,(bX.1 y).2];rfl
   have P:=λ(o:Nat)(h:c<w.heap.size)=>l.o.1.cell (p:=⟨c,o,Z⟩) h;have m:=λ(o:Nat)(h:d<w.heap.size)=>l.o.1.cell (p:=⟨d,o,Z⟩) h;replace F:=(P _ R).trans F;replace L:=(P _ R).trans L;replace O:=(P _ R).trans O;replace T:=(P _ R).trans T;replace W:=(m _ S).trans W;replace y1:=(m _ S).trans y1;replace y2:=(m _ S).trans y2;replace y3:=(m _ S).trans y3;have HP:=hid<|λw1=>Bu p q w1 (HQ.o.1 p<|bB j)<|HQ.o.2 q<|bB y;have m1:(i:Int)<(a.length:Int):=U;have m2:(i:Int)<(b.length:Int):=U;have n:=hid l.o.1;clear P m j y l;go_wp2_with fail;go_region_held3 (λw'=>apS w' c (i*4) (I J p.1.1) (I J p.1.2) (I J p.2.1) (I J p.2.2)/\apS w' d (i*4) (I J q.1.1) (I J q.1.2) (I J q.2.1) (I J q.2.2)) (go_keep) (first
    |(go_at_call 47;refine(HP.o _).mono ?_;rintro e w7 ⟨rfl,x⟩;have k:=λ(b o:Nat)(h:b<wr.heap.size)=>(x.cell (p:=⟨b,o,Z⟩) h);have hs:=n.o.size;replace F:=(k c _ U).trans F;replace L:=(k c _ U).trans L;replace O:=(k c _ U).trans O;replace T:=(k c _ U).trans T;replace W:=(k d _ U).trans W;replace y1:=(k d _ U).trans y1;replace y2:=(k d _ U).trans y2;replace y3:=(k d _ U).trans y3;have B:H (ag w w7):=n.o.drew.trans (x.mono n.o.drew.size);clear k hs x))
   obtain⟨z,hz⟩:=am<|N.pc p q;have s:=HE.o;rw[<-hz] at s⊢;by_cases h0:z=0
   .subst h0;have t:H (fh a b=fh (a.drop<|i+1) (b.drop<|i+1)):=by rw[s];rfl
    go_wp2_with fail;go_roundg (a.length-(i+1))
    case measure=>omega
    case rel=>exact⟨i+1,U,U,bd _ U,B.o,t.o⟩
   .have t:H (fh a b=z):=by rw[s,X h0];rfl
    have hzb:(z != 0)=aP:=by simp[h0]
    go_wp2_with fail;go_ret;exact⟨by rw[t.o];rfl,B.o⟩
  .have hf:fh a b=(a.length:Int)-(b.length:Int):=by
    rw[l.o.2];rcases Af i a.length with z|z
    .rw[show b.drop i=[] from Kq U];have e:(i:Int)=b.length:=U;cases m:a.drop i with
     |nil=>have:=bd List.length m;simp at this;omega
     |cons p r=>have:=bd List.length m;simp only[jQ] at this;simp only[fh,fw];omega
    .rw[show a.drop i=[] from Kq z];simp only[fh,fw,jQ];omega
   have HF:=hid hf;have hwr:J.wrap ((a.length:Int)-(b.length:Int))=(a.length:Int)-(b.length:Int):=by rw[ah];omega
   have HB:=l.o.1;clear hf l;by_cases z:i<a.length
   .have m1:(i:Int)<(a.length:Int):=U;have m2:¬(i:Int)<(b.length:Int):=U;clear Q;go_wp2_with fail;go_ret;exact⟨by rw[HF.o];rfl,HB⟩
   .have m1:¬(i:Int)<(a.length:Int):=U;go_wp2_with fail;go_ret;exact⟨by rw[HF.o];rfl,HB⟩
end
end Go.Proofs.YtkjhhooecopolaaGreatDoor
