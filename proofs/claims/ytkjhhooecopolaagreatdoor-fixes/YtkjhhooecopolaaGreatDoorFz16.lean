import Derived.Test.YtkjhhooecopolaaGreatDoorFz15
set_option maxRecDepth 100000
set_option maxHeartbeats 4000000
namespace Go.Proofs.YtkjhhooecopolaaGreatDoor
open Go.Proofs.Tryz
open Value renaming int->I,complex->A,float->aA,agg->u,slice->D,tuple->aG
open IntKind renaming i64->J
open FloatKind renaming f64->C
open Ending renaming returned->aJ
open Go renaming World->G,Value->Y,floatOfInt->aM
open Option renaming some->K,none->Z
open Bool renaming true->aP,false->aQ
section
open Go.RowKit
variable{w wr w':G}{b n o k g cap m:Nat}{v:Y}
namespace N
def held(e:O×O)(l:V Nd):V Nd:=l.filter λn=>fo (n.1,n.2.1) n.2.2 e
def apO:V Nd->V (Nd×Nd)
 |[]=>[]
 |[_]=>[]
 |a::b::r=>(a,b)::apO (b::r)
theorem O8:∀(l:V Nd)(y x:Nd),l.getLast?=K y->apO (l++[x])=apO l++[(y,x)]
 |[],_,_,h=>by simp at h
 |[a],y,x,h=>by
  have e:a=y:=by simpa using h
  subst e;simp[apO]
 |a::b::r,y,x,h=>by
  have c:=O8 (b::r) y x (by simpa using h);show apO (a::b::(r++[x]))=apO (a::b::r)++[(y,x)];simp only[apO,lW];rw[<-c];rfl
theorem ab8{e:O×O}{l:V Nd}{k:Nat}{n:Nd}(h:l[k]?=K n):held e (l.take<|k+1)=held e (l.take k)++(if fo (n.1,n.2.1) n.2.2 e then[n] else[]):=by
 obtain⟨a,b⟩:=bX.1 h;unfold held;rw[lV a,b,nr];congr 1;cases c:fo (n.1,n.2.1) n.2.2 e<;>simp[c]
end N
def dO(l:V PB):V Y:=l.flatMap PB.cells
theorem ab9(l:V PB)(x:PB):dO (l++[x])=dO l++x.cells:=by simp[dO]
theorem O9:(Tryz.prog.info? 171).map (λi=>(i.zero,i.size,i.bytes))=K (K<|u #[A C 0 0,aA C 0,A C 0 0,I J 0,A C 0 0,I J 0],6,72):=z
def PL(w:G)(a:Y)(L:V PB)(wr:G):Prop:=wr.ownsRow w.heap.size 171 6 a L.length (dO L)/\ag w wr
def qo(w:G)(v:Y)(l:V PB):Prop:=w.ownsRow 0 171 6 v l.length<|dO l
def fO(a b s:Nat)(e:Ed)(l:V N.Nd):V PB:=(N.apO<|N.held e l).map λp=>⟨a,b,s,p.1,p.2⟩
def Pa(e:Ed)(l:V N.Nd)(k:Nat)(b:Int):Prop:=(b= -1/\N.held e (l.take k)=[])\/∃(j:Nat)(n:N.Nd),b=(j:Int)/\j<k/\l[j]?=K n/\(N.held e<|l.take k).getLast?=K n
structure tR(w:G)(R:Nat)(ec rc:Array Y)(lv:Y)(L:V PB)(wr:G):Prop where
 own:wr.ownsRow (R+1) 171 6 lv L.length (dO L)
 below:ag w wr
 e:wr.heap[w.heap.size]?=K (.cells ec 124 (0,0))
 r:wr.heap[R]?=K (.cells rc 122 (0,0))
theorem tR.keep{R:Nat}{ec rc:Array Y}{lv:Y}{L:V PB}(h:tR w R ec rc lv L wr)(a:ag wr w'):tR w R ec rc lv L w':=
 ⟨bH h.own λk b=>a.block k (bn h.own k b).2,h.below.trans<|a.mono h.below.size,(a.block _<|apJ h.e).trans h.e,(a.block _<|apJ h.r).trans h.r⟩
theorem mQ{b':Nat}{e:TypeId}{size:Nat}{xs:V Y}(h:w.ownsRow b e size v n xs)(f:b'<=b):w.ownsRow b' e size v n xs:=by
 obtain⟨c,d⟩:=h;refine⟨c,?_⟩;rcases d with h|⟨g,cap,a,m,k,l⟩
 .exact j h
 .exact F ⟨g,cap,a,m,el f k,l⟩
theorem apK(h:w.cell? ⟨b,o,Z⟩=K v):b<w.heap.size:=aek w _ h
theorem Pb(a b s:Nat)(e:Ed)(l:V N.Nd):(fO a b s e l).length<=l.length:=by
 have c:∀m:V N.Nd,(N.apO m).length<=m.length:=λm=>by
  induction m with
  |nil=>simp[N.apO]
  |cons x r d=>
   cases r with
   |nil=>simp[N.apO]
   |cons y q=>simp only[N.apO,dc] at d⊢;omega
 unfold fO;rw[eK];refine el (c _) ?_;exact pB _ _
theorem aca(x:EB)(e:Ed)(l:V N.Nd)(v:Y)(w:G)(hx:jV x e)(hs:cM e)(hR:js w v l)(hn:∀n∈l,eM n.1 n.2.1 n.2.2)(hl:l.length<=200000)
  {a b s:Nat}(hr:∀w,M 198 #[u #[A C x.wa x.wb,aA C x.sh]] w λe w'=>e=aJ (u #[A C a b,aA C s])/\Below w.heap.size w w'):
  M 155 #[u x.cells,v] w λr w'=>∃v',r=aJ v'/\PL w v' (fO a b s e l) w':=by
 obtain⟨so,cap,rfl⟩:=Cu hR;obtain⟨i0,hi,hz0,hz1,hz2⟩:=aH O9;have HR:=hid hR;have CX:=hid hr;have HH:=hid<|λn h w1=>BM x e hx hs (nU<|hn n h).1 (nU<|hn n h).2 (hn n h) w1;obtain⟨wa,wb,sh,fa,fb,ta,tb⟩:=x;simp only[EB.cells] at*;have hb0:Below w.heap.size w (w.alloc<|.cells #[A C wa wb,aA C sh,A C fa fb,A C ta tb] 124):=(Below.refl _ _).alloc (aX _) _;have CY:=aa w<|.cells #[A C wa wb,aA C sh,A C fa fb,A C ta tb] 124;have hz:w.heap.size<(w.alloc<|.cells #[A C wa wb,aA C sh,A C fa fb,A C ta tb] 124).heap.size:=E;go_enter func155,ntmps155;go_wp2_with fail;generalize w.alloc (.cells #[A C wa wb,aA C sh,A C fa fb,A C ta tb] 124)=W at*;refine(CX.o _).mono ?_;rintro r w1 ⟨rfl,hb1⟩;have G9:=(hb1.block _ hz).trans CY;have acj:=bg hz hb1.size;have T:=hb0.trans<|hb1.mono hb0.size;go_wp2_with (simp only[fW,mm];go_simp);have gh:H (tR w w1.heap.size #[A C wa wb,aA C sh,A C fa fb,A C ta tb] #[A C a b,aA C s] (D Z 0 0) (fO a b s e<|l.take 0) (w1.alloc<|.cells #[A C a b,aA C s] 122)/\Pa e l 0 (-1)):=by
  refine⟨⟨?_,T.alloc T.size _,(ad _ _ _ acj).trans G9,aa _ _⟩,j ⟨rfl,by simp[N.held]⟩⟩;have e0:fO a b s e (l.take 0)=[]:=by simp[fO,N.held,N.apO]
  rw[e0];exact ak _ _ _ _
 have:=acj;generalize w1.heap.size=R at*;generalize w1.alloc (.cells #[A C a b,aA C s] 122)=WL at*
 go_loopg [5,7,15] l.length (λm lv bv iv wr=>∃(k:Nat)(bb:Int),k+m=l.length/\iv=I J k/\bv=I J bb/\H (tR w R #[A C wa wb,aA C sh,A C fa fb,A C ta tb] #[A C a b,aA C s] lv (fO a b s e<|l.take k) wr/\Pa e l k bb))
 case atStart=>exact⟨0, -1,U,rfl,rfl,gh⟩
 case round=>
  obtain⟨k,bb,hkn,rfl,rfl,o⟩:=hrel;have F7:=o.o.1.below;by_cases hlt:k<l.length
  .obtain⟨n,hnk⟩:∃n,l[k]?=K n:=⟨_,be hlt⟩;obtain⟨bN,rfl,hbN,c0,c1⟩:=Cv HR.o hnk;have:=aR F7 c0 hbN;have:=aR F7 c1 hbN;have:(k:Int)<(l.length:Int):=U;have:=bz o.o.1.e;have:=bw o.o.1.e;have:=bQ o.o.1.e;have:=bV o.o.1.e;have:=apJ o.o.1.e;have CZ:=HH.o n<|bB hnk;have y:=hid CZ;have HT:=N.ab8 (e:=e) hnk;have g:=hid HT;have Pc:=hid hnk;have HV:H (gH n=[A C (aM C n.1) (aM C n.2.1),I J n.2.2]):=rfl;generalize aM C n.1=N1 at*;generalize aM C n.2.1=N2 at*;cases hfo:N.fo (n.1,n.2.1) n.2.2 e
   .rw[hfo] at y g;go_wp2_with (simp only[fW];go_simp);refine(y.o _).mono ?_;rintro r w5 ⟨rfl,Q⟩;go_wp2_with fail;go_roundg (gk-1)
    case measure=>omega
    case rel=>
     refine⟨k+1,bb,U,af,rfl,?_,?_⟩
     .have e1:fO a b s e (l.take<|k+1)=fO a b s e (l.take k):=by unfold fO;rw[g.o];simp
      rw[e1];exact(o.o.1.keep<|(Below.refl _ _).alloc (aX _) _).keep Q
     .rcases o.o.2 with⟨L,h2⟩|⟨d,m,L,h2,h3,h4⟩
      .exact j ⟨L,by rw[g.o,h2];rfl⟩
      .exact F ⟨d,m,L,U,h3,by rw[g.o];simpa using h4⟩
   .rw[hfo] at y g;have Pd:H (tR w R #[A C wa wb,aA C sh,A C fa fb,A C ta tb] #[A C a b,aA C s] u5 (fO a b s e<|l.take k) (wr.alloc<|.cells #[A C N1 N2,I J n.2.2] 83)):=o.o.1.keep<|(Below.refl _ _).alloc (aX _) _;have HWN:=hid<|λk hk=>(bn o.o.1.own k hk).2;have Ha:=aa wr<|.cells #[A C N1 N2,I J n.2.2] 83;have Hb:wr.heap.size<(wr.alloc<|.cells #[A C N1 N2,I J n.2.2] 83).heap.size:=E;rcases o.o.2 with⟨L,h2⟩|⟨d,m,L,h2,h3,h4⟩
    .subst L;have HH2:=hid h2;go_wp2_with (simp only[fW];go_simp);generalize wr.alloc (.cells #[A C N1 N2,I J n.2.2] 83)=W2 at*;refine(y.o _).mono ?_;rintro r w5 ⟨rfl,Q⟩;have f:=hid<|Pd.o.keep Q;go_wp2_with fail;go_roundg (gk-1)
     case measure=>omega
     case rel=>
      refine⟨k+1,k,U,af,rfl,?_,?_⟩
      .have e1:fO a b s e (l.take<|k+1)=fO a b s e (l.take k):=by unfold fO;rw[g.o,HH2.o];simp[N.apO]
       rw[e1];exact f.o
      .exact F ⟨k,n,rfl,U,Pc.o,by rw[g.o];simp⟩
    .subst L;have HLS:=hid h4;obtain⟨bM,O,_,m0,m1⟩:=Cv HR.o h3;injection O with O;injection O with O;subst O;have:=(bX.1 h3).1;have:(d:Int)<(l.length:Int):=U;have HVM:H (gH m=[A C (aM C m.1) (aM C m.2.1),I J m.2.2]):=rfl;have HLEN:H ((fO a b s e<|l.take k).length<=200000):=el (Pb _ _ _ _ _) aq;have yE:H (fO a b s e (l.take<|k+1)=fO a b s e (l.take k)++[⟨a,b,s,m,n⟩]):=by
      unfold fO;rw[g.o];simp only[jk];rw[N.O8 _ _ _ HLS.o,fy];rfl
     have tL:H ((⟨a,b,s,m,n⟩:PB).cells=[A C a b,aA C s]++gH m++gH n):=rfl;generalize aM C m.1=M1 at*;generalize aM C m.2.1=M2 at*
     go_wp2_with (simp only[fW];go_simp);generalize wr.alloc (.cells #[A C N1 N2,I J n.2.2] 83)=W2 at*;refine(y.o _).mono ?_;rintro r w5 ⟨rfl,Q⟩;have f:=hid<|Pd.o.keep Q;have C3:=(Q.block _ Hb).trans Ha;have q0:=bz C3;have q1:=bw C3;have q2:=bz f.o.r;have q3:=bw f.o.r;have q4:=aR f.o.below m0 hbN;have q5:=aR f.o.below m1 hbN;go_wp2_with fail;have B:=apK q0;have q:=apK q2;have P:=apK q4;have i:=f.o.own;have ahU:K wr.heap.size≠u5.ownBlock:=λh=>by have:=HWN.o _ h.symm;omega
     have X:K R≠u5.ownBlock:=λh=>by have:=(bn i _ h.symm).1;omega
     have ahW:K bN≠u5.ownBlock:=λh=>by have:=(bn i _ h.symm).1;omega
     refine aN (S:=(λw'=>w'.cell? ⟨wr.heap.size,0,Z⟩=K (A C N1 N2)/\w'.cell? ⟨wr.heap.size,1,Z⟩=K (I J n.2.2)/\w'.cell? ⟨R,0,Z⟩=K (A C a b)/\w'.cell? ⟨R,1,Z⟩=K (aA C s)/\w'.cell? ⟨bN,d*2,Z⟩=K (A C M1 M2)/\w'.cell? ⟨bN,d*2+1,Z⟩=K (I J m.2.2))) z ⟨q0,q1,q2,q3,q4,q5⟩<|λhHeld=>?_
     iterate 8
      (
       refine gY (oi:=⟨_,_,_,_,_,_⟩) (v:=?_) rfl rfl (by rfl) hHeld ?_ ?_;rotate_left
       .intro w' az;obtain⟨s0,s1,s2,s3,s4,s5⟩:=az;go_simp
        try with_reducible rfl
       simp only[Act.put,dh,di,cQ])
     refine aI (rs:=[8]) z E ?_;refine aK rfl (λc hK=>?_) AllReadyH.nil;go_simp;refine hK.out _ _ ⟨(gw _ _ B).trans q0,(gw _ _ B).trans q1,(gw _ _ q).trans q2,(gw _ _ q).trans q3,(gw _ _ P).trans q4,(gw _ _ P).trans q5⟩<|λhHeld=>?_
     try simp only[Act.put,dh,di,cQ]
     refine aI (rs:=[9]) z E ?_;refine aK rfl (λc hK=>?_) AllReadyH.nil;have:=HLEN.o;refine aba _ rfl (.tmp 26) (.tmp 34) 168 rfl (R+1) 171 i0 _ 6 72 underlying168 hi hz0 hz1 hz2 rfl ae u5 (fO a b s e<|l.take k).length (dO<|fO a b s e<|l.take k) rfl (bH i.drew<|λk hk=>ad _ _ _ (bn i k hk).2) ⟨w5.heap.size,0,Z⟩ 1 1 [A C a b,aA C s,A C M1 M2,I J m.2.2,A C N1 N2,I J n.2.2] rfl rfl (aai (cs:= #[A C a b,aA C s,A C M1 M2,I J m.2.2,A C N1 N2,I J n.2.2]) (t:=171) (fr:=(0,0))<|aa w5.drew _) au ae ar U aq (w5.heap.size+1) E ?_;intro g' cap' w8 fX p nV jW;have d0:=(p.cell_far ⟨wr.heap.size,0,Z⟩ aq ahU).trans<|(gw _ _ B).trans q0;have d1:=(p.cell_far ⟨wr.heap.size,1,Z⟩ aq ahU).trans<|(gw _ _ B).trans q1;have d2:=(p.cell_far ⟨R,0,Z⟩ aq X).trans<|(gw _ _ q).trans q2;have d3:=(p.cell_far ⟨R,1,Z⟩ aq X).trans<|(gw _ _ q).trans q3;have d4:=(p.cell_far ⟨bN,d*2,Z⟩ aq ahW).trans<|(gw _ _ P).trans q4;have d5:=(p.cell_far ⟨bN,d*2+1,Z⟩ aq ahW).trans<|(gw _ _ P).trans q5;go_simp;refine hK.out _ _ ⟨d0,d1,d2,d3,d4,d5⟩<|λhHeld=>?_
     try simp only[Act.put,dh,di,cQ]
     refine gY (oi:=⟨_,_,_,_,_,_⟩) (v:=?_) rfl rfl (by rfl) hHeld ?_ ?_;rotate_left
     .intro w' az;obtain⟨s0,s1,s2,s3,s4,s5⟩:=az;go_simp
      try with_reducible rfl
     simp only[Act.put,dh,di,cQ];refine aO z ?_ _;have acg:=apJ f.o.e;have ach:K w.heap.size≠u5.ownBlock:=λh=>by have:=(bn i _ h.symm).1;omega
     have Cz:H (tR w R #[A C wa wb,aA C sh,A C fa fb,A C ta tb] #[A C a b,aA C s] (D (K ⟨g',0,Z⟩) ((fO a b s e<|l.take k).length+1) cap') (fO a b s e<|l.take<|k+1) w8):=by
      rw[yE.o];refine⟨?_,(f.o.below.drew.alloc f.o.below.size _).grown p (by have:=f.o.below.size;simp;omega)<|λk hk=>el U (bn i k hk).1,?_,?_⟩
      .rw[ab9,bG,tL.o,HVM.o,HV.o];exact fX
      .exact(p.block _ aq ach).trans ((ad _ _ _ acg).trans f.o.e)
      .exact(p.block _ aq X).trans ((ad _ _ _ q).trans f.o.r)
     go_wp2_with fail;go_roundg (gk-1)
     case measure=>omega
     case rel=>exact⟨k+1,k,U,af,rfl,Cz.o,F ⟨k,n,rfl,U,Pc.o,by rw[g.o];simp⟩⟩
  .have hk:k=l.length:=U;subst hk;have HP:H (PL w u5 (fO a b s e l) wr):=by
    have L:=o.o.1;rw[dV] at L;exact⟨mQ L.own U,L.below⟩
   go_wp2_with fail;go_ret;exact⟨_,rfl,HP.o⟩
namespace N
def fa(n:Nd)(l:Ln)(a b:O):Int:=if fo (n.1,n.2.1) n.2.2 (a,b) then(l.1*(b.1-a.1)+l.2.1*(b.2-a.2)).sign else 0
theorem Pe(n:Nd)(l:Ln)(a b:O): -1<=fa n l a b/\fa n l a b<=1:=by
 unfold fa;split
 .rcases dG (l.1*(b.1-a.1)+l.2.1*(b.2-a.2)) 0 with h|h|h
  .rw[qN h];decide
  .rw[h];decide
  .rw[kw h];decide
 .decide
def ds(e:O×O):Ln:=(e.2.1-e.1.1,e.2.2-e.1.2,(e.2.1-e.1.1)*e.1.2-(e.2.2-e.1.2)*e.1.1)
end N
theorem aci(p:PB)(l:N.Ln)(n:N.Nd)(es:V Ed)(v:Y)(w:G)(hp:mr p.wa p.wb p.sh l)(h1:sm l.1)(h2:sm l.2.1)(hn:eM n.1 n.2.1 n.2.2)(hR:kG w v es)(hl:es.length<=402)(hs:∀e∈es,cM e)
  (hi:∀w,M 160 #[u p.cells.toArray] w λe w'=>e=aJ (iQ n)/\Below w.heap.size w w'):
  M 105 #[u p.cells.toArray,v] w λr w'=>r=aJ (aG #[I J (N.total (N.fr (n.1,n.2.1) n.2.2) es+N.total (N.fa n l) es),I J<|N.total (N.fr (n.1,n.2.1) n.2.2) es])/\Below w.heap.size w w':=by
 obtain⟨so,cap,rfl⟩:=BP hR;obtain⟨g1,g2⟩:=nU hn;have HR:=hid hR;have HI:=hid hi;have HH:=hid<|λx e O he w1=>BM x e O (hs e he) g1 g2 hn w1;have HP:=hid<|λx e O he w1=>YK x e O (hs e he) g1 g2 hn w1;have HA:H (∀(x:EB)(e:Ed),jV x e->e∈es->∀w1,M 161 #[u #[A C p.wa p.wb,aA C p.sh],u #[A C x.wa x.wb,aA C x.sh]] w1 λe' w'=>e'=aJ (I J (l.1*(e.2.1-e.1.1)+l.2.1*(e.2.2-e.1.2)).sign)/\Below w1.heap.size w1 w'):=λx e O he w1=>by
  have h:=hs e he;have b3:sm (N.ds e).1:=by have:=h.a;have:=h.c;unfold small at*;unfold sm N.ds;simp only;omega
  have b4:sm (N.ds e).2.1:=by have:=h.b;have:=h.d;unfold small at*;unfold sm N.ds;simp only;omega
  exact abj hp (m:=N.ds e) ⟨O.wa,O.wb,O.sh⟩ h1 h2 b3 b4 w1
 have HT:H (∀k:Nat, -(k:Int)<=N.total (N.fr (n.1,n.2.1) n.2.2) (es.take k)/\N.total (N.fr (n.1,n.2.1) n.2.2) (es.take k)<=(k:Int)):=λk=>by
  have h:=tn (N.fr (n.1,n.2.1) n.2.2) (Mf _ _)<|es.take k;have h2:(es.take k).length<=k:=aq;omega
 have vE:H (∀k:Nat, -(k:Int)<=N.total (N.fa n l) (es.take k)/\N.total (N.fa n l) (es.take k)<=(k:Int)):=λk=>by
  have h:=tn (N.fa n l) (N.Pe _ _)<|es.take k;have h2:(es.take k).length<=k:=aq;omega
 unfold iQ at HI;obtain⟨pa,pb,ps,⟨f1,f2,f3⟩,t1,t2,t3⟩:=p;simp only[PB.cells] at*;generalize aM C f1=T at*;generalize aM C f2=X at*;generalize aM C t1=T1 at*;generalize aM C t2=T2 at*;generalize aM C n.1=Z at*;generalize aM C n.2.1=N2 at*;have hb0:Below w.heap.size w (w.alloc<|.cells #[A C pa pb,aA C ps,A C T X,I J f3,A C T1 T2,I J t3] 171):=(Below.refl _ _).alloc (aX _) _;have i:=aa w<|.cells #[A C pa pb,aA C ps,A C T X,I J f3,A C T1 T2,I J t3] 171;have hz:w.heap.size<(w.alloc<|.cells #[A C pa pb,aA C ps,A C T X,I J f3,A C T1 T2,I J t3] 171).heap.size:=E;go_enter func105,ntmps105;go_wp2_with fail;generalize w.alloc (.cells #[A C pa pb,aA C ps,A C T X,I J f3,A C T1 T2,I J t3] 171)=W at*;refine(HI.o _).mono ?_;rintro r w1 ⟨rfl,z⟩;have G9:=(z.block _ hz).trans i;have acj:=bg hz z.size;have s:=hb0.trans<|z.mono hb0.size;go_wp2_with (simp only[fW];go_simp);have gh:H (Below w.heap.size w (w1.alloc<|.cells #[A C Z N2,I J n.2.2] 83)/\(w1.alloc<|.cells #[A C Z N2,I J n.2.2] 83).heap[w.heap.size]?=K (.cells #[A C pa pb,aA C ps,A C T X,I J f3,A C T1 T2,I J t3] 171 (0,0))/\(w1.alloc<|.cells #[A C Z N2,I J n.2.2] 83).heap[w1.heap.size]?=K (.cells #[A C Z N2,I J n.2.2] 83 (0,0))):=⟨s.alloc s.size _,(ad _ _ _ acj).trans G9,aa _ _⟩;generalize w1.heap.size=c at*;generalize w1.alloc (.cells #[A C Z N2,I J n.2.2] 83)=WL at*
 go_loopg [6,7,15] es.length (λm rv av iv wr=>∃k:Nat,k+m=es.length/\iv=I J k/\rv=I J (N.total (N.fr (n.1,n.2.1) n.2.2)<|es.take k)/\av=I J (N.total (N.fa n l)<|es.take k)/\H (Below w.heap.size w wr/\wr.heap[w.heap.size]?=K (.cells #[A C pa pb,aA C ps,A C T X,I J f3,A C T1 T2,I J t3] 171 (0,0))/\wr.heap[c]?=K (.cells #[A C Z N2,I J n.2.2] 83 (0,0))))
 case atStart=>exact⟨0,U,rfl,rfl,rfl,gh⟩
 case round=>
  obtain⟨k,hkn,rfl,rfl,rfl,HB⟩:=hrel;obtain⟨d,Ph,B⟩:=HB.o;have GN:=HT.o k;have hAk:=vE.o k;by_cases hlt:k<es.length
  .obtain⟨e,Q⟩:∃e,es[k]?=K e:=⟨_,be hlt⟩;obtain⟨b,x,rfl,hb,L,c0,c1,c2,c3⟩:=BR HR.o Q;obtain⟨r0,r1,r2,r3⟩:=ajE d hb c0 c1 c2 c3;have n0:=bz B;have n1:=bw B;have hbr:=bg hb d.size;have Hb:=apJ B;have hPz:=apJ Ph;have iH:(k:Int)<(es.length:Int):=U;have t:=bB Q;have rr:H (N.total (N.fr (n.1,n.2.1) n.2.2) (es.take<|k+1)=N.total (N.fr (n.1,n.2.1) n.2.2) (es.take k)+N.fr (n.1,n.2.1) n.2.2 e.1 e.2):=Bx _ Q;have Pi:H (N.total (N.fa n l) (es.take<|k+1)=N.total (N.fa n l) (es.take k)+N.fa n l e.1 e.2):=Bx _ Q;have CZ:=hid<|HH.o x e L t;have Pj:=hid<|HP.o x e L t;have YV:=hid<|HA.o x e L t;have hfin:=Mf (n.1,n.2.1) n.2.2 e.1 e.2;have alH:=N.Pe n l e.1 e.2;have S:H (N.fa n l e.1 e.2=if N.fo (n.1,n.2.1) n.2.2 e then(l.1*(e.2.1-e.1.1)+l.2.1*(e.2.2-e.1.2)).sign else 0):=rfl;obtain⟨wa,wb,sh,fa,fb,ta,tb⟩:=x;simp only at r0 r1 r2 r3 CZ Pj YV;generalize N.total (N.fr (n.1,n.2.1) n.2.2) (es.take k)=TR at*;generalize N.total (N.fa n l) (es.take k)=TA at*;generalize N.fr (n.1,n.2.1) n.2.2 e.1 e.2=FR at*;generalize N.fa n l e.1 e.2=FA at*;generalize(l.1*(e.2.1-e.1.1)+l.2.1*(e.2.2-e.1.2)).sign=SG at*;have hL0:Below w.heap.size w (wr.alloc<|.cells #[A C wa wb,aA C sh,A C fa fb,A C ta tb] 124):=d.alloc d.size _;have i:=aa wr<|.cells #[A C wa wb,aA C sh,A C fa fb,A C ta tb] 124;have yD:=(ad wr (.cells #[A C wa wb,aA C sh,A C fa fb,A C ta tb] 124) _ hPz).trans Ph;have Ha:=(ad wr (.cells #[A C wa wb,aA C sh,A C fa fb,A C ta tb] 124) _ Hb).trans B;have hsz:wr.heap.size+1=(wr.alloc<|.cells #[A C wa wb,aA C sh,A C fa fb,A C ta tb] 124).heap.size:=E;have hwr:J.wrap (TR+FR)=TR+FR:=by rw[ah];omega
   have hwa:J.wrap (TA+SG)=TA+SG\/N.fo (n.1,n.2.1) n.2.2 e=aQ:=by
    cases hf:N.fo (n.1,n.2.1) n.2.2 e
    .exact F rfl
    .refine j ?_;have h3:=S.o;rw[hf,y rfl] at h3;rw[ah];omega
   go_wp2_with (simp only[fW,mm];go_simp);generalize wr.alloc (.cells #[A C wa wb,aA C sh,A C fa fb,A C ta tb] 124)=w0 at*;generalize hEe:wr.heap.size=a at*;refine(Pj.o _).mono ?_;rintro e' w2 ⟨rfl,g⟩;have f:=(g.block _ (show a<w0.heap.size by omega)).trans i;have xC:=(g.block _ (show w.heap.size<w0.heap.size by omega)).trans yD;have o:=(g.block _ (show c<w0.heap.size by omega)).trans Ha;have alJ:=g.size;have hL2:=hL0.trans<|g.mono U;obtain⟨e0,e1,e2,e3⟩:=ajG f;have n0:=bz o;have n1:=bw o;go_wp2_with fail;refine(CZ.o _).mono ?_;rintro e' w3 ⟨rfl,q⟩;have Pk:=(q.block _ (show a<w2.heap.size by omega)).trans f;have P:=(q.block _ (show w.heap.size<w2.heap.size by omega)).trans xC;have Hc:=(q.block _ (show c<w2.heap.size by omega)).trans o;have alK:=q.size;have hL3:=hL2.trans<|q.mono U;cases hf:N.fo (n.1,n.2.1) n.2.2 e
   .have R:H (FA=0):=by have:=S.o;rw[hf] at this;exact this
    go_wp2_with fail;go_roundg (gk-1)
    case measure=>omega
    case rel=>exact⟨k+1,U,af,by rw[rr.o],by rw[Pi.o,R.o,VF],hL3,P,Hc⟩
   .have R:H (FA=SG):=by have:=S.o;rw[hf,y rfl] at this;exact this
    have alL:J.wrap (TA+SG)=TA+SG:=by
     rcases hwa with h|h
     .exact h
     .rw[hf] at h;cases h
    have e0:=bz Pk;have e1:=bw Pk;have p0:=bz P;have p1:=bw P;go_wp2_with fail;refine(YV.o _).mono ?_;rintro e' w4 ⟨rfl,D⟩;have ay:=(D.block _ (show w.heap.size<w3.heap.size by omega)).trans P;have hN4:=(D.block _ (show c<w3.heap.size by omega)).trans Hc;have hL4:=hL3.trans<|D.mono U;go_wp2_with fail;go_roundg (gk-1)
    case measure=>omega
    case rel=>exact⟨k+1,U,af,by rw[rr.o],by rw[Pi.o,R.o],hL4,ay,hN4⟩
  .have hk:k=es.length:=U;subst hk;rw[dV] at*;have hws:J.wrap (N.total (N.fr (n.1,n.2.1) n.2.2) es+N.total (N.fa n l) es)=N.total (N.fr (n.1,n.2.1) n.2.2) es+N.total (N.fa n l) es:=by rw[ah];omega
   generalize C4:N.total (N.fr (n.1,n.2.1) n.2.2) es=TR at GN hws;generalize hTA:N.total (N.fa n l) es=TA at hAk hws;have HTR:=hid C4;have acr:=hid hTA;go_wp2_with fail;refine ab (v:=aG #[I J (TR+TA),I J TR]) (by simp[results,results105,go_sem]) rfl ⟨?_,d⟩;rw[HTR.o,acr.o]
def Pn(x:PB)(n:N.Nd):Prop:=N.Can n/\N.T n=(N.bu (x.f.1+x.t.1)<|x.f.2.2+x.t.2.2,N.bu (x.f.2.1+x.t.2.1)<|x.f.2.2+x.t.2.2)/\eM n.1 n.2.1 n.2.2
theorem acs(p:PB)(l:N.Ln)(es:V Ed)(m:mr p.wa p.wb p.sh l)(b:sm l.1)(c:sm l.2.1)(g:iI p.f)(t:iI p.t)(k:es.length<=402)(s:∀e∈es,cM e):
  ∃n,Pn p n/\∀v w,kG w v es->M 105 #[u p.cells.toArray,v] w (ai (aG #[I J (N.total (N.fr (n.1,n.2.1) n.2.2) es+N.total (N.fa n l) es),I J<|N.total (N.fr (n.1,n.2.1) n.2.2) es]) w):=by
 obtain⟨n,f,q,a,h⟩:=abk p g t;exact⟨n,⟨f,q,a⟩,λv w d=>aci p l n es v w m b c a d k s h⟩
theorem act{d dk:Array N.Nd}(h:Lib.CompInv d d.size k dk):dk.toList.take k=N.dN d.toList:=by
 rw[<-N.On];apply sJ;intro j;rw[jb];by_cases a:j<k
 .have:=h.size;have:=h.lt;rw[y a,h.low j a,iD,lB U,gN dk j U]
 .rw[X a,sK (by rw[h.len];omega)]
theorem RW.dn{d:Array N.Nd}(h:RW w g cap n d wr)(q:Nat):RW w g cap n d (wr.drewN q):=⟨h.size,h.own,⟨h.below.os,h.below.tape,h.below.output,h.below.size,h.below.block⟩⟩
theorem acu(w:G)(g cap n:Nat)(d:Array N.Nd)(Q:G)(h:RW w g cap n d Q)(hd:∀i,i<n->eM (d[i]!).1 (d[i]!).2.1 (d[i]!).2.2)(hn:n<=200000)(hc:n<=cap):
  M 126 #[D (K ⟨g,0,Z⟩) n cap] Q λr w'=>∃v',r=aJ v'/\js w' v' (N.dN d.toList)/\ag w w':=by
 have y:=hid h;have R:=hid hd;have hds:=h.size;by_cases h2:n<2
 .go_enter func126,ntmps126;go_wp2_with fail;go_ret;refine⟨_,rfl,?_,y.o.below⟩;rw[Ot<|λj hj=>aka d j U];exact y.o.rd
 .go_enter func126,ntmps126;go_wp2_with fail
  go_loopg [3] n (λgk W wr=>∃k:Nat,1<=k/\k<=n/\n-k<=gk/\W=I J k/\H (RW w g cap n d wr/\∀j,j<k->Lib.keeps d j=aP))
  case atStart=>exact⟨1,aX _,U,U,rfl,y.o,aka d⟩
  case round=>
   obtain⟨k,hk1,hk,hg,rfl,l⟩:=hrel;by_cases B:k<n
   .obtain⟨c1,d1,f1,z1⟩:=l.o.1.cells k B;obtain⟨Y,d0,f0,z0⟩:=l.o.1.cells (k-1) U;have iH:(k:Int)<(n:Int):=U;have T:=yB d[k]! d[k-1]! (R.o k B) (R.o (k-1) U);have F:H (d[k]! =d[k-1]! ->Lib.keeps d k=aQ):=λe=>akb U e;have L:H (d[k]! ≠d[k-1]! ->Lib.keeps d k=aP):=λe=>akc e;have c:H (decide (d[k]! =d[k-1]!)=aP↔d[k]! =d[k-1]!):=iE;generalize hB:decide (d[k]! =d[k-1]!)=O at T c;generalize aM C (d[k]!).1=A1 at*;generalize aM C (d[k]!).2.1=A2 at*;generalize(d[k]!).2.2=A3 at*;generalize aM C (d[k-1]!).1=B1 at*;generalize aM C (d[k-1]!).2.1=B2 at*;generalize(d[k-1]!).2.2=B3 at*
    go_wp2_with fail
    go_quiet (fail)
    cases O
    .have o:=L.o (λe=>by have:=c.o.2 e;cases this);have u:=hid o;go_wp2_with fail;go_roundg (n-(k+1))
     case measure=>omega
     case rel=>
      refine⟨k+1,U,U,aX _,af,l.o.1.dn nq,λj hj=>?_⟩;by_cases e:j=k
      .subst e;exact u.o
      .exact l.o.2 j U
    .have o:=hid<|F.o<|c.o.1 rfl;go_wp2_with fail
     go_loopg [3,5] n (λgk W s5 X=>∃(b a:Nat)(s:Array N.Nd),W=I J b/\s5=I J a/\1<=a/\k+a<=n/\n-(k+a)<=gk/\H (RW w g cap n s X/\Lib.CompInv d (k+a) b s))
     case atStart=>exact⟨k,1,d,rfl,rfl,aX _,U,U,l.o.1.dn nq,Lib.CompInv.start l.o.2 o.o⟩
     case round=>
      obtain⟨b,a,s,rfl,rfl,h1,hle,hg2,f⟩:=hrel;have hkk:=f.o.2.lt;by_cases m:k+a<n
      .obtain⟨c1,d1,_,_⟩:=f.o.1.cells (k+a) m;obtain⟨Y,d0,_,_⟩:=f.o.1.cells (k+a-1) U;obtain⟨ck,dkk,f1,z1⟩:=f.o.1.cells b U;rw[f.o.2.high (k+a) U,show(k+a)*2=k*2+a*2 by omega] at c1;rw[f.o.2.high (k+a) U,show(k+a)*2=k*2+a*2 by omega] at d1;rw[f.o.2.high (k+a-1) U,show(k+a-1)*2=k*2+(a-1)*2 by omega] at Y;rw[f.o.2.high (k+a-1) U,show(k+a-1)*2=k*2+(a-1)*2 by omega] at d0;have P:=abi d[k+a]! d[k+a-1]! (R.o (k+a) m) (R.o (k+a-1) U);have F:H (d[k+a]! =d[k+a-1]! ->Lib.keeps d (k+a)=aQ):=λe=>akb U e;have L:H (d[k+a]! ≠d[k+a-1]! ->Lib.keeps d (k+a)=aP):=λe=>akc e;have c:H (decide (d[k+a]! =d[k+a-1]!)=aP↔d[k+a]! =d[k+a-1]!):=iE;have HS:H (∀q,RW w g cap n (s.setIfInBounds b d[k+a]!)<|((wr.drewN q).setCell ⟨g,b*2,Z⟩<|A C (aM C (d[k+a]!).1)<|aM C (d[k+a]!).2.1).setCell ⟨g,b*2+1,Z⟩<|I J (d[k+a]!).2.2):=λq=>(f.o.1.dn q).set b U _;have x:a<n-k:=U;generalize hB:decide (d[k+a]! =d[k+a-1]!)=O at P c;generalize aM C (d[k+a]!).1=A1' at*;generalize aM C (d[k+a]!).2.1=A2' at*;generalize(d[k+a]!).2.2=A3' at*;generalize aM C (d[k+a-1]!).1=B1' at*;generalize aM C (d[k+a-1]!).2.1=B2' at*;generalize(d[k+a-1]!).2.2=B3' at*
       go_wp2_with fail
       go_quiet (fail)
       cases O
       .have p:H (Lib.keeps d (k+a)=aP):=L.o (λe=>by have:=c.o.2 e;cases this);simp only[Bool.not_false];go_wp2_with (simp only[fW];go_simp);go_roundg (n-(k+(a+1)))
        case measure=>omega
        case rel=>exact⟨b+1,a+1,s.setIfInBounds b d[k+a]!,af,af,U,U,aX _,HS.o _,f.o.2.keep U p.o⟩
       .have p:=hid<|F.o<|c.o.1 rfl;simp only[Bool.not_true];go_wp2_with fail;go_roundg (n-(k+(a+1)))
        case measure=>omega
        case rel=>exact⟨b,a+1,s,rfl,af,U,U,aX _,f.o.1.dn _,f.o.2.skip p.o⟩
      .have v:k+a=d.size:=U;obtain⟨w',hcl,t,V⟩:=f.o.1.clear b U<|cap-b;have z:H (js w' (D (K ⟨g,0,Z⟩) b cap)<|N.dN d.toList):=by
        have hI:=f.o.2;rw[v] at hI;rw[<-act hI];exact V
       have S:=hid t;have x:¬a<n-k:=U;have ahX:b<=n:=U;have apc:b<=cap:=U;go_wp2_with fail;go_ret;exact⟨_,rfl,z.o,S.o⟩
   .have:k=n:=U;subst this;go_wp2_with fail;go_ret;refine⟨_,rfl,?_,l.o.1.below⟩;rw[Ot<|λj hj=>l.o.2 j U];exact l.o.1.rd
theorem acv(w:G)(d:Y)(S:V N.Nd)(wr:G)(h:NL w d S wr)(t:S.length<=200000):
  M 126 #[d] wr λr w'=>∃f,r=aJ f/\js w' f (N.dN S)/\ag w w':=by
 rcases h.own.2 with⟨rfl,m⟩|⟨g,cap,l,rfl,x,c,b,q,s,v⟩
 .have p:S=[]:=gL.1 m;subst p;have k:=hid h.below;go_enter func126,ntmps126;go_wp2_with fail;go_ret;exact⟨_,rfl,ak _ _ _ _,k.o⟩
 .have n:RW w g cap S.length S.toArray wr:=⟨E,h.own,h.below⟩;have a:∀i,i<S.length->eM (S.toArray[i]!).1 (S.toArray[i]!).2.1 (S.toArray[i]!).2.2:=λi a=>by
   have e:S.toArray[i]! =S[i]:=by rw[gN S.toArray i<|by simpa using a];simp
   rw[e];exact h.bm _<|eo a
  exact acu w g cap S.length S.toArray wr n a t b
abbrev VN:={n:N.Nd //N.Can n/\eM n.1 n.2.1 n.2.2}
def iJ(x:VN):V Y:=gH x.1
def vQ(x y:VN):Int:=N.pc (N.T x.1)<|N.T y.1
theorem C5(h:ag w w')(g:w.drawn<=w'.drawn):∃q os,w'=Sort.grow (w.drewN q) os:=by
 refine⟨w'.drawn-w.drawn,w'.heap.extract w.heap.size w'.heap.size,?_⟩;have e:w'.heap=w.heap++w'.heap.extract w.heap.size w'.heap.size:=by
  apply Array.ext_getElem?;intro k;rw[Array.getElem?_append];split
  .exact h.block k (by assumption)
  .rename_i l;rw[Array.getElem?_extract];by_cases f:k<w'.heap.size
   .rw[y U];congr 1;omega
   .rw[X U,Ag U]
 have a:w.drawn+(w'.drawn-w.drawn)=w'.drawn:=U;have b:=h.os;have c:=h.tape;have d:=h.output;unfold Sort.grow World.drewN;rw[a];show w'={heap:=w.heap++w'.heap.extract w.heap.size w'.heap.size,tape:=w.tape,drawn:=w'.drawn,os:=w.os,output:=w.output};rw[<-e,<-b,<-c,<-d]
theorem acw[Inhabited VN](blk b a:Nat)(w:G):CmpLays prog 125 #[] iJ 2 vQ blk b a w:=
 λ_ _ _ _ x y=>(yy x.1 y.1 x.2.2 y.2.2 x.2.1 y.2.1 _).mono λ_ _⟨c,d,e⟩=>⟨c,C5 d e⟩
theorem tT{x y:VN}:ltOf vQ x y=aP↔N.lt (N.T x.1) (N.T y.1):=by
 unfold ltOf vQ N.lt;exact iE
theorem yP{x y:VN}:ltOf vQ x y=aQ↔¬N.lt (N.T x.1) (N.T y.1):=by
 rw[<-tT];simp
theorem acx:Sort.SWO (ltOf vQ) where
 irrefl _x:=yP.2<|N.lt_irrefl _
 trans x y z h1 h2:=tT.2<|N.lt_trans (N.dH x.2.1) (N.dH y.2.1) (N.dH z.2.1) (tT.1 h1)<|tT.1 h2
 ntrans x y z h1 h2:=yP.2 λh=>yP.1 h1<|N.lt_le_trans x.2.1 z.2.1 y.2.1 h<|yP.1 h2
theorem Po:∀(L:V N.Nd),(∀n∈L,N.Can n)->(∀n∈L,eM n.1 n.2.1 n.2.2)->∃d:V VN,d.map Subtype.val=L
 |[],_,_=>⟨[],rfl⟩
 |n::L,b,c=>by
  obtain⟨d,e⟩:=Po L (λm a=>b m<|by simp[a]) (λm a=>c m<|by simp[a]);exact⟨⟨n,b n E,c n E⟩::d,by simp[e]⟩
theorem Pp[Inhabited VN](d:Array VN):(Sort.flatK iJ 2 d).toList=ez (d.toList.map Subtype.val):=by
 apply sJ;intro t;by_cases g:t<d.size*2
 .have a:t/2<d.size:=U;have k:(d.toList.map Subtype.val)[t/2]?=K (d[t/2]!).1:=by
   rw[fx,iD,lB a,gN d _ a];rfl
  have b:=yz _ _ _ k (t%2)<|uq _ ae;have h:t/2*2+t%2=t:=U;rw[h] at b;have c:=Sort.get_flatK iJ 2 d t g;have f:t<(Sort.flatK iJ 2 d).size:=by rw[aak];exact g
  rw[gN (Sort.flatK iJ 2 d) t f] at c;rw[b,iD,lB f,c];have e:t%2<(iJ d[t/2]!).length:=uq _ ae;rw[gN (iJ d[t/2]!) (t%2) e];exact(be e).symm
 .rw[sK (by rw[ie,aak];omega),sK (by rw[yA];simp;omega)]
theorem Pq(F c:Array Y)(h:F.size<=c.size):(Sort.putCells id 0 F c).toList.take F.size=F.toList:=by
 apply sJ;intro t;rw[jb];by_cases a:t<F.size
 .have b:t<c.size:=U;rw[y a,iD,iD];unfold Sort.putCells;rw[ajt,lB b,lB a];simp[a]
 .rw[X a,iD,Ag U]
theorem acy[Inhabited VN](a:Array VN)(n:Nat)(os:Array Obj){cur:Array Y}{t:TypeId}{fr:Nat×Nat}(b:wr.heap[g]?=K (.cells cur t fr)):
  (sortWorldK iJ 2 wr g 0 n a os).heap[g]?=K (.cells (Sort.putCells id 0 (Sort.flatK iJ 2 a) cur) t fr):=by
 have c:=apJ b;show((wr.heap.modify g<|Sort.onCells<|Sort.putCells id 0<|Sort.flatK iJ 2 a)++os)[g]?=_;rw[As (by simpa using c),uh,y rfl,b];rfl
theorem acz[Inhabited VN](b:Array VN)(n:Nat)(os:Array Obj)(c:k<wr.heap.size)(a:g≠k):
  (sortWorldK iJ 2 wr g 0 n b os).heap[k]?=wr.heap[k]?:=by
 show((wr.heap.modify g<|Sort.onCells<|Sort.putCells id 0<|Sort.flatK iJ 2 b)++os)[k]?=_;rw[As (by simpa using c),uh,X a]
theorem acA[Inhabited VN](a:Array VN)(n:Nat)(os:Array Obj)(wr:G)(g:Nat):wr.heap.size<=(sortWorldK iJ 2 wr g 0 n a os).heap.size:=by
 show _<=((wr.heap.modify g<|Sort.onCells<|Sort.putCells id 0<|Sort.flatK iJ 2 a)++os).size;rw[VG,VH];omega
theorem acB[Inhabited VN](w:G)(lv:Y)(L:V N.Nd)(wr:G)(h:NL w lv L wr)(hl:L.length<=200000):
  M 124 #[lv,.func (.func 125) #[] #[]] wr λr w'=>r=aJ (aG #[])/\∃S,NL w lv S w'/\(∀n,n∈S↔n∈L)/\S.length=L.length/\S.Pairwise N.le:=by
 obtain⟨hlen,B⟩:=h.own;rcases B with⟨rfl,h0⟩|⟨g,cap,t,rfl,hg,b,X,D,R,htk⟩
 .have hL:L=[]:=gL.1 h0;subst hL;refine(AnyF.slices_SortFunc_none Tryz.sortNd Z 0 _ wr).mono ?_;rintro e w' ⟨rfl,rfl⟩;exact⟨rfl,[],h,λn=>Aq,rfl,List.Pairwise.nil⟩
 .obtain⟨d,H⟩:=Po L h.can h.bm;have J:g<wr.heap.size:=apJ b;have l:L.length=d.toArray.size:=by rw[<-H];simp
  have I:(Sort.flatK iJ 2 d.toArray).toList=t.toList.take (L.length*2):=by rw[Pp,htk,<-H]
  have hH:Sort.HoldsK iJ 2 wr g 0 d.toArray:=by
   intro j o;have p:=o;rw[aak,<-l] at p;have C:t[j]?=K (Sort.flatK iJ 2 d.toArray)[j]! :=by
    have P:(Sort.flatK iJ 2 d.toArray).toList[j]?=(t.toList.take<|L.length*2)[j]?:=by rw[I]
    rw[jb,y p,iD,iD,lB o] at P;rw[<-P,gN (Sort.flatK iJ 2 d.toArray) j o]
   refine⟨?_,bE b _⟩;rw[ir];unfold World.cell?;rw[b];exact C
  have eg:∀s w,(callFunc 125 s).run prog w=.ok (.enter 125 s) w:=enters_of func125 z rfl;have u:∀x:VN,∀v∈iJ x,v.oneCell'=aP:=λx v hv=>by
   simp[iJ,gH] at hv;rcases hv with rfl|rfl<;>rfl
  have c:=AnyQ.slices_SortFunc Tryz.sortNd 2 isAgg83 sizeOf83 iJ (λ_=>rfl) u vQ acx 125 #[] g 0 cap d.toArray wr eg (acw _ _ _ _) hH J (by rw[<-l];omega);change M 124 _ _ _ at c;rw[<-l] at c;refine c.mono ?_;rintro e w' ⟨rfl,a,n,os,hp,hs,rfl⟩;obtain⟨hps,_,A⟩:=hp;have q:a.size=L.length:=by rw[hps,l]
  have hperm:a.toList.Perm d:=by
   have P:a.extract 0 L.length=a:=by rw[<-q];exact E3
   have e2:d.toArray.extract 0 L.length=d.toArray:=by rw[l];exact E3
   rw[P,e2] at A;exact A
  have iR:(a.toList.map Subtype.val).length=L.length:=by simp[q]
  have f:∀m,m∈a.toList.map Subtype.val↔m∈L:=λm=>by
   rw[<-H];simp only[bA];constructor
   .rintro⟨x,Q,rfl⟩;exact⟨x,hperm.mem_iff.1 Q,rfl⟩
   .rintro⟨x,Q,rfl⟩;exact⟨x,hperm.mem_iff.2 Q,rfl⟩
  refine⟨rfl,a.toList.map Subtype.val,⟨⟨by rw[yA],F ⟨g,cap,_,by rw[iR],hg,acy a n os b,by rw[iR];exact X,D,?_,?_⟩⟩,?_,λm W=>h.can m<|(f m).1 W,λm W=>h.bm m<|(f m).1 W⟩,f,iR,?_⟩
  .unfold Sort.putCells;rw[Kt];exact R
  .have P:(a.toList.map Subtype.val).length*2=(Sort.flatK iJ 2 a).size:=by rw[aak,iR,q]
   rw[P,Pq _ _ (by rw[aak,q,R];omega),Pp]
  .exact h.below.trans ⟨rfl,rfl,rfl,acA a n os wr g,λk hk=>acz a n os (bg hk h.below.size) U⟩
  .rw[ic,jm];intro i j hi o T;have O:i<a.size:=by simpa using hi
   have p:j<a.size:=by simpa using o
   have Q:=hs i j (iq _) T U;rw[gN a i O,gN a j p] at Q;exact yP.1 Q
theorem acC(es:V Ed)(v:Y)(w:G)(f:kG w v es)(g:es.length<=402)(h:∀e∈es,cM e):
  M 72 #[v] w λe w'=>∃d l,e=aJ d/\js w' d l/\ag w w'/\l.map N.T=N.g8 es/\(∀n∈l,eM n.1 n.2.1 n.2.2)/\l.length<=200000/\(∀n∈l,N.Can n):=by
 haveI:Inhabited VN:=⟨⟨(0,0,1),⟨ae,ae⟩,⟨ae,ae,ae⟩⟩⟩
 exact aa7 es v w f g h (λc L wr a b=>acB w c L wr a b)<|λc S wr a b=>acv w c S wr a b
namespace N
theorem Hd{k X:Int}(a:k≠0):X.natAbs<=(k*X).natAbs:=by
 rw[kz];have:1<=k.natAbs:=U
 calc X.natAbs=1*X.natAbs:=(Ku _).symm
  _<=k.natAbs*X.natAbs:=Am _ this
theorem acD(x y:Int){d:Int}(P:d≠0):∃n:Nd,Can n/\T n=(bu x d,bu y d)/\n.1.natAbs<=x.natAbs/\n.2.1.natAbs<=y.natAbs/\n.2.2.natAbs<=d.natAbs:=by
 obtain⟨G,l⟩:∃G,Int.gcd (Int.gcd x y:Nat) d=G:=⟨_,rfl⟩;have S:0<G:=by rw[<-l];exact oI U
 have f:(G:Int)∣(Int.gcd x y:Nat):=by rw[<-l];exact wP _ _
 have r:(G:Int)∣x:=wR f<|wP _ _;have s:(G:Int)∣y:=wR f<|ul _ _;have Q:(G:Int)∣d:=by rw[<-l];exact ul _ _
 have b:∀k:Int,k≠0->k.natAbs=G->k∣x->k∣y->k∣d->0<d.tdiv k->∃n:Nd,Can n/\T n=(bu x d,bu y d)/\n.1.natAbs<=x.natAbs/\n.2.1.natAbs<=y.natAbs/\n.2.2.natAbs<=d.natAbs:=by
  intro k p i w z u j;have v:=(sA w).symm;have B:=(sA z).symm;have t:=(sA u).symm;obtain⟨a,R⟩:=Co P v B t j (by rw[i,l]);refine⟨_,a,R,?_,?_,?_⟩
  .have:=Hd (X:=x.tdiv k) p;rw[<-v] at this;exact this
  .have:=Hd (X:=y.tdiv k) p;rw[<-B] at this;exact this
  .have:=Hd (X:=d.tdiv k) p;rw[<-t] at this;exact this
 obtain⟨q,c⟩:=Q;have g:(0:Int)<G:=U;rcases dG d 0 with h|h|h
 .have o:q<0:=by
   rcases dG q 0 with a|a|a
   .exact a
   .rw[a] at c;omega
   .have:=bD g a;omega
  refine b (-(G:Int)) U U (Int.neg_dvd.2 r) (Int.neg_dvd.2 s) (Int.neg_dvd.2 ⟨q,c⟩) ?_;have e:d= -(G:Int)*(-q):=by rw[pD];exact c
  rw[e,aju _ U];omega
 .exact absurd h P
 .have m:0<q:=by
   rcases dG q 0 with a|a|a
   .have:=oz g a;omega
   .rw[a] at c;omega
   .exact a
  refine b (G:Int) U U r s ⟨q,c⟩ ?_;rw[c,aju _ U];exact m
end N
theorem He{es:V Ed}(l:∀e∈es,cM e){n:N.Nd}(p:N.Can n)(h:N.isNode es (N.T n)):iI n:=by
 have g:∀a:N.O,small a.1->small a.2->N.T n=N.pt a->iI n:=λa v x t=>by
  have q:N.Can (a.1,a.2,1):=⟨by show(0:Int)<1;decide,E⟩;have e:n=(a.1,a.2,1):=N.oN p q (by rw[t];unfold N.T N.pt;simp only[N.Bs]);unfold small at v x;rw[e];exact⟨ax,ax,E⟩
 rcases h with⟨e,k,h|h⟩|⟨e,k,f,B,r,t,_,_⟩
 .exact g e.1 (l e k).a (l e k).b h
 .exact g e.2 (l e k).c (l e k).d h
 .obtain⟨m,P,s,Q,R,S⟩:=N.acD (N.mX e f) (N.mY e f) r;have en:n=m:=N.oN p P (by rw[t,s];rfl);obtain⟨i,j,o⟩:=Gf (l e k)<|l f B;have:=p.pos;rw[<-en] at Q R S;exact⟨U,U,U⟩
structure AP(es:V Ed)(l:V N.Nd)(L:V PB):Prop where
 mem:∀p∈L,∃e∈es,mr p.wa p.wb p.sh (N.gG<|N.ds e)/\(p.f,p.t)∈N.apO (N.held e l)
 all:∀e∈es,∀q∈N.apO (N.held e l),∃p∈L,(p.f,p.t)=q
theorem AP.nil(l:V N.Nd):AP [] l []:=⟨λp h=>by simp at h,λe h=>by simp at h⟩
theorem AP.snoc{es:V Ed}{l:V N.Nd}{L:V PB}(h:AP es l L)(e:Ed){a s:Nat}(m:mr a b s (N.gG<|N.ds e)):AP (es++[e]) l (L++fO a b s e l):=by
 refine⟨λp c=>?_,λf d q g=>?_⟩
 .rcases dm.1 c with c|c
  .obtain⟨f,d,k⟩:=h.mem p c;exact⟨f,by simp[d],k⟩
  .unfold fO at c;obtain⟨q,g,rfl⟩:=bA.1 c;exact⟨e,E,m,g⟩
 .rcases dm.1 d with d|d
  .obtain⟨p,c,k⟩:=h.all f d q g;exact⟨p,by simp[c],k⟩
  .rw[cI.1 d] at g;exact⟨⟨a,b,s,q.1,q.2⟩,wU _<|bA.2 ⟨q,g,rfl⟩,rfl⟩
theorem acE{P:Program}(base:Nat)(t m e:TypeId)(i:TypeInfo)(b:Nat)(k:P.underlying t=K (.slice e))(h:P.info? e=K i)
  (v:Y)(n:Nat)(p:V Y)(a:w.ownsRow base e b v n p)(f:Option Addr)(c:Nat):
  (Builtin.append_ #[t,t] m #[v,D f 0 c]).run P w=.ok v w:=by
 rcases a.2 with⟨rfl,rfl⟩|⟨g,cap,l,rfl,_,_,d,_⟩
 .cases f<;>simp[Builtin.append_,run_underlying k,sizeOf,typeInfo,h,Builtin.lenOf,Builtin.firstCells,loadCells,loadCellsFrom]
 .cases f<;>simp[Builtin.append_,run_underlying k,sizeOf,typeInfo,h,Builtin.lenOf,Builtin.firstCells,d,storeCells,loadCells,loadCellsFrom]
theorem Pr{P:Program}{ops:Array Oper}{rest:V Oper}{o:Oper}{a:Act}{Q:Exit->Act->G->Prop}(f:o.guard=Z)(s x:Operand)(t:TypeId)
  (p:o.op=.call {callee:=.builtin .append,args:= #[s,x],argTypes:= #[t,t]})(base:Nat)(e:TypeId)(i:TypeInfo)(b:Nat)(B:P.underlying t=K (.slice e))(m:P.info? e=K i)
  (v:Y)(n:Nat)(k:V Y)(r:a.eval s=v)(d:w.ownsRow base e b v n k)(g:Option Addr)(c:Nat)(R:a.eval x=D g 0 c)
  (h:wpList P ops Q rest (a.put o.dst v) w):wpList P ops Q (o::rest) a w:=
 wpList_plain f λ_ l=>by
  have q:=acE (P:=P) (w:=w) base t o.type e i b B m v n k d g c;unfold Oper.wp execOp;simp only[p,resolve,invoke,builtin,Sem.run_bind,Sem.run_pure,Result.andThen_ok,List.map_toArray,gU,Kv,r,R,q];exact l _ _ h
theorem acF{l:V N.Nd}(h:js w v l)(a:ag w w'):js w' v l:=tc h λk _ b=>a.block k<|apJ b
theorem Pu(l:V PB):∀u∈dO l,u.oneCell'=aP:=by
 intro u a;obtain⟨x,_,h⟩:=lw.1 a;simp[PB.cells] at h;rcases h with rfl|rfl|rfl|rfl|rfl|rfl<;>rfl
theorem PL.fresh{L:V PB}(h:PL w v L wr)(e:0<L.length):∃g cap,v=D (K ⟨g,0,Z⟩) L.length cap/\w.heap.size<=g/\∀j u,(dO L)[j]?=K u->wr.cell? ((⟨g,0,Z⟩:Addr).add j)=K u:=by
 rcases h.1.2 with⟨_,d⟩|⟨g,cap,b,a,c,f⟩
 .omega
 .exact⟨g,cap,a,c,h.1.cells (by rw[a];rfl)⟩
theorem acG(a b:V PB):dO (a++b)=dO a++dO b:=by simp[dO]
theorem vS(l:V PB):(dO l).length=l.length*6:=by
 induction l with
 |nil=>rfl
 |cons x r a=>
  have e:dO (x::r)=x.cells++dO r:=by simp[dO]
  rw[e,bG,a,dc];show 6+_=_;omega
theorem acH(es:V Ed)(v:Y)(w:G)(hR:kG w v es)(hl:es.length<=402)(hs:∀e∈es,cM e)
  (Q:V PB->Y->G->Prop)
  (HS:H (∀l,l.map N.T=N.g8 es->(∀n∈l,N.Can n)->∀lv L wr,PL w lv L wr->AP es l L->L.length<=85000000->M 156 #[lv,.func (.func 157) #[] #[]] wr λr w'=>r=aJ (aG #[])/\M 158 #[lv,.func (.func 159) #[] #[]] w' λr w''=>∃u Ps,r=aJ u/\Q Ps u w'')):
  M 104 #[v] w λr w'=>∃u Ps,r=aJ u/\Q Ps u w':=by
 obtain⟨so,cap,rfl⟩:=BP hR;obtain⟨i0,hi,hz0,hz1,hz2⟩:=aH O9;have HR:=hid hR;have HN:=hid<|acC es _ w hR hl hs;have HSE:=hid hs;clear hR hs;go_enter func104,ntmps104;go_wp2_with fail;refine HN.o.mono ?_;rintro r w1 ⟨nv,l,rfl,IN,hb1,qp,hin,hll,z⟩;obtain⟨ns,nc,rfl⟩:=Cu IN;have zS:=hid IN;have HNI:=hid hin;have Ub:H (l.map N.T=N.g8 es/\(∀n∈l,N.Can n)):=⟨qp,z⟩;clear IN hin qp z HN;have gh:H (∃L,PL w (D Z 0 0) L w1/\(∀k,(D Z 0 0).ownBlock=K k->w1.heap.size<=k)/\ag w1 w1/\AP (es.take 0) l L/\L.length<=0):=⟨[],⟨ak _ _ _ _,hb1⟩,(λk h=>by cases h),Below.refl _ _,by simpa using AP.nil l,E⟩;go_wp2_with fail
 go_loopg [4,11] es.length (λm lv iv wr=>∃k:Nat,k+m=es.length/\iv=I J k/\H (∃L,PL w lv L wr/\(∀k,lv.ownBlock=K k->w1.heap.size<=k)/\ag w1 wr/\AP (es.take k) l L/\L.length<=k*200000))
 case atStart=>exact⟨0,U,rfl,by simpa using gh⟩
 case round=>
  obtain⟨k,hkn,rfl,HE⟩:=hrel;clear gh;by_cases hlt:k<es.length
  .obtain⟨L,t,uO,B,q,qi⟩:=HE.o;have X:=hid uO;have hLk:=el qi<|Am _<|lX k;obtain⟨e,o⟩:∃e,es[k]?=K e:=⟨_,be hlt⟩;obtain⟨b,x,rfl,hb,S,c0,c1,c2,c3⟩:=BR HR.o o;have d:=t.2;obtain⟨r0,r1,r2,r3⟩:=ajE d hb c0 c1 c2 c3;have:=bg hb d.size;have:(k:Int)<(es.length:Int):=U;have F:=bB o;have ms:=HSE.o e F;obtain⟨ra,rb,rs,hfl,Pv⟩:=aaY (l:=N.ds e) (a:=x.wa) (b:=x.wb) (s:=x.sh) ⟨S.wa,S.wb,S.sh⟩;have i:H (AP (es.take<|k+1) l<|L++fO ra rb rs e l):=by
    have htk:es.take (k+1)=es.take k++[e]:=by rw[fg,o];rfl
    rw[htk];exact q.snoc e hfl
   have:=Pb ra rb rs e l;have W:=hid<|λu w' hv=>aca x e l u w' S ms hv HNI.o hll Pv;obtain⟨wa,wb,sh,fa,fb,ta,tb⟩:=x;simp only at r0 r1 r2 r3 W;have j:=hid t;have Pw:js (wr.alloc<|.cells #[A C wa wb,aA C sh,A C fa fb,A C ta tb] 124) (D ns l.length nc) l:=acF zS.o<|B.alloc B.size _;have rx:=hid Pw;have hb0:ag wr (wr.alloc<|.cells #[A C wa wb,aA C sh,A C fa fb,A C ta tb] 124):=aj _ _;clear c0 c1 c2 c3 o S ms F Pv hfl q t Pw HE;go_wp2_with (simp only[fW,mm];go_simp);generalize wr.alloc (.cells #[A C wa wb,aA C sh,A C fa fb,A C ta tb] 124)=W0 at*;refine(W.o _ _ rx.o).mono ?_;rintro r w2 ⟨cv,rfl,hC⟩;have hb2:=hb0.trans<|hC.2.mono hb0.size;have R:=bH j.o.1 λk P=>hb2.block k (bn j.o.1 k P).2;have f:=d.trans<|hb2.mono d.size;have p:=B.trans<|hb2.mono B.size;clear r0 r1 r2 r3 hb0 W rx;by_cases hc0:0<(fO ra rb rs e l).length
   .obtain⟨g,cp,rfl,hg,hcells⟩:=hC.fresh hc0;have O:=Pu<|fO ra rb rs e l;have hrl:=vS<|fO ra rb rs e l;generalize hCL:fO ra rb rs e l=c at*
    go_wp2_with (at_builtin;refine ahm _ rfl (.tmp 15) (.tmp 18) 168 rfl w.heap.size 171 i0 _ 6 72 underlying168 hi hz0 hz1 hz2 rfl ae u4 L.length (dO L) rfl R ⟨g,0,Z⟩ c.length cp (dO c) rfl hrl hcells O hc0 ar U f.size w2.heap.size rfl ?_;intro g' y w8 fX mO nV jW);have jI:H (∃L',PL w (D (K ⟨g',0,Z⟩) (L.length+c.length) y) L' w8/\(∀k,(D (K ⟨g',0,Z⟩) (L.length+c.length) y).ownBlock=K k->w1.heap.size<=k)/\ag w1 w8/\AP (es.take<|k+1) l L'/\L'.length<=(k+1)*200000):=by
     refine⟨L++c,⟨?_,f.grown mO f.size<|λk P=>(bn R k P).1⟩,λk P=>?_,p.grown mO p.size<|λk P=>X.o k P,i.o,?_⟩
     .rw[acG,bG];exact fX
     .injection P with P;subst P;rcases nV with h8|h8
      .exact X.o _ h8
      .show w1.heap.size<=g';rw[h8];exact p.size
     .rw[bG,Ak,Ku];omega
    clear mO fX R hcells O hrl hC j i;go_wp2_with fail;go_roundg (gk-1)
    case measure=>omega
    case rel=>exact⟨k+1,U,af,jI⟩
   .have Px:(fO ra rb rs e l).length=0:=U;have Py:=gL.1 Px;obtain⟨xo,xc,rfl⟩:∃xo xc,cv=D xo 0 xc:=by
     rcases hC.1.2 with⟨hv,_⟩|⟨gg,cc,cur,hv,_⟩
     .exact⟨Z,0,hv⟩
     .exact⟨_,cc,by rw[hv,Px]⟩
    have jI:H (∃L',PL w u4 L' w2/\(∀k,u4.ownBlock=K k->w1.heap.size<=k)/\ag w1 w2/\AP (es.take<|k+1) l L'/\L'.length<=(k+1)*200000):=by
     have h:=i.o;rw[Py,lY] at h;exact⟨L,⟨R,f⟩,X.o,p,h,hLk⟩
    clear hC j i Py;go_wp2_with (at_builtin;refine Pr rfl (.tmp 15) (.tmp 18) 168 rfl w.heap.size 171 i0 6 underlying168 hi u4 L.length (dO L) rfl R xo xc rfl ?_);go_roundg (gk-1)
    case measure=>omega
    case rel=>exact⟨k+1,U,af,jI⟩
  .have P:k=es.length:=U;subst P;obtain⟨L,t,_,B,q,qi⟩:=HE.o;rw[dV] at q;have HC:=HS.o l Ub.o.1 Ub.o.2 _ L _ t q U;have QR:=hid HC;clear HC HS HE t q HR zS;go_wp2_with fail;refine QR.o.mono ?_;rintro r w5 ⟨rfl,Pz⟩;have vT:=hid Pz;clear Pz QR;go_wp2_with fail;refine vT.o.mono ?_;rintro r w6 ⟨u,Ps,rfl,hQ⟩;have HQ:=hid hQ;clear hQ;go_wp2_with fail;go_ret;exact⟨u,Ps,rfl,HQ.o⟩
def iS(x y:PB):Prop:=vy x y<0
theorem Hf{a b:N.Nd}(c:N.Can a)(d:N.Can b):N.lt (N.T a) (N.T b)\/a=b\/N.lt (N.T b) (N.T a):=by
 by_cases h:N.lt (N.T b) (N.T a)
 .exact F (F h)
 .by_cases e:a=b
  .exact F (j e)
  .exact j (N.vt c d h e)
theorem nZ{x a:PB}(b:dR x)(c:dR a):iS x a↔N.lt (N.T x.f) (N.T a.f)\/(x.f=a.f/\N.lt (N.T x.t) (N.T a.t)):=by
 unfold iS vy cC N.lt;by_cases h:N.pc (N.T x.f) (N.T a.f)=0
 .have e:=N.qg b.cf c.cf h;rw[y h];constructor
  .exact λk=>F ⟨e,k⟩
  .rintro(k|⟨_,k⟩)
   .omega
   .exact k
 .rw[X h];constructor
  .exact j
  .rintro(k|⟨e,_⟩)
   .exact k
   .exact absurd (by rw[e];exact N.tm _) h
theorem PA{x y z:PB}(c:dR x)(d:dR y)(e:dR z)(a:iS x y)(b:iS y z):iS x z:=by
 rw[nZ c d] at a;rw[nZ d e] at b;rw[nZ c e];rcases a with a|⟨f,a⟩<;>rcases b with b|⟨g,b⟩
 .exact j (N.lt_trans (N.dH c.cf) (N.dH d.cf) (N.dH e.cf) a b)
 .exact j (by rw[<-g];exact a)
 .exact j (by rw[f];exact b)
 .exact F ⟨f.trans g,N.lt_trans (N.dH c.ct) (N.dH d.ct) (N.dH e.ct) a b⟩
theorem Hg{x y:PB}(a:dR x)(b:dR y):iS x y\/(x.f=y.f/\x.t=y.t)\/iS y x:=by
 rw[nZ a b,nZ b a];rcases Hf a.cf b.cf with h|h|h
 .exact j (j h)
 .rcases Hf a.ct b.ct with k|k|k
  .exact j (F ⟨h,k⟩)
  .exact F (j ⟨h,k⟩)
  .exact F (F<|F ⟨h.symm,k⟩)
 .exact F (F<|j h)
theorem PC(x:PB):¬iS x x:=by
 unfold iS vy cC;rw[y<|N.tm _,N.tm];decide
abbrev VP:={x:PB //dR x}
def iK(x:VP):V Y:=x.1.cells
def vU(x y:VP):Int:=vy x.1 y.1
theorem acL[Inhabited VP](blk b a:Nat)(w:G):CmpLays prog 157 #[] iK 6 vU blk b a w:=
 λ_ _ _ _ x y=>(abm x.1 y.1 x.2 y.2 _).mono λ_ _⟨c,d,e⟩=>⟨c,C5 d e⟩
theorem C6{x y:VP}:ltOf vU x y=aP↔iS x.1 y.1:=by
 unfold ltOf vU iS;exact iE
theorem yQ{x y:VP}:ltOf vU x y=aQ↔¬iS x.1 y.1:=by
 rw[<-C6];simp
theorem acM:Sort.SWO (ltOf vU) where
 irrefl x:=yQ.2<|PC _
 trans x y z h1 h2:=C6.2<|PA x.2 y.2 z.2 (C6.1 h1)<|C6.1 h2
 ntrans x y z h1 h2:=yQ.2 λh=>by
  have d:=yQ.1 h1;have c:=yQ.1 h2;rcases Hg x.2 y.2 with a|⟨a,b⟩|a
  .exact d a
  .refine c ?_;rw[nZ y.2 z.2,<-a,<-b,<-nZ x.2 z.2];exact h
  .exact c (PA y.2 x.2 z.2 a h)
theorem PD:∀(L:V PB),(∀n∈L,dR n)->∃d:V VP,d.map Subtype.val=L
 |[],_=>⟨[],rfl⟩
 |n::L,a=>by
  obtain⟨d,b⟩:=PD L (λm c=>a m<|by simp[c]);exact⟨⟨n,a n E⟩::d,by simp[b]⟩
theorem C7:∀(l:V PB)(k:Nat)(e:PB),l[k]?=K e->∀j,j<6->(dO l)[k*6+j]?=e.cells[j]?
 |[],_,_,h,_,_=>by simp at h
 |q::r,0,e,h,j,b=>by
  simp at h;subst h;have a:dO (q::r)=q.cells++dO r:=by simp[dO]
  rw[a,dQ (by show _<6;omega)];simp
 |q::r,k+1,e,h,j,b=>by
  have d:=C7 r k e (by simpa using h) j b;have a:dO (q::r)=q.cells++dO r:=by simp[dO]
  have:q.cells.length=6:=rfl;rw[a,jc U];have c:(k+1)*6+j-q.cells.length=k*6+j:=U;rw[c,d]
theorem PF[Inhabited VP](d:Array VP):(Sort.flatK iK 6 d).toList=dO (d.toList.map Subtype.val):=by
 apply sJ;intro t;by_cases g:t<d.size*6
 .have a:t/6<d.size:=U;have k:(d.toList.map Subtype.val)[t/6]?=K (d[t/6]!).1:=by
   rw[fx,iD,lB a,gN d _ a];rfl
  have b:=C7 _ _ _ k (t%6)<|uq _ ae;have h:t/6*6+t%6=t:=U;rw[h] at b;have c:=Sort.get_flatK iK 6 d t g;have f:t<(Sort.flatK iK 6 d).size:=by rw[aak];exact g
  rw[gN (Sort.flatK iK 6 d) t f] at c;rw[b,iD,lB f,c];have e:t%6<(iK d[t/6]!).length:=uq _ ae;rw[gN (iK d[t/6]!) (t%6) e];exact(be e).symm
 .rw[sK (by rw[ie,aak];omega),sK (by rw[vS];simp;omega)]
theorem acN[Inhabited VP](a:Array VP)(n:Nat)(os:Array Obj){cur:Array Y}{t:TypeId}{fr:Nat×Nat}(b:wr.heap[g]?=K (.cells cur t fr)):
  (sortWorldK iK 6 wr g 0 n a os).heap[g]?=K (.cells (Sort.putCells id 0 (Sort.flatK iK 6 a) cur) t fr):=by
 have c:=apJ b;show((wr.heap.modify g<|Sort.onCells<|Sort.putCells id 0<|Sort.flatK iK 6 a)++os)[g]?=_;rw[As (by simpa using c),uh,y rfl,b];rfl
theorem acO[Inhabited VP](b:Array VP)(n:Nat)(os:Array Obj)(c:k<wr.heap.size)(a:g≠k):
  (sortWorldK iK 6 wr g 0 n b os).heap[k]?=wr.heap[k]?:=by
 show((wr.heap.modify g<|Sort.onCells<|Sort.putCells id 0<|Sort.flatK iK 6 b)++os)[k]?=_;rw[As (by simpa using c),uh,X a]
theorem acP[Inhabited VP](a:Array VP)(n:Nat)(os:Array Obj)(wr:G)(g:Nat):wr.heap.size<=(sortWorldK iK 6 wr g 0 n a os).heap.size:=by
 show _<=((wr.heap.modify g<|Sort.onCells<|Sort.putCells id 0<|Sort.flatK iK 6 a)++os).size;rw[VG,VH];omega
theorem acQ[Inhabited VP](w:G)(lv:Y)(L:V PB)(wr:G)(h:PL w lv L wr)(u:∀x∈L,dR x)(hl:L.length<=85000000):
  M 156 #[lv,.func (.func 157) #[] #[]] wr λr w'=>r=aJ (aG #[])/\∃S,PL w lv S w'/\S.Perm L/\S.Pairwise (λx a=>¬iS a x):=by
 obtain⟨hlen,t⟩:=h.1;rcases t with⟨rfl,h0⟩|⟨g,cap,s,rfl,hg,c,O,C,P,X⟩
 .have hL:L=[]:=gL.1 h0;subst hL;refine(AnyF.slices_SortFunc_none Tryz.sortPc Z 0 _ wr).mono ?_;rintro e w' ⟨rfl,rfl⟩;exact⟨rfl,[],h,uv _,List.Pairwise.nil⟩
 .obtain⟨d,D⟩:=PD L u;have I:g<wr.heap.size:=apJ c;have l:L.length=d.toArray.size:=by rw[<-D];simp
  have H:(Sort.flatK iK 6 d.toArray).toList=s.toList.take (L.length*6):=by rw[PF,X,<-D]
  have hH:Sort.HoldsK iK 6 wr g 0 d.toArray:=by
   intro j Q;have m:=Q;rw[aak,<-l] at m;have A:s[j]?=K (Sort.flatK iK 6 d.toArray)[j]! :=by
    have B:(Sort.flatK iK 6 d.toArray).toList[j]?=(s.toList.take<|L.length*6)[j]?:=by rw[H]
    rw[jb,y m,iD,iD,lB Q] at B;rw[<-B,gN (Sort.flatK iK 6 d.toArray) j Q]
   refine⟨?_,bE c _⟩;rw[ir];unfold World.cell?;rw[c];exact A
  have eg:∀q w,(callFunc 157 q).run prog w=.ok (.enter 157 q) w:=enters_of func157 z rfl;have R:∀x:VP,∀v∈iK x,v.oneCell'=aP:=λx v u=>by
   simp[iK,PB.cells] at u;rcases u with rfl|rfl|rfl|rfl|rfl|rfl<;>rfl
  have f:=AnyQ.slices_SortFunc Tryz.sortPc 6 isAgg171 sizeOf171 iK (λ_=>rfl) R vU acM 157 #[] g 0 cap d.toArray wr eg (acL _ _ _ _) hH I (by rw[<-l];omega);change M 156 _ _ _ at f;rw[<-l] at f;refine f.mono ?_;rintro e w' ⟨rfl,b,n,os,hp,hs,rfl⟩;obtain⟨W,_,o⟩:=hp;have p:b.size=L.length:=by rw[W,l]
  have hperm:b.toList.Perm d:=by
   have B:b.extract 0 L.length=b:=by rw[<-p];exact E3
   have e2:d.toArray.extract 0 L.length=d.toArray:=by rw[l];exact E3
   rw[B,e2] at o;exact o
  have iR:(b.toList.map Subtype.val).length=L.length:=by simp[p]
  have T:(b.toList.map Subtype.val).Perm L:=by rw[<-D];exact hperm.map _
  refine⟨rfl,b.toList.map Subtype.val,⟨⟨by rw[vS],F ⟨g,cap,_,by rw[iR],hg,acN b n os c,by rw[iR];exact O,C,?_,?_⟩⟩,?_⟩,T,?_⟩
  .unfold Sort.putCells;rw[Kt];exact P
  .have B:(b.toList.map Subtype.val).length*6=(Sort.flatK iK 6 b).size:=by rw[aak,iR,p]
   rw[B,Pq _ _ (by rw[aak,p,P];omega),PF]
  .exact h.2.trans ⟨rfl,rfl,rfl,acP b n os wr g,λk hk=>acO b n os (bg hk h.2.size) U⟩
  .rw[ic,jm];intro i j hi Q N;have J:i<b.size:=by simpa using hi
   have m:j<b.size:=by simpa using Q
   have hx:=hs i j (iq _) N U;rw[gN b i J,gN b j m] at hx;exact yQ.1 hx
def same(x y:PB):Bool:=decide (x.f=y.f)&&decide (x.t=y.t)
def kept [Inhabited PB](S:Array PB)(j:Nat):Bool:=decide (j=0)|| !same S[j]! S[j-1]!
def fY [Inhabited PB](S:Array PB):Nat->V PB
 |0=>[]
 |m+1=>fY S m++(if kept S m then[S[m]!] else[])
theorem C8 [Inhabited PB](S:Array PB):∀m,m<=S.size->(∀j,j<m->kept S j=aP)->fY S m=S.toList.take m
 |0,_,_=>by simp[fY]
 |m+1,c,h=>by
  have a:m<S.toList.length:=by rw[ie];omega
  have e:S[m]! =S.toList[m]:=by rw[gN S m U];simp
  rw[fY,C8 S m U<|λj b=>h j U,h m U,y rfl,lV a,e]
structure KI [Inhabited PB](S:Array PB)(m k:Nat)(T:Array PB):Prop where
 size:T.size=S.size
 lt:k<m
 le:m<=S.size
 low:T.toList.take k=fY S m
 high:∀j,k<=j->T[j]! =S[j]!
theorem KI.start[Inhabited PB]{S:Array PB}{k0:Nat}(b:k0<S.size)(a:∀j,j<k0->kept S j=aP)(h:kept S k0=aQ):KI S (k0+1) k0 S:=
 ⟨rfl,Nat.lt_succ_self _,b,by rw[fY,h,C8 S k0 U a];simp,λ_ _=>rfl⟩
theorem KI.skip[Inhabited PB]{S T:Array PB}(h:KI S m k T)(b:m<S.size)(a:kept S m=aQ):KI S (m+1) k T:=
 ⟨h.size,by have:=h.lt;omega,b,by rw[fY,a,h.low];simp,h.high⟩
theorem KI.keep[Inhabited PB]{S T:Array PB}(h:KI S m k T)(e:m<S.size)(d:kept S m=aP):KI S (m+1) (k+1) (T.setIfInBounds k S[m]!):=by
 have:=h.lt;have f:=h.size;refine⟨by rw[sH];exact f,U,e,?_,λj g=>?_⟩
 .rw[fY,d,y rfl,<-h.low,Ap];have b:k<(T.toList.set k S[m]!).length:=by rw[jE,ie];omega
  rw[lV b,List.getElem_set_self,List.take_set_of_le<|aX _]
 .have c:j≠k:=U;rw[<-h.high j U];by_cases a:j<T.size
  .rw[gN _ j (by rw[sH];exact a),gN T j a,Array.getElem_setIfInBounds,X<|lu c]
  .rw[getElem!_neg _ j (by rw[sH];exact a),getElem!_neg T j a]
structure jy(w:G)(g cap n:Nat)(d:Array PB)(wr:G):Prop where
 size:d.size=n
 own:wr.ownsRow w.heap.size 171 6 (D (K ⟨g,0,Z⟩) n cap) n (dO d.toList)
 below:ag w wr
theorem jy.blk{d:Array PB}(h:jy w g cap n d wr):∃a,w.heap.size<=g/\wr.heap[g]?=K (.cells a 171 (0,0))/\n<=cap/\cap<=maxLen/\a.size=cap*6/\a.toList.take (n*6)=dO d.toList:=by
 rcases h.own.2 with⟨b,_⟩|⟨q,c,a,b,e,f,k,l,m,p⟩
 .simp at b
 .simp only[D.injEq,K.injEq,Addr.mk.injEq] at b;obtain⟨⟨rfl,_⟩,_,rfl⟩:=b;exact⟨a,e,f,k,l,m,p⟩
theorem jy.cells[Inhabited PB]{d:Array PB}(h:jy w g cap n d wr)(i:Nat)(m:i<n):
  wr.cell? ⟨g,i*6,Z⟩=K (A C (d[i]!).wa (d[i]!).wb)/\wr.cell? ⟨g,i*6+1,Z⟩=K (aA C (d[i]!).sh)/\wr.cell? ⟨g,i*6+2,Z⟩=K (A C (aM C (d[i]!).f.1)<|aM C (d[i]!).f.2.1)/\wr.cell? ⟨g,i*6+3,Z⟩=K (I J (d[i]!).f.2.2)/\wr.cell? ⟨g,i*6+4,Z⟩=K (A C (aM C (d[i]!).t.1)<|aM C (d[i]!).t.2.1)/\wr.cell? ⟨g,i*6+5,Z⟩=K (I J (d[i]!).t.2.2)/\∀o,wr.frozen? ⟨g,o,Z⟩=aQ:=by
 obtain⟨l,_,c,_,_,r,b⟩:=h.blk;have e:i<d.size:=by rw[h.size];exact m
 have q:d.toList[i]?=K d[i]! :=by rw[iD,lB e,gN d i e]
 have a:∀j,j<6->wr.cell? ⟨g,i*6+j,Z⟩=(d[i]!).cells[j]?:=λj p=>by
  have k:=C7 _ _ _ q j p;rw[<-b,jb,y U,iD] at k;unfold World.cell?;rw[c];exact k
 exact⟨a 0 U,a 1 U,a 2 U,a 3 U,a 4 U,a 5 U,λo=>bE c _⟩
def Hh(w:G)(g o:Nat)(x:PB):G:=w.setCells g o x.cells
theorem PG:∀(l:V PB)(k:Nat)(x:PB),k<l.length->dO (l.set k x)=(dO l).take (k*6)++x.cells++(dO l).drop (k*6+6)
 |[],_,_,h=>by simp at h
 |a::l,0,x,_=>by
  have e:∀(b:PB)(r:V PB),dO (b::r)=b.cells++dO r:=λb r=>by simp[dO]
  rw[di,e,e];have:a.cells.length=6:=rfl;rw[show 0*6=0 from rfl,VD,qM,show 0+6=a.cells.length from rfl,List.drop_left]
 |a::l,k+1,x,h=>by
  have f:=PG l k x (by simpa using h);have e:∀(b:PB)(r:V PB),dO (b::r)=b.cells++dO r:=λb r=>by simp[dO]
  rw[cQ,e,e,f];have c:(k+1)*6=a.cells.length+k*6:=by show _=6+_;omega
  have d:a.cells.length+k*6+6=a.cells.length+(k*6+6):=U;rw[c,d,Kw,List.drop_append,ku<|VI _ _,qK<|VI _ _];simp
theorem acR{x:PB}{cur:Array Y}{t:TypeId}(e:w.heap[g]?=K (.cells cur t (0,0)))(l:o+6<=cur.size):
  (Hh w g o x)=w.setRow g (cur.toList.take o++x.cells++cur.toList.drop (o+6)).toArray:=by
 have c:∀v∈x.cells,v.oneCell'=aP:=λv k=>Pu [x] v (by simpa[dO] using k);have d:x.cells.length=6:=rfl;unfold Hh;generalize x.cells=C at*;have b:=ake prog g o t C 0 cur w e (by rw[d];omega) c;have a:=run_storeCells_cells (P:=prog) g o C 0 w (λj h=>by
  rw[d] at h;unfold World.cell?;rw[e];simp only[pA];rw[lB U];rfl) (λj _=>bE e _) c
 rw[pA] at b a;rw[d] at b;rw[b] at a;injection a with _ f;exact f.symm
theorem jy.set{d:Array PB}(h:jy w g cap n d wr)(k:Nat)(s:k<n)(x:PB):jy w g cap n (d.setIfInBounds k x) (Hh wr g (k*6) x):=by
 obtain⟨a,r,m,f,e,p,l⟩:=h.blk;have q:k<d.toList.length:=by rw[ie,h.size];exact s
 have b:x.cells.length=6:=rfl;rw[acR m U];have c:=afK wr g a (a.toList.take (k*6)++x.cells++a.toList.drop (k*6+6)).toArray _ _ m;refine⟨by rw[sH];exact h.size,⟨?_,F ⟨g,cap,_,rfl,r,c,f,e,?_,?_⟩⟩,h.below.trans ⟨rfl,rfl,rfl,E,λj R=>akf _ _ _ _ U⟩⟩
 .rw[vS,ie,sH,h.size]
 .simp only[VE,bG,fU,jQ,ie,b,p];omega
 .rw[Ap,PG _ _ _ q,<-l];show(a.toList.take (k*6)++x.cells++a.toList.drop (k*6+6)).take (n*6)=_;have t:(a.toList.take<|k*6).length=k*6:=by rw[fU,ie,p];omega
  rw[ep,Kw,t,Kw,b,ut,ut,List.take_drop];have v:min (n*6) (k*6)=k*6:=U;have B:min (k*6) (n*6)=k*6:=U;have P:x.cells.take (n*6-k*6)=x.cells:=ku (by rw[b];omega);have Q:k*6+6+(n*6-k*6-6)=n*6:=U;rw[v,B,P,Q,ep]
theorem jy.keep{d:Array PB}(h:jy w g cap n d wr)(a:ag wr w'):jy w g cap n d w':=
 ⟨h.size,bH h.own λk b=>a.block k (bn h.own k b).2,h.below.trans<|a.mono h.below.size⟩
theorem jy.rd{d:Array PB}(h:jy w g cap n d wr):qo wr (D (K ⟨g,0,Z⟩) n cap) d.toList:=by
 obtain⟨a,m,k,c,b,l,f⟩:=h.blk;have e:d.toList.length=n:=by rw[ie,h.size]
 exact⟨by rw[vS],F ⟨g,cap,a,by rw[e],iq _,k,by rw[e];exact c,b,l,by rw[e];exact f⟩⟩
end
end Go.Proofs.YtkjhhooecopolaaGreatDoor
