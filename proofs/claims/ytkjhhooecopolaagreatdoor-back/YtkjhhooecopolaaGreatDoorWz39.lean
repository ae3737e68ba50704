import Derived.Test.YtkjhhooecopolaaGreatDoorWz38
set_option maxRecDepth 100000
set_option maxHeartbeats 4000000
namespace Go.Proofs.YtkjhhooecopolaaGreatDoor
namespace Pl
theorem J4(u:Nat):∀c∈Lib.decDigits u,bz c=true:=by
 induction u using Nat.strongRecOn with
 |_ u ih=>
  intro c hc;rw[Lib.decDigits] at hc;have one:∀d,d<10->bz (UInt8.ofNat (48+d))=true:=fun d hd=>by
   unfold bz;have:(UInt8.ofNat (48+d)).toNat=48+d:=by rw[UInt8.toNat_ofNat'];exact aa7 (by omega)
   rw[this];simp;omega
  by_cases h:u<10
  ·rw[u7 h] at hc;rw[bY.1 hc];exact one u h
  ·rw[BJ h] at hc;rcases bQ.1 hc with q|q
   ·exact ih (u/10) (by omega) c q
   ·rw[bY.1 q];exact one _ (by omega)
theorem Z6(u:Nat):rI (Lib.decDigits u)=u:=by
 induction u using Nat.strongRecOn with
 |_ u ih=>
  rw[Lib.decDigits];have one:∀d,d<10->(UInt8.ofNat (48+d)).toNat-48=d:=fun d hd=>by
   rw[UInt8.toNat_ofNat',aa7 (by omega)];omega
  by_cases h:u<10
  ·rw[u7 h];show 10*0+((UInt8.ofNat (48+u)).toNat-48)=u;rw[one u h];omega
  ·rw[BJ h,ada,ih (u/10) (by omega),one _ (by omega)]
   omega
theorem PE(u:Nat):Lib.decDigits u≠[]:=by
 rw[Lib.decDigits];by_cases h:u<10
 ·rw[u7 h];simp
 ·rw[BJ h];simp
theorem PF:∀(k u:Nat),u<10 ^ (k+1)->(Lib.decDigits u).length<=k+1
 |0,u,h=>by
  rw[Lib.decDigits,u7 (by simpa using h)];simp
 |k+1,u,h=>by
  rw[Lib.decDigits];by_cases h1:u<10
  ·rw[u7 h1];simp
  ·rw[BJ h1,aX];have:=PF k (u/10) (by rw[Nat.pow_succ] at h;omega)
   simp;omega
theorem J5{p:UInt8->Bool}:∀{A rest:List UInt8},(∀c∈A,p c=true)->(∀c r,rest=c::r->p c=false)->(A++rest).takeWhile p=A
 |[],rest,_,h=>by
  cases rest with
  |nil=>rfl
  |cons c r=>rw[qd,wY,h c r rfl];rfl
 |a::A,rest,hA,h=>by
  rw[kZ,wY,hA a (by simp)]
  simp only[gD];rw[J5 (fun c hc=>hA c (aT _ hc)) h]
def Sep(rest:List UInt8):Prop:=∀c r,rest=c::r->c=32\/c=40\/c=41\/c=44\/c=47
theorem Sep.Z7{rest:List UInt8}(h:Sep rest):∀c r,rest=c::r->bz c=false:=fun c r e=>by
 rcases h c r e with q|q|q|q|q<;>rw[q]<;>decide
theorem Sep.let{rest:List UInt8}(h:Sep rest):∀c r,rest=c::r->isLet c=false:=fun c r e=>by
 rcases h c r e with q|q|q|q|q<;>rw[q]<;>decide
theorem Sep.of(c:UInt8)(r:List UInt8)(h:c=32\/c=40\/c=41\/c=44\/c=47):Sep (c::r):=fun d r' e=>by
 injection e with e1 _;rw[<-e1];exact h
theorem Sep.nil:Sep []:=fun c r e=>by cases e
theorem akV{n:Int}(h1: -1000000000<n)(h2:n<1000000000){rest:List UInt8}(hs:Sep rest)(i:Nat):cQ (Lib.itoa n++rest) i=⟨110,Lib.itoa n,n,i⟩:=by
 unfold Lib.itoa;by_cases hn:n<0
 ·rw[aj hn];have e:=J5 (rest:=rest) (J4 n.natAbs) hs.Z7;have hl:=PF 8 n.natAbs (by omega)
  have hv:=Z6 n.natAbs;have hne:=PE n.natAbs;show cQ ((45:UInt8)::(Lib.decDigits n.natAbs++rest)) i=_;unfold cQ;simp only;rw[e];rw[af (by decide),af (by decide),aj (by decide),af (by intro k;rcases k with k|k;exact hne k;omega),hv]
  congr 1;omega
 ·rw[af hn];have e:=J5 (rest:=rest) (J4 n.toNat) hs.Z7;have hl:=PF 8 n.toNat (by omega)
  have hv:=Z6 n.toNat;have hd:=J4 n.toNat;have hne:=PE n.toNat;cases hD:Lib.decDigits n.toNat with
  |nil=>exact absurd hD hne
  |cons c r=>
   rw[hD] at e hl hv hd;have hc:=gh (hd c (by simp))
   rw[kZ] at e⊢;unfold cQ;simp only;rw[e];have hnl:¬isLet c=true:=fun k=>by have:=gh k;omega
   rw[af (by omega),af hnl,af (by omega),af (by intro k;rcases k with k|k;exact absurd k (by simp);omega),hv]
   congr 1;omega
theorem akW{q:List UInt8}(hq:q≠[])(hl:∀c∈q,isLet c=true){rest:List UInt8}(hs:Sep rest)(i:Nat):cQ (q++rest) i=⟨119,q,0,i⟩:=by
 have e:=J5 (rest:=rest) hl hs.let;cases q with
 |nil=>exact absurd rfl hq
 |cons c r=>
  have hc:=hl c (by simp)
  have hc':=gh hc;rw[kZ] at e⊢;unfold cQ;simp only;rw[e,af (by omega),aj hc]
theorem akX{c:UInt8}(h:c=40\/c=41\/c=44\/c=47)(rest:List UInt8)(i:Nat):cQ (c::rest) i=⟨c.toNat,[c],0,i⟩:=by
 unfold cQ;simp only;rw[aj];rcases h with q|q|q|q<;>rw[q]<;>decide
def Lex(s:List UInt8):Nat->List Tk->Nat->Prop
 |i,[],j=>i=j
 |i,t::c,j=>tk s i=t/\¬(t.k=101\/t.k=120)/\Lex s (t.pl+t.raw.length) c j
theorem Lex.append{s:List UInt8}:∀{c:List Tk}{i j k:Nat}{d:List Tk},Lex s i c j->Lex s j d k->Lex s i (c++d) k
 |[],_,_,_,_,h,h2=>by
  have:_=_:=h;subst this;exact h2
 |_::_,_,_,_,_,h,h2=>⟨h.1,h.2.1,Lex.append h.2.2 h2⟩
theorem Lex.iT{s:List UInt8}:∀{c:List Tk}{i j:Nat}(f:Nat),Lex s i c j->iT s (f+c.length) i=c++iT s f j
 |[],_,_,_,h=>by
  have:_=_:=h;subst this;rfl
 |t::c,i,j,f,h=>by
  have ih:=Lex.iT f h.2.2;show Pl.iT s ((f+c.length)+1) i=_;have hk:¬((tk s i).k=101\/(tk s i).k=120):=by rw[h.1];exact h.2.1
  rw[Pl.iT,af hk,h.1,ih];rfl
theorem Lex.len{s:List UInt8}:∀{c:List Tk}{i j:Nat},i<=s.length->Lex s i c j->i+c.length<=j/\j<=s.length
 |[],_,_,hi,h=>by
  have:_=_:=h;subst this;exact⟨ay _,hi⟩
 |t::c,i,j,hi,h=>by
  have hn:=Cr s i hi;rw[h.1] at hn;have ih:=Lex.len hn.1 h.2.2;have:=h.2.1;rw[cN];omega
theorem J6{s A rest:List UInt8}{i:Nat}(h:s.drop i=A++rest):s.drop (i+A.length)=rest:=by
 rw[<-tQ,h,abh]
theorem J7{s l:List UInt8}{i:Nat}(h:s.drop i=l)(hb:∀c r,l=c::r->fD c=false):tk s i=cQ l i:=by
 have e:bl s i=i:=by
  unfold bl;rw[h];cases l with
  |nil=>rfl
  |cons c r=>rw[wY,hb c r rfl];rfl
 unfold tk;rw[e,h]
theorem akY{s l:List UInt8}{i:Nat}(h:s.drop i=32::l)(hb:∀c r,l=c::r->fD c=false):tk s i=tk s (i+1):=by
 have h1:s.drop (i+1)=l:=by rw[<-tQ,h];rfl
 have e:bl s i=i+1:=by
  unfold bl;rw[h,wY];have:fD 32=true:=by decide
  rw[this];simp only[gD,cN];cases l with
  |nil=>rfl
  |cons c r=>rw[wY,hb c r rfl];rfl
 have e2:bl s (i+1)=i+1:=by
  unfold bl;rw[h1];cases l with
  |nil=>rfl
  |cons c r=>rw[wY,hb c r rfl];rfl
 unfold tk;rw[e,e2]
theorem Lex.blank{s l:List UInt8}{i j:Nat}{c:List Tk}(h:s.drop i=32::l)(hb:∀c r,l=c::r->fD c=false)(hc:c≠[])(hl:Lex s (i+1) c j):Lex s i c j:=by
 cases c with
 |nil=>exact absurd rfl hc
 |cons t c=>exact⟨(akY h hb).trans hl.1,hl.2⟩
structure Rd{α:Type}(ok:α->Prop)(txt:α->List UInt8)(item:List Tk->Bool×List Tk×α):Prop where
 rd:∀x,ok x->∀s i rest,s.drop i=txt x++rest->Sep rest->∃c,Lex s i c (i+(txt x).length)/\(∀l,item (c++l)=(true,l,x))/\(∀t∈c,t.k=110->fX t.n)/\(∃t r,c=t::r/\t.k≠41)
 hd:∀x,ok x->∃a r,txt x=a::r/\fD a=false
theorem PG(n:Int):∃a r,Lib.itoa n=a::r/\fD a=false:=by
 unfold Lib.itoa;by_cases h:n<0
 ·rw[aj h];exact⟨45,_,rfl,by decide⟩
 ·rw[af h];cases hD:Lib.decDigits n.toNat with
  |nil=>exact absurd hD (PE _)
  |cons c r=>
   have:=gh (J4 n.toNat c (by rw[hD];simp))
   exact⟨c,r,rfl,gv (by omega)⟩
theorem Fp{A rest:List UInt8}(h:∃a r,A=a::r/\fD a=false):∀c r,A++rest=c::r->fD c=false:=fun c r e=>by
 obtain⟨a,r',rfl,hb⟩:=h;rw[kZ] at e;injection e with e1 _;rw[<-e1];exact hb
theorem Z8{s rest:List UInt8}{i:Nat}{n:Int}(h1: -1000000000<n)(h2:n<1000000000)(h:s.drop i=Lib.itoa n++rest)(hs:Sep rest):Lex s i [⟨110,Lib.itoa n,n,i⟩] (i+(Lib.itoa n).length):=by
 refine⟨?_,by show ¬((110:Nat)=101\/(110:Nat)=120);decide,rfl⟩
 rw[J7 h (Fp (PG n)),akV h1 h2 hs]
theorem Bl{s rest:List UInt8}{i:Nat}{c:UInt8}(hc:c=40\/c=41\/c=44\/c=47)(h:s.drop i=c::rest):Lex s i [⟨c.toNat,[c],0,i⟩] (i+1):=by
 refine⟨?_,?_,rfl⟩
 ·rw[J7 h (fun d r e=>by
   injection e with e1 _;rw[<-e1];rcases hc with q|q|q|q<;>rw[q]<;>decide),akX hc]
 ·show ¬(c.toNat=101\/c.toNat=120);rcases hc with q|q|q|q<;>rw[q]<;>decide
theorem PJ{s rest q:List UInt8}{i:Nat}(hq:q≠[])(hl:∀c∈q,isLet c=true)(h:s.drop i=q++rest)(hs:Sep rest):Lex s i [⟨119,q,0,i⟩] (i+q.length):=by
 refine⟨?_,by show ¬((119:Nat)=101\/(119:Nat)=120);decide,rfl⟩
 rw[J7 h (Fp ?_),akW hq hl hs];cases q with
 |nil=>exact absurd rfl hq
 |cons a r=>
  have:=gh (hl a (by simp))
  exact⟨a,r,rfl,gv (by omega)⟩
theorem akZ:Rd (fun p=>fX p.1/\fX p.2) jM fk where
 rd:=by
  rintro⟨x,y⟩ ⟨h1,h2⟩ s i rest h hs;have e:jM (x,y)++rest=Lib.itoa x++(32::(Lib.itoa y++rest)):=by simp[jM]
  rw[e] at h;unfold fX at h1 h2;have l1:=Z8 (n:=x) (by simp only at h1;omega) (by simp only at h1;omega) h (Sep.of 32 _ (ag rfl))
  have d2:=J6 h;have d3:s.drop (i+(Lib.itoa x).length+1)=Lib.itoa y++rest:=by rw[<-tQ,d2];rfl
  have l2:=Z8 (n:=y) (by simp only at h2;omega) (by simp only at h2;omega) d3 hs
  have PK:=Lex.blank d2 (Fp (PG y)) (by simp) l2
  refine⟨[⟨110,Lib.itoa x,x,i⟩]++[⟨110,Lib.itoa y,y,i+(Lib.itoa x).length+1⟩],?_,fun l=>rfl,fun t ht _=>?_,_,_,rfl,by show(110:Nat)≠41;decide⟩
  ·have:=l1.append PK;have el:(jM (x,y)).length=(Lib.itoa x).length+1+(Lib.itoa y).length:=by simp[jM];omega
   rw[el,show i+((Lib.itoa x).length+1+(Lib.itoa y).length)=i+(Lib.itoa x).length+1+(Lib.itoa y).length by omega]
   exact this
  ·simp only[BG,aP,abd,tK] at ht;rcases ht with q|q<;>rw[q]
   ·exact h1
   ·exact h2
 hd:=fun p _=>by
  obtain⟨a,r,e,hb⟩:=PG p.1;exact⟨a,r++([32]++Lib.itoa p.2),by unfold jM;rw[e];rfl,hb⟩
theorem J8{α:Type}{ok:α->Prop}{txt:α->List UInt8}{item:List Tk->Bool×List Tk×α}(hR:Rd ok txt item):∀(xs:List α),xs≠[]->(∀x∈xs,ok x)->∀s i rest,s.drop i=bh txt xs++(41::rest)->
  ∃c,Lex s i c (i+(bh txt xs).length+1)/\(∀f l acc,xs.length<=f->cE item f (c++l) acc=(true,l,acc++xs))/\(∀t∈c,t.k=110->fX t.n)/\xs.length<=c.length/\(∃t r,c=t::r/\t.k≠41)
 |[],h,_,_,_,_,_=>absurd rfl h
 |[x],_,hok,s,i,rest,h=>by
  obtain⟨c,l1,p1,n1,t,r,ec,hk⟩:=hR.rd x (hok x (by simp)) s i (41::rest) h (Sep.of 41 _ (by simp))
  have d2:=J6 h;have l2:=Bl (c:=41) (by simp) d2
  refine⟨c++[_],l1.append l2,fun f l acc hf=>?_,fun u hu kf=>?_,by simp,t,r++[_],by rw[ec];rfl,hk⟩
  ·obtain⟨f,rfl⟩:∃g,f=g+1:=⟨f-1,by simp at hf;omega⟩
   have p:=p1 (⟨(41:UInt8).toNat,[41],0,i+(bh txt [x]).length⟩::l);unfold cE;rw[fB,BG,p];simp only[gD];have m1:(mk 44 (⟨(41:UInt8).toNat,[41],0,i+(bh txt [x]).length⟩::l)).1=false:=rfl;have m2:mk 41 (⟨(41:UInt8).toNat,[41],0,i+(bh txt [x]).length⟩::l)=(true,l):=rfl;rw[m1,m2];simp
  ·rcases bQ.1 hu with q|q
   ·exact n1 u q kf
   ·rw[bY.1 q] at kf;exact absurd kf (by show(41:UInt8).toNat≠110;decide)
 |x::y::xs,_,hok,s,i,rest,h=>by
  have e0:bh txt (x::y::xs)++(41::rest)=txt x++(44::(32::(bh txt (y::xs)++(41::rest)))):=by simp[bh]
  rw[e0] at h;obtain⟨c,l1,p1,n1,t,r,ec,hk⟩:=hR.rd x (hok x (by simp)) s i _ h (Sep.of 44 _ (by simp))
  have d2:=J6 h;have l2:=Bl (c:=44) (by simp) d2
  have d3:s.drop (i+(txt x).length+1)=32::(bh txt (y::xs)++(41::rest)):=by rw[<-tQ,d2];rfl
  have d4:s.drop (i+(txt x).length+1+1)=bh txt (y::xs)++(41::rest):=by rw[<-tQ,d3];rfl
  obtain⟨c',l3,p3,n3,m3,t',r',ec',hk'⟩:=J8 hR (y::xs) (by simp) (fun z hz=>hok z (aT _ hz)) s _ rest d4
  have hb:∀b q,bh txt (y::xs)++(41::rest)=b::q->fD b=false:=by
   obtain⟨a,r2,ea,hb⟩:=hR.hd y (hok y (by simp))
   refine Fp ?_;cases xs with
   |nil=>exact⟨a,r2,ea,hb⟩
   |cons z xs=>exact⟨a,r2++([44,32]++bh txt (z::xs)),by show txt y++([44,32]++bh txt (z::xs))=_;rw[ea];rfl,hb⟩
  have l3':=Lex.blank d3 hb (by rw[ec'];simp) l3
  have el:(bh txt (x::y::xs)).length=(txt x).length+2+(bh txt (y::xs)).length:=by simp[bh];omega
  refine⟨c++([⟨(44:UInt8).toNat,[44],0,i+(txt x).length⟩]++c'),?_,fun f l acc hf=>?_,fun u hu kf=>?_,?_,t,r++([⟨(44:UInt8).toNat,[44],0,i+(txt x).length⟩]++c'),by rw[ec];rfl,hk⟩
  ·rw[el,show i+((txt x).length+2+(bh txt (y::xs)).length)+1=i+(txt x).length+1+1+(bh txt (y::xs)).length+1 by omega]
   exact l1.append (l2.append l3')
  ·obtain⟨f,rfl⟩:∃g,f=g+1:=⟨f-1,by simp at hf;omega⟩
   unfold cE;have e:c++([⟨(44:UInt8).toNat,[44],0,i+(txt x).length⟩]++c')++l=c++(⟨(44:UInt8).toNat,[44],0,i+(txt x).length⟩::(c'++l)):=by simp
   rw[e,p1];simp only[gD];have m1:mk 44 (⟨(44:UInt8).toNat,[44],0,i+(txt x).length⟩::(c'++l))=(true,c'++l):=rfl;rw[m1];simp only[gD];rw[p3 f l (acc++[x]) (by simp at hf⊢;omega)]
   simp
  ·rcases bQ.1 hu with q|q
   ·exact n1 u q kf
   ·rcases bQ.1 q with q|q
    ·rw[bY.1 q] at kf;exact absurd kf (by show(44:UInt8).toNat≠110;decide)
    ·exact n3 u q kf
  ·have hcl:0<c.length:=by rw[ec];simp
   simp only[aX,cN,gP] at m3⊢;omega
theorem ak2:Rd (fun g=>pN g) eB gH where
 rd:=by
  intro g hok s i rest h _hs;have e:eB g++rest=40::(bh jM g++(41::rest)):=by simp[eB]
  rw[e] at h;have l1:=Bl (c:=40) (by simp) h
  have d2:s.drop (i+1)=bh jM g++(41::rest):=by rw[<-tQ,h];rfl
  have el:(eB g).length=1+(bh jM g).length+1:=by simp[eB];omega
  by_cases hg:g=[]
  ·subst hg;have l2:=Bl (c:=41) (by simp) d2
   refine⟨[⟨(40:UInt8).toNat,[40],0,i⟩]++[⟨(41:UInt8).toNat,[41],0,i+1⟩],?_,fun l=>rfl,fun t ht hk=>?_,_,_,rfl,by show(40:UInt8).toNat≠41;decide⟩
   ·rw[el,show i+(1+(bh jM []).length+1)=i+1+1 by simp[bh]]
    exact l1.append l2
   ·simp only[BG,aP,abd,tK] at ht;rcases ht with q|q<;>rw[q] at hk
    ·exact absurd hk (by show ¬(40:UInt8).toNat=110;decide)
    ·exact absurd hk (by show ¬(41:UInt8).toNat=110;decide)
  ·obtain⟨c,l2,p2,n2,m2,t,r,ec,hk⟩:=J8 akZ g hg (fun p hp=>hok p hp) s (i+1) rest d2
   refine⟨[⟨(40:UInt8).toNat,[40],0,i⟩]++c,?_,fun l=>?_,fun u hu kf=>?_,_,_,rfl,by show(40:UInt8).toNat≠41;decide⟩
   ·rw[el,show i+(1+(bh jM g).length+1)=i+1+(bh jM g).length+1 by omega]
    exact l1.append l2
   ·show gH (⟨(40:UInt8).toNat,[40],0,i⟩::(c++l))=_;unfold gH;have m1:mk 40 (⟨(40:UInt8).toNat,[40],0,i⟩::(c++l))=(true,c++l):=rfl;rw[m1];simp only[gD];have m3:(mk 41 (c++l)).1=false:=by
     rw[ec];show(if t.k=41 then(true,r++l) else(false,t::(r++l))).1=false
     rw[af hk]
    rw[m3];simp only[js,jR];rw[p2 _ l [] (by simp only[cN,aX];omega)]
    simp
   ·rcases bQ.1 hu with q|q
    ·rw[bY.1 q] at kf;exact absurd kf (by show(40:UInt8).toNat≠110;decide)
    ·exact n2 u q kf
 hd:=fun g _=>⟨40,bh jM g++[41],rfl,by decide⟩
theorem PN:(∀c∈EMPTY,isLet c=true)/\(∀c∈iq,isLet c=true)/\(∀c∈jf,isLet c=true):=by decide
theorem ak3:Rd (fun gs=>∀g∈gs,pN g) fI dB where
 rd:=by
  intro gs hok s i rest h hs;by_cases hg:gs.length=0
  ·have e:fI gs=EMPTY:=aj hg;have e0:gs=[]:=gF.1 hg;rw[e] at h⊢;have l1:=PJ (by decide) PN.1 h hs
   refine⟨[⟨119,EMPTY,0,i⟩],l1,fun l=>?_,fun t ht hk=>?_,_,_,rfl,by show(119:Nat)≠41;decide⟩
   ·rw[e0];rfl
   ·rw[bY.1 ht] at hk;exact absurd hk (by show ¬(119:Nat)=110;decide)
  ·have e:fI gs=[40]++(bh eB gs++[41]):=af hg;have h':=h;rw[e] at h';have e1:[40]++(bh eB gs++[41])++rest=(40:UInt8)::(bh eB gs++(41::rest)):=by simp
   rw[e1] at h';have l1:=Bl (c:=40) (by simp) h'
   have d2:s.drop (i+1)=bh eB gs++(41::rest):=by rw[<-tQ,h'];rfl
   have el:(fI gs).length=1+(bh eB gs).length+1:=by rw[e];simp;omega
   obtain⟨c,l2,p2,n2,m2,t,r,ec,hk⟩:=J8 ak2 gs (fun k=>hg (by rw[k];rfl)) (fun g hg=>hok g hg) s (i+1) rest d2
   refine⟨[⟨(40:UInt8).toNat,[40],0,i⟩]++c,?_,fun l=>?_,fun u hu kf=>?_,_,_,rfl,by show(40:UInt8).toNat≠41;decide⟩
   ·rw[el,show i+(1+(bh eB gs).length+1)=i+1+(bh eB gs).length+1 by omega]
    exact l1.append l2
   ·show dB (⟨(40:UInt8).toNat,[40],0,i⟩::(c++l))=_;unfold dB;have m0:(wd EMPTY (⟨(40:UInt8).toNat,[40],0,i⟩::(c++l))).1=false:=rfl;have m1:mk 40 (⟨(40:UInt8).toNat,[40],0,i⟩::(c++l))=(true,c++l):=rfl;rw[m0,m1];simp only[js,jR,gD];rw[p2 _ l [] (by simp only[cN,aX];omega)]
    simp
   ·rcases bQ.1 hu with q|q
    ·rw[bY.1 q] at kf;exact absurd kf (by show(40:UInt8).toNat≠110;decide)
    ·exact n2 u q kf
 hd:=fun gs _=>by
  by_cases hg:gs.length=0
  ·exact⟨69,[77,80,84,89],aj hg,by decide⟩
  ·exact⟨40,bh eB gs++[41],af hg,by decide⟩
theorem ak4:Rd (fun ps=>∀gs∈ps,∀g∈gs,pN g) rW iH where
 rd:=by
  intro gs hok s i rest h hs;by_cases hg:gs.length=0
  ·have e:rW gs=EMPTY:=aj hg;have e0:gs=[]:=gF.1 hg;rw[e] at h⊢;have l1:=PJ (by decide) PN.1 h hs
   refine⟨[⟨119,EMPTY,0,i⟩],l1,fun l=>?_,fun t ht hk=>?_,_,_,rfl,by show(119:Nat)≠41;decide⟩
   ·rw[e0];rfl
   ·rw[bY.1 ht] at hk;exact absurd hk (by show ¬(119:Nat)=110;decide)
  ·have e:rW gs=[40]++(bh fI gs++[41]):=af hg;have h':=h;rw[e] at h';have e1:[40]++(bh fI gs++[41])++rest=(40:UInt8)::(bh fI gs++(41::rest)):=by simp
   rw[e1] at h';have l1:=Bl (c:=40) (by simp) h'
   have d2:s.drop (i+1)=bh fI gs++(41::rest):=by rw[<-tQ,h'];rfl
   have el:(rW gs).length=1+(bh fI gs).length+1:=by rw[e];simp;omega
   obtain⟨c,l2,p2,n2,m2,t,r,ec,hk⟩:=J8 ak3 gs (fun k=>hg (by rw[k];rfl)) (fun g hg=>hok g hg) s (i+1) rest d2
   refine⟨[⟨(40:UInt8).toNat,[40],0,i⟩]++c,?_,fun l=>?_,fun u hu kf=>?_,_,_,rfl,by show(40:UInt8).toNat≠41;decide⟩
   ·rw[el,show i+(1+(bh fI gs).length+1)=i+1+(bh fI gs).length+1 by omega]
    exact l1.append l2
   ·show iH (⟨(40:UInt8).toNat,[40],0,i⟩::(c++l))=_;unfold iH;have m0:(wd EMPTY (⟨(40:UInt8).toNat,[40],0,i⟩::(c++l))).1=false:=rfl;have m1:mk 40 (⟨(40:UInt8).toNat,[40],0,i⟩::(c++l))=(true,c++l):=rfl;rw[m0,m1];simp only[js,jR,gD];rw[p2 _ l [] (by simp only[cN,aX];omega)]
    simp
   ·rcases bQ.1 hu with q|q
    ·rw[bY.1 q] at kf;exact absurd kf (by show(40:UInt8).toNat≠110;decide)
    ·exact n2 u q kf
 hd:=fun gs _=>by
  by_cases hg:gs.length=0
  ·exact⟨69,[77,80,84,89],aj hg,by decide⟩
  ·exact⟨40,bh fI gs++[41],af hg,by decide⟩
theorem ak5{α:Type}{ok:α->Prop}{txt:α->List UInt8}{item:List Tk->Bool×List Tk×α}(hR:Rd ok txt item){q:List UInt8}(hq:q≠[])(hl:∀c∈q,isLet c=true){x:α}(hx:ok x):∃c e,all (q++([32]++txt x))=⟨119,q,0,0⟩::(c++[e])/\(∀l,item (c++l)=(true,l,x))/\(∀t∈c,t.k=110->fX t.n)/\e.k=101:=by
 have h0:(q++([32]++txt x)).drop 0=q++(32::(txt x++[])):=by simp
 have l1:=PJ hq hl h0 (Sep.of 32 _ (by simp))
 have d1:=J6 h0;rw[ki] at l1 d1;have d2:(q++([32]++txt x)).drop (q.length+1)=txt x++[]:=by rw[<-tQ,d1];rfl
 obtain⟨c,l2,p2,n2,t,r,ec,_⟩:=hR.rd x hx _ _ [] d2 Sep.nil;have PK:=Lex.blank d1 (Fp (hR.hd x hx)) (by rw[ec];simp) l2
 have L:=l1.append PK;have hlen:=(L.len (iD _)).1;have hend:(q++([32]++txt x)).length=q.length+1+(txt x).length:=by simp;omega
 have htk:tk (q++([32]++txt x)) (q.length+1+(txt x).length)=⟨101,[],0,q.length+1+(txt x).length⟩:=by
  rw[J7 (l:=[]) (by rw[List.drop_eq_nil_iff];omega) (fun c r e=>by cases e)]
  rfl
 simp only[aX,cN,gP] at hlen;have ht:=L.iT ((q++([32]++txt x)).length+1-([(⟨119,q,0,0⟩:Tk)]++c).length);have hf:(q++([32]++txt x)).length+1-([(⟨119,q,0,0⟩:Tk)]++c).length+([(⟨119,q,0,0⟩:Tk)]++c).length=(q++([32]++txt x)).length+1:=by
  simp only[aX,cN,gP] at hend⊢;omega
 rw[hf] at ht;refine⟨c,⟨101,[],0,q.length+1+(txt x).length⟩,?_,p2,n2,rfl⟩;show Pl.iT _ _ 0=_;rw[ht];have:∀f,iT (q++([32]++txt x)) f (q.length+1+(txt x).length)=[⟨101,[],0,q.length+1+(txt x).length⟩]:=fun f=>by
  cases f with
  |zero=>rw[Pl.iT,htk]
  |succ f=>rw[Pl.iT,htk,aj (ag rfl)]
 rw[this];rfl
theorem ak6{c:List Tk}(h:∀t∈c,t.k=110->fX t.n):c.find? outT=none:=by
 rw[aa6];intro t ht;unfold outT xH;by_cases hk:t.k=110
 ·have:=h t ht hk;unfold fX at this;simp[hk,this]
 ·simp[hk]
theorem ak7{T:List UInt8}(hT:T.length<=400){t e:Tk}{c:List Tk}{ps:List (List (List (Int×Int)))}(ha:all T=t::(c++[e]))(hp:cz (all T)=(true,[e],ps))(he:e.k=101)(ht:t.k≠110)(hn:∀t∈c,t.k=110->fX t.n):err T=(0,0):=by
 unfold err;rw[af (by omega),hp]
 rw[aj ⟨rfl,he⟩];have htk:took T=t::c:=by
  unfold took;rw[hp,ha];simp
 rw[htk,ak6];intro u hu hk;rcases aP.1 hu with q|q
 ·rw[q] at hk;exact absurd hk ht
 ·exact hn u q hk
theorem ak8{ps:List (List (List (Int×Int)))}(hok:∀gs∈ps,∀g∈gs,pN g)(hl:(rU ps).length<=400):
  err (rU ps)=(0,0)/\(cz (all (rU ps))).2.2=ps/\(wd iq (all (rU ps))).1=false:=by
 rw[Tj] at hl⊢;obtain⟨c,e,h1,h2,h3,h4⟩:=ak5 ak4 (q:=jf) (by decide) PN.2.2 hok
 have hw0:(wd iq (all (jf++([32]++rW ps)))).1=false:=by rw[h1];rfl
 have hw:wd jf (all (jf++([32]++rW ps)))=(true,c++[e]):=by rw[h1];rfl
 have hp:cz (all (jf++([32]++rW ps)))=(true,[e],ps):=by
  unfold cz;rw[hw0,hw];simp only[js,jR,gD];rw[h2]
 exact⟨ak7 hl h1 hp h4 (by decide) h3,by rw[hp],hw0⟩
end Pl
end Go.Proofs.YtkjhhooecopolaaGreatDoor
namespace Go.Proofs.YtkjhhooecopolaaGreatDoor
open Go.RowKit
theorem Z9(n:Int)(w:World)(h1: -9223372036854775808<=n)(h2:n<=9223372036854775807):
  Calls Tryz.prog 19 #[.int .i64 n] w fun e w'=>e=.returned (.int .i64 n)/\w'=w:=by
 have hw:IntKind.i64.wrap n=n:=by rw[IntKind.wrap_i64];omega
 go_enter Tryz.func19,Tryz.ntmps19
 go_wp2_with fail
 go_ret
 exact⟨rfl,rfl⟩
theorem aaa(s:List UInt8):(Pl.err s).1<=3:=by
 unfold Pl.err;split
 ·decide
 ·split
  ·split
   ·exact ay 3
   ·exact iD 3
  ·show 2<=3;decide
theorem aab(s:ByteArray)(w:World)(hm:s.size<=maxLen)(hG:Gl w):
  Calls Tryz.prog 20 #[.string s] w fun e w'=>e=.returned (.agg #[.string ⟨(Pl.oM s.data.toList).toArray⟩,.int .i64 (Pl.err s.data.toList).1,.int .i64 (Pl.err s.data.toList).2])/\Below w.heap.size w w':=by
 have HP:Hid (∀w1,Gl w1->Calls Tryz.prog 40 #[.string s] w1 fun e w'=>e=.returned (.tuple #[.string ⟨(Pl.oM s.data.toList).toArray⟩,.int .i64 (Pl.err s.data.toList).1,.int .i64 (Pl.err s.data.toList).2])/\Below w1.heap.size w1 w'):=fun w1 g1=>adU s w1 hm g1
 have he:=aaa s.data.toList;generalize(Pl.err s.data.toList).1=E at*;generalize(Pl.err s.data.toList).2=Pp at*;generalize Pl.oM s.data.toList=PT at*;have HN:Hid (∀w1,Calls Tryz.prog 19 #[.int .i64 (E:Int)] w1 fun e w'=>e=.returned (.int .i64 (E:Int))/\w'=w1):=fun w1=>Z9 E w1 (by omega) (by omega)
 clear he
 go_enter Tryz.func20,Tryz.ntmps20
 go_wp2_with fail
 have hb0:Below w.heap.size w (w.alloc (.cells #[.string ⟨#[]⟩,.int .i64 0,.int .i64 0] 38)):=(Below.refl _ _).alloc (ay _) _;refine(HP.out _ (hG.alloc _)).mono ?_;rintro e w1 ⟨rfl,hb1⟩;have jW:w1.heap[w.heap.size]?=some (.cells #[.string ⟨#[]⟩,.int .i64 0,.int .i64 0] 38):=(hb1.block _ (by simp)).trans (heap_alloc_new _ _)
 have c0:w1.cell? ⟨w.heap.size,0,none⟩=some (.string ⟨#[]⟩):=cell_of jW 0;have c1:w1.cell? ⟨w.heap.size,1,none⟩=some (.int .i64 0):=cell_of jW 1;have c2:w1.cell? ⟨w.heap.size,2,none⟩=some (.int .i64 0):=cell_of jW 2;have z0:w1.frozen? ⟨w.heap.size,0,none⟩=false:=bw jW 0;have z1:w1.frozen? ⟨w.heap.size,1,none⟩=false:=bw jW 1;have z2:w1.frozen? ⟨w.heap.size,2,none⟩=false:=bw jW 2;have aw:=hb0.trans (hb1.mono hb0.size);clear jW
 go_wp2_with fail
 refine(HN.out _).mono ?_;rintro e w2 ⟨rfl,rfl⟩
 go_wp2_with fail
 refine bodyPost_ret (v:=.agg #[.string ⟨PT.toArray⟩,.int .i64 E,.int .i64 Pp]) (by simp[results,Tryz.results20,go_sem,c0,c1,c2]) rfl ⟨rfl,?_⟩
 exact((aw.setCell (ay _) _).setCell (ay _) _).setCell (ay _) _
def wS(s:List UInt8)(r:Int)(T:List UInt8)(E P:Nat):Prop:=
 ((Pl.err s).1≠0/\T=[]/\E=(Pl.err s).1/\P=(Pl.err s).2)\/((Pl.err s).1=0/\Ge.rule r=false/\T=[]/\E=4/\P=0)\/((Pl.err s).1=0/\Ge.rule r=true/\mG (Pl.rings s) r T/\E=0/\P=0)
theorem ak9(s:ByteArray)(r:Int)(w:World)(hm:s.size<=maxLen)(hG:Gl w):
  Calls Tryz.prog 39 #[.string s,.int .u8 r] w fun e w'=>(∃T E P,e=.returned (.tuple #[.string (ba T),.int .i64 (E:Nat),.int .i64 (P:Nat)])/\wS s.data.toList r T E P)/\Below w.heap.size w w':=by
 by_cases h0:(Pl.err s.data.toList).1=0
 ·cases hr:Ge.rule r
  ·refine(akD s r w hm hG h0 hr).mono ?_;rintro e w' ⟨rfl,hb⟩;exact⟨⟨[],4,0,rfl,ah (ag ⟨h0,hr,rfl,rfl,rfl⟩)⟩,hb⟩
  ·refine(akE s r w hm hG h0 hr).mono ?_;rintro e w' ⟨⟨T,rfl,hT⟩,hb⟩;exact⟨⟨T,0,0,rfl,ah (ah ⟨h0,hr,hT,rfl,rfl⟩)⟩,hb⟩
 ·refine(akB s r w hm hG h0).mono ?_;rintro e w' ⟨rfl,hb⟩;exact⟨⟨[],_,_,rfl,ag ⟨h0,rfl,rfl,rfl⟩⟩,hb⟩
theorem wS.small{s:List UInt8}{r:Int}{T:List UInt8}{E P:Nat}(h:wS s r T E P):E<=4:=by
 have:=aaa s;rcases h with⟨_,_,h,_⟩|⟨_,_,_,h,_⟩|⟨_,_,_,h,_⟩<;>omega
theorem J9(s:ByteArray)(r:Int)(w:World)(hm:s.size<=maxLen)(hG:Gl w):
  Calls Tryz.prog 18 #[.string s,.int .u8 r] w fun e w'=>(∃T E P,e=.returned (.agg #[.string (ba T),.int .i64 (E:Nat),.int .i64 (P:Nat)])/\wS s.data.toList r T E P)/\Below w.heap.size w w':=by
 have HP:Hid (∀w1,Gl w1->Calls Tryz.prog 39 #[.string s,.int .u8 r] w1 fun e w'=>(∃T E P,e=.returned (.tuple #[.string (ba T),.int .i64 (E:Nat),.int .i64 (P:Nat)])/\Hid (wS s.data.toList r T E P))/\Below w1.heap.size w1 w'):=fun w1 g1=>ak9 s r w1 hm g1
 have HE:Hid (∀T E P,wS s.data.toList r T E P->E<=4):=fun T E P h=>h.small
 go_enter Tryz.func18,Tryz.ntmps18
 go_wp2_with fail
 have hb0:Below w.heap.size w (w.alloc (.cells #[.string ⟨#[]⟩,.int .i64 0,.int .i64 0] 38)):=(Below.refl _ _).alloc (ay _) _;refine(HP.out _ (hG.alloc _)).mono ?_;rintro e w1 ⟨⟨T,E,Pp,rfl,HF⟩,hb1⟩;have he:=HE.out T E Pp HF.out;have HN:Hid (∀w1,Calls Tryz.prog 19 #[.int .i64 (E:Int)] w1 fun e w'=>e=.returned (.int .i64 (E:Int))/\w'=w1):=fun w1=>Z9 E w1 (by omega) (by omega)
 have jW:w1.heap[w.heap.size]?=some (.cells #[.string ⟨#[]⟩,.int .i64 0,.int .i64 0] 38):=(hb1.block _ (by simp)).trans (heap_alloc_new _ _)
 have c0:w1.cell? ⟨w.heap.size,0,none⟩=some (.string ⟨#[]⟩):=cell_of jW 0;have c1:w1.cell? ⟨w.heap.size,1,none⟩=some (.int .i64 0):=cell_of jW 1;have c2:w1.cell? ⟨w.heap.size,2,none⟩=some (.int .i64 0):=cell_of jW 2;have z0:w1.frozen? ⟨w.heap.size,0,none⟩=false:=bw jW 0;have z1:w1.frozen? ⟨w.heap.size,1,none⟩=false:=bw jW 1;have z2:w1.frozen? ⟨w.heap.size,2,none⟩=false:=bw jW 2;have aw:=hb0.trans (hb1.mono hb0.size);clear jW he HE HP;generalize uj:ba T=TT
 go_wp2_with fail
 refine(HN.out _).mono ?_;rintro e w2 ⟨rfl,rfl⟩
 go_wp2_with fail
 refine bodyPost_ret (v:=.agg #[.string TT,.int .i64 E,.int .i64 Pp]) (by simp[results,Tryz.results18,go_sem,c0,c1,c2]) rfl ⟨⟨T,E,Pp,by rw[uj],HF.out⟩,?_⟩
 exact((aw.setCell (ay _) _).setCell (ay _) _).setCell (ay _) _
end Go.Proofs.YtkjhhooecopolaaGreatDoor
namespace Go.Proofs.YtkjhhooecopolaaGreatDoor
namespace Pl
def kA(l l':List Tk):Prop:=∃c,l=c++l'/\∀t∈c,t.k≠47
theorem kA.trans{a b c:List Tk}(h:kA a b)(k:kA b c):kA a c:=by
 obtain⟨x,rfl,hx⟩:=h;obtain⟨y,rfl,hy⟩:=k;refine⟨x++y,by simp,fun t ht=>?_⟩
 rcases bQ.1 ht with q|q
 ·exact hx t q
 ·exact hy t q
theorem kA.one{t:Tk}{l:List Tk}(h:t.k≠47):kA (t::l) l:=⟨[t],rfl,by simpa using h⟩
theorem yP{c:Nat}(hc:c≠47){l:List Tk}(h:(mk c l).1=true):kA l (mk c l).2:=by
 obtain⟨t,e,hk⟩:=Pl.pJ h;generalize(mk c l).2=m at*;rw[e];exact kA.one (by omega)
theorem Ka{q:List UInt8}{l:List Tk}(h:(wd q l).1=true):kA l (wd q l).2:=by
 obtain⟨t,e,hk,_⟩:=Pl.CT h;generalize(wd q l).2=m at*;rw[e];exact kA.one (by omega)
theorem ala{l:List Tk}(h:(fk l).1=true):kA l (fk l).2.1:=by
 match l,h with
 |[],h=>cases h
 |[x],h=>cases h
 |x::y::r,h=>
  have e:fk (x::y::r)=if x.k=110 then(if y.k=110 then(true,r,(x.n,y.n)) else(false,y::r,(0,0))) else(false,x::y::r,(0,0)):=rfl
  rw[e] at h⊢;by_cases h1:x.k=110
  ·rw[aj h1] at h⊢;by_cases h2:y.k=110
   ·rw[aj h2];exact(kA.one (by omega)).trans (kA.one (by omega))
   ·rw[af h2] at h;cases h
  ·rw[af h1] at h;cases h
theorem Kb{α:Type}{item:List Tk->Bool×List Tk×α}(hi:∀l,(item l).1=true->kA l (item l).2.1):∀(f:Nat)(l:List Tk)(acc:List α),(cE item f l acc).1=true->kA l (cE item f l acc).2.1
 |0,l,acc,h=>by cases h
 |f+1,l,acc,h=>by
  unfold cE at h⊢;by_cases h1:(item l).1=true
  ·rw[aj h1] at h⊢;by_cases h2:(mk 44 (item l).2.1).1=true
   ·rw[aj h2] at h⊢;exact(hi l h1).trans ((yP (by decide) h2).trans (Kb hi f _ _ h))
   ·rw[af h2] at h⊢;exact(hi l h1).trans (yP (by decide) h)
  ·rw[af h1] at h;cases h
theorem alb(l:List Tk)(h:(gH l).1=true):kA l (gH l).2.1:=by
 unfold gH at h⊢;by_cases h1:(mk 40 l).1=true
 ·rw[aj h1] at h⊢;by_cases h2:(mk 41 (mk 40 l).2).1=true
  ·rw[aj h2] at h⊢;exact(yP (by decide) h1).trans (yP (by decide) h2)
  ·rw[af h2] at h⊢;exact(yP (by decide) h1).trans (Kb (fun l h=>ala h) _ _ _ h)
 ·rw[af h1] at h;cases h
theorem aac(l:List Tk)(h:(dB l).1=true):kA l (dB l).2.1:=by
 unfold dB at h⊢;by_cases h0:(wd EMPTY l).1=true
 ·rw[aj h0];exact Ka h0
 ·rw[af h0] at h⊢;by_cases h1:(mk 40 l).1=true
  ·rw[aj h1] at h⊢;exact(yP (by decide) h1).trans (Kb alb _ _ _ h)
  ·rw[af h1] at h;cases h
theorem alc(l:List Tk)(h:(iH l).1=true):kA l (iH l).2.1:=by
 unfold iH at h⊢;by_cases h0:(wd EMPTY l).1=true
 ·rw[aj h0];exact Ka h0
 ·rw[af h0] at h⊢;by_cases h1:(mk 40 l).1=true
  ·rw[aj h1] at h⊢;exact(yP (by decide) h1).trans (Kb aac _ _ _ h)
  ·rw[af h1] at h;cases h
theorem ald(l:List Tk)(h:(cz l).1=true):kA l (cz l).2.1:=by
 unfold cz at h⊢;by_cases h0:(wd iq l).1=true
 ·rw[aj h0] at h⊢;exact(Ka h0).trans (aac _ h)
 ·rw[af h0] at h⊢;by_cases h1:(wd jf l).1=true
  ·rw[aj h1] at h⊢;exact(Ka h1).trans (alc _ h)
  ·rw[af h1] at h;cases h
theorem ale(l:List UInt8)(i:Nat)(h:(47:UInt8)∈l):(cQ l i).k=47\/(cQ l i).k=120\/((cQ l i).k≠101/\(47:UInt8)∈l.drop (cQ l i).raw.length):=by
 have hd:∀{p:UInt8->Bool}{l:List UInt8},p 47=false->(47:UInt8)∈l->(47:UInt8)∈l.drop (l.takeWhile p).length:=fun{p l} hp h=>by
  have e:l.takeWhile p++l.dropWhile p=l:=QJ;have e2:l.drop (l.takeWhile p).length=l.dropWhile p:=by
   conv=>lhs;rw[<-e]
   rw[QJ]
   conv=>lhs;rw[<-e]
   rw[amH (by simp[e])]
   simp[e]
  rw[e2];rw[<-e] at h;rcases bQ.1 h with q|q
  ·have:=List.all_takeWhile (p:=p) (l:=l);rw[List.all_eq_true] at this;rw[this 47 q] at hp;cases hp
  ·exact q
 cases l with
 |nil=>simp at h
 |cons c r=>
  by_cases h47:c=47
  ·subst h47;left;unfold cQ;simp
  ·have hr:(47:UInt8)∈r:=by
    rcases aP.1 h with q|q
    ·exact absurd q.symm h47
    ·exact q
   right;unfold cQ;simp only;split
   ·right;refine⟨?_,by simpa using hr⟩
    rename_i q
    show c.toNat≠101;omega
   ·split
    ·right;exact⟨by show(119:Nat)≠101;decide,hd (by decide) h⟩
    ·split
     ·split
      ·exact ag rfl
      ·right;refine⟨by show(110:Nat)≠101;decide,?_⟩
       simp only[cN,List.drop_succ_cons];exact hd (by decide) hr
     ·split
      ·exact ag rfl
      ·right;exact⟨by show(110:Nat)≠101;decide,hd (by decide) h⟩
theorem aad(s:List UInt8):∀(f i:Nat),i<=s.length->s.length<f+i->(47:UInt8)∈s.drop i->∃t∈iT s f i,t.k=47\/t.k=120
 |0,i,h,h2,_=>by omega
 |f+1,i,h,h2,hm=>by
  have hm2:(47:UInt8)∈s.drop (bl s i):=by
   have e:(s.drop i).takeWhile fD++(s.drop i).dropWhile fD=s.drop i:=QJ;unfold bl;rw[<-tQ];have e2:(s.drop i).drop ((s.drop i).takeWhile fD).length=(s.drop i).dropWhile fD:=by
    generalize s.drop i=l at*
    conv=>lhs;rw[<-e]
    rw[QJ]
    conv=>lhs;rw[<-e]
    rw[amH (by simp[e])]
    simp[e]
   rw[e2];rw[<-e] at hm;rcases bQ.1 hm with q|q
   ·have:=List.all_takeWhile (p:=fD) (l:=s.drop i);rw[List.all_eq_true] at this;exact absurd (this 47 q) (by decide)
   ·exact q
  have hb:=ale (s.drop (bl s i)) (bl s i) hm2
  change(tk s i).k=47\/(tk s i).k=120\/((tk s i).k≠101/\(47:UInt8)∈(s.drop (bl s i)).drop (tk s i).raw.length) at hb
  obtain⟨r,hr⟩:=GI s (f+1) i;rcases hb with q|q|⟨q1,q2⟩
  ·exact⟨tk s i,by rw[hr];simp,ag q⟩
  ·exact⟨tk s i,by rw[hr];simp,ah q⟩
  ·by_cases PQ:(tk s i).k=120
   ·exact⟨tk s i,by rw[hr];simp,ah PQ⟩
   ·rw[tQ,<-Q9] at q2;obtain⟨n1,n2⟩:=Cr s i h;have n3:i+1<=(tk s i).pl+(tk s i).raw.length:=by
     rcases n2 with w|w|w
     ·exact absurd w q1
     ·exact absurd w PQ
     ·exact w
    obtain⟨t,ht,hk⟩:=aad s f _ n1 (by omega) q2
    refine⟨t,?_,hk⟩;rw[iT,af (fun w=>by rcases w with w|w;exact q1 w;exact PQ w)]
    exact aT _ ht
theorem aae(s:List UInt8):∀(c:List Tk)(l:List Tk),iU s (c++l)->l≠[]->∀t∈c,t.k≠120
 |[],_,_,_,t,ht=>by simp at ht
 |a::c,l,h,hl,t,ht=>by
  obtain⟨u,r,e⟩:∃u r,c++l=u::r:=by
   cases e:c++l with
   |nil=>simp at e;exact absurd e.2 hl
   |cons u r=>exact⟨u,r,rfl⟩
  rw[kZ,e] at h;rcases aP.1 ht with q|q
  ·rw[q];exact fun w=>h.1 (ah w)
  ·have h2:=h.2.2;rw[<-e] at h2;exact aae s c l h2 hl t q
theorem alf{s:List UInt8}(h:(err s).1=0):(47:UInt8)∉s:=fun hm=>by
 obtain⟨_,_,h1,h2,_⟩:=uk h;obtain⟨t,ht,hk⟩:=aad s (s.length+1) 0 (iD _) (by omega) (by simpa using hm)
 obtain⟨c,e,hc⟩:=ald _ h1;have hch:=Ct s
 change t∈all s at ht
 rw[e] at ht hch;generalize(cz (all s)).2.1=rest at*;cases rest with
 |nil=>exact absurd h2 (by decide)
 |cons u r=>
  have hu:u.k=101:=h2;have hrest:=GJ s c (u::r) hch (by simp)
  have hr:r=[]:=by
   cases r with
   |nil=>rfl
   |cons v r=>exact absurd (ag hu) hrest.1
  subst hr;rcases bQ.1 ht with q|q
  ·rcases hk with w|w
   ·exact hc t q w
   ·exact aae s c [u] hch (by simp) t q w
  ·have:t=u:=by simpa using q
   rw[this,hu] at hk;omega
end Pl
end Go.Proofs.YtkjhhooecopolaaGreatDoor
namespace Go.Proofs.YtkjhhooecopolaaGreatDoor.Gb
open Ge Ga
def dD(n:Nd):Pt:=(n.1,n.2.1)
def Bn(c:List Nd):List Pt:=(c++c.take 1).map dD
def cp(p:NP):List (List Pt):=(p.1::p.2).map Bn
theorem Bo{α:Type}(f:α->List UInt8):∀l:List α,Lib.join (l.map f) [44,32]=Pl.bh f l
 |[]=>by simp[Lib.join,List.intercalate,Pl.bh]
 |[x]=>by simp[Lib.join,List.intercalate,Pl.bh]
 |x::y::r=>by
  have ih:=Bo f (y::r);simp only[Lib.join,List.intercalate,eI,List.intersperse,tN,Pl.bh] at ih⊢;rw[ih]
theorem Kc:∀(TS:List (List UInt8))(t:List UInt8)(x:UInt8),t∈TS->x∈t->x∈Lib.join TS [44,32]
 |[],_,_,h,_=>by simp at h
 |[a],t,x,h,hx=>by
  have:t=a:=by simpa using h
  subst this;simpa[Lib.join,List.intercalate] using hx
 |a::b::r,t,x,h,hx=>by
  have e:Lib.join (a::b::r) [44,32]=a++([44,32]++Lib.join (b::r) [44,32]):=by
   simp[Lib.join,List.intercalate,List.intersperse]
  rw[e];rcases aP.1 h with q|q
  ·rw[q] at hx;exact nr _ hx
  ·exact q8 _ (q8 _ (Kc (b::r) t x q hx))
theorem alg{α:Type}(f:α->List UInt8)(l:List α)(a:α)(x:UInt8)(ha:a∈l)(hx:x∈f a):x∈Pl.bh f l:=by
 rw[<-Bo];exact Kc _ _ x (aN.2 ⟨a,ha,rfl⟩) hx
theorem aaf{a:Ge.Fr}(h:(47:UInt8)∉Pl.nM a):a.2=1:=by
 apply fV;intro q;apply h;unfold Pl.nM;rw[af q];simp
theorem aag{n d:Int}(hd:0<d)(h:(aW n d).2=1):d∣n:=by
 obtain⟨g,_,h1,h2,_⟩:=xD (n:=n) (d:=d) (by omega)
 rw[h] at h2;refine⟨(aW n d).1,?_⟩;have:d=g:=by omega
 rw[this] at h1⊢;exact h1
theorem alh{n:Nd}(hc:Ge.Can n)(h1:(ax n).1.2=1)(h2:(ax n).2.2=1):n.2.2=1:=by
 have d1:=aag hc.pos h1;have d2:=aag hc.pos h2;have hd1:n.2.2.natAbs∣Int.gcd (Int.gcd n.1 n.2.1) n.2.2:=Int.dvd_gcd (aa9 (FX.2 d1) (FX.2 d2)) (FX.2 (Int.dvd_refl _));rw[hc.co] at hd1;have hp:=hc.pos;have h1:n.2.2.natAbs=1:=Nat.dvd_one.1 hd1;omega
theorem aah{c:List Nd}(h:(47:UInt8)∉jD c){n:Nd}(hn:n∈c)(hc:Ge.Can n):n.2.2=1:=by
 have h1:(47:UInt8)∉Pl.gI (ax n):=fun q=>h (by
  unfold jD;refine aT _ (nr _ ?_);exact alg _ _ (ax n) 47 (aN.2 ⟨n,nr _ hn,rfl⟩) q)
 unfold Pl.gI at h1;refine alh hc (aaf fun q=>h1 (nr _ q)) (aaf fun q=>h1 (q8 _ (q8 _ q)))
theorem ali{F:List NP}(h:(47:UInt8)∉yK F)(hc:∀p∈F,(∀n∈p.1,Ge.Can n)/\∀g∈p.2,∀n∈g,Ge.Can n):∀p∈F,(∀n∈p.1,n.2.2=1)/\∀g∈p.2,∀n∈g,n.2.2=1:=fun p hp=>by
 have hne:(F.map fun p=>oZ (jD p.1) (p.2.map jD))≠[]:=fun q=>by
  rw[qg] at q;rw[q] at hp;simp at hp
 have h1:(47:UInt8)∉oZ (jD p.1) (p.2.map jD):=fun q=>h (by
  unfold yK uO;rw[af hne];refine q8 _ (nr _ ?_);exact Kc _ _ 47 (aN.2 ⟨p,hp,rfl⟩) q)
 have h2:∀t∈jD p.1::p.2.map jD,(47:UInt8)∉t:=fun t ht q=>h1 (by
  unfold oZ;exact aT _ (nr _ (Kc _ _ 47 ht q)))
 refine⟨fun n hn=>aah (h2 _ (by simp)) hn ((hc p hp).1 n hn),fun g hg n hn=>aah (h2 (jD g) ?_) hn ((hc p hp).2 g hg n hn)⟩
 exact aT _ (aN.2 ⟨g,hg,rfl⟩)
theorem aai{c:List Nd}(h:∀n∈c,n.2.2=1):jD c=Pl.eB (Bn c):=by
 have h':∀n∈c++c.take 1,n.2.2=1:=fun n hn=>by
  rcases bQ.1 hn with q|q
  ·exact h n q
  ·exact h n (qh q)
 unfold jD Pl.eB Bn;rw[<-Bo,<-Bo,fL,fL];have e:(c++c.take 1).map (Pl.gI∘ax)=(c++c.take 1).map (Pl.jM∘dD):=rB fun n hn=>by
  have h1:=h' n hn;show Pl.gI (ax n)=Pl.jM (dD n);have e:n=(n.1,n.2.1,1):=bX rfl (bX rfl h1);rw[e,DX (n.1,n.2.1)];rfl
 rw[e];rfl
theorem alj{F:List NP}(h:∀p∈F,(∀n∈p.1,n.2.2=1)/\∀g∈p.2,∀n∈g,n.2.2=1):yK F=Pl.rU (F.map cp):=by
 have ep:∀p∈F,oZ (jD p.1) (p.2.map jD)=Pl.fI (cp p):=fun p hp=>by
  have e:jD p.1::p.2.map jD=(cp p).map Pl.eB:=by
   unfold cp;rw[eI,eI,aai (h p hp).1,fL];congr 1;exact rB fun g hg=>aai ((h p hp).2 g hg)
  unfold oZ Pl.fI;rw[e,Bo,af (by unfold cp;simp)]
  rfl
 have e2:(F.map fun p=>oZ (jD p.1) (p.2.map jD))=(F.map cp).map Pl.fI:=by
  rw[fL];exact rB ep
 unfold yK uO Pl.rU;rw[e2,iF];by_cases hF:F=[]
 ·subst hF;rfl
 ·rw[af (by simpa using hF),af (by simpa using hF),Bo]
  simp[yI,Pl.jf]
theorem alk(c:List Nd):dY (Bn c)=dY (c.map dD):=by
 unfold Bn;cases c with
 |nil=>rfl
 |cons a r=>
  have e1:((a::r)++(a::r).take 1).map dD=dD a::(r.map dD++[dD a]):=by simp
  have e2:(a::r).map dD=dD a::r.map dD:=rfl;rw[e1,e2];unfold dY;show(((dD a::(r.map dD++[dD a])).zip ((r.map dD++[dD a])++[dD a])).filter fun e=>decide (e.1≠e.2))=((dD a::r.map dD).zip (r.map dD++[dD a])).filter fun e=>decide (e.1≠e.2)
  have e3:(dD a::(r.map dD++[dD a])).zip ((r.map dD++[dD a])++[dD a])=(dD a::r.map dD).zip (r.map dD++[dD a])++[(dD a,dD a)]:=by
   have:dD a::(r.map dD++[dD a])=(dD a::r.map dD)++[dD a]:=rfl;rw[this,List.zip_append (by simp)]
   rfl
  rw[e3,BB];simp
theorem alm(F:List NP):ae (F.map cp).flatten=ae ((o9 F).map (·.map dD)):=by
 have e:(F.map cp).flatten=(o9 F).map Bn:=by
  unfold o9;induction F with
  |nil=>rfl
  |cons p F ih=>rw[eI,tN,ih,po,ja];rfl
 rw[e];unfold ae;rw[QI,QI];congr 1;funext c;exact alk c
end Go.Proofs.YtkjhhooecopolaaGreatDoor.Gb
