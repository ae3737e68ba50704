import Derived.Test.YtkjhhooecopolaaGreatDoorZz37
set_option maxRecDepth 100000
set_option maxHeartbeats 4000000
namespace Go.Proofs.YtkjhhooecopolaaGreatDoor
namespace Pl
theorem IM(u:Nat):∀c∈Lib.decDigits u,bn c=true:=by
 induction u using Nat.strongRecOn with
 |_ u ih=>
  intro c hc;rw[Lib.decDigits] at hc;have one:∀d,d<10->bn (UInt8.ofNat (48+d))=true:=fun d hd=>by
   unfold bn;have:(UInt8.ofNat (48+d)).toNat=48+d:=by rw[UInt8.toNat_ofNat'];exact Zx (by omega)
   rw[this];simp;omega
  by_cases h:u<10
  ·rw[ug h] at hc;rw[bI.1 hc];exact one u h
  ·rw[Aj h] at hc;rcases bT.1 hc with q|q
   ·exact ih (u/10) (by omega) c q
   ·rw[bI.1 q];exact one _ (by omega)
theorem Yt(u:Nat):qz (Lib.decDigits u)=u:=by
 induction u using Nat.strongRecOn with
 |_ u ih=>
  rw[Lib.decDigits];have one:∀d,d<10->(UInt8.ofNat (48+d)).toNat-48=d:=fun d hd=>by
   rw[UInt8.toNat_ofNat',Zx (by omega)];omega
  by_cases h:u<10
  ·rw[ug h];show 10*0+((UInt8.ofNat (48+u)).toNat-48)=u;rw[one u h];omega
  ·rw[Aj h,abH,ih (u/10) (by omega),one _ (by omega)]
   omega
theorem Oe(u:Nat):Lib.decDigits u≠[]:=by
 rw[Lib.decDigits];by_cases h:u<10
 ·rw[ug h];simp
 ·rw[Aj h];simp
theorem Og:∀(k u:Nat),u<10 ^ (k+1)->(Lib.decDigits u).length<=k+1
 |0,u,h=>by
  rw[Lib.decDigits,ug (by simpa using h)];simp
 |k+1,u,h=>by
  rw[Lib.decDigits];by_cases h1:u<10
  ·rw[ug h1];simp
  ·rw[Aj h1,aT];have:=Og k (u/10) (by rw[Nat.pow_succ] at h;omega)
   simp;omega
theorem IP{p:UInt8->Bool}:∀{A rest:List UInt8},(∀c∈A,p c=true)->(∀c r,rest=c::r->p c=false)->(A++rest).takeWhile p=A
 |[],rest,_,h=>by
  cases rest with
  |nil=>rfl
  |cons c r=>rw[oP,vD,h c r rfl];rfl
 |a::A,rest,hA,h=>by
  rw[kG,vD,hA a (by simp)]
  simp only[fJ];rw[IP (fun c hc=>hA c (bo _ hc)) h]
def Sep(rest:List UInt8):Prop:=∀c r,rest=c::r->c=32\/c=40\/c=41\/c=44\/c=47
theorem Sep.Yu{rest:List UInt8}(h:Sep rest):∀c r,rest=c::r->bn c=false:=fun c r e=>by
 rcases h c r e with q|q|q|q|q<;>rw[q]<;>decide
theorem Sep.let{rest:List UInt8}(h:Sep rest):∀c r,rest=c::r->isLet c=false:=fun c r e=>by
 rcases h c r e with q|q|q|q|q<;>rw[q]<;>decide
theorem Sep.of(c:UInt8)(r:List UInt8)(h:c=32\/c=40\/c=41\/c=44\/c=47):Sep (c::r):=fun d r' e=>by
 injection e with e1 _;rw[<-e1];exact h
theorem Sep.nil:Sep []:=fun c r e=>by cases e
theorem ai8{n:Int}(h1: -1000000000<n)(h2:n<1000000000){rest:List UInt8}(hs:Sep rest)(i:Nat):cZ (Lib.itoa n++rest) i=⟨110,Lib.itoa n,n,i⟩:=by
 unfold Lib.itoa;by_cases hn:n<0
 ·rw[ah hn];have e:=IP (rest:=rest) (IM n.natAbs) hs.Yu;have hl:=Og 8 n.natAbs (by omega)
  have hv:=Yt n.natAbs;have hne:=Oe n.natAbs;show cZ ((45:UInt8)::(Lib.decDigits n.natAbs++rest)) i=_;unfold cZ;simp only;rw[e];rw[aa (by decide),aa (by decide),ah (by decide),aa (by intro k;rcases k with k|k;exact hne k;omega),hv]
  congr 1;omega
 ·rw[aa hn];have e:=IP (rest:=rest) (IM n.toNat) hs.Yu;have hl:=Og 8 n.toNat (by omega)
  have hv:=Yt n.toNat;have hd:=IM n.toNat;have hne:=Oe n.toNat;cases hD:Lib.decDigits n.toNat with
  |nil=>exact absurd hD hne
  |cons c r=>
   rw[hD] at e hl hv hd;have hc:=fO (hd c (by simp))
   rw[kG] at e⊢;unfold cZ;simp only;rw[e];have hnl:¬isLet c=true:=fun k=>by have:=fO k;omega
   rw[aa (by omega),aa hnl,aa (by omega),aa (by intro k;rcases k with k|k;exact absurd k (by simp);omega),hv]
   congr 1;omega
theorem ai9{q:List UInt8}(hq:q≠[])(hl:∀c∈q,isLet c=true){rest:List UInt8}(hs:Sep rest)(i:Nat):cZ (q++rest) i=⟨119,q,0,i⟩:=by
 have e:=IP (rest:=rest) hl hs.let;cases q with
 |nil=>exact absurd rfl hq
 |cons c r=>
  have hc:=hl c (by simp)
  have hc':=fO hc;rw[kG] at e⊢;unfold cZ;simp only;rw[e,aa (by omega),ah hc]
theorem aja{c:UInt8}(h:c=40\/c=41\/c=44\/c=47)(rest:List UInt8)(i:Nat):cZ (c::rest) i=⟨c.toNat,[c],0,i⟩:=by
 unfold cZ;simp only;rw[ah];rcases h with q|q|q|q<;>rw[q]<;>decide
def Lex(s:List UInt8):Nat->List Tk->Nat->Prop
 |i,[],j=>i=j
 |i,t::c,j=>tk s i=t/\¬(t.k=101\/t.k=120)/\Lex s (t.pl+t.raw.length) c j
theorem Lex.append{s:List UInt8}:∀{c:List Tk}{i j k:Nat}{d:List Tk},Lex s i c j->Lex s j d k->Lex s i (c++d) k
 |[],_,_,_,_,h,h2=>by
  have:_=_:=h;subst this;exact h2
 |_::_,_,_,_,_,h,h2=>⟨h.1,h.2.1,Lex.append h.2.2 h2⟩
theorem Lex.iW{s:List UInt8}:∀{c:List Tk}{i j:Nat}(f:Nat),Lex s i c j->iW s (f+c.length) i=c++iW s f j
 |[],_,_,_,h=>by
  have:_=_:=h;subst this;rfl
 |t::c,i,j,f,h=>by
  have ih:=Lex.iW f h.2.2;show Pl.iW s ((f+c.length)+1) i=_;have hk:¬((tk s i).k=101\/(tk s i).k=120):=by rw[h.1];exact h.2.1
  rw[Pl.iW,aa hk,h.1,ih];rfl
theorem Lex.len{s:List UInt8}:∀{c:List Tk}{i j:Nat},i<=s.length->Lex s i c j->i+c.length<=j/\j<=s.length
 |[],_,_,hi,h=>by
  have:_=_:=h;subst this;exact⟨ax _,hi⟩
 |t::c,i,j,hi,h=>by
  have hn:=E0 s i hi;rw[h.1] at hn;have ih:=Lex.len hn.1 h.2.2;have:=h.2.1;rw[cG];omega
theorem IQ{s A rest:List UInt8}{i:Nat}(h:s.drop i=A++rest):s.drop (i+A.length)=rest:=by
 rw[<-vM,h,ZH]
theorem IU{s l:List UInt8}{i:Nat}(h:s.drop i=l)(hb:∀c r,l=c::r->fS c=false):tk s i=cZ l i:=by
 have e:bl s i=i:=by
  unfold bl;rw[h];cases l with
  |nil=>rfl
  |cons c r=>rw[vD,hb c r rfl];rfl
 unfold tk;rw[e,h]
theorem ajb{s l:List UInt8}{i:Nat}(h:s.drop i=32::l)(hb:∀c r,l=c::r->fS c=false):tk s i=tk s (i+1):=by
 have h1:s.drop (i+1)=l:=by rw[<-vM,h];rfl
 have e:bl s i=i+1:=by
  unfold bl;rw[h,vD];have:fS 32=true:=by decide
  rw[this];simp only[fJ,cG];cases l with
  |nil=>rfl
  |cons c r=>rw[vD,hb c r rfl];rfl
 have e2:bl s (i+1)=i+1:=by
  unfold bl;rw[h1];cases l with
  |nil=>rfl
  |cons c r=>rw[vD,hb c r rfl];rfl
 unfold tk;rw[e,e2]
theorem Lex.blank{s l:List UInt8}{i j:Nat}{c:List Tk}(h:s.drop i=32::l)(hb:∀c r,l=c::r->fS c=false)(hc:c≠[])(hl:Lex s (i+1) c j):Lex s i c j:=by
 cases c with
 |nil=>exact absurd rfl hc
 |cons t c=>exact⟨(ajb h hb).trans hl.1,hl.2⟩
structure Rd{α:Type}(ok:α->Prop)(txt:α->List UInt8)(item:List Tk->Bool×List Tk×α):Prop where
 rd:∀x,ok x->∀s i rest,s.drop i=txt x++rest->Sep rest->∃c,Lex s i c (i+(txt x).length)/\(∀l,item (c++l)=(true,l,x))/\(∀t∈c,t.k=110->gM t.n)/\(∃t r,c=t::r/\t.k≠41)
 hd:∀x,ok x->∃a r,txt x=a::r/\fS a=false
theorem Oh(n:Int):∃a r,Lib.itoa n=a::r/\fS a=false:=by
 unfold Lib.itoa;by_cases h:n<0
 ·rw[ah h];exact⟨45,_,rfl,by decide⟩
 ·rw[aa h];cases hD:Lib.decDigits n.toNat with
  |nil=>exact absurd hD (Oe _)
  |cons c r=>
   have:=fO (IM n.toNat c (by rw[hD];simp))
   exact⟨c,r,rfl,kH (by omega)⟩
theorem DZ{A rest:List UInt8}(h:∃a r,A=a::r/\fS a=false):∀c r,A++rest=c::r->fS c=false:=fun c r e=>by
 obtain⟨a,r',rfl,hb⟩:=h;rw[kG] at e;injection e with e1 _;rw[<-e1];exact hb
theorem Yv{s rest:List UInt8}{i:Nat}{n:Int}(h1: -1000000000<n)(h2:n<1000000000)(h:s.drop i=Lib.itoa n++rest)(hs:Sep rest):Lex s i [⟨110,Lib.itoa n,n,i⟩] (i+(Lib.itoa n).length):=by
 refine⟨?_,by show ¬((110:Nat)=101\/(110:Nat)=120);decide,rfl⟩
 rw[IU h (DZ (Oh n)),ai8 h1 h2 hs]
theorem zS{s rest:List UInt8}{i:Nat}{c:UInt8}(hc:c=40\/c=41\/c=44\/c=47)(h:s.drop i=c::rest):Lex s i [⟨c.toNat,[c],0,i⟩] (i+1):=by
 refine⟨?_,?_,rfl⟩
 ·rw[IU h (fun d r e=>by
   injection e with e1 _;rw[<-e1];rcases hc with q|q|q|q<;>rw[q]<;>decide),aja hc]
 ·show ¬(c.toNat=101\/c.toNat=120);rcases hc with q|q|q|q<;>rw[q]<;>decide
theorem Oi{s rest q:List UInt8}{i:Nat}(hq:q≠[])(hl:∀c∈q,isLet c=true)(h:s.drop i=q++rest)(hs:Sep rest):Lex s i [⟨119,q,0,i⟩] (i+q.length):=by
 refine⟨?_,by show ¬((119:Nat)=101\/(119:Nat)=120);decide,rfl⟩
 rw[IU h (DZ ?_),ai9 hq hl hs];cases q with
 |nil=>exact absurd rfl hq
 |cons a r=>
  have:=fO (hl a (by simp))
  exact⟨a,r,rfl,kH (by omega)⟩
theorem ajc:Rd (fun p=>gM p.1/\gM p.2) jO fq where
 rd:=by
  rintro⟨x,y⟩ ⟨h1,h2⟩ s i rest h hs;have e:jO (x,y)++rest=Lib.itoa x++(32::(Lib.itoa y++rest)):=by simp[jO]
  rw[e] at h;unfold gM at h1 h2;have l1:=Yv (n:=x) (by simp only at h1;omega) (by simp only at h1;omega) h (Sep.of 32 _ (ae rfl))
  have d2:=IQ h;have d3:s.drop (i+(Lib.itoa x).length+1)=Lib.itoa y++rest:=by rw[<-vM,d2];rfl
  have l2:=Yv (n:=y) (by simp only at h2;omega) (by simp only at h2;omega) d3 hs
  have Oj:=Lex.blank d2 (DZ (Oh y)) (by simp) l2
  refine⟨[⟨110,Lib.itoa x,x,i⟩]++[⟨110,Lib.itoa y,y,i+(Lib.itoa x).length+1⟩],?_,fun l=>rfl,fun t ht _=>?_,_,_,rfl,by show(110:Nat)≠41;decide⟩
  ·have:=l1.append Oj;have el:(jO (x,y)).length=(Lib.itoa x).length+1+(Lib.itoa y).length:=by simp[jO];omega
   rw[el,show i+((Lib.itoa x).length+1+(Lib.itoa y).length)=i+(Lib.itoa x).length+1+(Lib.itoa y).length by omega]
   exact this
  ·simp only[Ah,aP,ZC,rQ] at ht;rcases ht with q|q<;>rw[q]
   ·exact h1
   ·exact h2
 hd:=fun p _=>by
  obtain⟨a,r,e,hb⟩:=Oh p.1;exact⟨a,r++([32]++Lib.itoa p.2),by unfold jO;rw[e];rfl,hb⟩
theorem IW{α:Type}{ok:α->Prop}{txt:α->List UInt8}{item:List Tk->Bool×List Tk×α}(hR:Rd ok txt item):∀(xs:List α),xs≠[]->(∀x∈xs,ok x)->∀s i rest,s.drop i=aU txt xs++(41::rest)->
  ∃c,Lex s i c (i+(aU txt xs).length+1)/\(∀f l acc,xs.length<=f->bY item f (c++l) acc=(true,l,acc++xs))/\(∀t∈c,t.k=110->gM t.n)/\xs.length<=c.length/\(∃t r,c=t::r/\t.k≠41)
 |[],h,_,_,_,_,_=>absurd rfl h
 |[x],_,hok,s,i,rest,h=>by
  obtain⟨c,l1,p1,n1,t,r,ec,hk⟩:=hR.rd x (hok x (by simp)) s i (41::rest) h (Sep.of 41 _ (by simp))
  have d2:=IQ h;have l2:=zS (c:=41) (by simp) d2
  refine⟨c++[_],l1.append l2,fun f l acc hf=>?_,fun u hu jK=>?_,by simp,t,r++[_],by rw[ec];rfl,hk⟩
  ·obtain⟨f,rfl⟩:∃g,f=g+1:=⟨f-1,by simp at hf;omega⟩
   have p:=p1 (⟨(41:UInt8).toNat,[41],0,i+(aU txt [x]).length⟩::l);unfold bY;rw[eF,Ah,p];simp only[fJ];have m1:(mk 44 (⟨(41:UInt8).toNat,[41],0,i+(aU txt [x]).length⟩::l)).1=false:=rfl;have m2:mk 41 (⟨(41:UInt8).toNat,[41],0,i+(aU txt [x]).length⟩::l)=(true,l):=rfl;rw[m1,m2];simp
  ·rcases bT.1 hu with q|q
   ·exact n1 u q jK
   ·rw[bI.1 q] at jK;exact absurd jK (by show(41:UInt8).toNat≠110;decide)
 |x::y::xs,_,hok,s,i,rest,h=>by
  have e0:aU txt (x::y::xs)++(41::rest)=txt x++(44::(32::(aU txt (y::xs)++(41::rest)))):=by simp[aU]
  rw[e0] at h;obtain⟨c,l1,p1,n1,t,r,ec,hk⟩:=hR.rd x (hok x (by simp)) s i _ h (Sep.of 44 _ (by simp))
  have d2:=IQ h;have l2:=zS (c:=44) (by simp) d2
  have d3:s.drop (i+(txt x).length+1)=32::(aU txt (y::xs)++(41::rest)):=by rw[<-vM,d2];rfl
  have d4:s.drop (i+(txt x).length+1+1)=aU txt (y::xs)++(41::rest):=by rw[<-vM,d3];rfl
  obtain⟨c',l3,p3,n3,m3,t',r',ec',hk'⟩:=IW hR (y::xs) (by simp) (fun z hz=>hok z (bo _ hz)) s _ rest d4
  have hb:∀b q,aU txt (y::xs)++(41::rest)=b::q->fS b=false:=by
   obtain⟨a,r2,ea,hb⟩:=hR.hd y (hok y (by simp))
   refine DZ ?_;cases xs with
   |nil=>exact⟨a,r2,ea,hb⟩
   |cons z xs=>exact⟨a,r2++([44,32]++aU txt (z::xs)),by show txt y++([44,32]++aU txt (z::xs))=_;rw[ea];rfl,hb⟩
  have l3':=Lex.blank d3 hb (by rw[ec'];simp) l3
  have el:(aU txt (x::y::xs)).length=(txt x).length+2+(aU txt (y::xs)).length:=by simp[aU];omega
  refine⟨c++([⟨(44:UInt8).toNat,[44],0,i+(txt x).length⟩]++c'),?_,fun f l acc hf=>?_,fun u hu jK=>?_,?_,t,r++([⟨(44:UInt8).toNat,[44],0,i+(txt x).length⟩]++c'),by rw[ec];rfl,hk⟩
  ·rw[el,show i+((txt x).length+2+(aU txt (y::xs)).length)+1=i+(txt x).length+1+1+(aU txt (y::xs)).length+1 by omega]
   exact l1.append (l2.append l3')
  ·obtain⟨f,rfl⟩:∃g,f=g+1:=⟨f-1,by simp at hf;omega⟩
   unfold bY;have e:c++([⟨(44:UInt8).toNat,[44],0,i+(txt x).length⟩]++c')++l=c++(⟨(44:UInt8).toNat,[44],0,i+(txt x).length⟩::(c'++l)):=by simp
   rw[e,p1];simp only[fJ];have m1:mk 44 (⟨(44:UInt8).toNat,[44],0,i+(txt x).length⟩::(c'++l))=(true,c'++l):=rfl;rw[m1];simp only[fJ];rw[p3 f l (acc++[x]) (by simp at hf⊢;omega)]
   simp
  ·rcases bT.1 hu with q|q
   ·exact n1 u q jK
   ·rcases bT.1 q with q|q
    ·rw[bI.1 q] at jK;exact absurd jK (by show(44:UInt8).toNat≠110;decide)
    ·exact n3 u q jK
  ·have hcl:0<c.length:=by rw[ec];simp
   simp only[aT,cG,gU] at m3⊢;omega
theorem ajf:Rd (fun g=>oz g) dV ia where
 rd:=by
  intro g hok s i rest h _hs;have e:dV g++rest=40::(aU jO g++(41::rest)):=by simp[dV]
  rw[e] at h;have l1:=zS (c:=40) (by simp) h
  have d2:s.drop (i+1)=aU jO g++(41::rest):=by rw[<-vM,h];rfl
  have el:(dV g).length=1+(aU jO g).length+1:=by simp[dV];omega
  by_cases hg:g=[]
  ·subst hg;have l2:=zS (c:=41) (by simp) d2
   refine⟨[⟨(40:UInt8).toNat,[40],0,i⟩]++[⟨(41:UInt8).toNat,[41],0,i+1⟩],?_,fun l=>rfl,fun t ht hk=>?_,_,_,rfl,by show(40:UInt8).toNat≠41;decide⟩
   ·rw[el,show i+(1+(aU jO []).length+1)=i+1+1 by simp[aU]]
    exact l1.append l2
   ·simp only[Ah,aP,ZC,rQ] at ht;rcases ht with q|q<;>rw[q] at hk
    ·exact absurd hk (by show ¬(40:UInt8).toNat=110;decide)
    ·exact absurd hk (by show ¬(41:UInt8).toNat=110;decide)
  ·obtain⟨c,l2,p2,n2,m2,t,r,ec,hk⟩:=IW ajc g hg (fun p hp=>hok p hp) s (i+1) rest d2
   refine⟨[⟨(40:UInt8).toNat,[40],0,i⟩]++c,?_,fun l=>?_,fun u hu jK=>?_,_,_,rfl,by show(40:UInt8).toNat≠41;decide⟩
   ·rw[el,show i+(1+(aU jO g).length+1)=i+1+(aU jO g).length+1 by omega]
    exact l1.append l2
   ·show ia (⟨(40:UInt8).toNat,[40],0,i⟩::(c++l))=_;unfold ia;have m1:mk 40 (⟨(40:UInt8).toNat,[40],0,i⟩::(c++l))=(true,c++l):=rfl;rw[m1];simp only[fJ];have m3:(mk 41 (c++l)).1=false:=by
     rw[ec];show(if t.k=41 then(true,r++l) else(false,t::(r++l))).1=false
     rw[aa hk]
    rw[m3];simp only[iC,jg];rw[p2 _ l [] (by simp only[cG,aT];omega)]
    simp
   ·rcases bT.1 hu with q|q
    ·rw[bI.1 q] at jK;exact absurd jK (by show(40:UInt8).toNat≠110;decide)
    ·exact n2 u q jK
 hd:=fun g _=>⟨40,aU jO g++[41],rfl,by decide⟩
theorem IX:(∀c∈EMPTY,isLet c=true)/\(∀c∈dQ,isLet c=true)/\(∀c∈jk,isLet c=true):=by decide
theorem Yw:Rd (fun gs=>∀g∈gs,oz g) dR dv where
 rd:=by
  intro gs hok s i rest h hs;by_cases hg:gs.length=0
  ·have e:dR gs=EMPTY:=ah hg;have e0:gs=[]:=fK.1 hg;rw[e] at h⊢;have l1:=Oi (by decide) IX.1 h hs
   refine⟨[⟨119,EMPTY,0,i⟩],l1,fun l=>?_,fun t ht hk=>?_,_,_,rfl,by show(119:Nat)≠41;decide⟩
   ·rw[e0];rfl
   ·rw[bI.1 ht] at hk;exact absurd hk (by show ¬(119:Nat)=110;decide)
  ·have e:dR gs=[40]++(aU dV gs++[41]):=aa hg;have h':=h;rw[e] at h';have e1:[40]++(aU dV gs++[41])++rest=(40:UInt8)::(aU dV gs++(41::rest)):=by simp
   rw[e1] at h';have l1:=zS (c:=40) (by simp) h'
   have d2:s.drop (i+1)=aU dV gs++(41::rest):=by rw[<-vM,h'];rfl
   have el:(dR gs).length=1+(aU dV gs).length+1:=by rw[e];simp;omega
   obtain⟨c,l2,p2,n2,m2,t,r,ec,hk⟩:=IW ajf gs (fun k=>hg (by rw[k];rfl)) (fun g hg=>hok g hg) s (i+1) rest d2
   refine⟨[⟨(40:UInt8).toNat,[40],0,i⟩]++c,?_,fun l=>?_,fun u hu jK=>?_,_,_,rfl,by show(40:UInt8).toNat≠41;decide⟩
   ·rw[el,show i+(1+(aU dV gs).length+1)=i+1+(aU dV gs).length+1 by omega]
    exact l1.append l2
   ·show dv (⟨(40:UInt8).toNat,[40],0,i⟩::(c++l))=_;unfold dv;have m0:(wd EMPTY (⟨(40:UInt8).toNat,[40],0,i⟩::(c++l))).1=false:=rfl;have m1:mk 40 (⟨(40:UInt8).toNat,[40],0,i⟩::(c++l))=(true,c++l):=rfl;rw[m0,m1];simp only[iC,jg,fJ];rw[p2 _ l [] (by simp only[cG,aT];omega)]
    simp
   ·rcases bT.1 hu with q|q
    ·rw[bI.1 q] at jK;exact absurd jK (by show(40:UInt8).toNat≠110;decide)
    ·exact n2 u q jK
 hd:=fun gs _=>by
  by_cases hg:gs.length=0
  ·exact⟨69,[77,80,84,89],ah hg,by decide⟩
  ·exact⟨40,aU dV gs++[41],aa hg,by decide⟩
theorem ajg:Rd (fun ps=>∀gs∈ps,∀g∈gs,oz g) qN iX where
 rd:=by
  intro gs hok s i rest h hs;by_cases hg:gs.length=0
  ·have e:qN gs=EMPTY:=ah hg;have e0:gs=[]:=fK.1 hg;rw[e] at h⊢;have l1:=Oi (by decide) IX.1 h hs
   refine⟨[⟨119,EMPTY,0,i⟩],l1,fun l=>?_,fun t ht hk=>?_,_,_,rfl,by show(119:Nat)≠41;decide⟩
   ·rw[e0];rfl
   ·rw[bI.1 ht] at hk;exact absurd hk (by show ¬(119:Nat)=110;decide)
  ·have e:qN gs=[40]++(aU dR gs++[41]):=aa hg;have h':=h;rw[e] at h';have e1:[40]++(aU dR gs++[41])++rest=(40:UInt8)::(aU dR gs++(41::rest)):=by simp
   rw[e1] at h';have l1:=zS (c:=40) (by simp) h'
   have d2:s.drop (i+1)=aU dR gs++(41::rest):=by rw[<-vM,h'];rfl
   have el:(qN gs).length=1+(aU dR gs).length+1:=by rw[e];simp;omega
   obtain⟨c,l2,p2,n2,m2,t,r,ec,hk⟩:=IW Yw gs (fun k=>hg (by rw[k];rfl)) (fun g hg=>hok g hg) s (i+1) rest d2
   refine⟨[⟨(40:UInt8).toNat,[40],0,i⟩]++c,?_,fun l=>?_,fun u hu jK=>?_,_,_,rfl,by show(40:UInt8).toNat≠41;decide⟩
   ·rw[el,show i+(1+(aU dR gs).length+1)=i+1+(aU dR gs).length+1 by omega]
    exact l1.append l2
   ·show iX (⟨(40:UInt8).toNat,[40],0,i⟩::(c++l))=_;unfold iX;have m0:(wd EMPTY (⟨(40:UInt8).toNat,[40],0,i⟩::(c++l))).1=false:=rfl;have m1:mk 40 (⟨(40:UInt8).toNat,[40],0,i⟩::(c++l))=(true,c++l):=rfl;rw[m0,m1];simp only[iC,jg,fJ];rw[p2 _ l [] (by simp only[cG,aT];omega)]
    simp
   ·rcases bT.1 hu with q|q
    ·rw[bI.1 q] at jK;exact absurd jK (by show(40:UInt8).toNat≠110;decide)
    ·exact n2 u q jK
 hd:=fun gs _=>by
  by_cases hg:gs.length=0
  ·exact⟨69,[77,80,84,89],ah hg,by decide⟩
  ·exact⟨40,aU dR gs++[41],aa hg,by decide⟩
theorem Yx{α:Type}{ok:α->Prop}{txt:α->List UInt8}{item:List Tk->Bool×List Tk×α}(hR:Rd ok txt item){q:List UInt8}(hq:q≠[])(hl:∀c∈q,isLet c=true){x:α}(hx:ok x):∃c e,all (q++([32]++txt x))=⟨119,q,0,0⟩::(c++[e])/\(∀l,item (c++l)=(true,l,x))/\(∀t∈c,t.k=110->gM t.n)/\e.k=101:=by
 have h0:(q++([32]++txt x)).drop 0=q++(32::(txt x++[])):=by simp
 have l1:=Oi hq hl h0 (Sep.of 32 _ (by simp))
 have d1:=IQ h0;rw[js] at l1 d1;have d2:(q++([32]++txt x)).drop (q.length+1)=txt x++[]:=by rw[<-vM,d1];rfl
 obtain⟨c,l2,p2,n2,t,r,ec,_⟩:=hR.rd x hx _ _ [] d2 Sep.nil;have Oj:=Lex.blank d1 (DZ (hR.hd x hx)) (by rw[ec];simp) l2
 have L:=l1.append Oj;have hlen:=(L.len (iq _)).1;have hend:(q++([32]++txt x)).length=q.length+1+(txt x).length:=by simp;omega
 have htk:tk (q++([32]++txt x)) (q.length+1+(txt x).length)=⟨101,[],0,q.length+1+(txt x).length⟩:=by
  rw[IU (l:=[]) (by rw[List.drop_eq_nil_iff];omega) (fun c r e=>by cases e)]
  rfl
 simp only[aT,cG,gU] at hlen;have ht:=L.iW ((q++([32]++txt x)).length+1-([(⟨119,q,0,0⟩:Tk)]++c).length);have hf:(q++([32]++txt x)).length+1-([(⟨119,q,0,0⟩:Tk)]++c).length+([(⟨119,q,0,0⟩:Tk)]++c).length=(q++([32]++txt x)).length+1:=by
  simp only[aT,cG,gU] at hend⊢;omega
 rw[hf] at ht;refine⟨c,⟨101,[],0,q.length+1+(txt x).length⟩,?_,p2,n2,rfl⟩;show Pl.iW _ _ 0=_;rw[ht];have:∀f,iW (q++([32]++txt x)) f (q.length+1+(txt x).length)=[⟨101,[],0,q.length+1+(txt x).length⟩]:=fun f=>by
  cases f with
  |zero=>rw[Pl.iW,htk]
  |succ f=>rw[Pl.iW,htk,ah (ae rfl)]
 rw[this];rfl
theorem ajh{c:List Tk}(h:∀t∈c,t.k=110->gM t.n):c.find? outT=none:=by
 rw[Zw];intro t ht;unfold outT mD;by_cases hk:t.k=110
 ·have:=h t ht hk;unfold gM at this;simp[hk,this]
 ·simp[hk]
theorem Yy{T:List UInt8}(hT:T.length<=400){t e:Tk}{c:List Tk}{ps:List (List (List (Int×Int)))}(ha:all T=t::(c++[e]))(hp:bO (all T)=(true,[e],ps))(he:e.k=101)(ht:t.k≠110)(hn:∀t∈c,t.k=110->gM t.n):err T=(0,0):=by
 unfold err;rw[aa (by omega),hp]
 rw[ah ⟨rfl,he⟩];have htk:took T=t::c:=by
  unfold took;rw[hp,ha];simp
 rw[htk,ajh];intro u hu hk;rcases aP.1 hu with q|q
 ·rw[q] at hk;exact absurd hk ht
 ·exact hn u q hk
theorem aji{gs:List (List (Int×Int))}(hok:∀g∈gs,oz g)(hl:(dQ++([32]++dR gs)).length<=400):
  err (dQ++([32]++dR gs))=(0,0)/\(bO (all (dQ++([32]++dR gs)))).2.2=[gs]/\(wd dQ (all (dQ++([32]++dR gs)))).1=true:=by
 obtain⟨c,e,h1,h2,h3,h4⟩:=Yx Yw (q:=dQ) (by decide) IX.2.1 hok
 have hw:wd dQ (all (dQ++([32]++dR gs)))=(true,c++[e]):=by rw[h1];rfl
 have hp:bO (all (dQ++([32]++dR gs)))=(true,[e],[gs]):=by
  unfold bO;rw[hw];simp only[fJ];rw[h2]
 exact⟨Yy hl h1 hp h4 (by decide) h3,by rw[hp],by rw[hw]⟩
theorem ajj{ps:List (List (List (Int×Int)))}(hok:∀gs∈ps,∀g∈gs,oz g)(hl:(uI ps).length<=400):
  err (uI ps)=(0,0)/\(bO (all (uI ps))).2.2=ps/\(wd dQ (all (uI ps))).1=false:=by
 rw[RO] at hl⊢;obtain⟨c,e,h1,h2,h3,h4⟩:=Yx ajg (q:=jk) (by decide) IX.2.2 hok
 have hw0:(wd dQ (all (jk++([32]++qN ps)))).1=false:=by rw[h1];rfl
 have hw:wd jk (all (jk++([32]++qN ps)))=(true,c++[e]):=by rw[h1];rfl
 have hp:bO (all (jk++([32]++qN ps)))=(true,[e],ps):=by
  unfold bO;rw[hw0,hw];simp only[iC,jg,fJ];rw[h2]
 exact⟨Yy hl h1 hp h4 (by decide) h3,by rw[hp],hw0⟩
end Pl
end Go.Proofs.YtkjhhooecopolaaGreatDoor
namespace Go.Proofs.YtkjhhooecopolaaGreatDoor
open Go.RowKit
theorem IY(n:Int)(w:World)(h1: -9223372036854775808<=n)(h2:n<=9223372036854775807):
  Calls Tryz.prog 19 #[.int .i64 n] w fun e w'=>e=.returned (.int .i64 n)/\w'=w:=by
 have hw:IntKind.i64.wrap n=n:=by rw[IntKind.wrap_i64];omega
 go_enter Tryz.func19,Tryz.ntmps19
 go_wp2_with fail
 go_ret
 exact⟨rfl,rfl⟩
theorem IZ(s:List UInt8):(Pl.err s).1<=3:=by
 unfold Pl.err;split
 ·decide
 ·split
  ·split
   ·exact ax 3
   ·exact iq 3
  ·show 2<=3;decide
theorem Ol(s:ByteArray)(w:World)(hm:s.size<=maxLen)(hG:Gl w):
  Calls Tryz.prog 20 #[.string s] w fun e w'=>e=.returned (.agg #[.string ⟨(Pl.iI s.data.toList).toArray⟩,.int .i64 (Pl.err s.data.toList).1,.int .i64 (Pl.err s.data.toList).2])/\Below w.heap.size w w':=by
 have HP:Hid (∀w1,Gl w1->Calls Tryz.prog 40 #[.string s] w1 fun e w'=>e=.returned (.tuple #[.string ⟨(Pl.iI s.data.toList).toArray⟩,.int .i64 (Pl.err s.data.toList).1,.int .i64 (Pl.err s.data.toList).2])/\Below w1.heap.size w1 w'):=fun w1 g1=>acr s w1 hm g1
 have he:=IZ s.data.toList;generalize(Pl.err s.data.toList).1=E at*;generalize(Pl.err s.data.toList).2=Pp at*;generalize Pl.iI s.data.toList=PT at*;have HN:Hid (∀w1,Calls Tryz.prog 19 #[.int .i64 (E:Int)] w1 fun e w'=>e=.returned (.int .i64 (E:Int))/\w'=w1):=fun w1=>IY E w1 (by omega) (by omega)
 clear he
 go_enter Tryz.func20,Tryz.ntmps20
 go_wp2_with fail
 have hb0:Below w.heap.size w (w.alloc (.cells #[.string ⟨#[]⟩,.int .i64 0,.int .i64 0] 38)):=(Below.refl _ _).alloc (ax _) _;refine(HP.out _ (hG.alloc _)).mono ?_;rintro e w1 ⟨rfl,hb1⟩;have fT:w1.heap[w.heap.size]?=some (.cells #[.string ⟨#[]⟩,.int .i64 0,.int .i64 0] 38):=(hb1.block _ (by simp)).trans (heap_alloc_new _ _)
 have c0:w1.cell? ⟨w.heap.size,0,none⟩=some (.string ⟨#[]⟩):=cell_of fT 0;have c1:w1.cell? ⟨w.heap.size,1,none⟩=some (.int .i64 0):=cell_of fT 1;have c2:w1.cell? ⟨w.heap.size,2,none⟩=some (.int .i64 0):=cell_of fT 2;have z0:w1.frozen? ⟨w.heap.size,0,none⟩=false:=aX fT 0;have z1:w1.frozen? ⟨w.heap.size,1,none⟩=false:=aX fT 1;have z2:w1.frozen? ⟨w.heap.size,2,none⟩=false:=aX fT 2;have aj:=hb0.trans (hb1.mono hb0.size);clear fT
 go_wp2_with fail
 refine(HN.out _).mono ?_;rintro e w2 ⟨rfl,rfl⟩
 go_wp2_with fail
 refine bodyPost_ret (v:=.agg #[.string ⟨PT.toArray⟩,.int .i64 E,.int .i64 Pp]) (by simp[results,Tryz.results20,go_sem,c0,c1,c2]) rfl ⟨rfl,?_⟩
 exact((aj.setCell (ax _) _).setCell (ax _) _).setCell (ax _) _
def nW(s:List UInt8)(r:Int)(T:List UInt8)(E P:Nat):Prop:=
 ((Pl.err s).1≠0/\T=[]/\E=(Pl.err s).1/\P=(Pl.err s).2)\/((Pl.err s).1=0/\Ge.rule r=false/\T=[]/\E=4/\P=0)\/((Pl.err s).1=0/\Ge.rule r=true/\mV (Pl.rings s) r T/\E=0/\P=0)
theorem ajk(s:ByteArray)(r:Int)(w:World)(hm:s.size<=maxLen)(hG:Gl w):
  Calls Tryz.prog 39 #[.string s,.int .u8 r] w fun e w'=>(∃T E P,e=.returned (.tuple #[.string (ba T),.int .i64 (E:Nat),.int .i64 (P:Nat)])/\nW s.data.toList r T E P)/\Below w.heap.size w w':=by
 by_cases h0:(Pl.err s.data.toList).1=0
 ·cases hr:Ge.rule r
  ·refine(ai3 s r w hm hG h0 hr).mono ?_;rintro e w' ⟨rfl,hb⟩;exact⟨⟨[],4,0,rfl,af (ae ⟨h0,hr,rfl,rfl,rfl⟩)⟩,hb⟩
  ·refine(ai4 s r w hm hG h0 hr).mono ?_;rintro e w' ⟨⟨T,rfl,hT⟩,hb⟩;exact⟨⟨T,0,0,rfl,af (af ⟨h0,hr,hT,rfl,rfl⟩)⟩,hb⟩
 ·refine(ai2 s r w hm hG h0).mono ?_;rintro e w' ⟨rfl,hb⟩;exact⟨⟨[],_,_,rfl,ae ⟨h0,rfl,rfl,rfl⟩⟩,hb⟩
theorem nW.small{s:List UInt8}{r:Int}{T:List UInt8}{E P:Nat}(h:nW s r T E P):E<=4:=by
 have:=IZ s;rcases h with⟨_,_,h,_⟩|⟨_,_,_,h,_⟩|⟨_,_,_,h,_⟩<;>omega
theorem nW.eq{s s':List UInt8}{r:Int}{T T':List UInt8}{E E' P P':Nat}(h:nW s r T E P)(h':nW s' r T' E' P')(he:Pl.err s=Pl.err s')(hr:(Pl.err s).1=0->Pl.rings s=Pl.rings s'):T=T'/\E=E'/\P=P':=by
 rcases h with⟨a1,a2,a3,a4⟩|⟨a1,a2,a3,a4,a5⟩|⟨a1,a2,a3,a4,a5⟩<;>rcases h' with⟨b1,b2,b3,b4⟩|⟨b1,b2,b3,b4,b5⟩|⟨b1,b2,b3,b4,b5⟩
 ·rw[a2,a3,a4,b2,b3,b4,he];exact⟨rfl,rfl,rfl⟩
 ·rw[he] at a1;exact absurd b1 a1
 ·rw[he] at a1;exact absurd b1 a1
 ·rw[he] at a1;exact absurd a1 b1
 ·rw[a3,a4,a5,b3,b4,b5];exact⟨rfl,rfl,rfl⟩
 ·rw[a2] at b2;cases b2
 ·rw[he] at a1;exact absurd a1 b1
 ·rw[a2] at b2;cases b2
 ·rw[<-hr a1] at b3;exact⟨Gb.mV.det (F7 a1).2.2.1 a3 b3,by omega,by omega⟩
theorem Om(s:ByteArray)(r:Int)(w:World)(hm:s.size<=maxLen)(hG:Gl w):
  Calls Tryz.prog 18 #[.string s,.int .u8 r] w fun e w'=>(∃T E P,e=.returned (.agg #[.string (ba T),.int .i64 (E:Nat),.int .i64 (P:Nat)])/\nW s.data.toList r T E P)/\Below w.heap.size w w':=by
 have HP:Hid (∀w1,Gl w1->Calls Tryz.prog 39 #[.string s,.int .u8 r] w1 fun e w'=>(∃T E P,e=.returned (.tuple #[.string (ba T),.int .i64 (E:Nat),.int .i64 (P:Nat)])/\Hid (nW s.data.toList r T E P))/\Below w1.heap.size w1 w'):=fun w1 g1=>ajk s r w1 hm g1
 have HE:Hid (∀T E P,nW s.data.toList r T E P->E<=4):=fun T E P h=>h.small
 go_enter Tryz.func18,Tryz.ntmps18
 go_wp2_with fail
 have hb0:Below w.heap.size w (w.alloc (.cells #[.string ⟨#[]⟩,.int .i64 0,.int .i64 0] 38)):=(Below.refl _ _).alloc (ax _) _;refine(HP.out _ (hG.alloc _)).mono ?_;rintro e w1 ⟨⟨T,E,Pp,rfl,HF⟩,hb1⟩;have he:=HE.out T E Pp HF.out;have HN:Hid (∀w1,Calls Tryz.prog 19 #[.int .i64 (E:Int)] w1 fun e w'=>e=.returned (.int .i64 (E:Int))/\w'=w1):=fun w1=>IY E w1 (by omega) (by omega)
 have fT:w1.heap[w.heap.size]?=some (.cells #[.string ⟨#[]⟩,.int .i64 0,.int .i64 0] 38):=(hb1.block _ (by simp)).trans (heap_alloc_new _ _)
 have c0:w1.cell? ⟨w.heap.size,0,none⟩=some (.string ⟨#[]⟩):=cell_of fT 0;have c1:w1.cell? ⟨w.heap.size,1,none⟩=some (.int .i64 0):=cell_of fT 1;have c2:w1.cell? ⟨w.heap.size,2,none⟩=some (.int .i64 0):=cell_of fT 2;have z0:w1.frozen? ⟨w.heap.size,0,none⟩=false:=aX fT 0;have z1:w1.frozen? ⟨w.heap.size,1,none⟩=false:=aX fT 1;have z2:w1.frozen? ⟨w.heap.size,2,none⟩=false:=aX fT 2;have aj:=hb0.trans (hb1.mono hb0.size);clear fT he HE HP;generalize sP:ba T=TT
 go_wp2_with fail
 refine(HN.out _).mono ?_;rintro e w2 ⟨rfl,rfl⟩
 go_wp2_with fail
 refine bodyPost_ret (v:=.agg #[.string TT,.int .i64 E,.int .i64 Pp]) (by simp[results,Tryz.results18,go_sem,c0,c1,c2]) rfl ⟨⟨T,E,Pp,by rw[sP],HF.out⟩,?_⟩
 exact((aj.setCell (ax _) _).setCell (ax _) _).setCell (ax _) _
theorem Pl.Yz{s:List UInt8}(h:(Pl.err s).1=0)(hl:(Pl.iI s).length<=400):Pl.err (Pl.iI s)=(0,0)/\Pl.rings (Pl.iI s)=Pl.rings s/\Pl.iI (Pl.iI s)=Pl.iI s:=by
 have e:Pl.iI s=Pl.wt (Pl.took s):=by unfold Pl.iI;rw[ah h]
 cases hw:(Pl.wd Pl.dQ (Pl.all s)).1
 ·obtain⟨_,h2,h3⟩:=Pl.KV h hw;rw[e,h3] at hl⊢;obtain⟨k1,k2,k3⟩:=Pl.ajj (fun gs hg g hgg=>((h2.2 gs hg).2 g hgg).1) hl
  have k0:(Pl.err (Pl.uI (Pl.bO (Pl.all s)).2.2)).1=0:=by rw[k1]
  refine⟨k1,by unfold Pl.rings;rw[k2],?_⟩
  obtain⟨_,_,m3⟩:=Pl.KV k0 k3;unfold Pl.iI;rw[ah k0,m3,k2]
 ·obtain⟨gs,h1,h2,h3⟩:=Pl.FZ h hw;rw[e,h3] at hl⊢;obtain⟨k1,k2,k3⟩:=Pl.aji (fun g hg=>(h2.2 g hg).1) hl
  have k0:(Pl.err (Pl.dQ++([32]++Pl.dR gs))).1=0:=by rw[k1]
  refine⟨k1,by unfold Pl.rings;rw[k2,h1],?_⟩
  obtain⟨gs',m1,_,m3⟩:=Pl.FZ k0 k3;have m4:gs=gs':=(List.cons.inj (k2.symm.trans m1)).1;unfold Pl.iI;rw[ah k0,m3,m4]
namespace Gb
open Ge Ga
def I0(es:List (Pt×Pt))(l:List Nd):List (Nd×Nd):=es.flatMap fun e=>nexts (held e l)
def I1(es:List (Pt×Pt))(l:List Nd)(r:Int):List (Nd×Nd):=
 ((I0 es l).filter fun p=>takes r (LL es p.1 p.2)&& !takes r (RR es p.1 p.2))++(((I0 es l).filter fun p=>takes r (RR es p.1 p.2)&& !takes r (LL es p.1 p.2)).map fun p=>(p.2,p.1))
theorem YA{es:List (Pt×Pt)}{l:List Nd}{r:Int}{a b:Nd}:Sd es l (takes r) a b↔(a,b)∈I1 es l r:=by
 have hp:∀f t,di es l f t↔(f,t)∈I0 es l:=fun f t=>by unfold di I0;rw[qf]
 unfold Sd I1;rw[bT,ik,bp,hp,hp];constructor
 ·rintro(⟨h1,h2,h3⟩|⟨h1,h2,h3⟩)
  ·exact ae ⟨h1,by simp[h2,h3]⟩
  ·exact af ⟨(b,a),ik.2 ⟨h1,by simp[h2,h3]⟩,rfl⟩
 ·rintro(⟨h1,h2⟩|⟨q,hq,e⟩)
  ·simp at h2;exact ae ⟨h1,h2.1,h2.2⟩
  ·obtain⟨q1,q2⟩:=q;injection e with e1 e2;subst e1 e2;obtain⟨h1,h2⟩:=ik.1 hq;simp at h2;exact af ⟨h1,h2.1,h2.2⟩
def Oo(p:Nd×Nd):PB:=⟨floatOfInt .f64 (p.2.1-p.1.1),floatOfInt .f64 (p.2.2.1-p.1.2.1),floatOfInt .f64 ((p.2.1-p.1.1)*p.1.2.1-(p.2.2.1-p.1.2.1)*p.1.1),p.1,p.2⟩
def eJ:List (List Pt):=[[(0,0),(4,4),(0,4),(4,0)]]
def l0:List Nd:=[(0,0,1),(0,4,1),(2,2,1),(4,0,1),(4,4,1)]
def L0:List (Nd×Nd):=[((0,0,1),(4,0,1)),((0,4,1),(2,2,1)),((2,2,1),(0,0,1)),((2,2,1),(4,4,1)),((4,0,1),(2,2,1)),((4,4,1),(0,4,1))]
theorem YB:l0.map au=eO (ag eJ):=by decide+kernel
theorem YC:(∀p∈L0,p∈I1 (ag eJ) l0 101)/\(∀p∈I1 (ag eJ) l0 101,p∈L0):=by decide+kernel
def X0:List PB:=L0.map Oo
theorem Oq{x:PB}(h:x∈X0):∃p∈L0,x=Oo p:=by
 obtain⟨p,hp,rfl⟩:=bp.1 h;exact⟨p,hp,rfl⟩
theorem YD:∀p∈L0,(p.1.2.2=1/\p.2.2.2=1)/\(p.1.1.natAbs<=4/\p.1.2.1.natAbs<=4/\p.2.1.natAbs<=4/\p.2.2.1.natAbs<=4)/\0<(p.2.1-p.1.1)*(p.2.1-p.1.1)+(p.2.2.1-p.1.2.1)*(p.2.2.1-p.1.2.1)/\((p.2.1-p.1.1)*p.1.2.1-(p.2.2.1-p.1.2.1)*p.1.1).natAbs<=100:=by decide+kernel
theorem D3{n:Nd}(h:n.2.2=1):Ge.Can n:=by
 obtain⟨a,b,c⟩:=n;have:c=1:=h;subst this;exact LH (a,b)
theorem bd0:BD X0:=by
 refine⟨fun x hx=>?_,fun x hx=>?_,by decide+kernel,by decide⟩
 ·obtain⟨p,hp,rfl⟩:=Oq hx;obtain⟨⟨h1,h2⟩,⟨h3,h4,h5,h6⟩,_⟩:=YD p hp;refine⟨⟨by show p.1.1.natAbs<=_;omega,by show p.1.2.1.natAbs<=_;omega,by show 0<p.1.2.2/\p.1.2.2<=_;omega⟩,⟨by show p.2.1.natAbs<=_;omega,by show p.2.2.1.natAbs<=_;omega,by show 0<p.2.2.2/\p.2.2.2<=_;omega⟩,D3 h1,D3 h2⟩
 ·obtain⟨p,hp,rfl⟩:=Oq hx;obtain⟨⟨h1,h2⟩,⟨h3,h4,h5,h6⟩,h7,h8⟩:=YD p hp;refine⟨(p.2.1-p.1.1,p.2.2.1-p.1.2.1,(p.2.1-p.1.1)*p.1.2.1-(p.2.2.1-p.1.2.1)*p.1.1),⟨lN (by omega),lN (by omega),lN (by show((p.2.1-p.1.1)*p.1.2.1-(p.2.2.1-p.1.2.1)*p.1.1).natAbs<_;omega)⟩,by show(p.2.1-p.1.1).natAbs<=100;omega,by show(p.2.2.1-p.1.2.1).natAbs<=100;omega,by show((p.2.1-p.1.1)*p.1.2.1-(p.2.2.1-p.1.2.1)*p.1.1).natAbs<=10000;omega,?_,?_,?_,?_⟩
  ·show(p.2.1-p.1.1)*(p.2.2.1*p.1.2.2-p.1.2.1*p.2.2.2)=(p.2.2.1-p.1.2.1)*(p.2.1*p.1.2.2-p.1.1*p.2.2.2);rw[h1,h2];grind
  ·show 0<(p.2.1-p.1.1)*(p.2.1*p.1.2.2-p.1.1*p.2.2.2)+(p.2.2.1-p.1.2.1)*(p.2.2.1*p.1.2.2-p.1.2.1*p.2.2.2);rw[h1,h2];simpa using h7
  ·show(p.2.1-p.1.1)*p.1.2.1-(p.2.2.1-p.1.2.1)*p.1.1=((p.2.1-p.1.1)*p.1.2.1-(p.2.2.1-p.1.2.1)*p.1.1)*p.1.2.2;rw[h1];simp
  ·show(p.2.1-p.1.1)*p.2.2.1-(p.2.2.1-p.1.2.1)*p.2.1=((p.2.1-p.1.1)*p.1.2.1-(p.2.2.1-p.1.2.1)*p.1.1)*p.2.2.2;rw[h2];grind
theorem YE:∀n∈l0,n.2.2=1:=by decide
theorem ajm:∀i,i<6->∀j,j<6->(xi X0 i).f=(xi X0 j).f->(xi X0 i).t=(xi X0 j).t->i=j:=by decide+kernel
theorem sx0:SX eJ l0 101 X0:=by
 refine⟨⟨YB,fun n hn=>D3 (YE n hn),fun e he=>Fb he⟩,fun x hx=>?_,fun a b h=>?_,fun i j hi hj=>ajm i hi j hj⟩
 ·obtain⟨p,hp,rfl⟩:=Oq hx;exact YA.2 (YC.1 p hp)
 ·exact⟨Oo (a,b),bp.2 ⟨(a,b),YC.2 _ (YA.1 h),rfl⟩,rfl,rfl⟩
theorem ps0:(aL X0 X0.length).ps=[([0,4,2],[]),([1,3,5],[])]:=by decide+kernel
theorem YF:Go.Proofs.YtkjhhooecopolaaGreatDoor.fr X0 [0,4,2]=[(0,0,1),(4,0,1),(2,2,1)]/\Go.Proofs.YtkjhhooecopolaaGreatDoor.fr X0 [1,3,5]=[(0,4,1),(2,2,1),(4,4,1)]:=by decide+kernel
theorem ajp:∀e∈ag eJ,dU e:=by
 have:∀e∈ag eJ,(e.1.1.natAbs<=4/\e.1.2.natAbs<=4)/\e.2.1.natAbs<=4/\e.2.2.natAbs<=4:=by decide+kernel
 intro e he;obtain⟨⟨h1,h2⟩,h3,h4⟩:=this e he;exact⟨⟨by omega,by omega⟩,⟨by omega,by omega⟩,⟨by omega,by omega⟩,⟨by omega,by omega⟩⟩
end Gb
namespace Gb
open Ge Ga
def P0:List Pg:=[([0,4,2],[]),([1,3,5],[])]
theorem ajq:∀p∈P0,∀n∈Go.Proofs.YtkjhhooecopolaaGreatDoor.fr X0 p.1,n.2.2=1:=by decide+kernel
theorem ajr:mU X0 ([0,4,2],[]) ([1,3,5],[])<0:=by decide+kernel
theorem ajs:iT (mU X0) P0=P0:=by
 obtain⟨s1,s2⟩:=Oa (mU X0) P0 (xD (fun i:Fin P0.length=>Go.Proofs.YtkjhhooecopolaaGreatDoor.fr X0 P0[i].1) fun i a ha=>D3 (ajq _ (gF _) a ha))
 generalize iT (mU X0) P0=Z at s1 s2⊢;have hl:=s1.length_eq;have hn:Z.Nodup:=s1.nodup_iff.2 (by decide)
 match Z,hl,hn,s1,s2 with
 |[x,y],_,hn,s1,s2=>
  have hx:x=([0,4,2],[])\/x=([1,3,5],[]):=by
   have:x∈P0:=s1.mem_iff.1 (by simp)
   simpa[P0] using this
  have hy:y=([0,4,2],[])\/y=([1,3,5],[]):=by
   have:y∈P0:=s1.mem_iff.1 (by simp)
   simpa[P0] using this
  rcases hx with rfl|rfl<;>rcases hy with rfl|rfl
  ·simp at hn
  ·rfl
  ·have:=(fE.1 s2).1 _ (by simp:(([0,4,2],[]):Pg)∈[([0,4,2],[])])
   exact absurd ajr this
  ·simp at hn
theorem ajt:fin X0=[([(0,0,1),(4,0,1),(2,2,1)],[]),([(0,4,1),(2,2,1),(4,4,1)],[])]:=by
 have hm:(aL X0 X0.length).ps.map (fI X0)=P0:=by
  rw[ps0];simp[fI,iT,P0]
 unfold fin rL;rw[hm,ajs];simp[P0,Yi,YF.1,YF.2]
theorem YG:Lib.itoa 0=[48]:=by simp[Lib.itoa,Lib.decDigits]
theorem it2:Lib.itoa 2=[50]:=by simp[Lib.itoa,Lib.decDigits]
theorem YH:Lib.itoa 4=[52]:=by simp[Lib.itoa,Lib.decDigits]
theorem nq(a b:Int)(h:a=0\/a=2\/a=4)(k:b=0\/b=2\/b=4):au (a,b,1)=((a,1),(b,1)):=by
 rcases h with rfl|rfl|rfl<;>rcases k with rfl|rfl|rfl<;>decide+kernel
def T0:List UInt8:=[77,85,76,84,73,80,79,76,89,71,79,78,32,40,40,40,48,32,48,44,32,52,32,48,44,32,50,32,50,44,32,48,32,48,41,41,44,32,40,40,48,32,52,44,32,50,32,50,44,32,52,32,52,44,32,48,32,52,41,41,41]
theorem text0:tV X0=T0:=by
 rw[N6,ajt];simp[N5,zP,xE,DV,Pl.aU,Pl.dE,Pl.oC,nq,YG,it2,YH,DR,Lib.join,T0]
theorem ajv{T:List UInt8}(h:mV eJ 101 T):T=T0:=by
 obtain⟨Ps,l,h1,h2,h3,h4,rfl⟩:=h;have e:l=l0:=Od h2 (fun n hn=>D3 (YE n hn)) (h1.trans YB.symm)
 subst e;rw[<-text0];exact Yn (Hv h1 h2 h3) (Iz h1 ajp h3 h4) sx0 bd0 (fun _ _=>zW)
end Gb
def S0:List UInt8:=[80,79,76,89,71,79,78,32,40,40,48,32,48,44,32,52,32,52,44,32,48,32,52,44,32,52,32,48,41,41]
def S1:List UInt8:=[80,79,76,89,71,79,78,40,40,48,32,48,44,48,52,32,45,48,44,48,32,52,41,41]
def T1:List UInt8:=[80,79,76,89,71,79,78,32,40,40,48,32,48,44,32,52,32,48,44,32,48,32,52,41,41]
theorem ajw:Pl.err S0=(0,0):=by decide+kernel
theorem Ot:Pl.err S1=(0,0):=by decide+kernel
theorem ajx:Pl.rings S0=Gb.eJ:=by decide+kernel
theorem YI:(Pl.wd Pl.dQ (Pl.all S1)).1=true/\(Pl.bO (Pl.all S1)).2.2=[[[(0,0),(4,0),(0,4)]]]:=by decide+kernel
theorem ajy:Pl.iI S1=T1:=by
 obtain⟨gs,h1,_,h3⟩:=Pl.FZ (by rw[Ot]) YI.1
 unfold Pl.iI;rw[ah (by rw[Ot]),h3]
 have e:gs=[[(0,0),(4,0),(0,4)]]:=(List.cons.inj (h1.symm.trans YI.2)).1;subst e;simp[Pl.dR,Pl.dV,Pl.aU,Pl.jO,Gb.YG,Gb.YH,Pl.dQ,T1]
def ajz(w:World)(b o:Nat)(K x y d r:Int)(s:ByteArray):Prop:=
 w.cell? ⟨b,o,none⟩=some (.int .i64 K)/\w.cell? ⟨b,o+1,none⟩=some (.int .i64 x)/\w.cell? ⟨b,o+2,none⟩=some (.int .i64 y)/\w.cell? ⟨b,o+3,none⟩=some (.int .i64 d)/\
  w.cell? ⟨b,o+4,none⟩=some (.int .u8 r)/\w.cell? ⟨b,o+5,none⟩=some (.string s)
def Ou(w:World)(so:Option Addr)(n:Nat):Prop:=
 ∀k,k<n->∃b o K x y d r s,so=some ⟨b,o,none⟩/\b<w.heap.size/\s.size<=maxLen/\ajz w b (o+k*6) K x y d r s
theorem D4{w w':World}(h:Gl w)(hb:Below w.heap.size w w'):Gl w':=h.below hb h.sz
structure Nx(w W w':World)(o:Obj)(W':World)(X:Nat):Prop where
 eq:W'=w'.alloc o
 gl:Gl W'
 jI:Below w.heap.size w W'
 nw:W'.heap[X]?=some o
 old:∀(k:Nat)(ob:Obj),W.heap[k]?=some ob->W'.heap[k]?=some ob
theorem I2{w W w':World}(o:Obj)(hG:Gl W)(hB:Below w.heap.size w W)(hb:Below W.heap.size W w'):Nx w W w' o (w'.alloc o) w'.heap.size:=by
 have h:=hB.trans (hb.mono hB.size);refine⟨rfl,(D4 hG hb).alloc _,h.alloc h.size _,heap_alloc_new _ _,fun k ob hk=>?_⟩
 have hl:=lt_of_heap hk;rw[Below.heap_alloc _ _ _ (aZ hl hb.size),hb.block k hl];exact hk
theorem ajA{T:List UInt8}{E P:Nat}(h:nW S0 101 T E P):T=Gb.T0/\E=0/\P=0:=by
 rcases h with⟨a1,_⟩|⟨_,a2,_⟩|⟨_,_,a3,a4,a5⟩
 ·rw[ajw] at a1;exact absurd rfl a1
 ·exact absurd a2 (by decide)
 ·rw[ajx] at a3;exact⟨Gb.ajv a3,a4,a5⟩
theorem YJ(w:World)(hG:Gl w):
  Calls Tryz.prog 22 #[] w fun e w'=>e=.returned (.bool true)/\Below w.heap.size w w':=by
 have HP:Hid (∀w1,Gl w1->Calls Tryz.prog 20 #[.string (ba S1)] w1 fun e w'=>e=.returned (.agg #[.string (ba T1),.int .i64 0,.int .i64 0])/\Below w1.heap.size w1 w'):=fun w1 g1=>by
  refine(Ol (ba S1) w1 (by unfold maxLen;decide) g1).mono ?_
  rintro e w' ⟨rfl,hb⟩;refine⟨?_,hb⟩;have e1:(ba S1).data.toList=S1:=rfl;rw[e1,Ot,ajy];rfl
 have HF:Hid (∀w1,Gl w1->Calls Tryz.prog 18 #[.string (ba S0),.int .u8 101] w1 fun e w'=>e=.returned (.agg #[.string (ba Gb.T0),.int .i64 0,.int .i64 0])/\Below w1.heap.size w1 w'):=fun w1 g1=>by
  refine(Om (ba S0) 101 w1 (by unfold maxLen;decide) g1).mono ?_
  rintro e w' ⟨⟨T,E,P,rfl,h⟩,hb⟩;obtain⟨rfl,rfl,rfl⟩:=ajA h;exact⟨rfl,hb⟩
 go_enter Tryz.func22,Tryz.ntmps22
 go_wp2_with fail
 refine(HP.out _ hG).mono ?_;rintro e w1 ⟨rfl,hb1⟩;have g1:Gl w1:=D4 hG hb1;generalize nK:ba T1=B1;have n1:=I2 (.cells #[.string B1,.int .i64 0,.int .i64 0] 38) hG (Below.refl _ _) hb1
 go_wp2_with fail
 generalize w1.alloc (.cells #[.string B1,.int .i64 0,.int .i64 0] 38)=W1 at*;generalize w1.heap.size=X1 at*;have ou:=n1.gl;have D5:=n1.nw;have hBa:=n1.jI;clear n1 hb1 g1;refine(HF.out _ ou).mono ?_;rintro e w2 ⟨rfl,hb2⟩;generalize L6:ba Gb.T0=B2;have n2:=I2 (.cells #[.string B2,.int .i64 0,.int .i64 0] 38) ou hBa hb2;have I3:=n2.old _ _ D5;have vt:=n2.nw;have hBb:=n2.jI;have a0:(w2.alloc (.cells #[.string B2,.int .i64 0,.int .i64 0] 38)).cell? ⟨X1,0,none⟩=some (.string B1):=cell_of I3 0;have a1:(w2.alloc (.cells #[.string B2,.int .i64 0,.int .i64 0] 38)).cell? ⟨X1,1,none⟩=some (.int .i64 0):=cell_of I3 1;have a2:(w2.alloc (.cells #[.string B2,.int .i64 0,.int .i64 0] 38)).cell? ⟨X1,2,none⟩=some (.int .i64 0):=cell_of I3 2;have b0:(w2.alloc (.cells #[.string B2,.int .i64 0,.int .i64 0] 38)).cell? ⟨w2.heap.size,0,none⟩=some (.string B2):=cell_of vt 0;have b1:(w2.alloc (.cells #[.string B2,.int .i64 0,.int .i64 0] 38)).cell? ⟨w2.heap.size,1,none⟩=some (.int .i64 0):=cell_of vt 1;have b2:(w2.alloc (.cells #[.string B2,.int .i64 0,.int .i64 0] 38)).cell? ⟨w2.heap.size,2,none⟩=some (.int .i64 0):=cell_of vt 2;clear n2 D5 I3 vt ou hb2 hBa
 go_wp2_with fail
 ·go_ret
  exact⟨rfl,hBb⟩
 ·rename_i h
  refine absurd ?_ h;rw[<-L6];exact ByteArray.toList_mk _
 ·rename_i h
  refine absurd ?_ h;rw[<-nK];exact ByteArray.toList_mk _
end Go.Proofs.YtkjhhooecopolaaGreatDoor
