import Derived.Test.YtkjhhooecopolaaGreatDoorMz44
set_option maxRecDepth 100000
set_option maxHeartbeats 4000000
namespace Go.Proofs.YtkjhhooecopolaaGreatDoor
namespace Pl
theorem J8(u:Nat):∀c∈Lib.decDigits u,aM c=true:=by
 induction u using Nat.strongRecOn with
 |_ u ih=>
  intro c hc;rw[Lib.decDigits] at hc;have one:∀d,d<10->aM (UInt8.ofNat (48+d))=true:=fun d hd=>by
   unfold aM;have:(UInt8.ofNat (48+d)).toNat=48+d:=by rw[UInt8.toNat_ofNat'];exact ab4 (by omega)
   rw[this];simp;omega
  by_cases h:u<10
  ·rw[dif_pos h] at hc;rw[bJ.1 hc];exact one u h
  ·rw[dif_neg h] at hc;rcases bW.1 hc with q|q
   ·exact ih (u/10) (by omega) c q
   ·rw[bJ.1 q];exact one _ (by omega)
theorem aaQ(u:Nat):dD (Lib.decDigits u)=u:=by
 induction u using Nat.strongRecOn with
 |_ u ih=>
  rw[Lib.decDigits];have one:∀d,d<10->(UInt8.ofNat (48+d)).toNat-48=d:=fun d hd=>by
   rw[UInt8.toNat_ofNat',ab4 (by omega)];omega
  by_cases h:u<10
  ·rw[dif_pos h];show 10*0+((UInt8.ofNat (48+u)).toNat-48)=u;rw[one u h];omega
  ·rw[dif_neg h,G9,ih (u/10) (by omega),one _ (by omega)]
   omega
theorem Qi(u:Nat):Lib.decDigits u≠[]:=by
 rw[Lib.decDigits];by_cases h:u<10
 ·rw[dif_pos h];simp
 ·rw[dif_neg h];simp
theorem Qj:∀(k u:Nat),u<10 ^ (k+1)->(Lib.decDigits u).length<=k+1
 |0,u,h=>by
  rw[Lib.decDigits,dif_pos (by simpa using h)];simp
 |k+1,u,h=>by
  rw[Lib.decDigits];by_cases h1:u<10
  ·rw[dif_pos h1];simp
  ·rw[dif_neg h1,aS];have:=Qj k (u/10) (by rw[ab2] at h;omega)
   simp;omega
theorem J9{p:UInt8->Bool}:∀{A rest:List UInt8},(∀c∈A,p c=true)->(∀c r,rest=c::r->p c=false)->(A++rest).takeWhile p=A
 |[],rest,_,h=>by
  cases rest with
  |nil=>rfl
  |cons c r=>rw[vA,xj,h c r rfl];rfl
 |a::A,rest,hA,h=>by
  rw[lN,xj,hA a (by simp)]
  simp only[if_true];rw[J9 (fun c hc=>hA c (bn _ hc)) h]
def Sep(rest:List UInt8):Prop:=∀c r,rest=c::r->c=32\/c=40\/c=41\/c=44\/c=47
theorem Sep.dig{rest:List UInt8}(h:Sep rest):∀c r,rest=c::r->aM c=false:=fun c r e=>by
 rcases h c r e with q|q|q|q|q<;>rw[q]<;>decide
theorem Sep.let{rest:List UInt8}(h:Sep rest):∀c r,rest=c::r->isLet c=false:=fun c r e=>by
 rcases h c r e with q|q|q|q|q<;>rw[q]<;>decide
theorem Sep.of(c:UInt8)(r:List UInt8)(h:c=32\/c=40\/c=41\/c=44\/c=47):Sep (c::r):=fun d r' e=>by
 injection e with e1 _;rw[<-e1];exact h
theorem Sep.nil:Sep []:=fun c r e=>by cases e
theorem amd{n:Int}(h1: -1000000000<n)(h2:n<1000000000){rest:List UInt8}(hs:Sep rest)(i:Nat):bX (Lib.itoa n++rest) i=⟨110,Lib.itoa n,n,i⟩:=by
 unfold Lib.itoa;by_cases hn:n<0
 ·rw[if_pos hn];have e:=J9 (rest:=rest) (J8 n.natAbs) hs.dig;have hl:=Qj 8 n.natAbs (by omega)
  have hv:=aaQ n.natAbs;have hne:=Qi n.natAbs;show bX ((45:UInt8)::(Lib.decDigits n.natAbs++rest)) i=_;unfold bX;simp only;rw[e];rw[if_neg (by decide),if_neg (by decide),if_pos (by decide),if_neg (by intro k;rcases k with k|k;exact hne k;omega),hv]
  congr 1;omega
 ·rw[if_neg hn];have e:=J9 (rest:=rest) (J8 n.toNat) hs.dig;have hl:=Qj 8 n.toNat (by omega)
  have hv:=aaQ n.toNat;have hd:=J8 n.toNat;have hne:=Qi n.toNat;cases hD:Lib.decDigits n.toNat with
  |nil=>exact absurd hD hne
  |cons c r=>
   rw[hD] at e hl hv hd;have hc:=of_decide_eq_true (hd c (by simp))
   rw[lN] at e⊢;unfold bX;simp only;rw[e];have hnl:¬isLet c=true:=fun k=>by have:=of_decide_eq_true k;omega
   rw[if_neg (by omega),if_neg hnl,if_neg (by omega),if_neg (by intro k;rcases k with k|k;exact absurd k (by simp);omega),hv]
   congr 1;omega
theorem ame{q:List UInt8}(hq:q≠[])(hl:∀c∈q,isLet c=true){rest:List UInt8}(hs:Sep rest)(i:Nat):bX (q++rest) i=⟨119,q,0,i⟩:=by
 have e:=J9 (rest:=rest) hl hs.let;cases q with
 |nil=>exact absurd rfl hq
 |cons c r=>
  have hc:=hl c (by simp)
  have hc':=of_decide_eq_true hc;rw[lN] at e⊢;unfold bX;simp only;rw[e,if_neg (by omega),if_pos hc]
theorem amf{c:UInt8}(h:c=40\/c=41\/c=44\/c=47)(rest:List UInt8)(i:Nat):bX (c::rest) i=⟨c.toNat,[c],0,i⟩:=by
 unfold bX;simp only;rw[if_pos];rcases h with q|q|q|q<;>rw[q]<;>decide
def Lex(s:List UInt8):Nat->List Tk->Nat->Prop
 |i,[],j=>i=j
 |i,t::c,j=>tk s i=t/\¬(t.k=101\/t.k=120)/\Lex s (t.pl+t.raw.length) c j
theorem Lex.append{s:List UInt8}:∀{c:List Tk}{i j k:Nat}{d:List Tk},Lex s i c j->Lex s j d k->Lex s i (c++d) k
 |[],_,_,_,_,h,h2=>by
  have:_=_:=h;subst this;exact h2
 |_::_,_,_,_,_,h,h2=>⟨h.1,h.2.1,Lex.append h.2.2 h2⟩
theorem Lex.gP{s:List UInt8}:∀{c:List Tk}{i j:Nat}(f:Nat),Lex s i c j->gP s (f+c.length) i=c++gP s f j
 |[],_,_,_,h=>by
  have:_=_:=h;subst this;rfl
 |t::c,i,j,f,h=>by
  have ih:=Lex.gP f h.2.2;show Pl.gP s ((f+c.length)+1) i=_;have hk:¬((tk s i).k=101\/(tk s i).k=120):=by rw[h.1];exact h.2.1
  rw[Pl.gP,if_neg hk,h.1,ih];rfl
theorem Lex.len{s:List UInt8}:∀{c:List Tk}{i j:Nat},i<=s.length->Lex s i c j->i+c.length<=j/\j<=s.length
 |[],_,_,hi,h=>by
  have:_=_:=h;subst this;exact⟨ae _,hi⟩
 |t::c,i,j,hi,h=>by
  have hn:=Cz s i hi;rw[h.1] at hn;have ih:=Lex.len hn.1 h.2.2;have:=h.2.1;rw[bO];omega
theorem Ka{s A rest:List UInt8}{i:Nat}(h:s.drop i=A++rest):s.drop (i+A.length)=rest:=by
 rw[<-xz,h,ace]
theorem Kb{s l:List UInt8}{i:Nat}(h:s.drop i=l)(hb:∀c r,l=c::r->dC c=false):tk s i=bX l i:=by
 have e:bl s i=i:=by
  unfold bl;rw[h];cases l with
  |nil=>rfl
  |cons c r=>rw[xj,hb c r rfl];rfl
 unfold tk;rw[e,h]
theorem amg{s l:List UInt8}{i:Nat}(h:s.drop i=32::l)(hb:∀c r,l=c::r->dC c=false):tk s i=tk s (i+1):=by
 have h1:s.drop (i+1)=l:=by rw[<-xz,h];rfl
 have e:bl s i=i+1:=by
  unfold bl;rw[h,xj];have:dC 32=true:=by decide
  rw[this];simp only[if_true,bO];cases l with
  |nil=>rfl
  |cons c r=>rw[xj,hb c r rfl];rfl
 have e2:bl s (i+1)=i+1:=by
  unfold bl;rw[h1];cases l with
  |nil=>rfl
  |cons c r=>rw[xj,hb c r rfl];rfl
 unfold tk;rw[e,e2]
theorem Lex.blank{s l:List UInt8}{i j:Nat}{c:List Tk}(h:s.drop i=32::l)(hb:∀c r,l=c::r->dC c=false)(hc:c≠[])(hl:Lex s (i+1) c j):Lex s i c j:=by
 cases c with
 |nil=>exact absurd rfl hc
 |cons t c=>exact⟨(amg h hb).trans hl.1,hl.2⟩
structure Rd{α:Type}(ok:α->Prop)(txt:α->List UInt8)(item:List Tk->Bool×List Tk×α):Prop where
 rd:∀x,ok x->∀s i rest,s.drop i=txt x++rest->Sep rest->∃c,Lex s i c (i+(txt x).length)/\(∀l,item (c++l)=(true,l,x))/\(∀t∈c,t.k=110->gz t.n)/\(∃t r,c=t::r/\t.k≠41)
 hd:∀x,ok x->∃a r,txt x=a::r/\dC a=false
theorem Qk(n:Int):∃a r,Lib.itoa n=a::r/\dC a=false:=by
 unfold Lib.itoa;by_cases h:n<0
 ·rw[if_pos h];exact⟨45,_,rfl,by decide⟩
 ·rw[if_neg h];cases hD:Lib.decDigits n.toNat with
  |nil=>exact absurd hD (Qi _)
  |cons c r=>
   have:=of_decide_eq_true (J8 n.toNat c (by rw[hD];simp))
   exact⟨c,r,rfl,decide_eq_false (by omega)⟩
theorem Fw{A rest:List UInt8}(h:∃a r,A=a::r/\dC a=false):∀c r,A++rest=c::r->dC c=false:=fun c r e=>by
 obtain⟨a,r',rfl,hb⟩:=h;rw[lN] at e;injection e with e1 _;rw[<-e1];exact hb
theorem aaS{s rest:List UInt8}{i:Nat}{n:Int}(h1: -1000000000<n)(h2:n<1000000000)(h:s.drop i=Lib.itoa n++rest)(hs:Sep rest):Lex s i [⟨110,Lib.itoa n,n,i⟩] (i+(Lib.itoa n).length):=by
 refine⟨?_,by show ¬((110:Nat)=101\/(110:Nat)=120);decide,rfl⟩
 rw[Kb h (Fw (Qk n)),amd h1 h2 hs]
theorem BB{s rest:List UInt8}{i:Nat}{c:UInt8}(hc:c=40\/c=41\/c=44\/c=47)(h:s.drop i=c::rest):Lex s i [⟨c.toNat,[c],0,i⟩] (i+1):=by
 refine⟨?_,?_,rfl⟩
 ·rw[Kb h (fun d r e=>by
   injection e with e1 _;rw[<-e1];rcases hc with q|q|q|q<;>rw[q]<;>decide),amf hc]
 ·show ¬(c.toNat=101\/c.toNat=120);rcases hc with q|q|q|q<;>rw[q]<;>decide
theorem Ql{s rest q:List UInt8}{i:Nat}(hq:q≠[])(hl:∀c∈q,isLet c=true)(h:s.drop i=q++rest)(hs:Sep rest):Lex s i [⟨119,q,0,i⟩] (i+q.length):=by
 refine⟨?_,by show ¬((119:Nat)=101\/(119:Nat)=120);decide,rfl⟩
 rw[Kb h (Fw ?_),ame hq hl hs];cases q with
 |nil=>exact absurd rfl hq
 |cons a r=>
  have:=of_decide_eq_true (hl a (by simp))
  exact⟨a,r,rfl,decide_eq_false (by omega)⟩
theorem amh:Rd (fun p=>gz p.1/\gz p.2) eN cE where
 rd:=by
  rintro⟨x,y⟩ ⟨h1,h2⟩ s i rest h hs;have e:eN (x,y)++rest=Lib.itoa x++(32::(Lib.itoa y++rest)):=by simp[eN]
  rw[e] at h;unfold gz at h1 h2;have l1:=aaS (n:=x) (by simp only at h1;omega) (by simp only at h1;omega) h (Sep.of 32 _ (Or.inl rfl))
  have d2:=Ka h;have d3:s.drop (i+(Lib.itoa x).length+1)=Lib.itoa y++rest:=by rw[<-xz,d2];rfl
  have l2:=aaS (n:=y) (by simp only at h2;omega) (by simp only at h2;omega) d3 hs
  have Qm:=Lex.blank d2 (Fw (Qk y)) (by simp) l2
  refine⟨[⟨110,Lib.itoa x,x,i⟩]++[⟨110,Lib.itoa y,y,i+(Lib.itoa x).length+1⟩],?_,fun l=>rfl,fun t ht _=>?_,_,_,rfl,by show(110:Nat)≠41;decide⟩
  ·have:=l1.append Qm;have el:(eN (x,y)).length=(Lib.itoa x).length+1+(Lib.itoa y).length:=by simp[eN];omega
   rw[el,show i+((Lib.itoa x).length+1+(Lib.itoa y).length)=i+(Lib.itoa x).length+1+(Lib.itoa y).length by omega]
   exact this
  ·simp only[BW,aQ,ab9,or_false] at ht;rcases ht with q|q<;>rw[q]
   ·exact h1
   ·exact h2
 hd:=fun p _=>by
  obtain⟨a,r,e,hb⟩:=Qk p.1;exact⟨a,r++([32]++Lib.itoa p.2),by unfold eN;rw[e];rfl,hb⟩
theorem Kc{α:Type}{ok:α->Prop}{txt:α->List UInt8}{item:List Tk->Bool×List Tk×α}(hR:Rd ok txt item):∀(xs:List α),xs≠[]->(∀x∈xs,ok x)->∀s i rest,s.drop i=aI txt xs++(41::rest)->
  ∃c,Lex s i c (i+(aI txt xs).length+1)/\(∀f l acc,xs.length<=f->bK item f (c++l) acc=(true,l,acc++xs))/\(∀t∈c,t.k=110->gz t.n)/\xs.length<=c.length/\(∃t r,c=t::r/\t.k≠41)
 |[],h,_,_,_,_,_=>absurd rfl h
 |[x],_,hok,s,i,rest,h=>by
  obtain⟨c,l1,p1,n1,t,r,ec,hk⟩:=hR.rd x (hok x (by simp)) s i (41::rest) h (Sep.of 41 _ (by simp))
  have d2:=Ka h;have l2:=BB (c:=41) (by simp) d2
  refine⟨c++[_],l1.append l2,fun f l acc hf=>?_,fun u hu j4=>?_,by simp,t,r++[_],by rw[ec];rfl,hk⟩
  ·obtain⟨f,rfl⟩:∃g,f=g+1:=⟨f-1,by simp at hf;omega⟩
   have p:=p1 (⟨(41:UInt8).toNat,[41],0,i+(aI txt [x]).length⟩::l);unfold bK;rw[fD,BW,p];simp only[if_true];have m1:(mk 44 (⟨(41:UInt8).toNat,[41],0,i+(aI txt [x]).length⟩::l)).1=false:=rfl;have m2:mk 41 (⟨(41:UInt8).toNat,[41],0,i+(aI txt [x]).length⟩::l)=(true,l):=rfl;rw[m1,m2];simp
  ·rcases bW.1 hu with q|q
   ·exact n1 u q j4
   ·rw[bJ.1 q] at j4;exact absurd j4 (by show(41:UInt8).toNat≠110;decide)
 |x::y::xs,_,hok,s,i,rest,h=>by
  have e0:aI txt (x::y::xs)++(41::rest)=txt x++(44::(32::(aI txt (y::xs)++(41::rest)))):=by simp[aI]
  rw[e0] at h;obtain⟨c,l1,p1,n1,t,r,ec,hk⟩:=hR.rd x (hok x (by simp)) s i _ h (Sep.of 44 _ (by simp))
  have d2:=Ka h;have l2:=BB (c:=44) (by simp) d2
  have d3:s.drop (i+(txt x).length+1)=32::(aI txt (y::xs)++(41::rest)):=by rw[<-xz,d2];rfl
  have d4:s.drop (i+(txt x).length+1+1)=aI txt (y::xs)++(41::rest):=by rw[<-xz,d3];rfl
  obtain⟨c',l3,p3,n3,m3,t',r',ec',hk'⟩:=Kc hR (y::xs) (by simp) (fun z hz=>hok z (bn _ hz)) s _ rest d4
  have hb:∀b q,aI txt (y::xs)++(41::rest)=b::q->dC b=false:=by
   obtain⟨a,r2,ea,hb⟩:=hR.hd y (hok y (by simp))
   refine Fw ?_;cases xs with
   |nil=>exact⟨a,r2,ea,hb⟩
   |cons z xs=>exact⟨a,r2++([44,32]++aI txt (z::xs)),by show txt y++([44,32]++aI txt (z::xs))=_;rw[ea];rfl,hb⟩
  have l3':=Lex.blank d3 hb (by rw[ec'];simp) l3
  have el:(aI txt (x::y::xs)).length=(txt x).length+2+(aI txt (y::xs)).length:=by simp[aI];omega
  refine⟨c++([⟨(44:UInt8).toNat,[44],0,i+(txt x).length⟩]++c'),?_,fun f l acc hf=>?_,fun u hu j4=>?_,?_,t,r++([⟨(44:UInt8).toNat,[44],0,i+(txt x).length⟩]++c'),by rw[ec];rfl,hk⟩
  ·rw[el,show i+((txt x).length+2+(aI txt (y::xs)).length)+1=i+(txt x).length+1+1+(aI txt (y::xs)).length+1 by omega]
   exact l1.append (l2.append l3')
  ·obtain⟨f,rfl⟩:∃g,f=g+1:=⟨f-1,by simp at hf;omega⟩
   unfold bK;have e:c++([⟨(44:UInt8).toNat,[44],0,i+(txt x).length⟩]++c')++l=c++(⟨(44:UInt8).toNat,[44],0,i+(txt x).length⟩::(c'++l)):=by simp
   rw[e,p1];simp only[if_true];have m1:mk 44 (⟨(44:UInt8).toNat,[44],0,i+(txt x).length⟩::(c'++l))=(true,c'++l):=rfl;rw[m1];simp only[if_true];rw[p3 f l (acc++[x]) (by simp at hf⊢;omega)]
   simp
  ·rcases bW.1 hu with q|q
   ·exact n1 u q j4
   ·rcases bW.1 q with q|q
    ·rw[bJ.1 q] at j4;exact absurd j4 (by show(44:UInt8).toNat≠110;decide)
    ·exact n3 u q j4
  ·have hcl:0<c.length:=by rw[ec];simp
   simp only[aS,bO,fE] at m3⊢;omega
theorem amk:Rd (fun g=>mb g) bZ di where
 rd:=by
  intro g hok s i rest h _hs;have e:bZ g++rest=40::(aI eN g++(41::rest)):=by simp[bZ]
  rw[e] at h;have l1:=BB (c:=40) (by simp) h
  have d2:s.drop (i+1)=aI eN g++(41::rest):=by rw[<-xz,h];rfl
  have el:(bZ g).length=1+(aI eN g).length+1:=by simp[bZ];omega
  by_cases hg:g=[]
  ·subst hg;have l2:=BB (c:=41) (by simp) d2
   refine⟨[⟨(40:UInt8).toNat,[40],0,i⟩]++[⟨(41:UInt8).toNat,[41],0,i+1⟩],?_,fun l=>rfl,fun t ht hk=>?_,_,_,rfl,by show(40:UInt8).toNat≠41;decide⟩
   ·rw[el,show i+(1+(aI eN []).length+1)=i+1+1 by simp[aI]]
    exact l1.append l2
   ·simp only[BW,aQ,ab9,or_false] at ht;rcases ht with q|q<;>rw[q] at hk
    ·exact absurd hk (by show ¬(40:UInt8).toNat=110;decide)
    ·exact absurd hk (by show ¬(41:UInt8).toNat=110;decide)
  ·obtain⟨c,l2,p2,n2,m2,t,r,ec,hk⟩:=Kc amh g hg (fun p hp=>hok p hp) s (i+1) rest d2
   refine⟨[⟨(40:UInt8).toNat,[40],0,i⟩]++c,?_,fun l=>?_,fun u hu j4=>?_,_,_,rfl,by show(40:UInt8).toNat≠41;decide⟩
   ·rw[el,show i+(1+(aI eN g).length+1)=i+1+(aI eN g).length+1 by omega]
    exact l1.append l2
   ·show di (⟨(40:UInt8).toNat,[40],0,i⟩::(c++l))=_;unfold di;have m1:mk 40 (⟨(40:UInt8).toNat,[40],0,i⟩::(c++l))=(true,c++l):=rfl;rw[m1];simp only[if_true];have m3:(mk 41 (c++l)).1=false:=by
     rw[ec];show(if t.k=41 then(true,r++l) else(false,t::(r++l))).1=false
     rw[if_neg hk]
    rw[m3];simp only[iP,if_false];rw[p2 _ l [] (by simp only[bO,aS];omega)]
    simp
   ·rcases bW.1 hu with q|q
    ·rw[bJ.1 q] at j4;exact absurd j4 (by show(40:UInt8).toNat≠110;decide)
    ·exact n2 u q j4
 hd:=fun g _=>⟨40,aI eN g++[41],rfl,by decide⟩
theorem Ke:(∀c∈EMPTY,isLet c=true)/\(∀c∈bp,isLet c=true)/\(∀c∈cJ,isLet c=true):=by decide
theorem aaT:Rd (fun gs=>∀g∈gs,mb g) bH bo where
 rd:=by
  intro gs hok s i rest h hs;by_cases hg:gs.length=0
  ·have e:bH gs=EMPTY:=if_pos hg;have e0:gs=[]:=gq.1 hg;rw[e] at h⊢;have l1:=Ql (by decide) Ke.1 h hs
   refine⟨[⟨119,EMPTY,0,i⟩],l1,fun l=>?_,fun t ht hk=>?_,_,_,rfl,by show(119:Nat)≠41;decide⟩
   ·rw[e0];rfl
   ·rw[bJ.1 ht] at hk;exact absurd hk (by show ¬(119:Nat)=110;decide)
  ·have e:bH gs=[40]++(aI bZ gs++[41]):=if_neg hg;have h':=h;rw[e] at h';have e1:[40]++(aI bZ gs++[41])++rest=(40:UInt8)::(aI bZ gs++(41::rest)):=by simp
   rw[e1] at h';have l1:=BB (c:=40) (by simp) h'
   have d2:s.drop (i+1)=aI bZ gs++(41::rest):=by rw[<-xz,h'];rfl
   have el:(bH gs).length=1+(aI bZ gs).length+1:=by rw[e];simp;omega
   obtain⟨c,l2,p2,n2,m2,t,r,ec,hk⟩:=Kc amk gs (fun k=>hg (by rw[k];rfl)) (fun g hg=>hok g hg) s (i+1) rest d2
   refine⟨[⟨(40:UInt8).toNat,[40],0,i⟩]++c,?_,fun l=>?_,fun u hu j4=>?_,_,_,rfl,by show(40:UInt8).toNat≠41;decide⟩
   ·rw[el,show i+(1+(aI bZ gs).length+1)=i+1+(aI bZ gs).length+1 by omega]
    exact l1.append l2
   ·show bo (⟨(40:UInt8).toNat,[40],0,i⟩::(c++l))=_;unfold bo;have m0:(wd EMPTY (⟨(40:UInt8).toNat,[40],0,i⟩::(c++l))).1=false:=rfl;have m1:mk 40 (⟨(40:UInt8).toNat,[40],0,i⟩::(c++l))=(true,c++l):=rfl;rw[m0,m1];simp only[iP,if_false,if_true];rw[p2 _ l [] (by simp only[bO,aS];omega)]
    simp
   ·rcases bW.1 hu with q|q
    ·rw[bJ.1 q] at j4;exact absurd j4 (by show(40:UInt8).toNat≠110;decide)
    ·exact n2 u q j4
 hd:=fun gs _=>by
  by_cases hg:gs.length=0
  ·exact⟨69,[77,80,84,89],if_pos hg,by decide⟩
  ·exact⟨40,aI bZ gs++[41],if_neg hg,by decide⟩
theorem aml:Rd (fun ps=>∀gs∈ps,∀g∈gs,mb g) sA eJ where
 rd:=by
  intro gs hok s i rest h hs;by_cases hg:gs.length=0
  ·have e:sA gs=EMPTY:=if_pos hg;have e0:gs=[]:=gq.1 hg;rw[e] at h⊢;have l1:=Ql (by decide) Ke.1 h hs
   refine⟨[⟨119,EMPTY,0,i⟩],l1,fun l=>?_,fun t ht hk=>?_,_,_,rfl,by show(119:Nat)≠41;decide⟩
   ·rw[e0];rfl
   ·rw[bJ.1 ht] at hk;exact absurd hk (by show ¬(119:Nat)=110;decide)
  ·have e:sA gs=[40]++(aI bH gs++[41]):=if_neg hg;have h':=h;rw[e] at h';have e1:[40]++(aI bH gs++[41])++rest=(40:UInt8)::(aI bH gs++(41::rest)):=by simp
   rw[e1] at h';have l1:=BB (c:=40) (by simp) h'
   have d2:s.drop (i+1)=aI bH gs++(41::rest):=by rw[<-xz,h'];rfl
   have el:(sA gs).length=1+(aI bH gs).length+1:=by rw[e];simp;omega
   obtain⟨c,l2,p2,n2,m2,t,r,ec,hk⟩:=Kc aaT gs (fun k=>hg (by rw[k];rfl)) (fun g hg=>hok g hg) s (i+1) rest d2
   refine⟨[⟨(40:UInt8).toNat,[40],0,i⟩]++c,?_,fun l=>?_,fun u hu j4=>?_,_,_,rfl,by show(40:UInt8).toNat≠41;decide⟩
   ·rw[el,show i+(1+(aI bH gs).length+1)=i+1+(aI bH gs).length+1 by omega]
    exact l1.append l2
   ·show eJ (⟨(40:UInt8).toNat,[40],0,i⟩::(c++l))=_;unfold eJ;have m0:(wd EMPTY (⟨(40:UInt8).toNat,[40],0,i⟩::(c++l))).1=false:=rfl;have m1:mk 40 (⟨(40:UInt8).toNat,[40],0,i⟩::(c++l))=(true,c++l):=rfl;rw[m0,m1];simp only[iP,if_false,if_true];rw[p2 _ l [] (by simp only[bO,aS];omega)]
    simp
   ·rcases bW.1 hu with q|q
    ·rw[bJ.1 q] at j4;exact absurd j4 (by show(40:UInt8).toNat≠110;decide)
    ·exact n2 u q j4
 hd:=fun gs _=>by
  by_cases hg:gs.length=0
  ·exact⟨69,[77,80,84,89],if_pos hg,by decide⟩
  ·exact⟨40,aI bH gs++[41],if_neg hg,by decide⟩
theorem aaU{α:Type}{ok:α->Prop}{txt:α->List UInt8}{item:List Tk->Bool×List Tk×α}(hR:Rd ok txt item){q:List UInt8}(hq:q≠[])(hl:∀c∈q,isLet c=true){x:α}(hx:ok x):∃c e,all (q++([32]++txt x))=⟨119,q,0,0⟩::(c++[e])/\(∀l,item (c++l)=(true,l,x))/\(∀t∈c,t.k=110->gz t.n)/\e.k=101:=by
 have h0:(q++([32]++txt x)).drop 0=q++(32::(txt x++[])):=by simp
 have l1:=Ql hq hl h0 (Sep.of 32 _ (by simp))
 have d1:=Ka h0;rw[jd] at l1 d1;have d2:(q++([32]++txt x)).drop (q.length+1)=txt x++[]:=by rw[<-xz,d1];rfl
 obtain⟨c,l2,p2,n2,t,r,ec,_⟩:=hR.rd x hx _ _ [] d2 Sep.nil;have Qm:=Lex.blank d1 (Fw (hR.hd x hx)) (by rw[ec];simp) l2
 have L:=l1.append Qm;have hlen:=(L.len (iz _)).1;have hend:(q++([32]++txt x)).length=q.length+1+(txt x).length:=by simp;omega
 have htk:tk (q++([32]++txt x)) (q.length+1+(txt x).length)=⟨101,[],0,q.length+1+(txt x).length⟩:=by
  rw[Kb (l:=[]) (by rw[List.drop_eq_nil_iff];omega) (fun c r e=>by cases e)]
  rfl
 simp only[aS,bO,fE] at hlen;have ht:=L.gP ((q++([32]++txt x)).length+1-([(⟨119,q,0,0⟩:Tk)]++c).length);have hf:(q++([32]++txt x)).length+1-([(⟨119,q,0,0⟩:Tk)]++c).length+([(⟨119,q,0,0⟩:Tk)]++c).length=(q++([32]++txt x)).length+1:=by
  simp only[aS,bO,fE] at hend⊢;omega
 rw[hf] at ht;refine⟨c,⟨101,[],0,q.length+1+(txt x).length⟩,?_,p2,n2,rfl⟩;show Pl.gP _ _ 0=_;rw[ht];have:∀f,gP (q++([32]++txt x)) f (q.length+1+(txt x).length)=[⟨101,[],0,q.length+1+(txt x).length⟩]:=fun f=>by
  cases f with
  |zero=>rw[Pl.gP,htk]
  |succ f=>rw[Pl.gP,htk,if_pos (Or.inl rfl)]
 rw[this];rfl
theorem amm{c:List Tk}(h:∀t∈c,t.k=110->gz t.n):c.find? outT=none:=by
 rw[ab3];intro t ht;unfold outT kH;by_cases hk:t.k=110
 ·have:=h t ht hk;unfold gz at this;simp[hk,this]
 ·simp[hk]
theorem aaV{T:List UInt8}(hT:T.length<=400){t e:Tk}{c:List Tk}{ps:List (List (List (Int×Int)))}(ha:all T=t::(c++[e]))(hp:aH (all T)=(true,[e],ps))(he:e.k=101)(ht:t.k≠110)(hn:∀t∈c,t.k=110->gz t.n):err T=(0,0):=by
 unfold err;rw[if_neg (by omega),hp]
 rw[if_pos ⟨rfl,he⟩];have htk:took T=t::c:=by
  unfold took;rw[hp,ha];simp
 rw[htk,amm];intro u hu hk;rcases aQ.1 hu with q|q
 ·rw[q] at hk;exact absurd hk ht
 ·exact hn u q hk
theorem amn{gs:List (List (Int×Int))}(hok:∀g∈gs,mb g)(hl:(bp++([32]++bH gs)).length<=400):
  err (bp++([32]++bH gs))=(0,0)/\(aH (all (bp++([32]++bH gs)))).2.2=[gs]/\(wd bp (all (bp++([32]++bH gs)))).1=true:=by
 obtain⟨c,e,h1,h2,h3,h4⟩:=aaU aaT (q:=bp) (by decide) Ke.2.1 hok
 have hw:wd bp (all (bp++([32]++bH gs)))=(true,c++[e]):=by rw[h1];rfl
 have hp:aH (all (bp++([32]++bH gs)))=(true,[e],[gs]):=by
  unfold aH;rw[hw];simp only[if_true];rw[h2]
 exact⟨aaV hl h1 hp h4 (by decide) h3,by rw[hp],by rw[hw]⟩
theorem amo{ps:List (List (List (Int×Int)))}(hok:∀gs∈ps,∀g∈gs,mb g)(hl:(kJ ps).length<=400):
  err (kJ ps)=(0,0)/\(aH (all (kJ ps))).2.2=ps/\(wd bp (all (kJ ps))).1=false:=by
 rw[UB] at hl⊢;obtain⟨c,e,h1,h2,h3,h4⟩:=aaU aml (q:=cJ) (by decide) Ke.2.2 hok
 have hw0:(wd bp (all (cJ++([32]++sA ps)))).1=false:=by rw[h1];rfl
 have hw:wd cJ (all (cJ++([32]++sA ps)))=(true,c++[e]):=by rw[h1];rfl
 have hp:aH (all (cJ++([32]++sA ps)))=(true,[e],ps):=by
  unfold aH;rw[hw0,hw];simp only[iP,if_false,if_true];rw[h2]
 exact⟨aaV hl h1 hp h4 (by decide) h3,by rw[hp],hw0⟩
end Pl
end Go.Proofs.YtkjhhooecopolaaGreatDoor
namespace Go.Proofs.YtkjhhooecopolaaGreatDoor
open Go.RowKit
theorem aaW(n:Int)(w:World)(h1: -9223372036854775808<=n)(h2:n<=9223372036854775807):
  Calls Tryz.prog 19 #[.int .i64 n] w fun e w'=>e=.returned (.int .i64 n)/\w'=w:=by
 have hw:IntKind.i64.wrap n=n:=by rw[IntKind.wrap_i64];omega
 go_enter Tryz.func19,Tryz.ntmps19
 go_wp2_with fail
 go_ret
 exact⟨rfl,rfl⟩
theorem aaX(s:List UInt8):(Pl.err s).1<=3:=by
 unfold Pl.err;split
 ·decide
 ·split
  ·split
   ·exact ae 3
   ·exact iz 3
  ·show 2<=3;decide
def tS(s:List UInt8)(r:Int)(T:List UInt8)(E P:Nat):Prop:=
 ((Pl.err s).1≠0/\T=[]/\E=(Pl.err s).1/\P=(Pl.err s).2)\/((Pl.err s).1=0/\Ge.rule r=false/\T=[]/\E=4/\P=0)\/((Pl.err s).1=0/\Ge.rule r=true/\pL (Pl.rings s) r T/\E=0/\P=0)
theorem amq(s:ByteArray)(r:Int)(w:World)(hm:s.size<=maxLen)(hG:Gl w):
  Calls Tryz.prog 39 #[.string s,.int .u8 r] w fun e w'=>(∃T E P,e=.returned (.tuple #[.string (ba T),.int .i64 (E:Nat),.int .i64 (P:Nat)])/\tS s.data.toList r T E P)/\Below w.heap.size w w':=by
 by_cases h0:(Pl.err s.data.toList).1=0
 ·cases hr:Ge.rule r
  ·refine(alZ s r w hm hG h0 hr).mono ?_;rintro e w' ⟨rfl,hb⟩;exact⟨⟨[],4,0,rfl,Or.inr (Or.inl ⟨h0,hr,rfl,rfl,rfl⟩)⟩,hb⟩
  ·refine(al0 s r w hm hG h0 hr).mono ?_;rintro e w' ⟨⟨T,rfl,hT⟩,hb⟩;exact⟨⟨T,0,0,rfl,Or.inr (Or.inr ⟨h0,hr,hT,rfl,rfl⟩)⟩,hb⟩
 ·refine(alY s r w hm hG h0).mono ?_;rintro e w' ⟨rfl,hb⟩;exact⟨⟨[],_,_,rfl,Or.inl ⟨h0,rfl,rfl,rfl⟩⟩,hb⟩
theorem tS.small{s:List UInt8}{r:Int}{T:List UInt8}{E P:Nat}(h:tS s r T E P):E<=4:=by
 have:=aaX s;rcases h with⟨_,_,h,_⟩|⟨_,_,_,h,_⟩|⟨_,_,_,h,_⟩<;>omega
theorem aaY(s:ByteArray)(r:Int)(w:World)(hm:s.size<=maxLen)(hG:Gl w):
  Calls Tryz.prog 18 #[.string s,.int .u8 r] w fun e w'=>(∃T E P,e=.returned (.agg #[.string (ba T),.int .i64 (E:Nat),.int .i64 (P:Nat)])/\tS s.data.toList r T E P)/\Below w.heap.size w w':=by
 have HP:Hid (∀w1,Gl w1->Calls Tryz.prog 39 #[.string s,.int .u8 r] w1 fun e w'=>(∃T E P,e=.returned (.tuple #[.string (ba T),.int .i64 (E:Nat),.int .i64 (P:Nat)])/\Hid (tS s.data.toList r T E P))/\Below w1.heap.size w1 w'):=fun w1 g1=>amq s r w1 hm g1
 have HE:Hid (∀T E P,tS s.data.toList r T E P->E<=4):=fun T E P h=>h.small
 go_enter Tryz.func18,Tryz.ntmps18
 go_wp2_with fail
 have hb0:Below w.heap.size w (w.alloc (.cells #[.string ⟨#[]⟩,.int .i64 0,.int .i64 0] 38)):=(Below.refl _ _).alloc (ae _) _;refine(HP.out _ (hG.alloc _)).mono ?_;rintro e w1 ⟨⟨T,E,Pp,rfl,HF⟩,hb1⟩;have he:=HE.out T E Pp HF.out;have HN:Hid (∀w1,Calls Tryz.prog 19 #[.int .i64 (E:Int)] w1 fun e w'=>e=.returned (.int .i64 (E:Int))/\w'=w1):=fun w1=>aaW E w1 (by omega) (by omega)
 have dK:w1.heap[w.heap.size]?=some (.cells #[.string ⟨#[]⟩,.int .i64 0,.int .i64 0] 38):=(hb1.block _ (by simp)).trans (heap_alloc_new _ _)
 have c0:w1.cell? ⟨w.heap.size,0,none⟩=some (.string ⟨#[]⟩):=cell_of dK 0;have c1:w1.cell? ⟨w.heap.size,1,none⟩=some (.int .i64 0):=cell_of dK 1;have c2:w1.cell? ⟨w.heap.size,2,none⟩=some (.int .i64 0):=cell_of dK 2;have z0:w1.frozen? ⟨w.heap.size,0,none⟩=false:=aB dK 0;have z1:w1.frozen? ⟨w.heap.size,1,none⟩=false:=aB dK 1;have z2:w1.frozen? ⟨w.heap.size,2,none⟩=false:=aB dK 2;have ag:=hb0.trans (hb1.mono hb0.size);clear dK he HE HP;generalize EK:ba T=TT
 go_wp2_with fail
 refine(HN.out _).mono ?_;rintro e w2 ⟨rfl,rfl⟩
 go_wp2_with fail
 refine bodyPost_ret (v:=.agg #[.string TT,.int .i64 E,.int .i64 Pp]) (by simp[results,Tryz.results18,go_sem,c0,c1,c2]) rfl ⟨⟨T,E,Pp,by rw[EK],HF.out⟩,?_⟩
 exact((ag.setCell (ae _) _).setCell (ae _) _).setCell (ae _) _
end Go.Proofs.YtkjhhooecopolaaGreatDoor
