import Derived.Test.YtkjhhooecopolaaGreatDoorYz39
set_option maxRecDepth 100000
set_option maxHeartbeats 4000000
namespace Go.Proofs.YtkjhhooecopolaaGreatDoor
open Go.RowKit
namespace Gb
open Ge Ga
theorem abe:∀{l l':List Nd},(∀n∈l,Ge.Can n)->(∀n∈l',Ge.Can n)->l.map ay=l'.map ay->l=l'
 |[],[],_,_,_=>rfl
 |[],_::_,_,_,h=>by simp at h
 |_::_,[],_,_,h=>by simp at h
 |a::A,b::B,ha,hb,h=>by
  rw[gU,gU] at h;injection h with h1 h2;have e:a=b:=Ge.vk (ha a (by simp)) (hb b (by simp)) (by rw[h1];exact Ge.yA _)
  rw[e,abe (fun n hn=>ha n (by simp[hn])) (fun n hn=>hb n (by simp[hn])) h2]
theorem pW.eq{rg ov:List (List Pt)}{r r':Int}{T T':List UInt8}(hs:∀e∈ag rg,fB e)(hs':∀e∈ag ov,fB e)(hn:gq (ag rg)=gq (ag ov))(Zt:∀l,∀a b,Sd (ag rg) l (takes r) a b↔Sd (ag ov) l (takes r') a b)(h:pW rg r T)(h':pW ov r' T'):T=T':=by
 obtain⟨Ps,l,h1,h2,h3,h4,rfl⟩:=h;obtain⟨Ps',l',k1,k2,k3,k4,rfl⟩:=h';have e:l=l':=abe h2 k2 (by rw[h1,k1,hn])
 subst e;exact amq (OI h1 h2 h3) (Qz h1 hs h3 h4) (OI k1 k2 k3) (Qz k1 hs' k3 k4) (Zt l)
theorem Kw{F:Pt->Pt->Int}(hF:∀u v,F v u= -F u v):∀(es:List Sg),total F (es.map rv)= -total F es
 |[]=>rfl
 |e::es=>by
  rw[gU,fE,fE,Kw hF es];have:=hF e.1 e.2;show F e.2 e.1+_=_;omega
theorem Ky{n d:Int}(hd:d≠0):aW (-n) (-d)=aW n d:=by
 unfold aW;by_cases h:d<0
 ·rw[aa (by omega),ah h]
 ·rw[ah (by omega),aa h,KW,KW]
theorem amv{e f:Pt×Pt}(h:bG e f≠0):bG (rv e) f= -bG e f/\dJ (rv e) f=dJ e f:=by
 have c:bG (rv e) f= -bG e f:=by unfold bG rv;simp only;grind
 refine⟨c,?_⟩;have x:mX (rv e) f= -mX e f:=by unfold mX mT bG rv;simp only;grind
 have y:mY (rv e) f= -mY e f:=by unfold mY mT bG rv;simp only;grind
 unfold dJ;rw[c,x,y,Ky h,Ky h]
theorem amw{e f:Pt×Pt}(h:bG e f≠0):bG e (rv f)= -bG e f/\dJ e (rv f)=dJ e f:=by
 have c:bG e (rv f)= -bG e f:=by unfold bG rv;simp only;grind
 refine⟨c,?_⟩;have x:mX e (rv f)= -mX e f:=by unfold mX mT bG rv;simp only;grind
 have y:mY e (rv f)= -mY e f:=by unfold mY mT bG rv;simp only;grind
 unfold dJ;rw[c,x,y,Ky h,Ky h]
theorem Kz(n:Pt)(d:Int)(e:Pt×Pt):fo n d (rv e)=fo n d e:=wE _ _
theorem abf(p:Qt)(e:Pt×Pt):hq p (rv e)=hq p e:=Kz _ _ _
theorem abg{es es':List Sg}(h:∀e∈es,rv e∈es'){q:Qt}(hq':isNode es q):isNode es' q:=by
 rcases hq' with⟨e,he,k⟩|⟨e,he,f,hf,k1,k2,k3,k4⟩
 ·exact ae ⟨rv e,h e he,k.symm⟩
 ·refine af ⟨rv e,h e he,rv f,h f hf,?_⟩;obtain⟨a1,a2⟩:=amv k1;have xH:bG (rv e) f≠0:=by rw[a1];omega
  obtain⟨b1,b2⟩:=amw xH;rw[b1,b2,a1,a2,abf,abf];exact⟨by omega,k2,k3,k4⟩
theorem amx{es es':List Sg}(h:∀e∈es,rv e∈es')(h':∀e∈es',rv e∈es):gq es=gq es':=by
 obtain⟨a1,a2,a3⟩:=yP es;obtain⟨b1,b2,b3⟩:=yP es';refine Kq (lt:=fun p q:Qt=>fR p/\fR q/\lt p q) (fun x k=>Ge.lt_irrefl _ k.2.2) (fun x y k k2=>Ge.lt_irrefl _ (Ge.lt_trans k.1 k.2.1 k.1 k.2.2 k2.2.2)) (qG (fun ha hb k=>⟨a1 _ ha,a1 _ hb,k⟩) a2) (qG (fun ha hb k=>⟨b1 _ ha,b1 _ hb,k⟩) b2) fun x=>?_
 rw[a3,b3];exact⟨abg h,abg h'⟩
theorem abh{es es':List Sg}{l:List Nd}(h:∀e∈es,rv e∈es'){f t:Nd}(k:di es l f t):di es' l f t:=by
 obtain⟨e,he,hq⟩:=k;refine⟨rv e,h e he,?_⟩;have:held (rv e) l=held e l:=by
  unfold held;exact acP fun n _=>Kz _ _ _
 rw[this];exact hq
theorem KA{es es':List Sg}(h:es'.Perm (es.map rv))(f t:N3):RR es' f t= -RR es f t/\LL es' f t= -LL es f t:=by
 have e1:PP es' (aZ f t)= -PP es (aZ f t):=by
  unfold PP;rw[LN h,Kw fun u v=>GJ _ _]
 have e2:total (fb (aZ f t) (wv f t)) es'= -total (fb (aZ f t) (wv f t)) es:=by
  rw[LN h,Kw fun u v=>XX _ _ _ _]
 unfold RR LL;rw[e1,e2];omega
theorem amy(x:Int):((-x).tmod 2≠0)↔(x.tmod 2≠0):=by
 rw[Int.neg_tmod];omega
def F5(r:Int):Int:=if r=43 then 45 else r
theorem KB{r:Int}(hr:r=101\/r=110\/r=43)(x:Int):takes (F5 r) (-x)=takes r x:=by
 rcases hr with rfl|rfl|rfl
 ·show decide ((-x).tmod 2≠0)=decide (x.tmod 2≠0);exact decide_eq_decide.2 (amy x)
 ·show decide (-x≠0)=decide (x≠0);exact decide_eq_decide.2 (by omega)
 ·show decide (-x<0)=decide (0<x);exact decide_eq_decide.2 (by omega)
theorem amz{es es':List Sg}{l:List Nd}(h:es'.Perm (es.map rv)){r:Int}(hr:r=101\/r=110\/r=43)(a b:Nd):Sd es l (takes r) a b↔Sd es' l (takes (F5 r)) a b:=by
 have m1:∀e∈es,rv e∈es':=fun e he=>h.mem_iff.2 (bh.2 ⟨e,he,rfl⟩)
 have m2:∀e∈es',rv e∈es:=fun e he=>by
  obtain⟨f,hf,rfl⟩:=bh.1 (h.mem_iff.1 he);exact hf
 have p:∀f t,di es l f t↔di es' l f t:=fun f t=>⟨abh m1,abh m2⟩
 unfold Sd;rw[p,p,(KA h a b).1,(KA h a b).2,(KA h b a).1,(KA h b a).2,KB hr,KB hr,KB hr,KB hr]
theorem pW.mirror{rg ov:List (List Pt)}{r:Int}{T T':List UInt8}(hr:r=101\/r=110\/r=43)(hp:(ag ov).Perm ((ag rg).map rv))(hs:∀e∈ag rg,fB e)(h:pW rg r T)(h':pW ov (F5 r) T'):T=T':=by
 have m1:∀e∈ag rg,rv e∈ag ov:=fun e he=>hp.mem_iff.2 (bh.2 ⟨e,he,rfl⟩)
 have m2:∀e∈ag ov,rv e∈ag rg:=fun e he=>by
  obtain⟨f,hf,rfl⟩:=bh.1 (hp.mem_iff.1 he);exact hf
 refine pW.eq hs (fun e he=>?_) (amx m1 m2) (fun l a b=>amz hp hr a b) h h'
 have:=hs _ (m2 e he);obtain⟨h1,h2,h3,h4⟩:=this;exact⟨h3,h4,h1,h2⟩
theorem amA{rg:List (List Pt)}{r:Int}{T:List UInt8}(h:pW rg r T):T≠[]:=by
 obtain⟨Ps,l,_,_,_,_,rfl⟩:=h;unfold xJ Kh FY;split
 ·unfold emT;simp
 ·unfold Kg;simp
theorem abj:∀(r:List Pt)(a z:Pt),((a::r).zip (r++[z])).reverse.map rv=(z::r.reverse).zip (r.reverse++[a])
 |[],a,z=>rfl
 |b::r,a,z=>by
  have ih:=abj r b z;rw[lY,Gk,zI,iH,ih,zI];have e:∀(A:List Pt)(B:List Pt)(x y:Pt),A.length=B.length->(A++[x]).zip (B++[y])=A.zip B++[(x,y)]:=fun A B x y hl=>by
   rw[List.zip_append hl];rfl
  have e1:z::(r.reverse++[b])=(z::r.reverse)++[b]:=rfl;have e2:r.reverse++[b]++[a]=(r.reverse++[b])++[a]:=rfl;rw[e1,e2,e _ _ _ _ (by simp)]
  rfl
theorem amB(g:List Pt):(closing g.reverse).Perm ((closing g).map rv):=by
 cases g with
 |nil=>exact xX _
 |cons a r=>
  have h:=abj r a a;have e0:(closing (a::r)).map rv=(((a::r).zip (r++[a])).reverse.map rv).reverse:=by rw[<-List.map_reverse,List.reverse_reverse];rfl
  rw[e0,h];refine List.Perm.trans ?_ (List.reverse_perm _).symm;rw[zI];cases hr:r.reverse with
  |nil=>exact xX _
  |cons b q=>
   show((b::(q++[a])).zip ((q++[a])++[b])).Perm ((a::b::q).zip ((b::q)++[a]));have e1:(b::(q++[a])).zip ((q++[a])++[b])=(b::q).zip (q++[a])++[(a,b)]:=by
    have:b::(q++[a])=(b::q)++[a]:=rfl;rw[this,List.zip_append (by simp)]
    rfl
   have e2:(a::b::q).zip ((b::q)++[a])=(a,b)::(b::q).zip (q++[a]):=rfl;rw[e1,e2];exact List.perm_append_singleton _ _
theorem amC(g:List Pt):(fN g.reverse).Perm ((fN g).map rv):=by
 unfold fN;refine((amB g).filter _).trans ?_;rw[List.filter_map];refine List.Perm.of_eq ?_;congr 1;refine acP fun e _=>?_
 simp only[Function.comp_apply];exact decide_eq_decide.2 ⟨fun k w=>k w.symm,fun k w=>k w.symm⟩
theorem amD{a b:List (List Pt)}(h:a.Perm b):(ag a).Perm (ag b):=by
 unfold ag;exact h.flatMap_right _
theorem amE(rg:List (List Pt)):(ag (rg.map List.reverse)).Perm ((ag rg).map rv):=by
 induction rg with
 |nil=>exact xX _
 |cons g rg ih=>
  have e1:ag ((g::rg).map List.reverse)=fN g.reverse++ag (rg.map List.reverse):=by simp[ag]
  have e2:ag (g::rg)=fN g++ag rg:=by simp[ag]
  rw[e1,e2,iH];exact(amC g).append ih
def turn(ps:List (List (List Pt))):List (List (List Pt)):=(ps.map fun p=>(p.map List.reverse).reverse).reverse
theorem amF(ps:List (List (List Pt))):(ag (turn ps).flatten).Perm ((ag ps.flatten).map rv):=by
 refine List.Perm.trans (amD ?_) (amE ps.flatten);unfold turn;induction ps with
 |nil=>exact xX _
 |cons p ps ih=>
  have e:(p::ps).flatten=p++ps.flatten:=by simp
  rw[gU,zI,RQ,e,iH];refine Gv.trans (acX ?_ ih);simp only[Cy,List.flatten_nil,rM];exact List.reverse_perm _
end Gb
end Go.Proofs.YtkjhhooecopolaaGreatDoor
namespace Go.Proofs.YtkjhhooecopolaaGreatDoor
namespace Pl
theorem KC(u:Nat):∀c∈Lib.decDigits u,aR c=true:=by
 induction u using Nat.strongRecOn with
 |_ u ih=>
  intro c hc;rw[Lib.decDigits] at hc;have one:∀d,d<10->aR (UInt8.ofNat (48+d))=true:=fun d hd=>by
   unfold aR;have:(UInt8.ofNat (48+d)).toNat=48+d:=by rw[UInt8.toNat_ofNat'];exact acA (by omega)
   rw[this];simp;omega
  by_cases h:u<10
  ·rw[wj h] at hc;rw[bU.1 hc];exact one u h
  ·rw[CF h] at hc;rcases cu.1 hc with q|q
   ·exact ih (u/10) (by omega) c q
   ·rw[bU.1 q];exact one _ (by omega)
theorem abk(u:Nat):dI (Lib.decDigits u)=u:=by
 induction u using Nat.strongRecOn with
 |_ u ih=>
  rw[Lib.decDigits];have one:∀d,d<10->(UInt8.ofNat (48+d)).toNat-48=d:=fun d hd=>by
   rw[UInt8.toNat_ofNat',acA (by omega)];omega
  by_cases h:u<10
  ·rw[wj h];show 10*0+((UInt8.ofNat (48+u)).toNat-48)=u;rw[one u h];omega
  ·rw[CF h,H7,ih (u/10) (by omega),one _ (by omega)]
   omega
theorem QL(u:Nat):Lib.decDigits u≠[]:=by
 rw[Lib.decDigits];by_cases h:u<10
 ·rw[wj h];simp
 ·rw[CF h];simp
theorem QM:∀(k u:Nat),u<10 ^ (k+1)->(Lib.decDigits u).length<=k+1
 |0,u,h=>by
  rw[Lib.decDigits,wj (by simpa using h)];simp
 |k+1,u,h=>by
  rw[Lib.decDigits];by_cases h1:u<10
  ·rw[wj h1];simp
  ·rw[CF h1,aX];have:=QM k (u/10) (by rw[acy] at h;omega)
   simp;omega
theorem KD{p:UInt8->Bool}:∀{A rest:List UInt8},(∀c∈A,p c=true)->(∀c r,rest=c::r->p c=false)->(A++rest).takeWhile p=A
 |[],rest,_,h=>by
  cases rest with
  |nil=>rfl
  |cons c r=>rw[vT,xP,h c r rfl];rfl
 |a::A,rest,hA,h=>by
  rw[lY,xP,hA a (by simp)]
  simp only[fZ];rw[KD (fun c hc=>hA c (bz _ hc)) h]
def Sep(rest:List UInt8):Prop:=∀c r,rest=c::r->c=32\/c=40\/c=41\/c=44\/c=47
theorem Sep.dig{rest:List UInt8}(h:Sep rest):∀c r,rest=c::r->aR c=false:=fun c r e=>by
 rcases h c r e with q|q|q|q|q<;>rw[q]<;>decide
theorem Sep.let{rest:List UInt8}(h:Sep rest):∀c r,rest=c::r->isLet c=false:=fun c r e=>by
 rcases h c r e with q|q|q|q|q<;>rw[q]<;>decide
theorem Sep.of(c:UInt8)(r:List UInt8)(h:c=32\/c=40\/c=41\/c=44\/c=47):Sep (c::r):=fun d r' e=>by
 injection e with e1 _;rw[<-e1];exact h
theorem Sep.nil:Sep []:=fun c r e=>by cases e
theorem amG{n:Int}(h1: -1000000000<n)(h2:n<1000000000){rest:List UInt8}(hs:Sep rest)(i:Nat):cz (Lib.itoa n++rest) i=⟨110,Lib.itoa n,n,i⟩:=by
 unfold Lib.itoa;by_cases hn:n<0
 ·rw[ah hn];have e:=KD (rest:=rest) (KC n.natAbs) hs.dig;have hl:=QM 8 n.natAbs (by omega)
  have hv:=abk n.natAbs;have hne:=QL n.natAbs;show cz ((45:UInt8)::(Lib.decDigits n.natAbs++rest)) i=_;unfold cz;simp only;rw[e];rw[aa (by decide),aa (by decide),ah (by decide),aa (by intro k;rcases k with k|k;exact hne k;omega),hv]
  congr 1;omega
 ·rw[aa hn];have e:=KD (rest:=rest) (KC n.toNat) hs.dig;have hl:=QM 8 n.toNat (by omega)
  have hv:=abk n.toNat;have hd:=KC n.toNat;have hne:=QL n.toNat;cases hD:Lib.decDigits n.toNat with
  |nil=>exact absurd hD hne
  |cons c r=>
   rw[hD] at e hl hv hd;have hc:=eW (hd c (by simp))
   rw[lY] at e⊢;unfold cz;simp only;rw[e];have hnl:¬isLet c=true:=fun k=>by have:=eW k;omega
   rw[aa (by omega),aa hnl,aa (by omega),aa (by intro k;rcases k with k|k;exact absurd k (by simp);omega),hv]
   congr 1;omega
theorem amH{q:List UInt8}(hq:q≠[])(hl:∀c∈q,isLet c=true){rest:List UInt8}(hs:Sep rest)(i:Nat):cz (q++rest) i=⟨119,q,0,i⟩:=by
 have e:=KD (rest:=rest) hl hs.let;cases q with
 |nil=>exact absurd rfl hq
 |cons c r=>
  have hc:=hl c (by simp)
  have hc':=eW hc;rw[lY] at e⊢;unfold cz;simp only;rw[e,aa (by omega),ah hc]
theorem amI{c:UInt8}(h:c=40\/c=41\/c=44\/c=47)(rest:List UInt8)(i:Nat):cz (c::rest) i=⟨c.toNat,[c],0,i⟩:=by
 unfold cz;simp only;rw[ah];rcases h with q|q|q|q<;>rw[q]<;>decide
def Lex(s:List UInt8):Nat->List Tk->Nat->Prop
 |i,[],j=>i=j
 |i,t::c,j=>tk s i=t/\¬(t.k=101\/t.k=120)/\Lex s (t.pl+t.raw.length) c j
theorem Lex.append{s:List UInt8}:∀{c:List Tk}{i j k:Nat}{d:List Tk},Lex s i c j->Lex s j d k->Lex s i (c++d) k
 |[],_,_,_,_,h,h2=>by
  have:_=_:=h;subst this;exact h2
 |_::_,_,_,_,_,h,h2=>⟨h.1,h.2.1,Lex.append h.2.2 h2⟩
theorem Lex.ib{s:List UInt8}:∀{c:List Tk}{i j:Nat}(f:Nat),Lex s i c j->ib s (f+c.length) i=c++ib s f j
 |[],_,_,_,h=>by
  have:_=_:=h;subst this;rfl
 |t::c,i,j,f,h=>by
  have ih:=Lex.ib f h.2.2;show Pl.ib s ((f+c.length)+1) i=_;have hk:¬((tk s i).k=101\/(tk s i).k=120):=by rw[h.1];exact h.2.1
  rw[Pl.ib,aa hk,h.1,ih];rfl
theorem Lex.len{s:List UInt8}:∀{c:List Tk}{i j:Nat},i<=s.length->Lex s i c j->i+c.length<=j/\j<=s.length
 |[],_,_,hi,h=>by
  have:_=_:=h;subst this;exact⟨ai _,hi⟩
 |t::c,i,j,hi,h=>by
  have hn:=C6 s i hi;rw[h.1] at hn;have ih:=Lex.len hn.1 h.2.2;have:=h.2.1;rw[bW];omega
theorem KE{s A rest:List UInt8}{i:Nat}(h:s.drop i=A++rest):s.drop (i+A.length)=rest:=by
 rw[<-x7,h,acJ]
theorem KF{s l:List UInt8}{i:Nat}(h:s.drop i=l)(hb:∀c r,l=c::r->dH c=false):tk s i=cz l i:=by
 have e:bl s i=i:=by
  unfold bl;rw[h];cases l with
  |nil=>rfl
  |cons c r=>rw[xP,hb c r rfl];rfl
 unfold tk;rw[e,h]
theorem amJ{s l:List UInt8}{i:Nat}(h:s.drop i=32::l)(hb:∀c r,l=c::r->dH c=false):tk s i=tk s (i+1):=by
 have h1:s.drop (i+1)=l:=by rw[<-x7,h];rfl
 have e:bl s i=i+1:=by
  unfold bl;rw[h,xP];have:dH 32=true:=by decide
  rw[this];simp only[fZ,bW];cases l with
  |nil=>rfl
  |cons c r=>rw[xP,hb c r rfl];rfl
 have e2:bl s (i+1)=i+1:=by
  unfold bl;rw[h1];cases l with
  |nil=>rfl
  |cons c r=>rw[xP,hb c r rfl];rfl
 unfold tk;rw[e,e2]
theorem Lex.blank{s l:List UInt8}{i j:Nat}{c:List Tk}(h:s.drop i=32::l)(hb:∀c r,l=c::r->dH c=false)(hc:c≠[])(hl:Lex s (i+1) c j):Lex s i c j:=by
 cases c with
 |nil=>exact absurd rfl hc
 |cons t c=>exact⟨(amJ h hb).trans hl.1,hl.2⟩
structure Rd{α:Type}(ok:α->Prop)(txt:α->List UInt8)(item:List Tk->Bool×List Tk×α):Prop where
 rd:∀x,ok x->∀s i rest,s.drop i=txt x++rest->Sep rest->∃c,Lex s i c (i+(txt x).length)/\(∀l,item (c++l)=(true,l,x))/\(∀t∈c,t.k=110->gJ t.n)/\(∃t r,c=t::r/\t.k≠41)
 hd:∀x,ok x->∃a r,txt x=a::r/\dH a=false
theorem QN(n:Int):∃a r,Lib.itoa n=a::r/\dH a=false:=by
 unfold Lib.itoa;by_cases h:n<0
 ·rw[ah h];exact⟨45,_,rfl,by decide⟩
 ·rw[aa h];cases hD:Lib.decDigits n.toNat with
  |nil=>exact absurd hD (QL _)
  |cons c r=>
   have:=eW (KC n.toNat c (by rw[hD];simp))
   exact⟨c,r,rfl,lZ (by omega)⟩
theorem F6{A rest:List UInt8}(h:∃a r,A=a::r/\dH a=false):∀c r,A++rest=c::r->dH c=false:=fun c r e=>by
 obtain⟨a,r',rfl,hb⟩:=h;rw[lY] at e;injection e with e1 _;rw[<-e1];exact hb
theorem abm{s rest:List UInt8}{i:Nat}{n:Int}(h1: -1000000000<n)(h2:n<1000000000)(h:s.drop i=Lib.itoa n++rest)(hs:Sep rest):Lex s i [⟨110,Lib.itoa n,n,i⟩] (i+(Lib.itoa n).length):=by
 refine⟨?_,by show ¬((110:Nat)=101\/(110:Nat)=120);decide,rfl⟩
 rw[KF h (F6 (QN n)),amG h1 h2 hs]
theorem Ck{s rest:List UInt8}{i:Nat}{c:UInt8}(hc:c=40\/c=41\/c=44\/c=47)(h:s.drop i=c::rest):Lex s i [⟨c.toNat,[c],0,i⟩] (i+1):=by
 refine⟨?_,?_,rfl⟩
 ·rw[KF h (fun d r e=>by
   injection e with e1 _;rw[<-e1];rcases hc with q|q|q|q<;>rw[q]<;>decide),amI hc]
 ·show ¬(c.toNat=101\/c.toNat=120);rcases hc with q|q|q|q<;>rw[q]<;>decide
theorem QO{s rest q:List UInt8}{i:Nat}(hq:q≠[])(hl:∀c∈q,isLet c=true)(h:s.drop i=q++rest)(hs:Sep rest):Lex s i [⟨119,q,0,i⟩] (i+q.length):=by
 refine⟨?_,by show ¬((119:Nat)=101\/(119:Nat)=120);decide,rfl⟩
 rw[KF h (F6 ?_),amH hq hl hs];cases q with
 |nil=>exact absurd rfl hq
 |cons a r=>
  have:=eW (hl a (by simp))
  exact⟨a,r,rfl,lZ (by omega)⟩
theorem amK:Rd (fun p=>gJ p.1/\gJ p.2) fh cK where
 rd:=by
  rintro⟨x,y⟩ ⟨h1,h2⟩ s i rest h hs;have e:fh (x,y)++rest=Lib.itoa x++(32::(Lib.itoa y++rest)):=by simp[fh]
  rw[e] at h;unfold gJ at h1 h2;have l1:=abm (n:=x) (by simp only at h1;omega) (by simp only at h1;omega) h (Sep.of 32 _ (ae rfl))
  have d2:=KE h;have d3:s.drop (i+(Lib.itoa x).length+1)=Lib.itoa y++rest:=by rw[<-x7,d2];rfl
  have l2:=abm (n:=y) (by simp only at h2;omega) (by simp only at h2;omega) d3 hs
  have QP:=Lex.blank d2 (F6 (QN y)) (by simp) l2
  refine⟨[⟨110,Lib.itoa x,x,i⟩]++[⟨110,Lib.itoa y,y,i+(Lib.itoa x).length+1⟩],?_,fun l=>rfl,fun t ht _=>?_,_,_,rfl,by show(110:Nat)≠41;decide⟩
  ·have:=l1.append QP;have el:(fh (x,y)).length=(Lib.itoa x).length+1+(Lib.itoa y).length:=by simp[fh];omega
   rw[el,show i+((Lib.itoa x).length+1+(Lib.itoa y).length)=i+(Lib.itoa x).length+1+(Lib.itoa y).length by omega]
   exact this
  ·simp only[CD,aV,acF,uo] at ht;rcases ht with q|q<;>rw[q]
   ·exact h1
   ·exact h2
 hd:=fun p _=>by
  obtain⟨a,r,e,hb⟩:=QN p.1;exact⟨a,r++([32]++Lib.itoa p.2),by unfold fh;rw[e];rfl,hb⟩
theorem KG{α:Type}{ok:α->Prop}{txt:α->List UInt8}{item:List Tk->Bool×List Tk×α}(hR:Rd ok txt item):∀(xs:List α),xs≠[]->(∀x∈xs,ok x)->∀s i rest,s.drop i=aN txt xs++(41::rest)->
  ∃c,Lex s i c (i+(aN txt xs).length+1)/\(∀f l acc,xs.length<=f->bV item f (c++l) acc=(true,l,acc++xs))/\(∀t∈c,t.k=110->gJ t.n)/\xs.length<=c.length/\(∃t r,c=t::r/\t.k≠41)
 |[],h,_,_,_,_,_=>absurd rfl h
 |[x],_,hok,s,i,rest,h=>by
  obtain⟨c,l1,p1,n1,t,r,ec,hk⟩:=hR.rd x (hok x (by simp)) s i (41::rest) h (Sep.of 41 _ (by simp))
  have d2:=KE h;have l2:=Ck (c:=41) (by simp) d2
  refine⟨c++[_],l1.append l2,fun f l acc hf=>?_,fun u hu kA=>?_,by simp,t,r++[_],by rw[ec];rfl,hk⟩
  ·obtain⟨f,rfl⟩:∃g,f=g+1:=⟨f-1,by simp at hf;omega⟩
   have p:=p1 (⟨(41:UInt8).toNat,[41],0,i+(aN txt [x]).length⟩::l);unfold bV;rw[fI,CD,p];simp only[fZ];have m1:(mk 44 (⟨(41:UInt8).toNat,[41],0,i+(aN txt [x]).length⟩::l)).1=false:=rfl;have m2:mk 41 (⟨(41:UInt8).toNat,[41],0,i+(aN txt [x]).length⟩::l)=(true,l):=rfl;rw[m1,m2];simp
  ·rcases cu.1 hu with q|q
   ·exact n1 u q kA
   ·rw[bU.1 q] at kA;exact absurd kA (by show(41:UInt8).toNat≠110;decide)
 |x::y::xs,_,hok,s,i,rest,h=>by
  have e0:aN txt (x::y::xs)++(41::rest)=txt x++(44::(32::(aN txt (y::xs)++(41::rest)))):=by simp[aN]
  rw[e0] at h;obtain⟨c,l1,p1,n1,t,r,ec,hk⟩:=hR.rd x (hok x (by simp)) s i _ h (Sep.of 44 _ (by simp))
  have d2:=KE h;have l2:=Ck (c:=44) (by simp) d2
  have d3:s.drop (i+(txt x).length+1)=32::(aN txt (y::xs)++(41::rest)):=by rw[<-x7,d2];rfl
  have d4:s.drop (i+(txt x).length+1+1)=aN txt (y::xs)++(41::rest):=by rw[<-x7,d3];rfl
  obtain⟨c',l3,p3,n3,m3,t',r',ec',hk'⟩:=KG hR (y::xs) (by simp) (fun z hz=>hok z (bz _ hz)) s _ rest d4
  have hb:∀b q,aN txt (y::xs)++(41::rest)=b::q->dH b=false:=by
   obtain⟨a,r2,ea,hb⟩:=hR.hd y (hok y (by simp))
   refine F6 ?_;cases xs with
   |nil=>exact⟨a,r2,ea,hb⟩
   |cons z xs=>exact⟨a,r2++([44,32]++aN txt (z::xs)),by show txt y++([44,32]++aN txt (z::xs))=_;rw[ea];rfl,hb⟩
  have l3':=Lex.blank d3 hb (by rw[ec'];simp) l3
  have el:(aN txt (x::y::xs)).length=(txt x).length+2+(aN txt (y::xs)).length:=by simp[aN];omega
  refine⟨c++([⟨(44:UInt8).toNat,[44],0,i+(txt x).length⟩]++c'),?_,fun f l acc hf=>?_,fun u hu kA=>?_,?_,t,r++([⟨(44:UInt8).toNat,[44],0,i+(txt x).length⟩]++c'),by rw[ec];rfl,hk⟩
  ·rw[el,show i+((txt x).length+2+(aN txt (y::xs)).length)+1=i+(txt x).length+1+1+(aN txt (y::xs)).length+1 by omega]
   exact l1.append (l2.append l3')
  ·obtain⟨f,rfl⟩:∃g,f=g+1:=⟨f-1,by simp at hf;omega⟩
   unfold bV;have e:c++([⟨(44:UInt8).toNat,[44],0,i+(txt x).length⟩]++c')++l=c++(⟨(44:UInt8).toNat,[44],0,i+(txt x).length⟩::(c'++l)):=by simp
   rw[e,p1];simp only[fZ];have m1:mk 44 (⟨(44:UInt8).toNat,[44],0,i+(txt x).length⟩::(c'++l))=(true,c'++l):=rfl;rw[m1];simp only[fZ];rw[p3 f l (acc++[x]) (by simp at hf⊢;omega)]
   simp
  ·rcases cu.1 hu with q|q
   ·exact n1 u q kA
   ·rcases cu.1 q with q|q
    ·rw[bU.1 q] at kA;exact absurd kA (by show(44:UInt8).toNat≠110;decide)
    ·exact n3 u q kA
  ·have hcl:0<c.length:=by rw[ec];simp
   simp only[aX,bW,fJ] at m3⊢;omega
theorem amN:Rd (fun g=>mD g) cD dB where
 rd:=by
  intro g hok s i rest h _hs;have e:cD g++rest=40::(aN fh g++(41::rest)):=by simp[cD]
  rw[e] at h;have l1:=Ck (c:=40) (by simp) h
  have d2:s.drop (i+1)=aN fh g++(41::rest):=by rw[<-x7,h];rfl
  have el:(cD g).length=1+(aN fh g).length+1:=by simp[cD];omega
  by_cases hg:g=[]
  ·subst hg;have l2:=Ck (c:=41) (by simp) d2
   refine⟨[⟨(40:UInt8).toNat,[40],0,i⟩]++[⟨(41:UInt8).toNat,[41],0,i+1⟩],?_,fun l=>rfl,fun t ht hk=>?_,_,_,rfl,by show(40:UInt8).toNat≠41;decide⟩
   ·rw[el,show i+(1+(aN fh []).length+1)=i+1+1 by simp[aN]]
    exact l1.append l2
   ·simp only[CD,aV,acF,uo] at ht;rcases ht with q|q<;>rw[q] at hk
    ·exact absurd hk (by show ¬(40:UInt8).toNat=110;decide)
    ·exact absurd hk (by show ¬(41:UInt8).toNat=110;decide)
  ·obtain⟨c,l2,p2,n2,m2,t,r,ec,hk⟩:=KG amK g hg (fun p hp=>hok p hp) s (i+1) rest d2
   refine⟨[⟨(40:UInt8).toNat,[40],0,i⟩]++c,?_,fun l=>?_,fun u hu kA=>?_,_,_,rfl,by show(40:UInt8).toNat≠41;decide⟩
   ·rw[el,show i+(1+(aN fh g).length+1)=i+1+(aN fh g).length+1 by omega]
    exact l1.append l2
   ·show dB (⟨(40:UInt8).toNat,[40],0,i⟩::(c++l))=_;unfold dB;have m1:mk 40 (⟨(40:UInt8).toNat,[40],0,i⟩::(c++l))=(true,c++l):=rfl;rw[m1];simp only[fZ];have m3:(mk 41 (c++l)).1=false:=by
     rw[ec];show(if t.k=41 then(true,r++l) else(false,t::(r++l))).1=false
     rw[aa hk]
    rw[m3];simp only[iZ,jG];rw[p2 _ l [] (by simp only[bW,aX];omega)]
    simp
   ·rcases cu.1 hu with q|q
    ·rw[bU.1 q] at kA;exact absurd kA (by show(40:UInt8).toNat≠110;decide)
    ·exact n2 u q kA
 hd:=fun g _=>⟨40,aN fh g++[41],rfl,by decide⟩
theorem KH:(∀c∈EMPTY,isLet c=true)/\(∀c∈bB,isLet c=true)/\(∀c∈cP,isLet c=true):=by decide
theorem abn:Rd (fun gs=>∀g∈gs,mD g) bQ bA where
 rd:=by
  intro gs hok s i rest h hs;by_cases hg:gs.length=0
  ·have e:bQ gs=EMPTY:=ah hg;have e0:gs=[]:=gF.1 hg;rw[e] at h⊢;have l1:=QO (by decide) KH.1 h hs
   refine⟨[⟨119,EMPTY,0,i⟩],l1,fun l=>?_,fun t ht hk=>?_,_,_,rfl,by show(119:Nat)≠41;decide⟩
   ·rw[e0];rfl
   ·rw[bU.1 ht] at hk;exact absurd hk (by show ¬(119:Nat)=110;decide)
  ·have e:bQ gs=[40]++(aN cD gs++[41]):=aa hg;have h':=h;rw[e] at h';have e1:[40]++(aN cD gs++[41])++rest=(40:UInt8)::(aN cD gs++(41::rest)):=by simp
   rw[e1] at h';have l1:=Ck (c:=40) (by simp) h'
   have d2:s.drop (i+1)=aN cD gs++(41::rest):=by rw[<-x7,h'];rfl
   have el:(bQ gs).length=1+(aN cD gs).length+1:=by rw[e];simp;omega
   obtain⟨c,l2,p2,n2,m2,t,r,ec,hk⟩:=KG amN gs (fun k=>hg (by rw[k];rfl)) (fun g hg=>hok g hg) s (i+1) rest d2
   refine⟨[⟨(40:UInt8).toNat,[40],0,i⟩]++c,?_,fun l=>?_,fun u hu kA=>?_,_,_,rfl,by show(40:UInt8).toNat≠41;decide⟩
   ·rw[el,show i+(1+(aN cD gs).length+1)=i+1+(aN cD gs).length+1 by omega]
    exact l1.append l2
   ·show bA (⟨(40:UInt8).toNat,[40],0,i⟩::(c++l))=_;unfold bA;have m0:(wd EMPTY (⟨(40:UInt8).toNat,[40],0,i⟩::(c++l))).1=false:=rfl;have m1:mk 40 (⟨(40:UInt8).toNat,[40],0,i⟩::(c++l))=(true,c++l):=rfl;rw[m0,m1];simp only[iZ,jG,fZ];rw[p2 _ l [] (by simp only[bW,aX];omega)]
    simp
   ·rcases cu.1 hu with q|q
    ·rw[bU.1 q] at kA;exact absurd kA (by show(40:UInt8).toNat≠110;decide)
    ·exact n2 u q kA
 hd:=fun gs _=>by
  by_cases hg:gs.length=0
  ·exact⟨69,[77,80,84,89],ah hg,by decide⟩
  ·exact⟨40,aN cD gs++[41],aa hg,by decide⟩
theorem amO:Rd (fun ps=>∀gs∈ps,∀g∈gs,mD g) sV eY where
 rd:=by
  intro gs hok s i rest h hs;by_cases hg:gs.length=0
  ·have e:sV gs=EMPTY:=ah hg;have e0:gs=[]:=gF.1 hg;rw[e] at h⊢;have l1:=QO (by decide) KH.1 h hs
   refine⟨[⟨119,EMPTY,0,i⟩],l1,fun l=>?_,fun t ht hk=>?_,_,_,rfl,by show(119:Nat)≠41;decide⟩
   ·rw[e0];rfl
   ·rw[bU.1 ht] at hk;exact absurd hk (by show ¬(119:Nat)=110;decide)
  ·have e:sV gs=[40]++(aN bQ gs++[41]):=aa hg;have h':=h;rw[e] at h';have e1:[40]++(aN bQ gs++[41])++rest=(40:UInt8)::(aN bQ gs++(41::rest)):=by simp
   rw[e1] at h';have l1:=Ck (c:=40) (by simp) h'
   have d2:s.drop (i+1)=aN bQ gs++(41::rest):=by rw[<-x7,h'];rfl
   have el:(sV gs).length=1+(aN bQ gs).length+1:=by rw[e];simp;omega
   obtain⟨c,l2,p2,n2,m2,t,r,ec,hk⟩:=KG abn gs (fun k=>hg (by rw[k];rfl)) (fun g hg=>hok g hg) s (i+1) rest d2
   refine⟨[⟨(40:UInt8).toNat,[40],0,i⟩]++c,?_,fun l=>?_,fun u hu kA=>?_,_,_,rfl,by show(40:UInt8).toNat≠41;decide⟩
   ·rw[el,show i+(1+(aN bQ gs).length+1)=i+1+(aN bQ gs).length+1 by omega]
    exact l1.append l2
   ·show eY (⟨(40:UInt8).toNat,[40],0,i⟩::(c++l))=_;unfold eY;have m0:(wd EMPTY (⟨(40:UInt8).toNat,[40],0,i⟩::(c++l))).1=false:=rfl;have m1:mk 40 (⟨(40:UInt8).toNat,[40],0,i⟩::(c++l))=(true,c++l):=rfl;rw[m0,m1];simp only[iZ,jG,fZ];rw[p2 _ l [] (by simp only[bW,aX];omega)]
    simp
   ·rcases cu.1 hu with q|q
    ·rw[bU.1 q] at kA;exact absurd kA (by show(40:UInt8).toNat≠110;decide)
    ·exact n2 u q kA
 hd:=fun gs _=>by
  by_cases hg:gs.length=0
  ·exact⟨69,[77,80,84,89],ah hg,by decide⟩
  ·exact⟨40,aN bQ gs++[41],aa hg,by decide⟩
theorem abo{α:Type}{ok:α->Prop}{txt:α->List UInt8}{item:List Tk->Bool×List Tk×α}(hR:Rd ok txt item){q:List UInt8}(hq:q≠[])(hl:∀c∈q,isLet c=true){x:α}(hx:ok x):∃c e,all (q++([32]++txt x))=⟨119,q,0,0⟩::(c++[e])/\(∀l,item (c++l)=(true,l,x))/\(∀t∈c,t.k=110->gJ t.n)/\e.k=101:=by
 have h0:(q++([32]++txt x)).drop 0=q++(32::(txt x++[])):=by simp
 have l1:=QO hq hl h0 (Sep.of 32 _ (by simp))
 have d1:=KE h0;rw[jn] at l1 d1;have d2:(q++([32]++txt x)).drop (q.length+1)=txt x++[]:=by rw[<-x7,d1];rfl
 obtain⟨c,l2,p2,n2,t,r,ec,_⟩:=hR.rd x hx _ _ [] d2 Sep.nil;have QP:=Lex.blank d1 (F6 (hR.hd x hx)) (by rw[ec];simp) l2
 have L:=l1.append QP;have hlen:=(L.len (iI _)).1;have hend:(q++([32]++txt x)).length=q.length+1+(txt x).length:=by simp;omega
 have htk:tk (q++([32]++txt x)) (q.length+1+(txt x).length)=⟨101,[],0,q.length+1+(txt x).length⟩:=by
  rw[KF (l:=[]) (by rw[List.drop_eq_nil_iff];omega) (fun c r e=>by cases e)]
  rfl
 simp only[aX,bW,fJ] at hlen;have ht:=L.ib ((q++([32]++txt x)).length+1-([(⟨119,q,0,0⟩:Tk)]++c).length);have hf:(q++([32]++txt x)).length+1-([(⟨119,q,0,0⟩:Tk)]++c).length+([(⟨119,q,0,0⟩:Tk)]++c).length=(q++([32]++txt x)).length+1:=by
  simp only[aX,bW,fJ] at hend⊢;omega
 rw[hf] at ht;refine⟨c,⟨101,[],0,q.length+1+(txt x).length⟩,?_,p2,n2,rfl⟩;show Pl.ib _ _ 0=_;rw[ht];have:∀f,ib (q++([32]++txt x)) f (q.length+1+(txt x).length)=[⟨101,[],0,q.length+1+(txt x).length⟩]:=fun f=>by
  cases f with
  |zero=>rw[Pl.ib,htk]
  |succ f=>rw[Pl.ib,htk,ah (ae rfl)]
 rw[this];rfl
theorem amP{c:List Tk}(h:∀t∈c,t.k=110->gJ t.n):c.find? outT=none:=by
 rw[acz];intro t ht;unfold outT kR;by_cases hk:t.k=110
 ·have:=h t ht hk;unfold gJ at this;simp[hk,this]
 ·simp[hk]
theorem abp{T:List UInt8}(hT:T.length<=400){t e:Tk}{c:List Tk}{ps:List (List (List (Int×Int)))}(ha:all T=t::(c++[e]))(hp:aM (all T)=(true,[e],ps))(he:e.k=101)(ht:t.k≠110)(hn:∀t∈c,t.k=110->gJ t.n):err T=(0,0):=by
 unfold err;rw[aa (by omega),hp]
 rw[ah ⟨rfl,he⟩];have htk:took T=t::c:=by
  unfold took;rw[hp,ha];simp
 rw[htk,amP];intro u hu hk;rcases aV.1 hu with q|q
 ·rw[q] at hk;exact absurd hk ht
 ·exact hn u q hk
theorem amQ{gs:List (List (Int×Int))}(hok:∀g∈gs,mD g)(hl:(bB++([32]++bQ gs)).length<=400):
  err (bB++([32]++bQ gs))=(0,0)/\(aM (all (bB++([32]++bQ gs)))).2.2=[gs]/\(wd bB (all (bB++([32]++bQ gs)))).1=true:=by
 obtain⟨c,e,h1,h2,h3,h4⟩:=abo abn (q:=bB) (by decide) KH.2.1 hok
 have hw:wd bB (all (bB++([32]++bQ gs)))=(true,c++[e]):=by rw[h1];rfl
 have hp:aM (all (bB++([32]++bQ gs)))=(true,[e],[gs]):=by
  unfold aM;rw[hw];simp only[fZ];rw[h2]
 exact⟨abp hl h1 hp h4 (by decide) h3,by rw[hp],by rw[hw]⟩
theorem amR{ps:List (List (List (Int×Int)))}(hok:∀gs∈ps,∀g∈gs,mD g)(hl:(kU ps).length<=400):
  err (kU ps)=(0,0)/\(aM (all (kU ps))).2.2=ps/\(wd bB (all (kU ps))).1=false:=by
 rw[U7] at hl⊢;obtain⟨c,e,h1,h2,h3,h4⟩:=abo amO (q:=cP) (by decide) KH.2.2 hok
 have hw0:(wd bB (all (cP++([32]++sV ps)))).1=false:=by rw[h1];rfl
 have hw:wd cP (all (cP++([32]++sV ps)))=(true,c++[e]):=by rw[h1];rfl
 have hp:aM (all (cP++([32]++sV ps)))=(true,[e],ps):=by
  unfold aM;rw[hw0,hw];simp only[iZ,jG,fZ];rw[h2]
 exact⟨abp hl h1 hp h4 (by decide) h3,by rw[hp],hw0⟩
end Pl
end Go.Proofs.YtkjhhooecopolaaGreatDoor
namespace Go.Proofs.YtkjhhooecopolaaGreatDoor
open Go.RowKit
theorem abq(n:Int)(w:World)(h1: -9223372036854775808<=n)(h2:n<=9223372036854775807):
  Calls Tryz.prog 19 #[.int .i64 n] w fun e w'=>e=.returned (.int .i64 n)/\w'=w:=by
 have hw:IntKind.i64.wrap n=n:=by rw[IntKind.wrap_i64];omega
 go_enter Tryz.func19,Tryz.ntmps19
 go_wp2_with fail
 go_ret
 exact⟨rfl,rfl⟩
theorem abr(s:List UInt8):(Pl.err s).1<=3:=by
 unfold Pl.err;split
 ·decide
 ·split
  ·split
   ·exact ai 3
   ·exact iI 3
  ·show 2<=3;decide
def ug(s:List UInt8)(r:Int)(T:List UInt8)(E P:Nat):Prop:=
 ((Pl.err s).1≠0/\T=[]/\E=(Pl.err s).1/\P=(Pl.err s).2)\/((Pl.err s).1=0/\Ge.rule r=false/\T=[]/\E=4/\P=0)\/((Pl.err s).1=0/\Ge.rule r=true/\pW (Pl.rings s) r T/\E=0/\P=0)
theorem amS(s:ByteArray)(r:Int)(w:World)(hm:s.size<=maxLen)(hG:Gl w):
  Calls Tryz.prog 39 #[.string s,.int .u8 r] w fun e w'=>(∃T E P,e=.returned (.tuple #[.string (ba T),.int .i64 (E:Nat),.int .i64 (P:Nat)])/\ug s.data.toList r T E P)/\Below w.heap.size w w':=by
 by_cases h0:(Pl.err s.data.toList).1=0
 ·cases hr:Ge.rule r
  ·refine(ams s r w hm hG h0 hr).mono ?_;rintro e w' ⟨rfl,hb⟩;exact⟨⟨[],4,0,rfl,af (ae ⟨h0,hr,rfl,rfl,rfl⟩)⟩,hb⟩
  ·refine(amt s r w hm hG h0 hr).mono ?_;rintro e w' ⟨⟨T,rfl,hT⟩,hb⟩;exact⟨⟨T,0,0,rfl,af (af ⟨h0,hr,hT,rfl,rfl⟩)⟩,hb⟩
 ·refine(amr s r w hm hG h0).mono ?_;rintro e w' ⟨rfl,hb⟩;exact⟨⟨[],_,_,rfl,ae ⟨h0,rfl,rfl,rfl⟩⟩,hb⟩
theorem ug.small{s:List UInt8}{r:Int}{T:List UInt8}{E P:Nat}(h:ug s r T E P):E<=4:=by
 have:=abr s;rcases h with⟨_,_,h,_⟩|⟨_,_,_,h,_⟩|⟨_,_,_,h,_⟩<;>omega
theorem abt(s:ByteArray)(r:Int)(w:World)(hm:s.size<=maxLen)(hG:Gl w):
  Calls Tryz.prog 18 #[.string s,.int .u8 r] w fun e w'=>(∃T E P,e=.returned (.agg #[.string (ba T),.int .i64 (E:Nat),.int .i64 (P:Nat)])/\ug s.data.toList r T E P)/\Below w.heap.size w w':=by
 have HP:Hid (∀w1,Gl w1->Calls Tryz.prog 39 #[.string s,.int .u8 r] w1 fun e w'=>(∃T E P,e=.returned (.tuple #[.string (ba T),.int .i64 (E:Nat),.int .i64 (P:Nat)])/\Hid (ug s.data.toList r T E P))/\Below w1.heap.size w1 w'):=fun w1 g1=>amS s r w1 hm g1
 have HE:Hid (∀T E P,ug s.data.toList r T E P->E<=4):=fun T E P h=>h.small
 go_enter Tryz.func18,Tryz.ntmps18
 go_wp2_with fail
 have hb0:Below w.heap.size w (w.alloc (.cells #[.string ⟨#[]⟩,.int .i64 0,.int .i64 0] 38)):=(Below.refl _ _).alloc (ai _) _;refine(HP.out _ (hG.alloc _)).mono ?_;rintro e w1 ⟨⟨T,E,Pp,rfl,HF⟩,hb1⟩;have he:=HE.out T E Pp HF.out;have HN:Hid (∀w1,Calls Tryz.prog 19 #[.int .i64 (E:Int)] w1 fun e w'=>e=.returned (.int .i64 (E:Int))/\w'=w1):=fun w1=>abq E w1 (by omega) (by omega)
 have dP:w1.heap[w.heap.size]?=some (.cells #[.string ⟨#[]⟩,.int .i64 0,.int .i64 0] 38):=(hb1.block _ (by simp)).trans (heap_alloc_new _ _)
 have c0:w1.cell? ⟨w.heap.size,0,none⟩=some (.string ⟨#[]⟩):=cell_of dP 0;have c1:w1.cell? ⟨w.heap.size,1,none⟩=some (.int .i64 0):=cell_of dP 1;have c2:w1.cell? ⟨w.heap.size,2,none⟩=some (.int .i64 0):=cell_of dP 2;have z0:w1.frozen? ⟨w.heap.size,0,none⟩=false:=aH dP 0;have z1:w1.frozen? ⟨w.heap.size,1,none⟩=false:=aH dP 1;have z2:w1.frozen? ⟨w.heap.size,2,none⟩=false:=aH dP 2;have ak:=hb0.trans (hb1.mono hb0.size);clear dP he HE HP;generalize Fu:ba T=TT
 go_wp2_with fail
 refine(HN.out _).mono ?_;rintro e w2 ⟨rfl,rfl⟩
 go_wp2_with fail
 refine bodyPost_ret (v:=.agg #[.string TT,.int .i64 E,.int .i64 Pp]) (by simp[results,Tryz.results18,go_sem,c0,c1,c2]) rfl ⟨⟨T,E,Pp,by rw[Fu],HF.out⟩,?_⟩
 exact((ak.setCell (ai _) _).setCell (ai _) _).setCell (ai _) _
end Go.Proofs.YtkjhhooecopolaaGreatDoor
