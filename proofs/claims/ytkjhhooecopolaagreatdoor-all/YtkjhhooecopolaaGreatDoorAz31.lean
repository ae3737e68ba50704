import Derived.Test.YtkjhhooecopolaaGreatDoorAz30
set_option maxRecDepth 100000
set_option maxHeartbeats 4000000
namespace Go.Proofs.YtkjhhooecopolaaGreatDoor
open Value renaming complex->A
open Bool renaming true->aP,false->aQ
section
open Go.RowKit
open N
structure RG(Xs:V PB)(r:V Nat):Prop where
 ne:r≠[]
 lt:∀a∈r,a<Xs.length
 len:r.length<=Xs.length
def lk(Xs:V PB)(p:Pg):Prop:=RG Xs p.1/\∀r∈p.2,RG Xs r
theorem afT(P:V Nat->Bool)(Rs:V (V Nat))(h:Rs.any P=aP):o8 P Rs∈Rs:=by have d:∀(Rs:V (V Nat)) a,(Rs.foldl (λa r=>if P r then r else a) a=a/\Rs.any P=aQ)\/Rs.foldl (λa r=>if P r then r else a) a∈Rs:=(by intro Rs;induction Rs with|nil=>intro a;exact j ⟨rfl,rfl⟩|cons r Rs e=>intro a;rw[ls];cases f:P r;simp only[jD,kf];rcases e a with⟨b,c⟩|b;exact j ⟨b,by simp[f,c]⟩;exact F (bW _ b);simp only[jk];rcases e r with⟨b,_⟩|b;rw[b];exact F E;exact F (bW _ b));rcases d Rs [] with⟨_,c⟩|b;rw[c] at h;cases h;exact b
section
variable{rg:V (V O)}{l:V N.Nd}{r:Int}{Xs:V PB}
theorem SX.pn(h:SX rg l r Xs)(n:BD Xs):∀k,k<=Xs.length->∀p∈(bT Xs k).ps,lk Xs p
 |0,_,p,b=>by simp[bT] at b
 |k+1,F,p,b=>by have m:=h.pn n k U;have R:=h.pv n k U;rw[ue] at b;generalize bT Xs k=c at*;cases s:c.bC k;obtain⟨z,v⟩:=h.walk n R U s;have Q:=h.DM v;have:iB Xs.length c.bC (dK Xs c.bC k)+(dK Xs c.bC k).length<=iB Xs.length c.bC []+0:=r7 (mk:=c.bC) (λj i=>(h.next n i).1) Xs.length [] k U;have:=qw Xs.length c.bC [];have q:∀ring∈cF Xs (dK Xs c.bC k),RG Xs ring:=λring d=>(by obtain⟨B,P,y⟩:=Q ring d;exact⟨B,λa S=>v.lt a<|P a S,U⟩);unfold lM at b;rw[s] at b;simp only[jD,kf] at b;split at b;rename_i e;simp only[dm,cI] at b;rcases b with b|rfl;exact m p b;exact⟨q _<|afT _ _ e,λr d=>q r (et.1 d).1⟩;simp only at b;rcases Ax b with t|rfl;exact m p t;by_cases x:c.ow (gI Xs (xi Xs k).f)<c.ps.length;have g:c.ps.getD (c.ow<|gI Xs (xi Xs k).f) ([],[])∈c.ps:=(by rw[fi,be x];exact eo x);obtain⟨o,w⟩:=m _ g;refine⟨o,λr d=>?_⟩;rcases dm.1 d with d|d;exact w r d;exact q r d;rw[ajx U] at b;exact m _ b;unfold lM at b;rw[s] at b;exact m p b
end
def eh(Rs:V (V Nat)):Nat:=(Rs.map List.length).sum
def ia(ps:V Pg):Nat:=(ps.map λp=>p.1.length+eh p.2).sum
theorem SV(a b:V (V Nat)):eh (a++b)=eh a+eh b:=by simp[eh]
theorem af0(a b:V Pg):ia (a++b)=ia a+ia b:=by simp[ia]
theorem af1(Xs:V PB)(A:V Nat):(eH Xs A).length<=A.length:=by rw[II];exact Iz Xs A
theorem af2(Xs:V PB)(a:V Nat):∀k,k<=a.length->(cV Xs<|a.take k).1.length+eh (cV Xs<|a.take k).2<=k:=by intro k;induction k with|zero=>intro _;simp[cV,eh]|succ k d=>intro f;have d:=d U;have b:a.take (k+1)=a.take k++[a[k]]:=(by rw[fg,be U];rfl);rw[b,rV];generalize cV Xs (a.take k)=p at*;unfold iO;split;simp only;rw[SV];have c:=af1 Xs<|(p.1++[a[k]]).drop (iX Xs (p.1++[a[k]]) a[k]).toNat;have e:eh [eH Xs ((p.1++[a[k]]).drop (iX Xs (p.1++[a[k]]) a[k]).toNat)]=(eH Xs<|(p.1++[a[k]]).drop (iX Xs (p.1++[a[k]]) a[k]).toNat).length:=(by simp[eh]);rw[e];rw[jQ] at c;rw[fU];simp only[bG,E9] at c⊢;omega;simp only[bG,E9];omega
theorem af3(Xs:V PB)(A:V Nat):eh (cF Xs A)<=A.length:=by have:=af2 Xs A A.length<|aX _;rw[dV] at this;unfold cF;omega
theorem IT(P:V Nat->Bool):∀(Rs:V (V Nat)) a,(Rs.foldl (λa r=>if P r then r else a) a).length+eh (Rs.filter λr=> !P r)<=a.length+eh Rs
 |[],a=>by simp[eh]
 |r::Rs,a=>by rw[ls];have e:eh (r::Rs)=r.length+eh Rs:=(by simp[eh]);cases b:P r;have:=IT P Rs a;rw[wZ<|by simp[b]];have c:eh (r::Rs.filter λr=> !P r)=r.length+eh (Rs.filter λr=> !P r):=(by simp[eh]);rw[c,e];simp only[jD,kf];omega;have:=IT P Rs r;rw[sN<|by simp[b]];rw[e];simp only[jk];omega
theorem SY:∀(ps:V Pg)(q:Nat)(Rs:V (V Nat)),ia (ps.set q ((ps.getD q ([],[])).1,(ps.getD q ([],[])).2++Rs))<=ia ps+eh Rs
 |[],_,_=>E
 |p::ps,0,Rs=>by simp only[di,List.getD_cons_zero,ia,gU,uy,SV];omega
 |p::ps,q+1,Rs=>by have:=SY ps q Rs;simp only[cQ,VY];simp only[ia,gU,uy] at this⊢;omega
section
variable{rg:V (V O)}{l:V Nd}{r:Int}{Xs:V PB}
theorem SX.eh(h:SX rg l r Xs)(c:BD Xs):∀k,k<=Xs.length->ia (bT Xs k).ps+iB Xs.length (bT Xs k).bC []<=Xs.length
 |0,_=>by have:=qw Xs.length (bT Xs 0).bC [];have e:ia (bT Xs 0).ps=0:=(by simp[bT,ia]);omega
 |k+1,p=>by have n:=h.eh c k U;have:=h.pv c k U;rw[ue];generalize bT Xs k=a at*;cases d:a.bC k;have:iB Xs.length a.bC (dK Xs a.bC k)+(dK Xs a.bC k).length<=iB Xs.length a.bC []+0:=r7 (mk:=a.bC) (λj m=>(h.next c m).1) Xs.length [] k U;have b:iB Xs.length (λj=>a.bC j||(dK Xs a.bC k).contains j) []=iB Xs.length a.bC (dK Xs a.bC k):=(by unfold iB;simp);have:=af3 Xs<|dK Xs a.bC k;unfold lM;rw[d];simp only[jD,kf];split;simp only;rw[b,af0];have g:=IT (dl Xs) (cF Xs<|dK Xs a.bC k) [];have e:ia [(o8 (dl Xs)<|cF Xs<|dK Xs a.bC k,(cF Xs<|dK Xs a.bC k).filter λr=> !dl Xs r)]=(o8 (dl Xs)<|cF Xs<|dK Xs a.bC k).length+YtkjhhooecopolaaGreatDoor.eh ((cF Xs<|dK Xs a.bC k).filter λr=> !dl Xs r):=(by simp[ia]);rw[e];unfold o8;simp only[fw] at g;omega;simp only;rw[b];have:=SY a.ps (a.ow<|gI Xs (xi Xs k).f)<|cF Xs<|dK Xs a.bC k;omega;unfold lM;rw[d];exact n
end
end
end Go.Proofs.YtkjhhooecopolaaGreatDoor
