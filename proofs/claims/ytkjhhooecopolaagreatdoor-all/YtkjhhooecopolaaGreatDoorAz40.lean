import Derived.Test.YtkjhhooecopolaaGreatDoorAz39
set_option maxRecDepth 100000
set_option maxHeartbeats 4000000
namespace Go.Proofs.YtkjhhooecopolaaGreatDoor.W
open N
end Go.Proofs.YtkjhhooecopolaaGreatDoor.W
namespace Go.Proofs.YtkjhhooecopolaaGreatDoor.Gb
open N W
def nM(M:Int)(n:N3):N3:=(M*n.1,M*n.2.1,n.2.2)
end Go.Proofs.YtkjhhooecopolaaGreatDoor.Gb
namespace Go.Proofs.YtkjhhooecopolaaGreatDoor
open Value renaming agg->u,slice->D
open Bool renaming true->aP
namespace Gb
open N W
def UU(es:V w)(n:N3):Int:=total (λu v=>up (rl n u)<|rl n v) es
theorem agV(u:O):up u u=0:=by unfold up;rw[X U,X U]
theorem TH(n:N3):∀rg:V (V O),dB (wt n) (λ_=>aP) (o rg)=0
 |[]=>rfl
 |g::rg=>by have e:o (g::rg)=gF g++o rg:=nn;have s:∀es:V w,dB (wt n) (λ_=>aP) es=total (λb v=>wt n (b,v)) es:=λes=>(wj λe _=>rfl).symm;have q:∀b v:O,wt n (b,v)-0=N.q (rl n v)-N.q (rl n b):=λb v=>(by unfold wt N.q;simp only;(repeat' split);all_goals omega);have z:total (λb v=>wt n (b,v)) (gF g)=0:=(by unfold gF;rw[Bk _ λa=>by have:=q a a;omega];cases g with|nil=>rfl|cons a t=>have:=Bj (λb v=>wt n (b,v)) (λ_ _=>0) (λp=>N.q<|rl n p) t a a λp _=>q p.1 p.2;have z:∀l:V w,total (λ_ _=>0) l=0:=λl=>(by induction l with|nil=>rfl|cons e l c=>rw[aa8,c];rfl);rw[z] at this;show total _ ((a::t).zip<|t++[a])=0;omega);have:=TH n rg;rw[s] at this⊢;rw[e,uR,z,this];rfl
theorem agW(rg:V (V O))(n:N3):UU (o rg) n=dB (wt n) (λe=>decide (kY n e<=0)) (o rg):=by have b:total (λa v=> -up (rl n a) (rl n v)) (o rg)=dB (wt n) (λe=>decide (0<kY n e)) (o rg):=(by refine wj λe _=>?_;unfold up wt kY;have:=da (rl n e.1)<|rl n e.2;(repeat' split);(all_goals simp_all);all_goals omega);have c:=t7 (wt n) (p:=λ_=>aP) (q:=λe=>decide (kY n e<=0)) (r:=λe=>decide (0<kY n e)) (l:=o rg) λe _=>(by by_cases q:0<kY n e;rw[ff q,jd U];rfl;rw[jd q,ff U];rfl);rw[TH,<-b] at c;have d:=yK (λ_ _=>0) (λa v=>up (rl n a)<|rl n v)<|o rg;have z:∀l:V w,total (λ_ _=>0) l=0:=λl=>(by induction l with|nil=>rfl|cons e l f=>rw[aa8,f];rfl);rw[z] at d;have:total (λa v=> -up (rl n a) (rl n v)) (o rg)=total (λa v=>0-up (rl n a) (rl n v)) (o rg):=kI λe _=>U;unfold UU;omega
theorem zN{M D:Int}(c:0<M)(l:0<D){a:Nd}(b:OK M a):OK (M*D) a/\PM (M*D) a=(D*(PM M a).1,D*(PM M a).2):=by obtain⟨k,n,e,d⟩:=od c b.p b.d;have h:OK (M*D) a:=⟨b.p,Int.dvd_mul_of_dvd_left b.d⟩;refine⟨h,?_⟩;obtain⟨j,m,f,g⟩:=od (bD c l) h.p h.d;have:j=k*D:=(by rw[<-e,sC] at f;exact nu (by have:=b.p;omega) f);rw[d,g,this];exact dj aw aw
theorem agY(u v:O): -1<=up u v/\up u v<=1:=by unfold up;(repeat' split);all_goals omega
end Gb
section
open Go.RowKit
theorem aiG{F:V Gb.NP}(l:Jg F)(a:F≠[])(e:(Gb.pe F).length<=20000000000):(∀p∈F.map oq,p≠[]/\p.length<=20000000402/\∀g∈p,g.length<=20000000402/\∀q∈g,cS q)/\(F.map oq).length<=20000000402:=by have k:=Tw a;have j:(Pl.df Pl.pX<|F.map pq).length<=20000000000:=(by rw[k] at e;simp at e;omega);constructor;intro o b;obtain⟨p,h,rfl⟩:=bA.1 b;have t:=Jf (f:=Pl.pX) (bA.2 ⟨p,h,rfl⟩:pq p∈F.map pq);have v:(Pl.pX<|pq p).length=(Pl.df Pl.rX<|pq p).length+2:=(by simp[Pl.pX]);have B:=Ec (f:=Pl.rX) (λx=>by simp[Pl.rX])<|pq p;have P:(oq p).length=(pq p).length:=(by simp[oq,pq]);refine⟨by simp[oq],U,λg m=>?_⟩;obtain⟨c,d,rfl⟩:=bA.1 m;have Q:(Pl.rX<|cq c).length<=(Pl.df Pl.rX<|pq p).length:=Jf<|bA.2 ⟨c,d,rfl⟩;have R:(Pl.rX<|cq c).length=(Pl.df Pl.fC<|cq c).length+2:=(by simp[Pl.rX]);have S:=Ec (f:=Pl.fC) (λx=>by simp[Pl.fC];omega)<|cq c;have i:c.length<=(cq c).length:=(by unfold cq;simp);refine⟨by rw[eK];omega,λq s=>?_⟩;obtain⟨n,r,rfl⟩:=bA.1 s;exact TE<|(l.q p h c d).2 n r;have:=Ec (f:=Pl.pX) (λx=>by simp[Pl.pX])<|F.map pq;rw[eK] at this⊢;omega
end
end Go.Proofs.YtkjhhooecopolaaGreatDoor
